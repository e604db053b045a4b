/- What is proved here: the document's Check, for every term that lies in memory, with at most 2097152 terms in it, returns what the plain function chk says; where that is 0, each term in it is right by itself. -/
import Derived.Test.YtmmahddlcldmiaaGreatJ02
namespace Go.Proofs.YtmmahddlcldmiaaGreat
open Go.RowKit
theorem xi(e:Int):(l:List Nd)->(a:List Int)->(m:Int)->l.length=a.length->C7 e l a m=0->∀y∈l,cJ y=true
 | [],_,_,_,_=>by simp
 | x::l,[],_,h,_=>by simp at h
 | x::l,d::a,m,h,h0=>by
  simp only[C7]at h0;by_cases b:cJ x=true
  ·rw[if_pos b]at h0;intro y c;rcases cv.1 c with rfl|c
   ·exact b
   ·exact xi e l a _ (by simpa using h) h0 y c
  ·rw[if_neg b]at h0;cases h0
theorem rm(n:Nat)(x:Tm n)(a:bE n x=0):∀y∈aC n x,cJ y=true:=
 xi _ _ _ _ (ko n x 0).symm a
theorem oZ{n:Nat}{x:Tm (n+1)}{y:Tm n}(b:y∈x.2.2){a:Nd}(c:a∈aC n y):a∈aC (n+1) x:=by
 simp only[aC,cv,jN];exact aj ⟨y,b,c⟩
theorem kC(x:Nd)(a:cJ x=true):x.1.1=1\/x.1.1=2\/x.1.1=3\/x.1.1=4\/x.1.1=5\/(x.1.1=6/\x.1.2.1=0):=by
 by_cases b:x.1.1=1
 ·exact ai b
 by_cases c:x.1.1=2
 ·exact aj (ai c)
 by_cases d:x.1.1=3
 ·exact aj (aj (ai d))
 by_cases e:x.1.1=4
 ·exact aj (aj (aj (ai e)))
 by_cases f:x.1.1=5
 ·exact aj (aj (aj (aj (ai f))))
 by_cases g:x.1.1=6
 ·refine aj (aj (aj (aj (aj ⟨g,?_⟩))));unfold cJ at a;rw[if_neg b,if_neg c,if_neg d,if_neg e,if_neg f,if_pos g]at a;simp only[aK,cF]at a;exact a.1.2
 ·unfold cJ at a;rw[if_neg b,if_neg c,if_neg d,if_neg e,if_neg f,if_neg g]at a;cases a
end Go.Proofs.YtmmahddlcldmiaaGreat
