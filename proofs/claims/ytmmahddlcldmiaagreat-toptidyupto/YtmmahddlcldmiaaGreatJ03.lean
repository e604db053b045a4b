/- What is proved here: the document's Check, for every term that lies in memory, with at most 2097152 terms in it, returns what the plain function chk says; where that is 0, each term in it is right by itself. -/
import Derived.Test.YtmmahddlcldmiaaGreatJ02
namespace Go.Proofs.YtmmahddlcldmiaaGreat
open Go.RowKit
theorem xd(e:Int):(l:List Nd)->(a:List Int)->(m:Int)->l.length=a.length->C0 e l a m=0->∀y∈l,cE y=true
 | [],_,_,_,_=>by simp
 | x::l,[],_,h,_=>by simp at h
 | x::l,d::a,m,h,h0=>by
  simp only[C0]at h0;by_cases b:cE x=true
  ·rw[if_pos b]at h0;intro y c;rcases cm.1 c with rfl|c
   ·exact b
   ·exact xd e l a _ (by simpa using h) h0 y c
  ·rw[if_neg b]at h0;cases h0
theorem re(n:Nat)(x:Tm n)(a:bz n x=0):∀y∈ay n x,cE y=true:=
 xd _ _ _ _ (ke n x 0).symm a
theorem oU{n:Nat}{x:Tm (n+1)}{y:Tm n}(b:y∈x.2.2){a:Nd}(c:a∈ay n y):a∈ay (n+1) x:=by
 simp only[ay,cm,jI];exact ai ⟨y,b,c⟩
theorem kv(x:Nd)(a:cE x=true):x.1.1=1\/x.1.1=2\/x.1.1=3\/x.1.1=4\/x.1.1=5\/(x.1.1=6/\x.1.2.1=0):=by
 by_cases b:x.1.1=1
 ·exact ah b
 by_cases c:x.1.1=2
 ·exact ai (ah c)
 by_cases d:x.1.1=3
 ·exact ai (ai (ah d))
 by_cases e:x.1.1=4
 ·exact ai (ai (ai (ah e)))
 by_cases f:x.1.1=5
 ·exact ai (ai (ai (ai (ah f))))
 by_cases g:x.1.1=6
 ·refine ai (ai (ai (ai (ai ⟨g,?_⟩))));unfold cE at a;rw[if_neg b,if_neg c,if_neg d,if_neg e,if_neg f,if_pos g]at a;simp only[aG,cv]at a;exact a.1.2
 ·unfold cE at a;rw[if_neg b,if_neg c,if_neg d,if_neg e,if_neg f,if_neg g]at a;cases a
end Go.Proofs.YtmmahddlcldmiaaGreat
