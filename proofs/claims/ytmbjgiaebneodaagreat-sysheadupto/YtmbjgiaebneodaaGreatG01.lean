/- What is proved here: plain facts and contracts that the claimed theorem stands on. No condition but those that each names. -/
import Derived.Test.YtmbjgiaebneodaaGreatRows
import Derived.WalkKit
import Derived.WalkSpells
import Derived.WalkLawsBesides
import Derived.Deep.AppendLies
namespace Go.Proofs.YtmbjgiaebneodaaGreat
open Go.RowKit
theorem gY {k:IntKind} {a b:Int} (h:a=b):Ending.returned (.int k a)=.returned (.int k b):=by rw[h]
theorem hide {p:Prop} (h:p):Hid p:=h
theorem bz {w w1:World} (h:Below w.drew.heap.size w.drew w1):Below w.heap.size w w1:=⟨h.os,h.tape,h.output,h.size,h.block⟩
theorem af {B:Nat} {w w1:World} (h:Below B w w1):∀b o,b<B->w1.cell? ⟨b,o,none⟩=w.cell? ⟨b,o,none⟩:=fun b o hb=>h.cell (p:=⟨b,o,none⟩) hb
def Tm:Nat->Type
 | 0=>Unit
 | n+1=>(Int×Int×ByteArray)×(Option Addr×Nat)×List (Tm n)
def val:(n:Nat)->Tm n->Value
 | 0,_=> .nilIface
 | _+1,x=> .agg #[.int .i64 x.1.1,.int .i64 x.1.2.1,.string x.1.2.2,.slice x.2.1.1 x.2.2.length x.2.1.2]
def Held (w:World) (b o:Nat):(n:Nat)->Tm n->Prop
 | 0,_=>False
 | _+1,x=>w.cell? ⟨b,o,none⟩=some (.int .i64 x.1.1)/\w.cell? ⟨b,o+1,none⟩=some (.int .i64 x.1.2.1)/\
    w.cell? ⟨b,o+2,none⟩=some (.string x.1.2.2)/\w.cell? ⟨b,o+3,none⟩=some (.slice x.2.1.1 x.2.2.length x.2.1.2)
def bR (k:Int):Prop:=-9223372036854775808<=k/\k<=9223372036854775807
def In (B:Nat) (w:World):(n:Nat)->Tm n->Prop
 | 0,_=>False
 | n+1,x=>(bR x.1.1/\bR x.1.2.1/\x.1.2.2.size<=maxLen/\x.2.2.length<=x.2.1.2/\x.2.1.2<=maxLen)/\
    (x.2.2=[]∨∃b o,x.2.1.1=some ⟨b,o,none⟩/\b<B/\∀(i:Nat) (y:Tm n),x.2.2[i]? =some y->Held w b (o+i*4) n y/\In B w n y)
theorem Held.below {B:Nat} {w w':World} (h:Below B w w') {b o:Nat} (hb:b<B):{n:Nat}->{x:Tm n}->Held w b o n x->Held w' b o n x
 | 0,_,k=>k
 | _+1,_,k=>by
  obtain⟨k0,k1,k2,k3⟩:=k
  exact⟨(h.cell (p:=⟨b,o,none⟩) hb).trans k0,(h.cell (p:=⟨b,o+1,none⟩) hb).trans k1,(h.cell (p:=⟨b,o+2,none⟩) hb).trans k2,(h.cell (p:=⟨b,o+3,none⟩) hb).trans k3⟩
theorem In.below {B:Nat} {w w':World} (h:Below B w w'):{n:Nat}->{x:Tm n}->In B w n x->In B w' n x
 | 0,_,k=>k
 | _+1,_,k=>by
  obtain⟨k0,k1⟩:=k
  refine⟨k0, ?_⟩
  rcases k1 with k1|⟨b,o,e,hb,k1⟩
  ·exact Or.inl k1
  ·exact Or.inr ⟨b,o,e,hb,fun i y hy=>⟨(k1 i y hy).1.below h hb,(k1 i y hy).2.below h⟩⟩
theorem In.mono {B C:Nat} (hBC:B<=C) {w:World}:{n:Nat}->{x:Tm n}->In B w n x->In C w n x
 | 0,_,k=>k
 | _+1,_,k=>by
  obtain⟨k0,k1⟩:=k
  refine⟨k0, ?_⟩
  rcases k1 with k1|⟨b,o,e,hb,k1⟩
  ·exact Or.inl k1
  ·exact Or.inr ⟨b,o,e,by omega,fun i y hy=>⟨(k1 i y hy).1,(k1 i y hy).2.mono hBC⟩⟩
def mI (x y:Int):Int:=if x<y then -1 else if y<x then 1 else 0
def wX (x y:ByteArray):Int:=if Op.bytesLess x.toList y.toList then -1 else if !Op.bytesLess x.toList y.toList && !(x.toList==y.toList)then 1 else 0
def nS {α β:Type} (f:α->β->Int):List α->List β->Int
 | a::p,b::q=>if f a b=0 then nS f p q else f a b
 | _,_=>0
def yh:(n:Nat)->Tm n->(m:Nat)->Tm m->Int
 | n+1,x,m+1,y=>
  if x.1.1=y.1.1 then
   if x.1.1=1∨x.1.1=3∨x.1.1=5 then mI x.1.2.1 y.1.2.1
   else if x.1.1=2 then wX x.1.2.2 y.1.2.2
   else if x.1.1=4 then
    if x.2.2.length=y.2.2.length then nS (fun a b=>yh n a m b) x.2.2 y.2.2 else mI x.2.2.length y.2.2.length
   else 0
  else mI x.1.1 y.1.1
 | _,_,_,_=>0
theorem Ih {α β:Type} (f:α->β->Int) (p:List α) (q:List β) (k:Nat) (a:α) (b:β) (ha:p[k]? =some a) (hb:q[k]? =some b):
    nS f (p.drop k) (q.drop k)=if f a b=0 then nS f (p.drop (k+1)) (q.drop (k+1))else f a b:=by
 obtain⟨h1,e1⟩:=List.getElem?_eq_some_iff.1 ha
 obtain⟨h2,e2⟩:=List.getElem?_eq_some_iff.1 hb
 rw[List.drop_eq_getElem_cons h1,List.drop_eq_getElem_cons h2,e1,e2]
 rfl
abbrev Nd:Type:=(Int×Int×ByteArray)×(Option Addr×Nat×Nat)
def yn (x:Nd):List Value:=[.int .i64 x.1.1,.int .i64 x.1.2.1,.string x.1.2.2,.slice x.2.1 x.2.2.1 x.2.2.2]
def bJ (l:List Nd):List Value:=l.flatMap yn
def nodes:(n:Nat)->Tm n->List Nd
 | 0,_=> [((0,0,.empty),(none,0,0))]
 | n+1,x=>(x.1,(x.2.1.1,x.2.2.length,x.2.1.2))::x.2.2.flatMap fun y=>nodes n y
def mF:(n:Nat)->Tm n->Int->List Int
 | 0,_,d=> [d]
 | n+1,x,d=>d::x.2.2.flatMap fun y=>mF n y (d+1)
theorem Cu {α β γ:Type} (f:α->List β) (g:α->List γ) (h:∀a,(f a).length=(g a).length) (l:List α):(l.flatMap f).length=(l.flatMap g).length:=by
 induction l with
 | nil=>rfl
 | cons a l ih=>simp only[List.flatMap_cons,List.length_append,ih,h]
theorem jc:(n:Nat)->(x:Tm n)->(d:Int)->(mF n x d).length=(nodes n x).length
 | 0,_,_=>rfl
 | n+1,x,d=>by
  simp only[mF,nodes,List.length_cons]
  rw[Cu (fun y=>mF n y (d+1)) (fun y=>nodes n y) (fun y=>jc n y (d+1))]
theorem lV (l:List Nd):(bJ l).length=l.length*4:=by
 induction l with
 | nil=>rfl
 | cons a l ih=>simp only[bJ,List.flatMap_cons,List.length_append,List.length_cons]at ih ⊢;rw[ih];simp[yn];omega
theorem vL (l r:List Nd):bJ (l++r)=bJ l++bJ r:=by simp[bJ]
theorem sJ (l:List Nd):∀u∈bJ l,u.oneCell'=true:=by
 intro u hu
 simp only[bJ,List.mem_flatMap,yn]at hu
 obtain⟨a,_,hu⟩:=hu
 simp at hu
 rcases hu with rfl|rfl|rfl|rfl<;>rfl
theorem GI {α β:Type} (f:α->List β) (l:List α) (k:Nat) (x:α) (h:l[k]? =some x):(l.take (k+1)).flatMap f=(l.take k).flatMap f++f x:=by
 obtain⟨h1,e1⟩:=List.getElem?_eq_some_iff.1 h
 rw[List.take_succ_eq_append_getElem h1,e1]
 simp
theorem FR {α β:Type} (f:α->List β) (l:List α) (k:Nat):((l.take k).flatMap f).length<=(l.flatMap f).length:=by
 conv=>rhs;rw[<-List.take_append_drop k l]
 rw[List.flatMap_append,List.length_append]
 omega
theorem own_below {w w':World} {base e size:Nat} {v:Value} {n:Nat} {xs:List Value} (h:w.ownsRow base e size v n xs) (hb:Below w.heap.size w w'):w'.ownsRow base e size v n xs:=
 h.kept (row:=none) ⟨hb.os,hb.tape,hb.output,hb.size,fun k hk _=>hb.block k hk⟩ (by cases v.ownBlock<;>simp)
theorem qg {w:World} {base base' e size:Nat} {v:Value} {n:Nat} {xs:List Value} (h:w.ownsRow base e size v n xs) (hb:base'<=base):w.ownsRow base' e size v n xs:=by
 obtain⟨h1,h2⟩:=h
 refine⟨h1, ?_⟩
 rcases h2 with h2|⟨g,cap,cur,hv,hg,hh,r⟩
 ·exact Or.inl h2
 ·exact Or.inr ⟨g,cap,cur,hv,by omega,hh,r⟩
theorem gu:(Tryz.prog.info? 30).map (fun i=>(i.zero,i.size,i.bytes))=some (some (.agg #[.int .i64 0,.int .i64 0,.string .empty,.slice none 0 0]),4,56):=by kernel_rfl
theorem Gb:(Tryz.prog.info? 3).map (fun i=>(i.zero,i.size,i.bytes))=some (some (.int .i64 0),1,8):=by kernel_rfl
def kr (n lo hi:Int):Bool:=decide (lo<=n) && decide (n<=hi)
def nN (c:UInt8):Bool:=decide (97<=(c.toNat:Int)) && decide ((c.toNat:Int)<=122)
def eu (l:List UInt8):Bool:=l.all nN
def bq (s:ByteArray):Bool:=kr s.size 1 8 && eu s.data.toList
theorem aT {a b:Bool} (h:a=b):Ending.returned (.bool a)=.returned (.bool b):=by rw[h]
theorem IY (s:ByteArray) (k:Nat) (h:k<s.size):s.data.toList.take (k+1)=s.data.toList.take k++ [s[k]]:=by
 rw[List.take_succ_eq_append_getElem (by simpa using h)];rfl
theorem Ea (s:ByteArray) (k:Nat) (h:k<s.size):eu (s.data.toList.take (k+1))=(eu (s.data.toList.take k) && nN s[k]):=by
 rw[IY s k h];simp[eu]
def sz:(n:Nat)->Tm n->Int
 | 0,_=>0
 | n+1,x=>if x.1.1=4 then 1+(x.2.2.map fun y=>1+sz n y).sum else 0
theorem dI:(n:Nat)->(x:Tm n)->0<=sz n x/\sz n x+1<=2*((nodes n x).length:Int)
 | 0,_=>⟨by simp[sz],by simp[sz,nodes]⟩
 | n+1,x=>by
  have key:∀l:List (Tm n),0<=(l.map fun y=>1+sz n y).sum/\(l.map fun y=>1+sz n y).sum<=2*((l.flatMap fun y=>nodes n y).length:Int):=by
   intro l
   induction l with
   | nil=>exact⟨by simp,by simp⟩
   | cons y l ih=>
    have hy:=dI n y
    simp only[List.map_cons,List.sum_cons,List.flatMap_cons,List.length_append]
    exact⟨by omega,by omega⟩
  have k:=key x.2.2
  simp only[sz,nodes,List.length_cons]
  by_cases h4:x.1.1=4
  ·rw[if_pos h4]
   exact⟨by omega,by omega⟩
  ·rw[if_neg h4]
   exact⟨by omega,by omega⟩
def good (x:Nd):Bool:=
 (if x.1.1=1 then x.1.2.2.toList.isEmpty && kr x.1.2.1 (-1099511627776) 1099511627776
  else if x.1.1=2 then bq x.1.2.2 && x.1.2.1==0
  else if x.1.1=3 then x.1.2.2.toList.isEmpty && kr x.1.2.1 1 99
  else if x.1.1=4 then x.1.2.2.toList.isEmpty && x.1.2.1==0 && decide ((x.2.2.1:Int)<=8)
  else if x.1.1=5 then x.1.2.2.toList.isEmpty && kr x.1.2.1 0 3
  else if x.1.1=6 then x.1.2.2.toList.isEmpty && x.1.2.1==0
  else false) && (x.1.1==4 || !decide ((0:Int)<(x.2.2.1:Int)))
def deeper (x:Nd) (d m:Int):Int:=if x.1.1=4/\m<d+1 then d+1 else m
def AZ (z:Int):List Nd->List Int->Int->Int
 | x::l,d::ds,m=>if good x then AZ z l ds (deeper x d m)else 5
 | _,_,m=>if 12<m∨200<z then 2 else 0
def aQ (n:Nat) (x:Tm n):Int:=AZ (sz n x) (nodes n x) (mF n x 0) 0
theorem gT (l:List Nd) (k:Nat) (x:Nd) (hx:l[k]? =some x) (j:Nat) (hj:j<4):(bJ l)[k*4+j]? =(yn x)[j]? :=by
 induction l generalizing k with
 | nil=>simp at hx
 | cons y l ih=>
  have e:bJ (y::l)=yn y++bJ l:=rfl
  have hy:(yn y).length=4:=rfl
  rw[e]
  cases k with
  | zero=>
   have:y=x:=by simpa using hx
   subst this
   rw[List.getElem?_append_left (by omega)]
   simp
  | succ k=>
   rw[List.getElem?_append_right (by omega),hy,<-ih k (by simpa using hx)]
   congr 1
   omega
theorem dX (g j:Nat):(⟨g,0,none⟩:Addr).add j=⟨g,j,none⟩:=by unfold Addr.add;split<;>simp_all
theorem JR {w:World} {base g c L:Nat} {l:List Nd} (h:w.ownsRow base 30 4 (.slice (some ⟨g,0,none⟩) L c) L (bJ l)) (k:Nat) (x:Nd) (hx:l[k]? =some x):
    w.cell? ⟨g,k*4,none⟩=some (.int .i64 x.1.1)/\w.cell? ⟨g,k*4+1,none⟩=some (.int .i64 x.1.2.1)/\w.cell? ⟨g,k*4+2,none⟩=some (.string x.1.2.2)/\w.cell? ⟨g,k*4+3,none⟩=some (.slice x.2.1 x.2.2.1 x.2.2.2):=by
 have hc:=h.cells (g:=g) rfl
 refine⟨?_, ?_, ?_, ?_⟩
 ·have:=hc (k*4+0) (.int .i64 x.1.1) (by rw[gT l k x hx 0 (by omega)];rfl)
  rw[dX]at this;exact this
 ·have:=hc (k*4+1) (.int .i64 x.1.2.1) (by rw[gT l k x hx 1 (by omega)];rfl)
  rw[dX]at this;exact this
 ·have:=hc (k*4+2) (.string x.1.2.2) (by rw[gT l k x hx 2 (by omega)];rfl)
  rw[dX]at this;exact this
 ·have:=hc (k*4+3) (.slice x.2.1 x.2.2.1 x.2.2.2) (by rw[gT l k x hx 3 (by omega)];rfl)
  rw[dX]at this;exact this
end Go.Proofs.YtmbjgiaebneodaaGreat
