/- What is proved here: plain facts and contracts that the claimed theorem stands on. No condition but those that each names. -/
import Derived.Test.YtbknffhilfoakaaGreatRows
import Derived.WalkKit
import Derived.WalkSpells
import Derived.WalkLawsBesides
import Derived.Deep.AppendLies
namespace Go.Proofs.YtbknffhilfoakaaGreat
open Go.RowKit
set_option maxHeartbeats 1000000
theorem bA {k:IntKind} {a b:Int} (h:a=b):Ending.returned (.int k a)=.returned (.int k b):=by rw[h]
theorem hide {p:Prop} (h:p):Hid p:=h
theorem bz {w w1:World} (h:Below w.drew.heap.size w.drew w1):Below w.heap.size w w1:=⟨h.os,h.tape,h.output,h.size,h.block⟩
theorem ag {B:Nat} {w w1:World} (h:Below B w w1):∀b o,b<B->w1.cell? ⟨b,o,none⟩=w.cell? ⟨b,o,none⟩:=fun b o hb=>h.cell (p:=⟨b,o,none⟩) hb
def Tm:Nat->Type
 | 0=>Unit
 | n+1=>(Int×Int×ByteArray)×(Option Addr×Nat)×List (Tm n)
def val:(n:Nat)->Tm n->Value
 | 0,_=> .nilIface
 | _+1,x=> .agg #[.int .i64 x.1.1,.int .i64 x.1.2.1,.string x.1.2.2,.slice x.2.1.1 x.2.2.length x.2.1.2]
def Held (w:World) (b o:Nat):(n:Nat)->Tm n->Prop
 | 0,_=>False
 | _+1,x=>w.cell? ⟨b,o,none⟩=some (.int .i64 x.1.1)/\w.cell? ⟨b,o+1,none⟩=some (.int .i64 x.1.2.1)/\
    w.cell? ⟨b,o+2,none⟩=some (.string x.1.2.2)/\w.cell? ⟨b,o+3,none⟩=some (.slice x.2.1.1 x.2.2.length x.2.1.2)
def dZ (k:Int):Prop:=-9223372036854775808<=k/\k<=9223372036854775807
def In (B:Nat) (w:World):(n:Nat)->Tm n->Prop
 | 0,_=>False
 | n+1,x=>(dZ x.1.1/\dZ x.1.2.1/\x.1.2.2.size<=maxLen/\x.2.2.length<=x.2.1.2/\x.2.1.2<=maxLen)/\
    (x.2.2=[]∨∃b o,x.2.1.1=some ⟨b,o,none⟩/\b<B/\∀(i:Nat) (y:Tm n),x.2.2[i]? =some y->Held w b (o+i*4) n y/\In B w n y)
theorem Held.below {B:Nat} {w w':World} (h:Below B w w') {b o:Nat} (hb:b<B):{n:Nat}->{x:Tm n}->Held w b o n x->Held w' b o n x
 | 0,_,k=>k
 | _+1,_,k=>by
  obtain⟨k0,k1,k2,k3⟩:=k
  exact⟨(h.cell (p:=⟨b,o,none⟩) hb).trans k0,(h.cell (p:=⟨b,o+1,none⟩) hb).trans k1,(h.cell (p:=⟨b,o+2,none⟩) hb).trans k2,(h.cell (p:=⟨b,o+3,none⟩) hb).trans k3⟩
theorem In.below {B:Nat} {w w':World} (h:Below B w w'):{n:Nat}->{x:Tm n}->In B w n x->In B w' n x
 | 0,_,k=>k
 | _+1,_,k=>by
  obtain⟨k0,k1⟩:=k
  refine⟨k0, ?_⟩
  rcases k1 with k1|⟨b,o,e,hb,k1⟩
  ·exact Or.inl k1
  ·exact Or.inr ⟨b,o,e,hb,fun i y hy=>⟨(k1 i y hy).1.below h hb,(k1 i y hy).2.below h⟩⟩
theorem In.mono {B C:Nat} (hBC:B<=C) {w:World}:{n:Nat}->{x:Tm n}->In B w n x->In C w n x
 | 0,_,k=>k
 | _+1,_,k=>by
  obtain⟨k0,k1⟩:=k
  refine⟨k0, ?_⟩
  rcases k1 with k1|⟨b,o,e,hb,k1⟩
  ·exact Or.inl k1
  ·exact Or.inr ⟨b,o,e,by omega,fun i y hy=>⟨(k1 i y hy).1,(k1 i y hy).2.mono hBC⟩⟩
def lg (x y:Int):Int:=if x<y then -1 else if y<x then 1 else 0
def tV (x y:ByteArray):Int:=if Op.bytesLess x.toList y.toList then -1 else if !Op.bytesLess x.toList y.toList && !(x.toList==y.toList)then 1 else 0
def lY {α β:Type} (f:α->β->Int):List α->List β->Int
 | a::p,b::q=>if f a b=0 then lY f p q else f a b
 | _,_=>0
def ve:(n:Nat)->Tm n->(m:Nat)->Tm m->Int
 | n+1,x,m+1,y=>
  if x.1.1=y.1.1 then
   if x.1.1=1∨x.1.1=3∨x.1.1=5 then lg x.1.2.1 y.1.2.1
   else if x.1.1=2 then tV x.1.2.2 y.1.2.2
   else if x.1.1=4 then
    if x.2.2.length=y.2.2.length then lY (fun a b=>ve n a m b) x.2.2 y.2.2 else lg x.2.2.length y.2.2.length
   else 0
  else lg x.1.1 y.1.1
 | _,_,_,_=>0
theorem DX {α β:Type} (f:α->β->Int) (p:List α) (q:List β) (k:Nat) (a:α) (b:β) (ha:p[k]? =some a) (hb:q[k]? =some b):
    lY f (p.drop k) (q.drop k)=if f a b=0 then lY f (p.drop (k+1)) (q.drop (k+1))else f a b:=by
 obtain⟨h1,e1⟩:=List.getElem?_eq_some_iff.1 ha
 obtain⟨h2,e2⟩:=List.getElem?_eq_some_iff.1 hb
 rw[List.drop_eq_getElem_cons h1,List.drop_eq_getElem_cons h2,e1,e2]
 rfl
abbrev Nd:Type:=(Int×Int×ByteArray)×(Option Addr×Nat×Nat)
def kG (x:Nd):List Value:=[.int .i64 x.1.1,.int .i64 x.1.2.1,.string x.1.2.2,.slice x.2.1 x.2.2.1 x.2.2.2]
def aD (l:List Nd):List Value:=l.flatMap kG
def ints (l:List Int):List Value:=l.map fun d=> .int .i64 d
def nodes:(n:Nat)->Tm n->List Nd
 | 0,_=> [((0,0,.empty),(none,0,0))]
 | n+1,x=>(x.1,(x.2.1.1,x.2.2.length,x.2.1.2))::x.2.2.flatMap fun y=>nodes n y
def dL:(n:Nat)->Tm n->Int->List Int
 | 0,_,d=> [d]
 | n+1,x,d=>d::x.2.2.flatMap fun y=>dL n y (d+1)
theorem yM {α β γ:Type} (f:α->List β) (g:α->List γ) (h:∀a,(f a).length=(g a).length) (l:List α):(l.flatMap f).length=(l.flatMap g).length:=by
 induction l with
 | nil=>rfl
 | cons a l ih=>simp only[List.flatMap_cons,List.length_append,ih,h]
theorem eD:(n:Nat)->(x:Tm n)->(d:Int)->(dL n x d).length=(nodes n x).length
 | 0,_,_=>rfl
 | n+1,x,d=>by
  simp only[dL,nodes,List.length_cons]
  rw[yM (fun y=>dL n y (d+1)) (fun y=>nodes n y) (fun y=>eD n y (d+1))]
theorem fK (l:List Nd):(aD l).length=l.length*4:=by
 induction l with
 | nil=>rfl
 | cons a l ih=>simp only[aD,List.flatMap_cons,List.length_append,List.length_cons]at ih ⊢;rw[ih];simp[kG];omega
theorem sG (l r:List Nd):aD (l++r)=aD l++aD r:=by simp[aD]
theorem xE (l r:List Int):ints (l++r)=ints l++ints r:=by simp[ints]
theorem il (l:List Nd):∀u∈aD l,u.oneCell'=true:=by
 intro u hu
 simp only[aD,List.mem_flatMap,kG]at hu
 obtain⟨a,_,hu⟩:=hu
 simp at hu
 rcases hu with rfl|rfl|rfl|rfl<;>rfl
theorem Gv (l:List Int):∀u∈ints l,u.oneCell'=true:=by
 intro u hu
 simp only[ints,List.mem_map]at hu
 obtain⟨a,_,rfl⟩:=hu
 rfl
theorem gL {α β:Type} (f:α->List β) (l:List α) (k:Nat) (x:α) (h:l[k]? =some x):(l.take (k+1)).flatMap f=(l.take k).flatMap f++f x:=by
 obtain⟨h1,e1⟩:=List.getElem?_eq_some_iff.1 h
 rw[List.take_succ_eq_append_getElem h1,e1]
 simp
theorem lF {α β:Type} (f:α->List β) (l:List α) (k:Nat):((l.take k).flatMap f).length<=(l.flatMap f).length:=by
 conv=>rhs;rw[<-List.take_append_drop k l]
 rw[List.flatMap_append,List.length_append]
 omega
theorem Ci {w:World} {base e size:Nat} (cs:Array Value) (hb:base<=w.heap.size) (hs:cs.size=size):
    (w.alloc (.cells cs e)).ownsRow base e size (.slice (some ⟨w.heap.size,0,none⟩) 1 1) 1 cs.toList:=
 ⟨by simp[hs],.inr ⟨w.heap.size,1,cs,rfl,hb,heap_alloc_new w _,Nat.le_refl _,by unfold maxLen;omega,by omega,by rw[List.take_of_length_le];simp[hs]⟩⟩
theorem own_below {w w':World} {base e size:Nat} {v:Value} {n:Nat} {xs:List Value} (h:w.ownsRow base e size v n xs) (hb:Below w.heap.size w w'):w'.ownsRow base e size v n xs:=
 h.kept (row:=none) ⟨hb.os,hb.tape,hb.output,hb.size,fun k hk _=>hb.block k hk⟩ (by cases v.ownBlock<;>simp)
theorem kX {w:World} {base base' e size:Nat} {v:Value} {n:Nat} {xs:List Value} (h:w.ownsRow base e size v n xs) (hb:base'<=base):w.ownsRow base' e size v n xs:=by
 obtain⟨h1,h2⟩:=h
 refine⟨h1, ?_⟩
 rcases h2 with h2|⟨g,cap,cur,hv,hg,hh,r⟩
 ·exact Or.inl h2
 ·exact Or.inr ⟨g,cap,cur,hv,by omega,hh,r⟩
theorem jB {w:World} {base e size:Nat} {g n cap:Nat} {xs:List Value} (h:w.ownsRow base e size (.slice (some ⟨g,0,none⟩) n cap) n xs):base<=g/\g<w.heap.size:=h.lt g rfl
def KU (n:Nat):Prop:=∀(x:Tm n) (d:Int) (B:Nat) (w:World),In B w n x->B<=w.heap.size->0<=d->d+(nodes n x).length<=2097152->
 Calls Tryz.prog 58 #[val n x,.int .i64 d] w fun e w'=>∃g c h c',e=.returned (.tuple #[.slice (some ⟨g,0,none⟩) (nodes n x).length c,.slice (some ⟨h,0,none⟩) (nodes n x).length c'])/\
  Hid (g≠h/\Below w.heap.size w w'/\w'.ownsRow w.heap.size 25 4 (.slice (some ⟨g,0,none⟩) (nodes n x).length c) (nodes n x).length (aD (nodes n x))/\
   w'.ownsRow w.heap.size 3 1 (.slice (some ⟨h,0,none⟩) (nodes n x).length c') (nodes n x).length (ints (dL n x d)))
theorem bP:(Tryz.prog.info? 25).map (fun i=>(i.zero,i.size,i.bytes))=some (some (.agg #[.int .i64 0,.int .i64 0,.string .empty,.slice none 0 0]),4,56):=by kernel_rfl
theorem BL:(Tryz.prog.info? 3).map (fun i=>(i.zero,i.size,i.bytes))=some (some (.int .i64 0),1,8):=by kernel_rfl
def FY (n:Nat) (p:List (Tm n)) (hd:Nd) (d:Int) (w:World) (k g c h c' L:Nat) (wr:World):Prop:=
 L=1+((p.take k).flatMap fun y=>nodes n y).length/\g≠h/\Below w.heap.size w wr/\
  wr.ownsRow (w.heap.size+1) 25 4 (.slice (some ⟨g,0,none⟩) L c) L (aD (hd::(p.take k).flatMap fun y=>nodes n y))/\
  wr.ownsRow (w.heap.size+1) 3 1 (.slice (some ⟨h,0,none⟩) L c') L (ints (d::(p.take k).flatMap fun y=>dL n y (d+1)))
theorem CK (n:Nat) (p:List (Tm n)) (hd:Nd) (d:Int) (w:World) (o:Obj):
    FY n p hd d w 0 (w.heap.size+1) 1 (w.heap.size+1+1) 1 1 (((w.alloc o).alloc (.cells (kG hd).toArray 25)).alloc (.cells #[.int .i64 d] 3)):=by
 refine⟨by simp,by omega,(((Below.refl _ _).alloc (Nat.le_refl _) _).alloc (by simp) _).alloc (by simp;omega) _, ?_, ?_⟩
 ·have h:=Ci (w:=w.alloc o) (base:=w.heap.size+1) (e:=25) (size:=4) (kG hd).toArray (by simp) (by simp[kG])
  have h2:=h.alloc (.cells #[.int .i64 d] 3)
  have e:(w.alloc o).heap.size=w.heap.size+1:=by simp
  rw[e]at h2
  simpa [aD]using h2
 ·have h:=Ci (w:=(w.alloc o).alloc (.cells (kG hd).toArray 25)) (base:=w.heap.size+1) (e:=3) (size:=1) #[.int .i64 d] (by simp) (by simp)
  have e:((w.alloc o).alloc (.cells (kG hd).toArray 25)).heap.size=w.heap.size+1+1:=by simp
  rw[e]at h
  simpa [ints]using h
theorem Cv {n:Nat} {p:List (Tm n)} {hd:Nd} {d:Int} {w wr w1 w2:World} {k g c h c' L:Nat} (H:FY n p hd d w k g c h c' L wr) (hb:Below wr.heap.size wr w1) {h1 M c1:Nat} {zs:List Value}
    (hr:w1.ownsRow wr.heap.size 3 1 (.slice (some ⟨h1,0,none⟩) M c1) M zs) (hg:w1.grownBy w2 (some g)):
    w2.ownsRow (w.heap.size+1) 3 1 (.slice (some ⟨h,0,none⟩) L c') L (ints (d::(p.take k).flatMap fun y=>dL n y (d+1)))/\
     w2.ownsRow wr.heap.size 3 1 (.slice (some ⟨h1,0,none⟩) M c1) M zs:=by
 obtain⟨_,hne,_,o1,o2⟩:=H
 have l1:=jB o1
 have l3:=jB hr
 refine⟨(own_below o2 hb).kept hg (Or.inr (by simp[Value.ownBlock];omega)),hr.kept hg (Or.inr (by simp[Value.ownBlock];omega))⟩
theorem Hu {n:Nat} {p:List (Tm n)} {hd:Nd} {d:Int} {w wr w1 w2 w3:World} {k g c h c' L:Nat} (H:FY n p hd d w k g c h c' L wr) (hb:Below wr.heap.size wr w1) (x:Tm n) (hx:p[k]? =some x)
    {g2 c2 g3 c3:Nat} (h2:w2.ownsRow (w.heap.size+1) 25 4 (.slice (some ⟨g2,0,none⟩) (L+(nodes n x).length) c2) (L+(nodes n x).length) (aD (hd::(p.take k).flatMap fun y=>nodes n y)++aD (nodes n x)))
    (gr2:w1.grownBy w2 (some g)) (at2:some g=some g2∨g2=w1.heap.size) (lt2:g2<w2.heap.size)
    (h3:w3.ownsRow (w.heap.size+1) 3 1 (.slice (some ⟨g3,0,none⟩) (L+(nodes n x).length) c3) (L+(nodes n x).length) (ints (d::(p.take k).flatMap fun y=>dL n y (d+1))++ints (dL n x (d+1))))
    (gr3:w2.grownBy w3 (some h)) (at3:some h=some g3∨g3=w2.heap.size):
    FY n p hd d w (k+1) g2 c2 g3 c3 (L+(nodes n x).length) w3/\(∀o,w3.cell? ⟨w.heap.size,o,none⟩=wr.cell? ⟨w.heap.size,o,none⟩):=by
 obtain⟨hL,hne,hb0,o1,o2⟩:=H
 have l1:=jB o1
 have l2:=jB o2
 have z1:=hb.size
 have z2:=gr2.size
 have z3:=gr3.size
 have hg2h:g2≠h:=by
  rcases at2 with e|e
  ·have:g=g2:=by simpa using e
   omega
  ·omega
 have hne2:g2≠g3:=by
  rcases at3 with e|e
  ·have:h=g3:=by simpa using e
   omega
  ·omega
 refine⟨⟨?_,hne2, ?_, ?_, ?_⟩, ?_⟩
 ·rw[gL _ p k x hx,List.length_append];omega
 ·have r2:∀j,some g=some j->w.heap.size<=j:=fun j e=>by
    have e':g=j:=by simpa using e
    omega
  have r3:∀j,some h=some j->w.heap.size<=j:=fun j e=>by
   have e':h=j:=by simpa using e
   omega
  have z0:=hb0.size
  exact((hb0.trans (hb.mono z0)).grown gr2 (by omega) r2).grown gr3 (by omega) r3
 ·have e:aD (hd::(p.take (k+1)).flatMap fun y=>nodes n y)=aD (hd::(p.take k).flatMap fun y=>nodes n y)++aD (nodes n x):=by
    rw[gL _ p k x hx,<-sG];rfl
  rw[e]
  exact h2.kept gr3 (Or.inr (by simp[Value.ownBlock];omega))
 ·have e:ints (d::(p.take (k+1)).flatMap fun y=>dL n y (d+1))=ints (d::(p.take k).flatMap fun y=>dL n y (d+1))++ints (dL n x (d+1)):=by
    rw[gL _ p k x hx,<-xE];rfl
  rw[e]
  exact h3
 ·intro o
  rw[gr3.cell_far _ (by simp;omega) (by simp;omega),gr2.cell_far _ (by simp;omega) (by simp;omega)]
  exact hb.cell (p:=⟨w.heap.size,o,none⟩) (by simp;omega)
theorem FO (n:Nat) (ih:KU n) (k0 u0:Int) (s:ByteArray) (a:Option Addr) (pc len:Nat) (p:List (Tm n)) (hpl:Hid (p.length=len)) (d:Int) (B:Nat) (w:World)
    (hp:Hid (p=[]∨∃b o,a=some ⟨b,o,none⟩/\b<B/\∀(i:Nat) (y:Tm n),p[i]? =some y->Held w b (o+i*4) n y/\In B w n y))
    (hlen:len<=9223372036854775807) (hB:B<=w.heap.size) (hd0:0<=d) (hsum:Hid (d+(1+(p.flatMap fun y=>nodes n y).length:Nat)<=2097152)):
    Calls Tryz.prog 58 #[.agg #[.int .i64 k0,.int .i64 u0,.string s,.slice a len pc],.int .i64 d] w fun e w'=>
     ∃g c h c' L,e=.returned (.tuple #[.slice (some ⟨g,0,none⟩) L c,.slice (some ⟨h,0,none⟩) L c'])/\Hid (L=1+(p.flatMap fun y=>nodes n y).length)/\
      Hid (g≠h/\Below w.heap.size w w'/\w'.ownsRow w.heap.size 25 4 (.slice (some ⟨g,0,none⟩) L c) L (aD ((((k0,u0,s),(a,len,pc)):Nd)::p.flatMap fun y=>nodes n y))/\
       w'.ownsRow w.heap.size 3 1 (.slice (some ⟨h,0,none⟩) L c') L (ints (d::p.flatMap fun y=>dL n y (d+1)))):=by
 obtain⟨it,hit,htz0,htz1,htz2⟩:=info_parts bP
 obtain⟨ii,hii,hiz0,hiz1,hiz2⟩:=info_parts BL
 have HT:=hide (⟨hit,htz0,htz1,htz2⟩:_/\_/\_/\_)
 have HI:=hide (⟨hii,hiz0,hiz1,hiz2⟩:_/\_/\_/\_)
 clear hit htz0 htz1 htz2 hii hiz0 hiz1 hiz2
 have hd1:d<=2097152:=by have:=hsum.out;omega
 go_enter Tryz.func58,Tryz.ntmps58
 go_wp2_with fail
 go_loopw [6,7,8] (fun v1 v2 i wr=>∃k g c h c' L:Nat,k<=len/\i=.int .i64 k/\v1=.slice (some ⟨g,0,none⟩) L c/\v2=.slice (some ⟨h,0,none⟩) L c'/\wr.cell? ⟨w.heap.size,3,none⟩=some (.slice a len pc)/\Hid (FY n p ((k0,u0,s),(a,len,pc)) d w k g c h c' L wr)) (fun _ _ i _=>len-(intOf i).toNat)
 case atStart=>exact⟨0,_,_,_,_,_,by omega,rfl,rfl,rfl,by simp[go_sem],CK n p ((k0,u0,s),(a,len,pc)) d w _⟩
 case round=>
  obtain⟨k,g,c,h,c',L,hk,rfl,rfl,rfl,ha0,HA⟩:=hrel
  by_cases hlt:k<len
  ·obtain⟨x,hx⟩:∃x,p[k]? =some x:=⟨p[k]'(by rw[hpl.out];exact hlt),List.getElem?_eq_getElem _⟩
   have hb:=HA.out.2.2.1
   have hLx:L+(nodes n x).length<=2097152/\d+1+(nodes n x).length<=2097152:=by
    have e1:=HA.out.1
    have e2:=lF (fun y=>nodes n y) p (k+1)
    rw[gL _ p k x hx,List.length_append]at e2
    have e3:=hsum.out
    omega
   rcases hp.out with hp|⟨pb,po,rfl,hpb,hp⟩
   ·subst hp;simp at hx
   obtain⟨hx1,hx2⟩:=hp k x hx
   replace hx1:=hx1.below (hb.mono hB) hpb
   replace hx2:=hx2.below (hb.mono hB)
   have HX:=hide hx
   clear hp hx
   cases n with
   | zero=>exact hx1.elim
   | succ n=>
   obtain⟨x0,x1,x2,x3⟩:=hx1
   have hB':B<=wr.heap.size:=Nat.le_trans hB hb.size
   have hM:0<(nodes (n+1) x).length:=by simp[nodes]
   have HC:=hide (show Calls Tryz.prog 58 #[.agg #[.int .i64 x.1.1,.int .i64 x.1.2.1,.string x.1.2.2,.slice x.2.1.1 x.2.2.length x.2.1.2],.int .i64 (d+1)] wr _ from ih x (d+1) B wr hx2 hB' (by omega) hLx.2)
   clear ih hx2 hb
   generalize x.2.2.length=xl at*
   have HM:=hide hM
   have HL:=hide hLx.1
   clear hM hLx
   have hk1:(0:Int)<=(k:Int):=by omega
   have hk2:(k:Int)<(len:Int):=by omega
   go_wp2_with fail
   refine HC.out.mono ?_
   rintro e w1 ⟨g1,c1,h1,c1',rfl,HR⟩
   have HW:Hid (w1.heap.size=w1.heap.size):=rfl
   go_wp2_with (first
    | (at_builtin;refine wpList_append_lies _ rfl _ _ 23 rfl (w.heap.size+1) 25 it _ 4 56 Tryz.underlying23 HT.out.1 HT.out.2.1 HT.out.2.2.1 HT.out.2.2.2 rfl (by decide) _ L _ rfl (own_below HA.out.2.2.2.1 HR.out.2.1) ⟨g1,0,none⟩ _ _ (aD (nodes (n+1) x)) rfl (fK _) (HR.out.2.2.1.cells rfl) (il _) HM.out (by have:=HL.out;unfold maxLen;omega) (by have:=HL.out;omega) (by have:=HA.out.2.2.1.size;have:=HR.out.2.1.size;have:=jB HA.out.2.2.2.1;omega) _ rfl ?_;intro g2 c2 w2 hown2 hgrow2 hat2 hlt2;have H2:=hide (⟨hown2,hgrow2,hat2,hlt2⟩:_/\_/\_/\_);clear hown2 hgrow2 hat2 hlt2)
    | (at_builtin;refine wpList_append_lies _ rfl _ _ 41 rfl (w.heap.size+1) 3 ii _ 1 8 Tryz.underlying41 HI.out.1 HI.out.2.1 HI.out.2.2.1 HI.out.2.2.2 rfl (by decide) _ L _ rfl (Cv HA.out HR.out.2.1 HR.out.2.2.2 H2.out.2.1).1 ⟨h1,0,none⟩ _ _ (ints (dL (n+1) x (d+1))) rfl (by simp[ints,eD]) ((Cv HA.out HR.out.2.1 HR.out.2.2.2 H2.out.2.1).2.cells rfl) (Gv _) HM.out (by have:=HL.out;unfold maxLen;omega) (by have:=HL.out;omega) (by have:=HA.out.2.2.1.size;have:=HR.out.2.1.size;have:=jB HA.out.2.2.2.1;have:=H2.out.2.1.size;omega) _ rfl ?_;intro g3 c3 w3 hown3 hgrow3 hat3 hlt3;have H3:=hide (⟨hown3,hgrow3,hat3,hlt3⟩:_/\_/\_/\_);clear hown3 hgrow3 hat3 hlt3))
   have HE:=Hu HA.out HR.out.2.1 x HX.out H2.out.1 H2.out.2.1 H2.out.2.2.1 H2.out.2.2.2 H3.out.1 H3.out.2.1 H3.out.2.2.1
   go_roundw
   case rel=>exact⟨k+1,_,_,_,_,_,by omega,by go_num,rfl,rfl,(HE.2 3).trans ha0,HE.1⟩
   case measure=>simp[intOf];omega
  ·go_wp2_with fail
   go_ret2
   have ht:p.take k=p:=List.take_of_length_le (by rw[hpl.out];omega)
   obtain⟨e1,e2,e3,e4,e5⟩:=HA.out
   rw[ht]at e1 e4 e5
   exact⟨g,c,h,c',L,rfl,e1,e2,e3,kX e4 (by omega),kX e5 (by omega)⟩
theorem BX (n:Nat):KU n:=by
 induction n with
 | zero=>intro x d B w hx;exact hx.elim
 | succ n ih=>
  intro x d B w hx hB hd hsum
  obtain⟨⟨k,u,s⟩,⟨a,pc⟩,p⟩:=x
  obtain⟨⟨hk,hu,hs,hpl,hpc⟩,hp⟩:=hx
  simp only at hpl hpc hp
  unfold maxLen at hpc
  have hL:(nodes (n+1) ((k,u,s),(a,pc),p)).length=1+(p.flatMap fun y=>nodes n y).length:=by simp only[nodes,List.length_cons];omega
  rw[hL]at hsum
  refine(FO n ih k u s a pc p.length p rfl d B w hp (by omega) hB hd hsum).mono ?_
  rintro e w' ⟨g,c,h,c',L,rfl,hL',H⟩
  rw[hL,<-hL'.out]
  exact⟨g,c,h,c',rfl,H⟩
def eZ (n lo hi:Int):Bool:=decide (lo<=n) && decide (n<=hi)
def vL (c:UInt8):Bool:=decide (97<=(c.toNat:Int)) && decide ((c.toNat:Int)<=122)
def jg (l:List UInt8):Bool:=l.all vL
def bJ (s:ByteArray):Bool:=eZ s.size 1 8 && jg s.data.toList
theorem aU {a b:Bool} (h:a=b):Ending.returned (.bool a)=.returned (.bool b):=by rw[h]
theorem fe (n lo hi:Int) (w:World):
    Calls Tryz.prog 9 #[.int .i64 n,.int .i64 lo,.int .i64 hi] w fun e w'=>e=.returned (.bool (eZ n lo hi))/\w'=w:=by
 go_enter Tryz.func9,Tryz.ntmps9
 by_cases h1:lo<=n
 ·by_cases h2:n<=hi
  ·go_wp2
   all_goals go_ret
   all_goals exact⟨aU (by simp[eZ,h1,h2]),rfl⟩
  ·go_wp2
   all_goals go_ret
   all_goals exact⟨aU (by simp[eZ,h1,h2]),rfl⟩
 ·go_wp2
  all_goals go_ret
  all_goals exact⟨aU (by simp[eZ];omega),rfl⟩
theorem Eo (s:ByteArray) (k:Nat) (h:k<s.size):s.data.toList.take (k+1)=s.data.toList.take k++ [s[k]]:=by
 rw[List.take_succ_eq_append_getElem (by simpa using h)];rfl
theorem rq (s:ByteArray) (k:Nat) (h:k<s.size):jg (s.data.toList.take (k+1))=(jg (s.data.toList.take k) && vL s[k]):=by
 rw[Eo s k h];simp[jg]
theorem fP (s:ByteArray) (w:World) (hs:s.size<=9223372036854775807):
    Calls Tryz.prog 25 #[.string s] w fun e w'=>e=.returned (.bool (bJ s))/\w'=w:=by
 go_enter Tryz.func25,Tryz.ntmps25
 go_wp2_with (go_at_call 9;refine(fe _ _ _ _).mono ?_;rintro e w' ⟨rfl,rfl⟩)
 go_loop [3,4] (fun ok i=>∃k:Nat,∃b:Bool,k<=s.size/\i=.int .i64 k/\ok=.bool b/\Hid (b=(eZ s.size 1 8 && jg (s.data.toList.take k)))) (fun _ i=>s.size-(intOf i).toNat)
 case atStart=>exact⟨0,_,Nat.zero_le _,rfl,rfl,by simp[Hid,jg]⟩
 case round=>
  obtain⟨k,b,hk,rfl,rfl,hb⟩:=hrel
  by_cases hlt:k<s.size
  ·have HS:=hide (rq s k hlt)
   cases b with
   | false=>
    go_wp2_with fail
    go_round
    case rel=>exact⟨k+1,false,by omega,by go_num,rfl,by have:=hb.out;simp only[Hid];rw[HS.out,<-Bool.and_assoc,<-this];rfl⟩
    case measure=>simp[intOf];omega
   | true=>
    by_cases h1:97<=(s[k].toNat:Int)
    ·by_cases h2:(s[k].toNat:Int)<=122
     ·go_wp2_with fail
      go_round
      case rel=>exact⟨k+1,true,by omega,by go_num,rfl,by have:=hb.out;simp only[Hid];rw[HS.out,<-Bool.and_assoc,<-this];simp[vL,h1,h2]⟩
      case measure=>simp[intOf];omega
     ·go_wp2_with fail
      go_round
      case rel=>exact⟨k+1,false,by omega,by go_num,rfl,by have:=hb.out;simp only[Hid];rw[HS.out,<-Bool.and_assoc,<-this];simp[vL,h2]⟩
      case measure=>simp[intOf];omega
    ·go_wp2_with fail
     go_round
     case rel=>exact⟨k+1,false,by omega,by go_num,rfl,by have:=hb.out;simp only[Hid];rw[HS.out,<-Bool.and_assoc,<-this];simp[vL,h1]⟩
     case measure=>simp[intOf];omega
  ·go_wp2_with fail
   go_ret
   exact⟨aU (by rw[hb.out,List.take_of_length_le (by simp;omega)];rfl),rfl⟩
def sz:(n:Nat)->Tm n->Int
 | 0,_=>0
 | n+1,x=>if x.1.1=4 then 1+(x.2.2.map fun y=>1+sz n y).sum else 0
theorem bD:(n:Nat)->(x:Tm n)->0<=sz n x/\sz n x+1<=2*((nodes n x).length:Int)
 | 0,_=>⟨by simp[sz],by simp[sz,nodes]⟩
 | n+1,x=>by
  have key:∀l:List (Tm n),0<=(l.map fun y=>1+sz n y).sum/\(l.map fun y=>1+sz n y).sum<=2*((l.flatMap fun y=>nodes n y).length:Int):=by
   intro l
   induction l with
   | nil=>exact⟨by simp,by simp⟩
   | cons y l ih=>
    have hy:=bD n y
    simp only[List.map_cons,List.sum_cons,List.flatMap_cons,List.length_append]
    exact⟨by omega,by omega⟩
  have k:=key x.2.2
  simp only[sz,nodes,List.length_cons]
  by_cases h4:x.1.1=4
  ·rw[if_pos h4]
   exact⟨by omega,by omega⟩
  ·rw[if_neg h4]
   exact⟨by omega,by omega⟩
def vO (n:Nat) (p:List (Tm n)) (k:Nat):Int:=1+((p.take k).map fun y=>1+sz n y).sum
theorem Ef (n:Nat) (p:List (Tm n)) (k:Nat) (x:Tm n) (h:p[k]? =some x):vO n p (k+1)=vO n p k+(1+sz n x):=by
 obtain⟨h1,e1⟩:=List.getElem?_eq_some_iff.1 h
 unfold vO
 rw[List.take_succ_eq_append_getElem h1,e1]
 simp
 omega
theorem AZ (n:Nat) (p:List (Tm n)) (k:Nat):0<=vO n p k/\vO n p k<=2*(1+(p.flatMap fun y=>nodes n y).length:Int):=by
 have h:=lF (fun y=>nodes n y) p k
 have key:∀l:List (Tm n),0<=(l.map fun y=>1+sz n y).sum/\(l.map fun y=>1+sz n y).sum<=2*((l.flatMap fun y=>nodes n y).length:Int):=by
  intro l
  induction l with
  | nil=>exact⟨by simp,by simp⟩
  | cons y l ih=>
   have hy:=bD n y
   simp only[List.map_cons,List.sum_cons,List.flatMap_cons,List.length_append]
   exact⟨by omega,by omega⟩
 have k:=key (p.take k)
 unfold vO
 exact⟨by omega,by omega⟩
def KR (n:Nat):Prop:=∀(x:Tm n) (B:Nat) (w:World),In B w n x->B<=w.heap.size->(nodes n x).length<=2097152->
 Calls Tryz.prog 27 #[val n x] w fun e w'=>e=.returned (.int .i64 (sz n x))/\Below w.heap.size w w'
theorem AV (k0 u0:Int) (s:ByteArray) (a:Option Addr) (len pc:Nat) (w:World) (h:¬k0=4):
    Calls Tryz.prog 27 #[.agg #[.int .i64 k0,.int .i64 u0,.string s,.slice a len pc]] w fun e w'=>e=.returned (.int .i64 0)/\Below w.heap.size w w':=by
 have h4:(k0==4)=false:=by simpa using h
 clear h
 go_enter Tryz.func27,Tryz.ntmps27
 go_wp2_with fail
 go_ret
 exact⟨rfl,(Below.refl _ _).alloc (Nat.le_refl _) _⟩
theorem CY (n:Nat) (ih:KR n) (u0:Int) (s:ByteArray) (a:Option Addr) (pc len:Nat) (p:List (Tm n)) (hpl:Hid (p.length=len)) (B:Nat) (w:World)
    (hp:Hid (p=[]∨∃b o,a=some ⟨b,o,none⟩/\b<B/\∀(i:Nat) (y:Tm n),p[i]? =some y->Held w b (o+i*4) n y/\In B w n y))
    (hlen:len<=9223372036854775807) (hB:B<=w.heap.size) (hsum:Hid (1+(p.flatMap fun y=>nodes n y).length<=2097152)):
    Calls Tryz.prog 27 #[.agg #[.int .i64 4,.int .i64 u0,.string s,.slice a len pc]] w fun e w'=>
     e=.returned (.int .i64 (1+(p.map fun y=>1+sz n y).sum))/\Below w.heap.size w w':=by
 go_enter Tryz.func27,Tryz.ntmps27
 go_wp2_with fail
 go_loopw [3,4] (fun t i wr=>∃k:Nat,∃r:Int,k<=len/\i=.int .i64 k/\t=.int .i64 r/\Hid (r=vO n p k)/\Below w.heap.size w wr/\w.heap.size+1<=wr.heap.size/\wr.cell? ⟨w.heap.size,3,none⟩=some (.slice a len pc)) (fun _ i _=>len-(intOf i).toNat)
 case atStart=>exact⟨0,1,by omega,rfl,rfl,by simp[Hid,vO],(Below.refl _ _).alloc (Nat.le_refl _) _,by simp,by simp[go_sem]⟩
 case round=>
  obtain⟨k,r,hk,rfl,rfl,hr,hb,hwr,ha0⟩:=hrel
  by_cases hlt:k<len
  ·obtain⟨x,hx⟩:∃x,p[k]? =some x:=⟨p[k]'(by rw[hpl.out];exact hlt),List.getElem?_eq_getElem _⟩
   have HS:=hide (Ef n p k x hx)
   have e1:=AZ n p k
   rw[<-hr.out]at e1
   have e2:=bD n x
   have e3:(nodes n x).length<=(p.flatMap fun y=>nodes n y).length:=by
    have e4:=lF (fun y=>nodes n y) p (k+1)
    rw[gL _ p k x hx,List.length_append]at e4
    omega
   have e5:=hsum.out
   have hx9:(nodes n x).length<=2097152:=by omega
   have r1:0<=r/\r<=4194304:=by omega
   have r2:0<=sz n x/\sz n x<=4194304:=by omega
   clear e1 e2 e3 e5
   rcases hp.out with hp|⟨pb,po,rfl,hpb,hp⟩
   ·subst hp;simp at hx
   obtain⟨hx1,hx2⟩:=hp k x hx
   replace hx1:=hx1.below (hb.mono hB) hpb
   replace hx2:=hx2.below (hb.mono hB)
   clear hp hx
   cases n with
   | zero=>exact hx1.elim
   | succ n=>
   obtain⟨x0,x1,x2,x3⟩:=hx1
   have hB':B<=wr.heap.size:=Nat.le_trans hB hb.size
   have HC:=hide (show Calls Tryz.prog 27 #[.agg #[.int .i64 x.1.1,.int .i64 x.1.2.1,.string x.1.2.2,.slice x.2.1.1 x.2.2.length x.2.1.2]] wr _ from ih x B wr hx2 hB' hx9)
   clear ih hx2 hx9
   generalize x.2.2.length=xl at*
   generalize sz (n+1) x=z at*
   obtain⟨r11,r12⟩:=r1
   obtain⟨r21,r22⟩:=r2
   have hk1:(0:Int)<=(k:Int):=by omega
   have hk2:(k:Int)<(len:Int):=by omega
   go_wp2_with fail
   refine HC.out.mono ?_
   rintro e w1 ⟨rfl,hb1⟩
   have hd0:w1.cell? ⟨w.heap.size,3,none⟩=some (.slice (some ⟨pb,po,none⟩) len pc):=(hb1.cell (p:=⟨w.heap.size,3,none⟩) (by simp;omega)).trans ha0
   have hz1:=hb1.size
   have hb2:Below w.heap.size w w1:=hb.trans (hb1.mono hb.size)
   go_wp2_with fail
   go_roundw
   case rel=>exact⟨k+1,r+(1+z),by omega,by go_num,by go_num,by simp only[Hid];rw[HS.out,<-hr.out],hb2,by omega,hd0⟩
   case measure=>simp[intOf];omega
  ·go_wp2_with fail
   go_ret
   refine⟨bA ?_,hb⟩
   rw[hr.out]
   unfold vO
   rw[List.take_of_length_le (by rw[hpl.out];omega)]
theorem iP (n:Nat):KR n:=by
 induction n with
 | zero=>intro x B w hx;exact hx.elim
 | succ n ih=>
  intro x B w hx hB hsum
  obtain⟨⟨k,u,s⟩,⟨a,pc⟩,p⟩:=x
  obtain⟨⟨hk,hu,hs,hpl,hpc⟩,hp⟩:=hx
  simp only at hpl hpc hp
  unfold maxLen at hpc
  have hL:(nodes (n+1) ((k,u,s),(a,pc),p)).length=1+(p.flatMap fun y=>nodes n y).length:=by simp only[nodes,List.length_cons];omega
  rw[hL]at hsum
  show Calls Tryz.prog 27 #[.agg #[.int .i64 k,.int .i64 u,.string s,.slice a p.length pc]] w fun e w'=>e=.returned (.int .i64 (if k=4 then 1+(p.map fun y=>1+sz n y).sum else 0))/\Below w.heap.size w w'
  by_cases h4:k=4
  ·subst h4
   exact CY n ih u s a pc p.length p rfl B w hp (by omega) hB hsum
  ·rw[if_neg h4]
   exact AV k u s a p.length pc w h4
def good (x:Nd):Bool:=
 (if x.1.1=1 then x.1.2.2.toList.isEmpty && eZ x.1.2.1 (-1099511627776) 1099511627776
  else if x.1.1=2 then bJ x.1.2.2 && x.1.2.1==0
  else if x.1.1=3 then x.1.2.2.toList.isEmpty && eZ x.1.2.1 1 99
  else if x.1.1=4 then x.1.2.2.toList.isEmpty && x.1.2.1==0 && decide ((x.2.2.1:Int)<=8)
  else if x.1.1=5 then x.1.2.2.toList.isEmpty && eZ x.1.2.1 0 3
  else if x.1.1=6 then x.1.2.2.toList.isEmpty && x.1.2.1==0
  else false) && (x.1.1==4 || !decide ((0:Int)<(x.2.2.1:Int)))
def deeper (x:Nd) (d m:Int):Int:=if x.1.1=4/\m<d+1 then d+1 else m
def oH (z:Int):List Nd->List Int->Int->Int
 | x::l,d::ds,m=>if good x then oH z l ds (deeper x d m)else 5
 | _,_,m=>if 12<m∨200<z then 2 else 0
def aP (n:Nat) (x:Tm n):Int:=oH (sz n x) (nodes n x) (dL n x 0) 0
theorem DJ (z:Int) (l:List Nd) (ds:List Int) (m:Int) (k:Nat) (x:Nd) (d:Int) (hx:l[k]? =some x) (hd:ds[k]? =some d):
    oH z (l.drop k) (ds.drop k) m=if good x then oH z (l.drop (k+1)) (ds.drop (k+1)) (deeper x d m)else 5:=by
 obtain⟨h1,e1⟩:=List.getElem?_eq_some_iff.1 hx
 obtain⟨h2,e2⟩:=List.getElem?_eq_some_iff.1 hd
 rw[List.drop_eq_getElem_cons h1,List.drop_eq_getElem_cons h2,e1,e2]
 rfl
theorem Ga (z:Int) (l:List Nd) (ds:List Int) (m:Int) (k:Nat) (h:l.length<=k):oH z (l.drop k) (ds.drop k) m=if 12<m∨200<z then 2 else 0:=by
 rw[List.drop_eq_nil_of_le h]
 cases ds.drop k<;>rfl
theorem pU:(n:Nat)->(x:Tm n)->(d:Int)->∀e∈dL n x d,d<=e/\e+1<=d+(nodes n x).length
 | 0,_,d=>by
  intro e he
  simp only[dL,List.mem_singleton]at he
  subst he
  simp[nodes]
 | n+1,x,d=>by
  intro e he
  simp only[dL,List.mem_cons,List.mem_flatMap]at he
  simp only[nodes,List.length_cons]
  rcases he with rfl|⟨y,hy,he⟩
  ·omega
  ·have h1:=pU n y (d+1) e he
   have h2:(nodes n y).length<=(x.2.2.flatMap fun y=>nodes n y).length:=by
    obtain⟨i,hi⟩:=List.getElem?_of_mem hy
    have e4:=lF (fun y=>nodes n y) x.2.2 (i+1)
    rw[gL _ x.2.2 i y hi,List.length_append]at e4
    omega
   omega
theorem gI (l:List Nd) (k:Nat) (x:Nd) (hx:l[k]? =some x) (j:Nat) (hj:j<4):(aD l)[k*4+j]? =(kG x)[j]? :=by
 induction l generalizing k with
 | nil=>simp at hx
 | cons y l ih=>
  have e:aD (y::l)=kG y++aD l:=rfl
  have hy:(kG y).length=4:=rfl
  rw[e]
  cases k with
  | zero=>
   have:y=x:=by simpa using hx
   subst this
   rw[List.getElem?_append_left (by omega)]
   simp
  | succ k=>
   rw[List.getElem?_append_right (by omega),hy,<-ih k (by simpa using hx)]
   congr 1
   omega
theorem cu (g j:Nat):(⟨g,0,none⟩:Addr).add j=⟨g,j,none⟩:=by unfold Addr.add;split<;>simp_all
theorem oC {w:World} {base g c L:Nat} {l:List Nd} (h:w.ownsRow base 25 4 (.slice (some ⟨g,0,none⟩) L c) L (aD l)) (k:Nat) (x:Nd) (hx:l[k]? =some x):
    w.cell? ⟨g,k*4,none⟩=some (.int .i64 x.1.1)/\w.cell? ⟨g,k*4+1,none⟩=some (.int .i64 x.1.2.1)/\w.cell? ⟨g,k*4+2,none⟩=some (.string x.1.2.2)/\w.cell? ⟨g,k*4+3,none⟩=some (.slice x.2.1 x.2.2.1 x.2.2.2):=by
 have hc:=h.cells (g:=g) rfl
 refine⟨?_, ?_, ?_, ?_⟩
 ·have:=hc (k*4+0) (.int .i64 x.1.1) (by rw[gI l k x hx 0 (by omega)];rfl)
  rw[cu]at this;exact this
 ·have:=hc (k*4+1) (.int .i64 x.1.2.1) (by rw[gI l k x hx 1 (by omega)];rfl)
  rw[cu]at this;exact this
 ·have:=hc (k*4+2) (.string x.1.2.2) (by rw[gI l k x hx 2 (by omega)];rfl)
  rw[cu]at this;exact this
 ·have:=hc (k*4+3) (.slice x.2.1 x.2.2.1 x.2.2.2) (by rw[gI l k x hx 3 (by omega)];rfl)
  rw[cu]at this;exact this
theorem Hl {w:World} {base h c L:Nat} {l:List Int} (o:w.ownsRow base 3 1 (.slice (some ⟨h,0,none⟩) L c) L (ints l)) (k:Nat) (d:Int) (hd:l[k]? =some d):
    w.cell? ⟨h,k,none⟩=some (.int .i64 d):=by
 have:=o.cells (g:=h) rfl k (.int .i64 d) (by simp[ints,hd])
 rw[cu]at this;exact this
theorem uz:(n:Nat)->(x:Tm n)->(B:Nat)->(w:World)->In B w n x->∀y∈nodes n x,y.2.2.1<=9223372036854775807/\y.1.2.2.size<=9223372036854775807
 | 0,_,_,_,h=>h.elim
 | n+1,x,B,w,h=>by
  intro y hy
  obtain⟨⟨_,_,hs,hl,hc⟩,hk⟩:=h
  simp only[nodes,List.mem_cons,List.mem_flatMap]at hy
  unfold maxLen at hc hs
  rcases hy with rfl|⟨z,hz,hy⟩
  ·exact⟨by simp only;omega,by simp only;omega⟩
  ·rcases hk with hk|⟨b,o,_,_,hk⟩
   ·rw[hk]at hz;cases hz
   ·obtain⟨i,hi⟩:=List.getElem?_of_mem hz
    exact uz n z B w (hk i z hi).2 y hy
end Go.Proofs.YtbknffhilfoakaaGreat
