/- What is proved here: plain facts and contracts that the claimed theorem stands on. No condition but those that each names. -/
import Derived.Test.YtbknffhilfoakaaGreatG05
import Derived.Laws.MakeOwn
namespace Go.Proofs.YtbknffhilfoakaaGreat
open Go.RowKit
set_option maxHeartbeats 1000000
def dW:(n:Nat)->Tm n->Int
 | 0,_=>0
 | n+1,x=>if x.1.1=4 then 1+x.2.2.foldl (fun m y=>max m (dW n y)) 0 else 0
def qi (n:Nat) (p:List (Tm n)) (k:Nat):Int:=(p.take k).foldl (fun m y=>max m (dW n y)) 0
theorem Ay (n:Nat) (p:List (Tm n)) (k:Nat) (x:Tm n) (h:p[k]? =some x):qi n p (k+1)=max (qi n p k) (dW n x):=by
 obtain⟨h1,e1⟩:=List.getElem?_eq_some_iff.1 h
 unfold qi
 rw[List.take_succ_eq_append_getElem h1,e1,List.foldl_append]
 rfl
theorem mI {n:Nat} (N:Int):(l:List (Tm n))->(m:Int)->0<=m->m<=N->(∀y∈l,0<=dW n y/\dW n y<=N)->0<=l.foldl (fun m y=>max m (dW n y)) m/\l.foldl (fun m y=>max m (dW n y)) m<=N
 | [],_,h0,h1,_=>⟨h0,h1⟩
 | y::l,m,h0,h1,h=>by
  have hy:=h y (by simp)
  exact mI N l (max m (dW n y)) (by omega) (by omega) (fun z hz=>h z (by simp[hz]))
theorem iK {n:Nat} (l:List (Tm n)) (y:Tm n) (h:y∈l):(nodes n y).length<=(l.flatMap fun y=>nodes n y).length:=by
 obtain⟨i,hi⟩:=List.getElem?_of_mem h
 have e4:=lF (fun y=>nodes n y) l (i+1)
 rw[gL _ l i y hi,List.length_append]at e4
 omega
theorem dY:(n:Nat)->(x:Tm n)->0<=dW n x/\dW n x<=(nodes n x).length
 | 0,_=>by simp[dW]
 | n+1,x=>by
  have hb:=mI ((x.2.2.flatMap fun y=>nodes n y).length:Int) x.2.2 0 (by omega) (by omega) (fun y hy=>by
   have h1:=dY n y
   have h2:=iK x.2.2 y hy
   omega)
  simp only[dW,nodes,List.length_cons]
  by_cases h4:x.1.1=4
  ·rw[if_pos h4];omega
  ·rw[if_neg h4];omega
theorem zt (n:Nat) (p:List (Tm n)) (k:Nat):0<=qi n p k/\qi n p k<=(p.flatMap fun y=>nodes n y).length:=
 mI _ (p.take k) 0 (by omega) (by omega) (fun y hy=>by
  have h1:=dY n y
  have h2:=iK p y (List.mem_of_mem_take hy)
  omega)
def J3 (n:Nat):Prop:=∀(x:Tm n) (B:Nat) (w:World),In B w n x->B<=w.heap.size->(nodes n x).length<=2097152->
 Calls Tryz.prog 71 #[val n x] w fun e w'=>e=.returned (.int .i64 (dW n x))/\Below w.heap.size w w'
theorem Bc (k0 u0:Int) (s:ByteArray) (a:Option Addr) (len pc:Nat) (w:World) (h:¬k0=4):
    Calls Tryz.prog 71 #[.agg #[.int .i64 k0,.int .i64 u0,.string s,.slice a len pc]] w fun e w'=>e=.returned (.int .i64 0)/\Below w.heap.size w w':=by
 have h4:(k0 !=4)=true:=by simpa using h
 clear h
 go_enter Tryz.func71,Tryz.ntmps71
 go_wp2_with fail
 go_ret
 exact⟨rfl,(Below.refl _ _).alloc (Nat.le_refl _) _⟩
theorem Ep (n:Nat) (ih:J3 n) (u0:Int) (s:ByteArray) (a:Option Addr) (pc len:Nat) (p:List (Tm n)) (hpl:Hid (p.length=len)) (B:Nat) (w:World)
    (hp:Hid (p=[]∨∃b o,a=some ⟨b,o,none⟩/\b<B/\∀(i:Nat) (y:Tm n),p[i]? =some y->Held w b (o+i*4) n y/\In B w n y))
    (hlen:len<=9223372036854775807) (hB:B<=w.heap.size) (hsum:Hid (1+(p.flatMap fun y=>nodes n y).length<=2097152)):
    Calls Tryz.prog 71 #[.agg #[.int .i64 4,.int .i64 u0,.string s,.slice a len pc]] w fun e w'=>
     e=.returned (.int .i64 (1+p.foldl (fun m y=>max m (dW n y)) 0))/\Below w.heap.size w w':=by
 go_enter Tryz.func71,Tryz.ntmps71
 go_wp2_with fail
 go_loopw [3,12] (fun t i wr=>∃k:Nat,∃r:Int,k<=len/\i=.int .i64 k/\t=.int .i64 r/\Hid (r=qi n p k)/\Below w.heap.size w wr) (fun _ i _=>len-(intOf i).toNat)
 case atStart=>exact⟨0,0,by omega,rfl,rfl,by simp[Hid,qi],(Below.refl _ _).alloc (Nat.le_refl _) _⟩
 case round=>
  obtain⟨k,r,hk,rfl,rfl,hr,hb⟩:=hrel
  have e1:=zt n p k
  rw[<-hr.out]at e1
  have e5:=hsum.out
  have r1:0<=r:=e1.1
  have r2:r<=2097152:=by omega
  clear e1
  by_cases hlt:k<len
  ·obtain⟨x,hx⟩:∃x,p[k]? =some x:=⟨p[k]'(by rw[hpl.out];exact hlt),List.getElem?_eq_getElem _⟩
   have HS:=hide (Ay n p k x hx)
   have e3:=iK p x (List.mem_of_getElem? hx)
   have hx9:(nodes n x).length<=2097152:=by omega
   clear e3 e5
   rcases hp.out with hp|⟨pb,po,rfl,hpb,hp⟩
   ·subst hp;simp at hx
   obtain⟨hx1,hx2⟩:=hp k x hx
   replace hx1:=hx1.below (hb.mono hB) hpb
   replace hx2:=hx2.below (hb.mono hB)
   clear hp hx
   cases n with
   | zero=>exact hx1.elim
   | succ n=>
   obtain⟨x0,x1,x2,x3⟩:=hx1
   have hB':B<=wr.heap.size:=Nat.le_trans hB hb.size
   have HC:Hid (∀w1,Below wr.heap.size wr w1->Calls Tryz.prog 71 #[.agg #[.int .i64 x.1.1,.int .i64 x.1.2.1,.string x.1.2.2,.slice x.2.1.1 x.2.2.length x.2.1.2]] w1 fun e w'=>e=.returned (.int .i64 (dW (n+1) x))/\Below w1.heap.size w1 w'):=
    fun w1 h1=>ih x B w1 (hx2.below (h1.mono hB')) (Nat.le_trans hB' h1.size) hx9
   clear ih hx2 hx9
   generalize x.2.2.length=xl at*
   generalize dW (n+1) x=z at*
   have hk1:(0:Int)<=(k:Int):=by omega
   have hk2:(k:Int)<(len:Int):=by omega
   go_wp2_with fail
   refine(HC.out _ ((Below.refl _ _).alloc (Nat.le_refl _) _)).mono ?_
   rintro e w1 ⟨rfl,hb1⟩
   have hb2:Below w.heap.size w w1:=(hb.trans (((Below.refl _ _).alloc (Nat.le_refl _) _).mono hb.size)).trans (hb1.mono (by have:=hb.size;simp;omega))
   clear hb1
   have hmx:max r z=if r<z then z else r:=by split<;>omega
   have HMX:=hide hmx
   clear hmx
   go_wp2_with fail
   go_roundw
   case rel=>exact⟨k+1,_,by omega,by go_num,rfl,by simp only[Hid];rw[HS.out,<-hr.out,HMX.out],hb2⟩
   case measure=>simp[intOf];omega
  ·go_wp2_with fail
   go_ret
   refine⟨bA ?_,hb⟩
   rw[hr.out]
   unfold qi
   rw[List.take_of_length_le (by rw[hpl.out];omega)]
theorem Dz (n:Nat):J3 n:=by
 induction n with
 | zero=>intro x B w hx;exact hx.elim
 | succ n ih=>
  intro x B w hx hB hsum
  obtain⟨⟨k,u,s⟩,⟨a,pc⟩,p⟩:=x
  obtain⟨⟨_,_,_,hpl,hpc⟩,hp⟩:=hx
  simp only at hpl hpc hp
  unfold maxLen at hpc
  have hL:(nodes (n+1) ((k,u,s),(a,pc),p)).length=1+(p.flatMap fun y=>nodes n y).length:=by simp only[nodes,List.length_cons];omega
  rw[hL]at hsum
  show Calls Tryz.prog 71 #[.agg #[.int .i64 k,.int .i64 u,.string s,.slice a p.length pc]] w fun e w'=>e=.returned (.int .i64 (if k=4 then 1+p.foldl (fun m y=>max m (dW n y)) 0 else 0))/\Below w.heap.size w w'
  by_cases h4:k=4
  ·subst h4
   exact Ep n ih u s a pc p.length p rfl B w hp (by omega) hB hsum
  ·rw[if_neg h4]
   exact Bc k u s a p.length pc w h4
def l7 (n:Nat) (p:List (Tm n)) (k:Nat):Int:=1+p.length+((p.take k).map fun y=>sz n y).sum
theorem BD (n:Nat) (p:List (Tm n)) (k:Nat) (x:Tm n) (h:p[k]? =some x):l7 n p (k+1)=l7 n p k+sz n x:=by
 obtain⟨h1,e1⟩:=List.getElem?_eq_some_iff.1 h
 unfold l7
 rw[List.take_succ_eq_append_getElem h1,e1]
 simp
 omega
theorem DF (n:Nat) (l:List (Tm n)):(l.map fun y=>1+sz n y).sum=l.length+(l.map fun y=>sz n y).sum:=by
 induction l with
 | nil=>simp
 | cons y l ih=>simp only[List.map_cons,List.sum_cons,List.length_cons,ih];omega
theorem CX (n:Nat) (p:List (Tm n)) (k:Nat) (h:p.length<=k):l7 n p k=1+(p.map fun y=>1+sz n y).sum:=by
 unfold l7
 rw[List.take_of_length_le h,DF]
 omega
theorem uO (n:Nat) (p:List (Tm n)):p.length<=(p.flatMap fun y=>nodes n y).length:=by
 induction p with
 | nil=>simp
 | cons y l ih=>
  have:1<=(nodes n y).length:=by cases n<;>simp[nodes]
  simp only[List.flatMap_cons,List.length_append,List.length_cons]
  omega
theorem xP (n:Nat) (p:List (Tm n)) (k:Nat):0<=l7 n p k/\l7 n p k<=3*(1+(p.flatMap fun y=>nodes n y).length:Int):=by
 have h0:=uO n p
 have h:=lF (fun y=>nodes n y) p k
 have key:∀l:List (Tm n),0<=(l.map fun y=>sz n y).sum/\(l.map fun y=>sz n y).sum<=2*((l.flatMap fun y=>nodes n y).length:Int):=by
  intro l
  induction l with
  | nil=>exact⟨by simp,by simp⟩
  | cons y l ih=>
   have hy:=bD n y
   simp only[List.map_cons,List.sum_cons,List.flatMap_cons,List.length_append]
   exact⟨by omega,by omega⟩
 have k:=key (p.take k)
 unfold l7
 exact⟨by omega,by omega⟩
def KS (n:Nat):Prop:=∀(x:Tm n) (B:Nat) (w:World),In B w n x->B<=w.heap.size->(nodes n x).length<=2097152->
 Calls Tryz.prog 54 #[val n x] w fun e w'=>e=.returned (.int .i64 (sz n x))/\Below w.heap.size w w'
theorem Ag (k0 u0:Int) (s:ByteArray) (a:Option Addr) (len pc:Nat) (w:World) (h:¬k0=4):
    Calls Tryz.prog 54 #[.agg #[.int .i64 k0,.int .i64 u0,.string s,.slice a len pc]] w fun e w'=>e=.returned (.int .i64 0)/\Below w.heap.size w w':=by
 have h4:(k0 !=4)=true:=by simpa using h
 clear h
 go_enter Tryz.func54,Tryz.ntmps54
 go_wp2_with fail
 go_ret
 exact⟨rfl,(Below.refl _ _).alloc (Nat.le_refl _) _⟩
theorem Ev (n:Nat) (ih:KS n) (u0:Int) (s:ByteArray) (a:Option Addr) (pc len:Nat) (p:List (Tm n)) (hpl:Hid (p.length=len)) (B:Nat) (w:World)
    (hp:Hid (p=[]∨∃b o,a=some ⟨b,o,none⟩/\b<B/\∀(i:Nat) (y:Tm n),p[i]? =some y->Held w b (o+i*4) n y/\In B w n y))
    (hB:B<=w.heap.size) (hsum:Hid (1+(p.flatMap fun y=>nodes n y).length<=2097152)):
    Calls Tryz.prog 54 #[.agg #[.int .i64 4,.int .i64 u0,.string s,.slice a len pc]] w fun e w'=>
     e=.returned (.int .i64 (1+(p.map fun y=>1+sz n y).sum))/\Below w.heap.size w w':=by
 have hlen:len<=2097152:=by have h1:=uO n p;have h2:=hsum.out;rw[<-hpl.out];omega
 go_enter Tryz.func54,Tryz.ntmps54
 go_wp2_with fail
 go_loopw [3,16] (fun t i wr=>∃k:Nat,∃r:Int,k<=len/\i=.int .i64 k/\t=.int .i64 r/\Hid (r=l7 n p k)/\Below w.heap.size w wr) (fun _ i _=>len-(intOf i).toNat)
 case atStart=>exact⟨0,1+len,by omega,rfl,rfl,by simp only[Hid,l7];rw[hpl.out];simp,(Below.refl _ _).alloc (Nat.le_refl _) _⟩
 case round=>
  obtain⟨k,r,hk,rfl,rfl,hr,hb⟩:=hrel
  have e1:=xP n p k
  rw[<-hr.out]at e1
  have e5:=hsum.out
  have r1:0<=r:=e1.1
  have r2:r<=6291456:=by omega
  clear e1
  by_cases hlt:k<len
  ·obtain⟨x,hx⟩:∃x,p[k]? =some x:=⟨p[k]'(by rw[hpl.out];exact hlt),List.getElem?_eq_getElem _⟩
   have HS:=hide (BD n p k x hx)
   have e3:=iK p x (List.mem_of_getElem? hx)
   have hx9:(nodes n x).length<=2097152:=by omega
   have e2:=bD n x
   have z1:0<=sz n x:=e2.1
   have z2:sz n x<=4194304:=by omega
   clear e3 e5 e2
   rcases hp.out with hp|⟨pb,po,rfl,hpb,hp⟩
   ·subst hp;simp at hx
   obtain⟨hx1,hx2⟩:=hp k x hx
   replace hx1:=hx1.below (hb.mono hB) hpb
   replace hx2:=hx2.below (hb.mono hB)
   clear hp hx
   cases n with
   | zero=>exact hx1.elim
   | succ n=>
   obtain⟨x0,x1,x2,x3⟩:=hx1
   have hB':B<=wr.heap.size:=Nat.le_trans hB hb.size
   have HC:Hid (∀w1,Below wr.heap.size wr w1->Calls Tryz.prog 54 #[.agg #[.int .i64 x.1.1,.int .i64 x.1.2.1,.string x.1.2.2,.slice x.2.1.1 x.2.2.length x.2.1.2]] w1 fun e w'=>e=.returned (.int .i64 (sz (n+1) x))/\Below w1.heap.size w1 w'):=
    fun w1 h1=>ih x B w1 (hx2.below (h1.mono hB')) (Nat.le_trans hB' h1.size) hx9
   clear ih hx2 hx9
   generalize x.2.2.length=xl at*
   generalize sz (n+1) x=z at*
   have hk1:(0:Int)<=(k:Int):=by omega
   have hk2:(k:Int)<(len:Int):=by omega
   go_wp2_with fail
   refine(HC.out _ ((Below.refl _ _).alloc (Nat.le_refl _) _)).mono ?_
   rintro e w1 ⟨rfl,hb1⟩
   have hb2:Below w.heap.size w w1:=(hb.trans (((Below.refl _ _).alloc (Nat.le_refl _) _).mono hb.size)).trans (hb1.mono (by have:=hb.size;simp;omega))
   clear hb1
   go_wp2_with fail
   go_roundw
   case rel=>exact⟨k+1,r+z,by omega,by go_num,by go_num,by simp only[Hid];rw[HS.out,<-hr.out],hb2⟩
   case measure=>simp[intOf];omega
  ·go_wp2_with fail
   go_ret
   refine⟨bA ?_,hb⟩
   rw[hr.out,CX n p k (by rw[hpl.out];omega)]
theorem um (n:Nat):KS n:=by
 induction n with
 | zero=>intro x B w hx;exact hx.elim
 | succ n ih=>
  intro x B w hx hB hsum
  obtain⟨⟨k,u,s⟩,⟨a,pc⟩,p⟩:=x
  obtain⟨⟨_,_,_,hpl,hpc⟩,hp⟩:=hx
  simp only at hpl hpc hp
  have hL:(nodes (n+1) ((k,u,s),(a,pc),p)).length=1+(p.flatMap fun y=>nodes n y).length:=by simp only[nodes,List.length_cons];omega
  rw[hL]at hsum
  show Calls Tryz.prog 54 #[.agg #[.int .i64 k,.int .i64 u,.string s,.slice a p.length pc]] w fun e w'=>e=.returned (.int .i64 (if k=4 then 1+(p.map fun y=>1+sz n y).sum else 0))/\Below w.heap.size w w'
  by_cases h4:k=4
  ·subst h4
   exact Ev n ih u s a pc p.length p rfl B w hp hB hsum
  ·rw[if_neg h4]
   exact Ag k u s a p.length pc w h4
theorem wU (w:World) (k u:Int) (s:ByteArray) (a:Option Addr) (l c:Nat) (fb:Bool) (d z:Int)
    (HF:Hid (∀w1,Below w.heap.size w w1->Calls Tryz.prog 70 #[.agg #[.int .i64 k,.int .i64 u,.string s,.slice a l c]] w1 fun e w'=>e=.returned (.bool fb)/\Below w1.heap.size w1 w'))
    (HD:Hid (∀w1,Below w.heap.size w w1->Calls Tryz.prog 71 #[.agg #[.int .i64 k,.int .i64 u,.string s,.slice a l c]] w1 fun e w'=>e=.returned (.int .i64 d)/\Below w1.heap.size w1 w'))
    (HZ:Hid (∀w1,Below w.heap.size w w1->Calls Tryz.prog 54 #[.agg #[.int .i64 k,.int .i64 u,.string s,.slice a l c]] w1 fun e w'=>e=.returned (.int .i64 z)/\Below w1.heap.size w1 w')):
    Calls Tryz.prog 51 #[.agg #[.int .i64 k,.int .i64 u,.string s,.slice a l c]] w fun e w'=>e=.returned (.int .i64 (if fb then if 12<d∨200<z then 2 else 0 else 5))/\Below w.heap.size w w':=by
 generalize hr:(if fb then if 12<d∨200<z then (2:Int)else 0 else 5)=r
 have HR:=hide hr
 clear hr
 go_enter Tryz.func51,Tryz.ntmps51
 go_wp2_with fail
 refine(HF.out _ ((Below.refl _ _).alloc (Nat.le_refl _) _)).mono ?_
 rintro e w1 ⟨rfl,hb1⟩
 have HB1:Hid (Below w.heap.size w w1/\w.heap.size+1<=w1.heap.size):=⟨((Below.refl _ _).alloc (Nat.le_refl _) _).trans (hb1.mono (by simp)),by have:=hb1.size;simpa using this⟩
 have hcc:=ag hb1
 simp only[World.size_alloc]at hcc
 have a0:=(hcc w.heap.size 0 (by omega)).trans (by simp[go_sem]:_=some (Value.int .i64 k))
 have a1:=(hcc w.heap.size 1 (by omega)).trans (by simp[go_sem]:_=some (Value.int .i64 u))
 have a2:=(hcc w.heap.size 2 (by omega)).trans (by simp[go_sem]:_=some (Value.string s))
 have a3:=(hcc w.heap.size 3 (by omega)).trans (by simp[go_sem]:_=some (Value.slice a l c))
 clear hcc hb1
 cases fb with
 | false=>
  go_wp2_with fail
  go_ret
  exact⟨bA (by rw[<-HR.out];rfl),HB1.out.1⟩
 | true=>
  go_wp2_with fail
  refine(HD.out _ HB1.out.1).mono ?_
  rintro e w2 ⟨rfl,hb2⟩
  have HB2:Hid (Below w.heap.size w w2):=HB1.out.1.trans (hb2.mono HB1.out.1.size)
  have hcc:=ag hb2
  have hz1:=HB1.out.2
  replace a0:=(hcc w.heap.size 0 (by omega)).trans a0
  replace a1:=(hcc w.heap.size 1 (by omega)).trans a1
  replace a2:=(hcc w.heap.size 2 (by omega)).trans a2
  replace a3:=(hcc w.heap.size 3 (by omega)).trans a3
  clear hcc hb2 hz1
  by_cases h12:12<d
  ·have H12:=hide h12
   go_wp2_with fail
   go_ret
   exact⟨bA (by rw[<-HR.out,if_pos trivial,if_pos (Or.inl H12.out)]),HB2.out⟩
  ·have H12:=hide h12
   go_wp2_with fail
   refine(HZ.out _ HB2.out).mono ?_
   rintro e w3 ⟨rfl,hb3⟩
   have HB3:Hid (Below w.heap.size w w3):=HB2.out.trans (hb3.mono HB2.out.size)
   clear hb3
   by_cases hz:200<z
   ·have HZ2:=hide hz
    go_wp2_with fail
    go_ret
    exact⟨bA (by rw[<-HR.out,if_pos trivial,if_pos (Or.inr HZ2.out)]),HB3.out⟩
   ·have HZ2:=hide hz
    go_wp2_with fail
    go_ret
    exact⟨bA (by rw[<-HR.out,if_pos trivial,if_neg (by have:=H12.out;have:=HZ2.out;omega)]),HB3.out⟩
def xV (n:Nat) (x:Tm n):Int:=if bi n x then if 12<dW n x∨200<sz n x then 2 else 0 else 5
theorem yI (n:Nat) (x:Tm n) (B:Nat) (w:World) (hx:In B w n x) (hB:B<=w.heap.size) (hN:(nodes n x).length<=2097152):
    Calls Tryz.prog 51 #[val n x] w fun e w'=>e=.returned (.int .i64 (xV n x))/\Below w.heap.size w w':=by
 cases n with
 | zero=>exact hx.elim
 | succ n=>
 exact wU w x.1.1 x.1.2.1 x.1.2.2 x.2.1.1 x.2.2.length x.2.1.2 (bi (n+1) x) (dW (n+1) x) (sz (n+1) x)
  (fun w1 hw=>AA (n+1) x B w1 (hx.below (hw.mono hB)) (Nat.le_trans hB hw.size))
  (fun w1 hw=>Dz (n+1) x B w1 (hx.below (hw.mono hB)) (Nat.le_trans hB hw.size) hN)
  (fun w1 hw=>um (n+1) x B w1 (hx.below (hw.mono hB)) (Nat.le_trans hB hw.size) hN)
theorem jy:(n:Nat)->(x:Tm n)->bi n x=(nodes n x).all good
 | 0,_=>by simp[bi,nodes,good]
 | n+1,x=>by
  have e:(nodes (n+1) x).all good=(good (aO n x) && (x.2.2.flatMap fun y=>nodes n y).all good):=rfl
  rw[e]
  simp only[bi]
  cases hg:good (aO n x)
  ·rfl
  ·rw[Bool.true_and,Bool.true_and]
   by_cases h4:x.1.1=4
   ·rw[h4]
    have key:∀l:List (Tm n),(l.all fun y=>bi n y)=(l.flatMap fun y=>nodes n y).all good:=by
     intro l
     induction l with
     | nil=>rfl
     | cons y l ih=>simp only[List.all_cons,List.flatMap_cons,List.all_append,ih,jy n y]
    rw[key]
    simp
   ·have hl:x.2.2=[]:=by
      unfold good at hg
      simp only[Bool.and_eq_true,Bool.or_eq_true,beq_iff_eq]at hg
      rcases hg.2 with h|h
      ·exact(h4 h).elim
      ·have:¬(0:Int)<(x.2.2.length:Int):=by simpa [aO]using h
       exact List.eq_nil_of_length_eq_zero (by omega)
    rw[hl]
    simp
def ky:List Nd->List Int->Int->Int
 | x::l,d::ds,m=>ky l ds (deeper x d m)
 | _,_,m=>m
theorem yn (z:Int):(l:List Nd)->(ds:List Int)->(m:Int)->l.length=ds.length->oH z l ds m=if l.all good then (if 12<ky l ds m∨200<z then 2 else 0)else 5
 | [],_,_,_=>rfl
 | x::l,[],_,h=>by simp at h
 | x::l,d::ds,m,h=>by
  have ih:=yn z l ds (deeper x d m) (by simpa using h)
  simp only[oH,ky]
  by_cases hg:good x=true
  ·have e:(x::l).all good=l.all good:=by simp[hg]
   rw[if_pos hg,ih]
   by_cases ha:l.all good=true
   ·rw[if_pos ha,if_pos (e.trans ha)];rfl
   ·rw[if_neg ha,if_neg (fun h=>ha (e.symm.trans h))]
  ·rw[if_neg hg,if_neg (fun h=>hg (List.all_eq_true.1 h x (by simp)))]
theorem nP:(l r:List Nd)->(ds es:List Int)->(m:Int)->l.length=ds.length->ky (l++r) (ds++es) m=ky r es (ky l ds m)
 | [],_,[],_,_,_=>rfl
 | [],_,_::_,_,_,h=>by simp at h
 | _::_,_,[],_,_,h=>by simp at h
 | x::l,r,d::ds,es,m,h=>by
  simp only[List.cons_append,ky]
  exact nP l r ds es _ (by simpa using h)
theorem xW {n:Nat} (c:Int):(p:List (Tm n))->(m e:Int)->p.foldl (fun m y=>max m (c+dW n y)) (max m (c+e))=max m (c+p.foldl (fun m y=>max m (dW n y)) e)
 | [],_,_=>rfl
 | y::p,m,e=>by
  simp only[List.foldl_cons]
  have h:max (max m (c+e)) (c+dW n y)=max m (c+max e (dW n y)):=by omega
  rw[h]
  exact xW c p m (max e (dW n y))
theorem yx:(n:Nat)->(x:Tm n)->(d m:Int)->(∀a∈nodes n x,good a=true)->d<=m->ky (nodes n x) (dL n x d) m=max m (d+dW n x)
 | 0,x,_,_,h,_=>by
  have:=h ((0,0,.empty),(none,0,0)) (by simp[nodes])
  rcases gK _ this with g|g|g|g|g|⟨g,_⟩<;>simp at g
 | n+1,x,d,m,h,hm=>by
  have hg:=h (aO n x) (by simp[nodes,aO])
  have key:∀(p:List (Tm n)) (m:Int),(∀y∈p,y∈x.2.2)->d+1<=m->ky (p.flatMap fun y=>nodes n y) (p.flatMap fun y=>dL n y (d+1)) m=p.foldl (fun m y=>max m (d+1+dW n y)) m:=by
   intro p
   induction p with
   | nil=>intro m _ _;rfl
   | cons y p ih=>
    intro m hp hm
    simp only[List.flatMap_cons,List.foldl_cons]
    rw[nP _ _ _ _ _ (eD n y (d+1)).symm,yx n y (d+1) m (fun a ha=>h a (lL (hp y (by simp)) ha)) hm]
    exact ih _ (fun z hz=>hp z (by simp[hz])) (by omega)
  have e:ky (nodes (n+1) x) (dL (n+1) x d) m=ky (x.2.2.flatMap fun y=>nodes n y) (x.2.2.flatMap fun y=>dL n y (d+1)) (deeper (aO n x) d m):=rfl
  rw[e]
  simp only[dW]
  by_cases h4:x.1.1=4
  ·rw[if_pos h4]
   have e1:deeper (aO n x) d m=max m (d+1+0):=by
    unfold deeper aO
    by_cases hlt:m<d+1
    ·rw[if_pos ⟨h4,hlt⟩];omega
    ·rw[if_neg (fun hh=>hlt hh.2)];omega
   rw[e1,key x.2.2 _ (fun _ hy=>hy) (by omega),xW]
   omega
  ·rw[if_neg h4]
   have hl:x.2.2=[]:=by
    unfold good at hg
    simp only[Bool.and_eq_true,Bool.or_eq_true,beq_iff_eq]at hg
    rcases hg.2 with h'|h'
    ·exact(h4 h').elim
    ·have:¬(0:Int)<(x.2.2.length:Int):=by simpa [aO]using h'
     exact List.eq_nil_of_length_eq_zero (by omega)
   have e1:deeper (aO n x) d m=m:=gW _ (fun hh=>h4 hh.1)
   rw[hl,e1]
   simp only[List.flatMap_nil,ky]
   omega
theorem jf (n:Nat) (x:Tm n):xV n x=aP n x:=by
 unfold xV aP
 rw[yn _ _ _ _ (eD n x 0).symm,<-jy n x]
 by_cases hf:bi n x=true
 ·rw[if_pos hf,if_pos hf]
  have hg:∀a∈nodes n x,good a=true:=by
   rw[jy n x]at hf
   exact fun a ha=>List.all_eq_true.1 hf a ha
  have hd:=dY n x
  rw[yx n x 0 0 hg (by omega)]
  have:max (0:Int) (0+dW n x)=dW n x:=by omega
  rw[this]
 ·rw[if_neg hf,if_neg hf]
theorem dS (n:Nat) (x:Tm n) (B:Nat) (w:World) (hx:In B w n x) (hB:B<=w.heap.size) (hN:(nodes n x).length<=2097152):
    Calls Tryz.prog 51 #[val n x] w fun e w'=>e=.returned (.int .i64 (aP n x))/\Below w.heap.size w w':=by
 rw[<-jf]
 exact yI n x B w hx hB hN
def okB (n:Nat) (y:Tm n):Bool:=aP n y==0 && (bE ⟨n,y⟩==6 || ic n y)
def dz (n:Nat) (q:List (Tm n)):Bool:=decide (q.length=4) && q.all (okB n)
def Lies (B:Nat) (w:World) (n:Nat) (q:List (Tm n)) (a:Option Addr):Prop:=
 q=[]∨∃b o,a=some ⟨b,o,none⟩/\b<B/\∀(i:Nat) (y:Tm n),q[i]? =some y->Held w b (o+i*4) n y/\In B w n y
theorem Lies.below {B:Nat} {w w':World} (h:Below B w w') {n:Nat} {q:List (Tm n)} {a:Option Addr} (k:Lies B w n q a):Lies B w' n q a:=by
 rcases k with hp|⟨b,o,e,hb,hp⟩
 ·exact Or.inl hp
 ·exact Or.inr ⟨b,o,e,hb,fun i y hy=>⟨(hp i y hy).1.below h hb,(hp i y hy).2.below h⟩⟩
theorem nY {α:Type} (f:α->Bool) (q:List α) (k:Nat) (y:α) (h:q[k]? =some y):(q.drop k).all f=(f y && (q.drop (k+1)).all f):=by
 obtain⟨h1,e1⟩:=List.getElem?_eq_some_iff.1 h
 rw[List.drop_eq_getElem_cons h1,e1]
 rfl
theorem rA {α:Type} (f:α->Bool) (q:List α) (k:Nat) (y:α) (h:q[k]? =some y):(q.take (k+1)).all f=((q.take k).all f && f y):=by
 rw[List.take_add_one,h]
 simp
theorem Hf (a:Option Addr) (len pc:Nat) (w:World) (_hl:len<=9223372036854775807) (h:((len:Int) !=4)=true):
    Calls Tryz.prog 92 #[.slice a len pc] w fun e w'=>e=.returned (.bool false)/\w'=w:=by
 go_enter Tryz.func92,Tryz.ntmps92
 go_wp2_with fail
 go_ret
 exact⟨rfl,rfl⟩
theorem CL (n:Nat) (q:List (Tm n)) (pb po pc:Nat) (B:Nat) (w:World) (hql:Hid (q.length=4)) (hpb:pb<B)
    (hp:∀(i:Nat) (y:Tm n),q[i]? =some y->Held w pb (po+i*4) n y/\In B w n y) (hN:∀y∈q,(nodes n y).length<=2097152) (hB:B<=w.heap.size):
    Calls Tryz.prog 92 #[.slice (some ⟨pb,po,none⟩) 4 pc] w fun e w'=>e=.returned (.bool (q.all (okB n)))/\Below w.heap.size w w':=by
 go_enter Tryz.func92,Tryz.ntmps92
 go_wp2_with fail
 go_loopw [10] (fun i wr=>∃k:Nat,k<=4/\i=.int .i64 k/\Below w.heap.size w wr/\Hid ((q.drop k).all (okB n)=q.all (okB n))) (fun i _=>4-(intOf i).toNat)
 case atStart=>exact⟨0,by omega,rfl,Below.refl _ _,rfl⟩
 case round=>
  obtain⟨k,hk,rfl,hb,hd⟩:=hrel
  by_cases hlt:k<4
  ·obtain⟨x,hx⟩:∃x,q[k]? =some x:=⟨q[k]'(by rw[hql.out];exact hlt),List.getElem?_eq_getElem _⟩
   have HS:=hide (nY (okB n) q k x hx)
   obtain⟨hx1,hx2⟩:=hp k x hx
   have hNx:=hN x (List.mem_of_getElem? hx)
   replace hx1:=hx1.below (hb.mono hB) hpb
   replace hx2:=hx2.below (hb.mono hB)
   clear hp hx hN
   cases n with
   | zero=>exact hx1.elim
   | succ n=>
   obtain⟨x0,x1,x2,x3⟩:=hx1
   have hB':B<=wr.heap.size:=Nat.le_trans hB hb.size
   have HCK:Hid (∀w1,Below wr.heap.size wr w1->Calls Tryz.prog 51 #[.agg #[.int .i64 x.1.1,.int .i64 x.1.2.1,.string x.1.2.2,.slice x.2.1.1 x.2.2.length x.2.1.2]] w1 fun e w'=>e=.returned (.int .i64 (aP (n+1) x))/\Below w1.heap.size w1 w'):=
    fun w1 h1=>dS (n+1) x B w1 (hx2.below (h1.mono hB')) (Nat.le_trans hB' h1.size) hNx
   have HCL:Hid (∀w1,Below wr.heap.size wr w1->Calls Tryz.prog 52 #[.agg #[.int .i64 x.1.1,.int .i64 x.1.2.1,.string x.1.2.2,.slice x.2.1.1 x.2.2.length x.2.1.2]] w1 fun e w'=>e=.returned (.bool (ai (n+1) x))/\Below w1.heap.size w1 w'):=
    fun w1 h1=>ku (n+1) x B w1 (hx2.below (h1.mono hB')) (Nat.le_trans hB' h1.size)
   have HOK:Hid (okB (n+1) x=(aP (n+1) x==0 && (x.1.1==6 || ai (n+1) x))):=by unfold Hid okB;rw[bZ];rfl
   clear hx2 hNx
   generalize x.2.2.length=xl at*
   generalize ai (n+1) x=cl at*
   generalize aP (n+1) x=ck at*
   generalize okB (n+1) x=ok at*
   have hk1:(0:Int)<=(k:Int):=by omega
   have hk2:(k:Int)<(4:Int):=by omega
   have hpw:pb<wr.heap.size:=by omega
   have HBA:Hid (∀o,Below wr.heap.size wr (wr.alloc o)):=fun o=>(Below.refl _ _).alloc (Nat.le_refl _) _
   go_wp2_with fail
   refine(HCK.out _ (HBA.out _)).mono ?_
   rintro e w1 ⟨rfl,hb1⟩
   obtain⟨⟨t0,t1,t2,t3⟩,_⟩:=boxed hb1
   have HB1:Hid (Below wr.heap.size wr w1):=(HBA.out _).trans (hb1.mono (by simp))
   have HLT:Hid (wr.heap.size<w1.heap.size):=by have:=hb1.size;simp at this;unfold Hid;omega
   clear hb1 x0 x1 x2 x3 HCK
   by_cases hck:ck=0
   ·have hck1:(ck !=0)=false:=by simp[hck]
    have HC0:Hid (ck=0):=hck
    clear hck
    go_wp2_with fail
    refine(iD _ _ _ _ _ _ _).mono ?_
    rintro e w2 ⟨rfl,hb2⟩
    obtain⟨t4,t5,t6,t7⟩:=kK HLT.out hb2 ⟨t0,t1,t2,t3⟩
    have HB2:Hid (Below wr.heap.size wr w2):=HB1.out.trans (hb2.mono HB1.out.size)
    clear hb2 t0 t1 t2 t3
    cases h6:x.1.1==6
    ·simp only[Bool.not_false]
     go_wp2_with fail
     refine(HCL.out _ HB2.out).mono ?_
     rintro e w3 ⟨rfl,hb3⟩
     have hb4:Below w.heap.size w w3:=hb.trans ((HB2.out.trans (hb3.mono HB2.out.size)).mono hb.size)
     clear hb3
     cases cl with
     | true=>
      go_wp2_with fail
      go_roundw
      case rel=>exact⟨k+1,by omega,by go_num,hb4,by rw[<-hd.out,HS.out,HOK.out,HC0.out];simp[Hid]⟩
      case measure=>simp[intOf];omega
     | false=>
      go_wp2_with fail
      go_ret
      exact⟨dD (by rw[<-hd.out,HS.out,HOK.out,HC0.out,h6];simp),hb4⟩
    ·simp only[Bool.not_true]
     have hb4:Below w.heap.size w w2:=hb.trans (HB2.out.mono hb.size)
     go_wp2_with fail
     go_roundw
     case rel=>exact⟨k+1,by omega,by go_num,hb4,by rw[<-hd.out,HS.out,HOK.out,HC0.out,h6];simp[Hid]⟩
     case measure=>simp[intOf];omega
   ·have hck1:(ck !=0)=true:=by simpa using hck
    have HC0:Hid ((ck==0)=false):=by simpa [Hid]using hck
    have hb4:Below w.heap.size w w1:=hb.trans (HB1.out.mono hb.size)
    clear hck
    go_wp2_with fail
    go_ret
    exact⟨dD (by rw[<-hd.out,HS.out,HOK.out,HC0.out];simp),hb4⟩
  ·go_wp2_with fail
   go_ret
   refine⟨dD ?_,hb⟩
   rw[<-hd.out,List.drop_eq_nil_of_le (by rw[hql.out];omega)]
   rfl
theorem zm (n:Nat) (q:List (Tm n)) (a:Option Addr) (pc B:Nat) (w:World) (h:Lies B w n q a) (hl:q.length<=9223372036854775807) (hN:∀y∈q,(nodes n y).length<=2097152) (hB:B<=w.heap.size):
    Calls Tryz.prog 92 #[.slice a q.length pc] w fun e w'=>e=.returned (.bool (dz n q))/\Below w.heap.size w w':=by
 unfold dz
 by_cases h4:q.length=4
 ·rcases h with h|⟨b,o,rfl,hb,hp⟩
  ·rw[h]at h4;simp at h4
  ·have hw:=CL n q b o pc B w h4 hb hp hN hB
   rw[h4]
   simpa using hw
 ·refine(Hf a q.length pc w hl (by simp;omega)).mono ?_
  rintro e w' ⟨rfl,rfl⟩
  exact⟨by simp[h4],Below.refl _ _⟩
def lift:(N:Nat)->(n:Nat)->Tm n->Tm N
 | 0,_,_=>()
 | _+1,0,_=>((0,0,.empty),(none,0),[])
 | N+1,n+1,x=>(x.1,x.2.1,x.2.2.map fun y=>lift N n y)
theorem Cf (N n:Nat) (x:Tm (n+1)):dF (N+1) (lift (N+1) (n+1) x)=dF (n+1) x:=by simp[dF,aO,lift]
theorem oo (N n:Nat) (h:n<=N) (x:Tm n) (w:World) (b o:Nat) (k:Held w b o n x):Held w b o N (lift N n x):=by
 cases n with
 | zero=>exact k.elim
 | succ n=>
  obtain⟨N,rfl⟩:∃M,N=M+1:=⟨N-1,by omega⟩
  obtain⟨k0,k1,k2,k3⟩:=k
  exact⟨k0,k1,k2,by simpa [lift]using k3⟩
theorem fZ:(N n:Nat)->n<=N->(x:Tm n)->(B:Nat)->(w:World)->In B w n x->In B w N (lift N n x)
 | _,0,_,_,_,_,k=>k.elim
 | 0,n+1,h,_,_,_,_=>by omega
 | N+1,n+1,h,x,B,w,k=>by
  obtain⟨k0,k1⟩:=k
  refine⟨by simpa [lift]using k0, ?_⟩
  rcases k1 with k1|⟨b,o,e,hb,k1⟩
  ·exact Or.inl (by simp[lift,k1])
  ·refine Or.inr ⟨b,o,e,hb,fun i y hy=> ?_⟩
   simp only[lift,List.getElem?_map]at hy
   obtain⟨z,hz,rfl⟩:=Option.map_eq_some_iff.1 hy
   exact⟨oo N n (by omega) z w b _ (k1 i z hz).1,fZ N n (by omega) z B w (k1 i z hz).2⟩
theorem jY:(N n:Nat)->n<=N->(x:Tm (n+1))->nodes (N+1) (lift (N+1) (n+1) x)=nodes (n+1) x
 | N,0,_,x=>by
  have:∀l:List (Tm 0),(l.map fun y=>lift N 0 y).flatMap (fun y=>nodes N y)=l.flatMap fun y=>nodes 0 y:=by
   intro l
   induction l with
   | nil=>rfl
   | cons a l ih=>
    simp only[List.map_cons,List.flatMap_cons,ih]
    congr 1
    cases N with
    | zero=>rfl
    | succ N=>simp[lift,nodes]
  simp only[nodes,lift,List.length_map,this]
 | 0,n+1,h,_=>by omega
 | N+1,n+1,h,x=>by
  have:∀l:List (Tm (n+1)),(l.map fun y=>lift (N+1) (n+1) y).flatMap (fun y=>nodes (N+1) y)=l.flatMap fun y=>nodes (n+1) y:=by
   intro l
   induction l with
   | nil=>rfl
   | cons a l ih=>
    simp only[List.map_cons,List.flatMap_cons,ih]
    rw[jY N n (by omega) a]
  have e:nodes (N+2) (lift (N+2) (n+2) x)=(x.1,(x.2.1.1,(x.2.2.map fun y=>lift (N+1) (n+1) y).length,x.2.1.2))::(x.2.2.map fun y=>lift (N+1) (n+1) y).flatMap fun y=>nodes (N+1) y:=rfl
  rw[e,this]
  simp[nodes]
def top (b:List An):Nat:=b.foldr (fun a m=>max a.1 m) 0
theorem vS (b:List An):∀a∈b,a.1<=top b:=by
 induction b with
 | nil=>intro a h;cases h
 | cons c b ih=>
  intro a h
  simp only[top,List.foldr_cons]
  rcases List.mem_cons.1 h with rfl|h
  ·omega
  ·have:=ih a h
   unfold top at this
   omega
def qz (b:List An):List (Tm (top b)):=b.map fun a=>lift (top b) a.1 a.2
theorem zP (b:List An) (i:Nat) (y:Tm (top b)) (h:(qz b)[i]? =some y):∃a,b[i]? =some a/\a.1<=top b/\y=lift (top b) a.1 a.2:=by
 simp only[qz,List.getElem?_map]at h
 obtain⟨a,ha,rfl⟩:=Option.map_eq_some_iff.1 h
 exact⟨a,ha,vS b a (List.mem_of_getElem? ha),rfl⟩
theorem Fw {base g c B:Nat} {b:List An} {w:World} (h:Has base g c b w) (hb:∀y∈b,InA B w y) (hB:B<=w.heap.size):Lies w.heap.size w (top b) (qz b) (some ⟨g,0,none⟩):=by
 refine Or.inr ⟨g,0,rfl,h.lt.2,fun i y hy=> ?_⟩
 obtain⟨a,ha,hle,rfl⟩:=zP b i y hy
 have hin:=hb a (List.mem_of_getElem? ha)
 refine⟨?_,(fZ _ _ hle _ _ _ hin).mono hB⟩
 obtain⟨n,x⟩:=a
 have hc:=h.cells i _ ha
 cases n with
 | zero=>exact hin.elim
 | succ n=>
  rw[Nat.zero_add]
  exact oo _ _ hle x w g (i*4) hc
theorem CV {b:List An} (h:∀y∈b,ak y/\y.1≠0):∀y∈qz b,ak ⟨top b,y⟩:=by
 intro y hy
 obtain⟨i,hi⟩:=List.getElem?_of_mem hy
 obtain⟨a,ha,hle,rfl⟩:=zP b i y hi
 have hr:=h a (List.mem_of_getElem? ha)
 obtain⟨n,x⟩:=a
 cases n with
 | zero=>exact(hr.2 rfl).elim
 | succ n=>
  intro z hz
  clear hi hy ha h
  generalize top b=T at*
  obtain⟨M,rfl⟩:∃M,T=M+1:=⟨T-1,by simp only at hle;omega⟩
  have e:=jY M n (by simp only at hle;omega) x
  simp only at hz
  rw[e]at hz
  exact hr.1 z hz
theorem eY {α β:Type} (f:α->β->Bool):(p:List α)->(q:List β)->(x:α)->(y:β)->aj f p q=true->f x y=true->aj f (p++ [x]) (q++ [y])=true
 | [],[],x,y,_,h=>by simp[aj,h]
 | [],_::_,_,_,h,_=>by simp[aj]at h
 | _::_,[],_,_,h,_=>by simp[aj]at h
 | a::p,b::q,x,y,h,k=>by
  simp only[aj,Bool.and_eq_true,List.cons_append]at h ⊢
  exact⟨h.1,eY f p q x y h.2 k⟩
theorem bM {α β:Type} (f:α->β->Bool):(p:List α)->(q:List β)->aj f p q=true->p.length=q.length
 | [],[],_=>rfl
 | [],_::_,h=>by simp[aj]at h
 | _::_,[],h=>by simp[aj]at h
 | a::p,b::q,h=>by
  simp only[aj,Bool.and_eq_true]at h
  simp[bM f p q h.2]
def zA:An:=⟨1,((0,0,.empty),(none,0),[])⟩
theorem DN (n:Nat):(madeCells #[.int .i64 0,.int .i64 0,.string .empty,.slice none 0 0] (n*4)).toList=cK (List.replicate n zA):=by
 apply List.ext_getElem?
 intro i
 by_cases h:i<n*4
 ·obtain⟨k,j,hj,rfl⟩:∃k j,j<4/\i=k*4+j:=⟨i / 4,i % 4,Nat.mod_lt _ (by decide),by omega⟩
  have hk:k<n:=by omega
  have e:(cK (List.replicate n zA))[k*4+j]? =(kG (iW zA))[j]? :=gI _ k (iW zA) (by simp[hk]) j hj
  rw[e]
  have e2:(madeCells #[.int .i64 0,.int .i64 0,.string .empty,.slice none 0 0] (n*4))[k*4+j]? =some ((#[.int .i64 0,.int .i64 0,.string .empty,.slice none 0 0]:Array Value)[(k*4+j) % 4]!):=by
   simp[madeCells,h]
  rw[Array.getElem?_toList,e2,show (k*4+j) % 4=j by omega]
  have:j=0∨j=1∨j=2∨j=3:=by omega
  rcases this with rfl|rfl|rfl|rfl<;>rfl
 ·rw[List.getElem?_eq_none (by simp[size_madeCells];omega),List.getElem?_eq_none (by rw[fI];simp;omega)]
def CpP (n:Nat) (p:List (Tm n)) (len g k:Nat) (l:List (Tm n)) (wr:World):Prop:=
 l.length=k/\Has g g len (l.map (fun x=>(⟨n,x⟩:An))++List.replicate (len-k) zA) wr/\(∀y∈l,In wr.heap.size wr n y/\Off (fun q=>g<q) n y)/\aj (fun a b=>same n a n b) l (p.take k)=true
theorem CpP.step {n:Nat} {p:List (Tm n)} {len g k:Nat} {l:List (Tm n)} {wr w1:World} (h:CpP n p len g k l wr) (hk:k<len) (x:Tm n) (hx:p[k]? =some x) (hb:Below wr.heap.size wr w1) (y:Tm n) (hy:In w1.heap.size w1 n y) (ho:Off (fun q=>g<q) n y) (hs:same n y n x=true):
    CpP n p len g (k+1) (l++ [y]) (fF w1 g (k*4) (dF n y)):=by
 obtain⟨h1,h2,h3,h4⟩:=h
 have hg:=(h2.below hb).put k ⟨n,y⟩ (by simp;omega)
 have e:(l.map (fun x=>(⟨n,x⟩:An))++List.replicate (len-k) zA).set k ⟨n,y⟩=(l++ [y]).map (fun x=>(⟨n,x⟩:An))++List.replicate (len-(k+1)) zA:=by
  rw[List.set_append_right _ _ (by simp;omega)]
  have:len-k=(len-(k+1))+1:=by omega
  rw[this,List.replicate_succ]
  simp[h1]
 rw[e]at hg
 refine⟨by simp[h1],hg, ?_, ?_⟩
 ·intro z hz
  have hsz:(fF w1 g (k*4) (dF n y)).heap.size=w1.heap.size:=aF _ _ _ _
  rw[hsz]
  rcases List.mem_append.1 hz with hz|hz
  ·exact⟨In.off (fun q hq=>au (by omega) _ _ _ _) (h3 z hz).2 (((h3 z hz).1.below hb).mono hb.size),(h3 z hz).2⟩
  ·simp only[List.mem_singleton]at hz
   subst hz
   exact⟨In.off (fun q hq=>au (by omega) _ _ _ _) ho hy,ho⟩
 ·rw[List.take_add_one,hx]
  exact eY _ _ _ _ _ h4 hs
def CpRow (n:Nat) (p:List (Tm n)) (w w':World) (a:Option Addr) (c:Nat) (l:List (Tm n)):Prop:=
 Below w.heap.size w w'/\l.length=p.length/\l.length<=c/\c<=maxLen/\aj (fun a b=>same n a n b) l p=true/\
 (l=[]∨∃b o,a=some ⟨b,o,none⟩/\(w.heap.size<=b/\o=0/\(∀j,w'.frozen? ⟨b,j,none⟩=false)/\∀y∈l,Off (fun q=>q≠b) n y)/\b<w'.heap.size/\∀(i:Nat) (y:Tm n),l[i]? =some y->Held w' b (o+i*4) n y/\In w'.heap.size w' n y/\Off (fun q=>w.heap.size<=q) n y)
theorem CpP.done {n:Nat} {p:List (Tm n)} {len k:Nat} {l:List (Tm n)} {w wr:World} (h:CpP n p len w.heap.size k l wr) (hl:p.length=len) (hk:k=len) (hb:Below w.heap.size w wr) (hm:len<=maxLen):
    CpRow n p w wr (some ⟨w.heap.size,0,none⟩) len l:=by
 obtain⟨h1,h2,h3,h4⟩:=h
 subst hk
 rw[List.take_of_length_le (by omega)]at h4
 rw[Nat.sub_self,List.replicate_zero,List.append_nil]at h2
 refine⟨hb,by omega,by omega,hm,h4,Or.inr ⟨w.heap.size,0,rfl,⟨Nat.le_refl _,rfl,fun j=>h2.free j,fun y hy=>(h3 y hy).2.mono fun q hq=>by omega⟩,h2.lt.2,fun i y hy=>⟨?_,(h3 y (List.mem_of_getElem? hy)).1,(h3 y (List.mem_of_getElem? hy)).2.mono fun q hq=>by omega⟩⟩⟩
 have hc:=h2.cells i ⟨n,y⟩ (by simp[hy])
 have hin:=(h3 y (List.mem_of_getElem? hy)).1
 cases n with
 | zero=>exact hin.elim
 | succ n=>
  rw[Nat.zero_add]
  exact hc
def KC (n:Nat):Prop:=∀(x:Tm n) (B:Nat) (w:World),In B w n x->B<=w.heap.size->ak ⟨n,x⟩->
 Calls Tryz.prog 62 #[val n x] w fun e w'=>∃y:Tm n,e=.returned (val n y)/\Hid (Below w.heap.size w w'/\In w'.heap.size w' n y/\Off (fun q=>w.heap.size<=q) n y/\same n y n x=true)
theorem Gq {s t:ByteArray} (h:(s.toList==t.toList)=true):s=t:=by
 have h1:s.toList=t.toList:=by simpa using h
 rw[ByteArray.toList_eq,ByteArray.toList_eq]at h1
 cases s;cases t
 simp only at h1
 rw[Array.toList_inj.1 h1]
theorem bQ {n m:Nat} {x:Tm (n+1)} {y:Tm (m+1)} (h:same (n+1) x (m+1) y=true):x.1=y.1/\aj (fun a b=>same n a m b) x.2.2 y.2.2=true:=by
 simp only[same,Bool.and_eq_true,beq_iff_eq]at h
 obtain⟨⟨⟨h1,h2⟩,h3⟩,h4⟩:=h
 refine⟨?_,h4⟩
 have h5:=Gq (s:=x.1.2.2) (t:=y.1.2.2) (by simpa using h3)
 exact Prod.ext h1 (Prod.ext h2 h5)
theorem bX {n m:Nat} {x:Tm (n+1)} {y:Tm (m+1)} (h:x.1=y.1) (k:aj (fun a b=>same n a m b) x.2.2 y.2.2=true):same (n+1) x (m+1) y=true:=by
 simp only[same,h,k]
 simp
theorem mH {α β:Type} (f:α->β->Bool) (g:β->α->Bool):(p:List α)->(q:List β)->(∀a∈p,∀b,f a b=true->g b a=true)->aj f p q=true->aj g q p=true
 | [],[],_,_=>rfl
 | [],_::_,_,h=>by simp[aj]at h
 | _::_,[],_,h=>by simp[aj]at h
 | a::p,b::q,hf,h=>by
  simp only[aj,Bool.and_eq_true]at h ⊢
  exact⟨hf a (by simp) b h.1,mH f g p q (fun a' ha=>hf a' (List.mem_cons_of_mem _ ha)) h.2⟩
theorem dw:(n:Nat)->(x:Tm n)->(m:Nat)->(y:Tm m)->same n x m y=true->same m y n x=true
 | 0,_,_,_,h=>by simp[same]at h
 | _+1,_,0,_,h=>by simp[same]at h
 | n+1,x,m+1,y,h=>by
  obtain⟨h1,h2⟩:=bQ h
  exact bX h1.symm (mH _ _ _ _ (fun a _ b hab=>dw n a m b hab) h2)
theorem kS {α β γ:Type} (f:α->β->Bool) (g:β->γ->Bool) (k:α->γ->Bool):(p:List α)->(q:List β)->(r:List γ)->(∀a∈p,∀b c,f a b=true->g b c=true->k a c=true)->aj f p q=true->aj g q r=true->aj k p r=true
 | [],[],[],_,_,_=>rfl
 | [],[],_::_,_,_,h=>by simp[aj]at h
 | [],_::_,_,_,h,_=>by simp[aj]at h
 | _::_,[],_,_,h,_=>by simp[aj]at h
 | _::_,_::_,[],_,_,h=>by simp[aj]at h
 | a::p,b::q,c::r,hf,h1,h2=>by
  simp only[aj,Bool.and_eq_true]at h1 h2 ⊢
  exact⟨hf a (by simp) b c h1.1 h2.1,kS f g k p q r (fun a' ha=>hf a' (List.mem_cons_of_mem _ ha)) h1.2 h2.2⟩
theorem bL:(n:Nat)->(x:Tm n)->(m:Nat)->(y:Tm m)->(l:Nat)->(z:Tm l)->same n x m y=true->same m y l z=true->same n x l z=true
 | 0,_,_,_,_,_,h,_=>by simp[same]at h
 | _+1,_,0,_,_,_,h,_=>by simp[same]at h
 | _+1,_,_+1,_,0,_,_,h=>by simp[same]at h
 | n+1,x,m+1,y,l+1,z,h,k=>by
  obtain⟨h1,h2⟩:=bQ h
  obtain⟨k1,k2⟩:=bQ k
  exact bX (h1.trans k1) (kS _ _ _ _ _ _ (fun a _ b c hab hbc=>bL n a m b l c hab hbc) h2 k2)
theorem gP {α:Type} (f:α->α->Bool):(p:List α)->(∀a∈p,f a a=true)->aj f p p=true
 | [],_=>rfl
 | a::p,h=>by
  simp only[aj,Bool.and_eq_true]
  exact⟨h a (by simp),gP f p fun a' ha=>h a' (List.mem_cons_of_mem _ ha)⟩
theorem eu:(n:Nat)->(x:Tm n)->ak ⟨n,x⟩->same n x n x=true
 | 0,_,h=>(bW h).elim
 | n+1,x,h=>bX rfl (gP _ _ fun y hy=>eu n y (aH n x y h hy))
theorem ax {n:Nat} {x:Tm n}:ak ⟨n,x⟩ ↔ bi n x=true:=by
 rw[jy,List.all_eq_true]
 exact Iff.rfl
theorem Io {x:Int×Int×ByteArray} {a b:Option Addr} {l c d:Nat}:good (x,(a,l,c))=good (x,(b,l,d)):=rfl
theorem oq {α β:Type} (f:α->β->Bool) (g:α->Bool) (k:β->Bool):(p:List α)->(q:List β)->(∀a∈p,∀b,f a b=true->g a=k b)->aj f p q=true->p.all g=q.all k
 | [],[],_,_=>rfl
 | [],_::_,_,h=>by simp[aj]at h
 | _::_,[],_,h=>by simp[aj]at h
 | a::p,b::q,hf,h=>by
  simp only[aj,Bool.and_eq_true]at h
  simp only[List.all_cons,hf a (by simp) b h.1,oq f g k p q (fun a' ha=>hf a' (List.mem_cons_of_mem _ ha)) h.2]
theorem iQ {α β γ:Type} (f:α->β->Bool) (g:α->γ) (k:β->γ):(p:List α)->(q:List β)->(∀a∈p,∀b,f a b=true->g a=k b)->aj f p q=true->p.map g=q.map k
 | [],[],_,_=>rfl
 | [],_::_,_,h=>by simp[aj]at h
 | _::_,[],_,h=>by simp[aj]at h
 | a::p,b::q,hf,h=>by
  simp only[aj,Bool.and_eq_true]at h
  simp only[List.map_cons,hf a (by simp) b h.1,iQ f g k p q (fun a' ha=>hf a' (List.mem_cons_of_mem _ ha)) h.2]
theorem sW {α:Type} (g:α->Int):(p:List α)->(i:Int)->p.foldl (fun m y=>max m (g y)) i=(p.map g).foldl max i
 | [],_=>rfl
 | a::p,i=>by simp only[List.foldl_cons,List.map_cons];exact sW g p _
theorem bI:(n:Nat)->(x:Tm n)->(m:Nat)->(y:Tm m)->same n x m y=true->ai n x=ai m y
 | 0,_,_,_,h=>by simp[same]at h
 | _+1,_,0,_,h=>by simp[same]at h
 | n+1,x,m+1,y,h=>by
  obtain⟨h1,h2⟩:=bQ h
  simp only[ai,h1]
  rw[oq _ _ _ _ _ (fun a _ b hab=>bI n a m b hab) h2]
theorem iw:(n:Nat)->(x:Tm n)->(m:Nat)->(y:Tm m)->same n x m y=true->bi n x=bi m y
 | 0,_,_,_,h=>by simp[same]at h
 | _+1,_,0,_,h=>by simp[same]at h
 | n+1,x,m+1,y,h=>by
  obtain⟨h1,h2⟩:=bQ h
  have e:good (aO n x)=good (aO m y):=by
   have hl:=bM _ _ _ h2
   unfold aO
   rw[h1,hl]
   exact Io
  simp only[bi,e,h1]
  rw[oq _ _ _ _ _ (fun a _ b hab=>iw n a m b hab) h2]
theorem jV:(n:Nat)->(x:Tm n)->(m:Nat)->(y:Tm m)->same n x m y=true->sz n x=sz m y
 | 0,_,_,_,h=>by simp[same]at h
 | _+1,_,0,_,h=>by simp[same]at h
 | n+1,x,m+1,y,h=>by
  obtain⟨h1,h2⟩:=bQ h
  simp only[sz,h1]
  rw[iQ _ (fun y=>1+sz n y) (fun y=>1+sz m y) _ _ (fun a _ b hab=>by rw[jV n a m b hab]) h2]
theorem xq:(n:Nat)->(x:Tm n)->(m:Nat)->(y:Tm m)->same n x m y=true->dW n x=dW m y
 | 0,_,_,_,h=>by simp[same]at h
 | _+1,_,0,_,h=>by simp[same]at h
 | n+1,x,m+1,y,h=>by
  obtain⟨h1,h2⟩:=bQ h
  simp only[dW,h1]
  rw[sW (fun y=>dW n y),sW (fun y=>dW m y),iQ _ (fun y=>dW n y) (fun y=>dW m y) _ _ (fun a _ b hab=>xq n a m b hab) h2]
theorem bu {n m:Nat} {x:Tm n} {y:Tm m} (h:same n x m y=true):aP n x=aP m y:=by
 rw[<-jf,<-jf]
 unfold xV
 rw[iw n x m y h,jV n x m y h,xq n x m y h]
theorem oJ {n m:Nat} {x:Tm n} {y:Tm m} (h:same n x m y=true):bE ⟨n,x⟩=bE ⟨m,y⟩:=by
 cases n with
 | zero=>simp[same]at h
 | succ n=>
  cases m with
  | zero=>simp[same]at h
  | succ m=>
   have:=(bQ h).1
   simp only[bE,this]
theorem iY {α β:Type} (f:α->β->Bool):(p:List α)->(q:List β)->aj f p q=true->∀(i:Nat) (a:α) (b:β),p[i]? =some a->q[i]? =some b->f a b=true
 | [],_,_,i,a,b,ha,_=>by simp at ha
 | _::_,[],h,_,_,_,_,_=>by simp[aj]at h
 | a::p,b::q,h,0,a',b',ha,hb=>by
  simp only[aj,Bool.and_eq_true]at h
  simp at ha hb
  subst ha hb
  exact h.1
 | a::p,b::q,h,i+1,a',b',ha,hb=>by
  simp only[aj,Bool.and_eq_true]at h
  exact iY f p q h.2 i a' b' (by simpa using ha) (by simpa using hb)
theorem jc {α β:Type} (f:β->α->Bool) (g:α->β):(p:List α)->(∀a∈p,f (g a) a=true)->aj f (p.map g) p=true
 | [],_=>rfl
 | a::p,h=>by
  simp only[List.map_cons,aj,Bool.and_eq_true]
  exact⟨h a (by simp),jc f g p fun a' ha=>h a' (List.mem_cons_of_mem _ ha)⟩
theorem eH:(N n:Nat)->n<=N->(x:Tm n)->ak ⟨n,x⟩->same N (lift N n x) n x=true
 | _,0,_,_,h=>(bW h).elim
 | 0,n+1,h,_,_=>by omega
 | N+1,n+1,h,x,hr=>bX rfl (jc _ _ _ fun y hy=>eH N n (by omega) y (aH n x y hr hy))
end Go.Proofs.YtbknffhilfoakaaGreat
