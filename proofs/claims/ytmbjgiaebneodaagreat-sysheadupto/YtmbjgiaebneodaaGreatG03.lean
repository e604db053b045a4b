/- What is proved here: plain facts and contracts that the claimed theorem stands on. No condition but those that each names. -/
import Derived.Test.YtmbjgiaebneodaaGreatG02
namespace Go.Proofs.YtmbjgiaebneodaaGreat
open Go.RowKit
set_option maxHeartbeats 400000
theorem yH (z:Int):(l:List Nd)->(ds:List Int)->(m:Int)->l.length=ds.length->AZ z l ds m=0->∀y∈l,good y=true
 | [],_,_,_,_=>by simp
 | x::l,[],_,h,_=>by simp at h
 | x::l,d::ds,m,h,h0=>by
  simp only[AZ]at h0
  by_cases hg:good x=true
  ·rw[if_pos hg]at h0
   intro y hy
   rcases List.mem_cons.1 hy with rfl|hy
   ·exact hg
   ·exact yH z l ds _ (by simpa using h) h0 y hy
  ·rw[if_neg hg]at h0
   cases h0
theorem qA (n:Nat) (x:Tm n) (h:aQ n x=0):∀y∈nodes n x,good y=true:=
 yH _ _ _ _ (jc n x 0).symm h
theorem mV {n:Nat} {x:Tm (n+1)} {y:Tm n} (h:y∈x.2.2) {a:Nd} (ha:a∈nodes n y):a∈nodes (n+1) x:=by
 simp only[nodes,List.mem_cons,List.mem_flatMap]
 exact Or.inr ⟨y,h,ha⟩
theorem jr (x:Nd) (h:good x=true):x.1.1=1∨x.1.1=2∨x.1.1=3∨x.1.1=4∨x.1.1=5∨(x.1.1=6/\x.1.2.1=0):=by
 by_cases h1:x.1.1=1
 ·exact Or.inl h1
 by_cases h2:x.1.1=2
 ·exact Or.inr (Or.inl h2)
 by_cases h3:x.1.1=3
 ·exact Or.inr (Or.inr (Or.inl h3))
 by_cases h4:x.1.1=4
 ·exact Or.inr (Or.inr (Or.inr (Or.inl h4)))
 by_cases h5:x.1.1=5
 ·exact Or.inr (Or.inr (Or.inr (Or.inr (Or.inl h5))))
 by_cases h6:x.1.1=6
 ·refine Or.inr (Or.inr (Or.inr (Or.inr (Or.inr ⟨h6, ?_⟩))))
  unfold good at h
  rw[if_neg h1,if_neg h2,if_neg h3,if_neg h4,if_neg h5,if_pos h6]at h
  simp only[Bool.and_eq_true,beq_iff_eq]at h
  exact h.1.2
 ·unfold good at h
  rw[if_neg h1,if_neg h2,if_neg h3,if_neg h4,if_neg h5,if_neg h6]at h
  cases h
def ah {α β:Type} (f:α->β->Bool):List α->List β->Bool
 | [],[]=>true
 | a::p,b::q=>f a b && ah f p q
 | _,_=>false
def same:(n:Nat)->Tm n->(m:Nat)->Tm m->Bool
 | n+1,x,m+1,y=>x.1.1==y.1.1 && x.1.2.1==y.1.2.1 && x.1.2.2.toList==y.1.2.2.toList && ah (fun a b=>same n a m b) x.2.2 y.2.2
 | _,_,_,_=>false
theorem dH {a b:Bool} (h:a=b):Ending.returned (.bool a)=.returned (.bool b):=by rw[h]
theorem EU {α β:Type} (f:α->β->Bool) (p:List α) (q:List β) (k:Nat) (a:α) (b:β) (ha:p[k]? =some a) (hb:q[k]? =some b):
    ah f (p.drop k) (q.drop k)=(f a b && ah f (p.drop (k+1)) (q.drop (k+1))):=by
 obtain⟨h1,e1⟩:=List.getElem?_eq_some_iff.1 ha
 obtain⟨h2,e2⟩:=List.getElem?_eq_some_iff.1 hb
 rw[List.drop_eq_getElem_cons h1,List.drop_eq_getElem_cons h2,e1,e2]
 rfl
theorem wL {α β:Type} (f:α->β->Bool):(p:List α)->(q:List β)->¬p.length=q.length->ah f p q=false
 | [],[],h=>by simp at h
 | [],_::_,_=>rfl
 | _::_,[],_=>rfl
 | a::p,b::q,h=>by
  simp only[ah]
  rw[wL f p q (by simpa using h)]
  simp
def Kn (n:Nat):Prop:=∀(x:Tm n) (m:Nat) (y:Tm m) (B:Nat) (w:World),In B w n x->In B w m y->B<=w.heap.size->
 Calls Tryz.prog 16 #[val n x,val m y] w fun e w'=>e=.returned (.bool (same n x m y))/\Below w.heap.size w w'
theorem LJ (p q:Nat) (a c:Option Addr) (pc qc:Nat) (w:World) (_hpc:p<=9223372036854775807) (_hqc:q<=9223372036854775807) (hl:((p:Int)==(q:Int))=false):
    Calls Tryz.prog 54 #[.slice a p pc,.slice c q qc,.func (Fn.func 16) #[] #[]] w fun e w'=>e=.returned (.bool false)/\w'=w:=by
 have hl':((p:Int) !=(q:Int))=true:=by simpa using hl
 go_enter Tryz.func54,Tryz.ntmps54
 go_wp2_with fail
 go_ret
 exact⟨rfl,rfl⟩
theorem xE (a c:Option Addr) (pc qc:Nat) (w:World):
    Calls Tryz.prog 54 #[.slice a 0 pc,.slice c 0 qc,.func (Fn.func 16) #[] #[]] w fun e w'=>e=.returned (.bool true)/\w'=w:=by
 go_enter Tryz.func54,Tryz.ntmps54
 go_wp2_with fail
 go_loop [17] (fun i=>i=.int .i64 0) (fun _=>0)
 case atStart=>rfl
 case round=>
  obtain rfl:=hrel
  go_wp2_with fail
  go_ret
  exact⟨rfl,rfl⟩
theorem JU (n m:Nat) (ih:Kn n) (p:List (Tm n)) (q:List (Tm m)) (len:Nat) (hpl:Hid (p.length=len)) (hql:Hid (q.length=len)) (pb po qb qo pc qc:Nat) (B:Nat) (w:World)
    (hlen:len<=9223372036854775807) (hpb:pb<B) (hqb:qb<B)
    (hp:∀(i:Nat) (y:Tm n),p[i]? =some y->Held w pb (po+i*4) n y/\In B w n y)
    (hq:∀(i:Nat) (y:Tm m),q[i]? =some y->Held w qb (qo+i*4) m y/\In B w m y)
    (hB:B<=w.heap.size):
    Calls Tryz.prog 54 #[.slice (some ⟨pb,po,none⟩) len pc,.slice (some ⟨qb,qo,none⟩) len qc,.func (Fn.func 16) #[] #[]] w fun e w'=>
     e=.returned (.bool (ah (fun a b=>same n a m b) p q))/\Below w.heap.size w w':=by
 go_enter Tryz.func54,Tryz.ntmps54
 go_wp2_with fail
 go_loopw [17] (fun i wr=>∃k:Nat,k<=len/\i=.int .i64 k/\Below w.heap.size w wr/\Hid (ah (fun a b=>same n a m b) (p.drop k) (q.drop k)=ah (fun a b=>same n a m b) p q)) (fun i _=>len-(intOf i).toNat)
 case atStart=>exact⟨0,by omega,rfl,Below.refl _ _,rfl⟩
 case round=>
  obtain⟨k,hk,rfl,hb,hd⟩:=hrel
  by_cases hlt:k<len
  ·obtain⟨x,hx⟩:∃x,p[k]? =some x:=⟨p[k]'(by rw[hpl.out];exact hlt),List.getElem?_eq_getElem _⟩
   obtain⟨y,hy⟩:∃y,q[k]? =some y:=⟨q[k]'(by rw[hql.out];exact hlt),List.getElem?_eq_getElem _⟩
   obtain⟨hx1,hx2⟩:=hp k x hx
   obtain⟨hy1,hy2⟩:=hq k y hy
   have HS:=hide (EU (fun a b=>same n a m b) p q k x y hx hy)
   replace hx1:=hx1.below (hb.mono hB) hpb
   replace hy1:=hy1.below (hb.mono hB) hqb
   replace hx2:=hx2.below (hb.mono hB)
   replace hy2:=hy2.below (hb.mono hB)
   clear hp hq hx hy
   cases n with
   | zero=>exact hx1.elim
   | succ n=>
   cases m with
   | zero=>exact hy1.elim
   | succ m=>
   obtain⟨x0,x1,x2,x3⟩:=hx1
   obtain⟨y0,y1,y2,y3⟩:=hy1
   have hB':B<=wr.heap.size:=Nat.le_trans hB hb.size
   have HC:Hid (∀(w1:World),Below wr.heap.size wr w1->Calls Tryz.prog 16 #[.agg #[.int .i64 x.1.1,.int .i64 x.1.2.1,.string x.1.2.2,.slice x.2.1.1 x.2.2.length x.2.1.2],.agg #[.int .i64 y.1.1,.int .i64 y.1.2.1,.string y.1.2.2,.slice y.2.1.1 y.2.2.length y.2.1.2]] w1 fun e w'=>e=.returned (.bool (same (n+1) x (m+1) y))/\Below w1.heap.size w1 w'):=
    fun w1 h1=>ih x (m+1) y B w1 (hx2.below (h1.mono hB')) (hy2.below (h1.mono hB')) (Nat.le_trans hB' h1.size)
   clear ih hx2 hy2
   replace HS:Hid (ah (fun a b=>same (n+1) a (m+1) b) (p.drop k) (q.drop k)=(same (n+1) x (m+1) y && ah (fun a b=>same (n+1) a (m+1) b) (p.drop (k+1)) (q.drop (k+1)))):=HS
   generalize same (n+1) x (m+1) y=r at*
   generalize x.2.2.length=xl at*
   generalize y.2.2.length=yl at*
   have hk1:(0:Int)<=(k:Int):=by omega
   have hk2:(k:Int)<(len:Int):=by omega
   have hpw:pb<wr.heap.size:=by omega
   have hqw:qb<wr.heap.size:=by omega
   go_wp2_with fail
   refine(HC.out _ (((Below.refl _ _).alloc (Nat.le_refl _) _).alloc (by simp) _)).mono ?_
   rintro e w1 ⟨rfl,hb1⟩
   have hb2:Below w.heap.size w w1:=(hb.trans ((((Below.refl _ _).alloc (Nat.le_refl _) _).alloc (by simp) _).mono hb.size)).trans (hb1.mono (by have:=hb.size;simp;omega))
   clear hb1
   cases r with
   | true=>
    go_wp2_with fail
    go_roundw
    case rel=>exact⟨k+1,by omega,by go_num,hb2,by rw[<-hd.out,HS.out];rfl⟩
    case measure=>simp[intOf];omega
   | false=>
    go_wp2_with fail
    go_ret
    exact⟨dH (by rw[<-hd.out,HS.out];rfl),hb2⟩
  ·go_wp2_with fail
   go_ret
   refine⟨dH ?_,hb⟩
   rw[<-hd.out,List.drop_eq_nil_of_le (by rw[hpl.out];omega),List.drop_eq_nil_of_le (by rw[hql.out];omega)]
   rfl
theorem wZ (n m:Nat) (ih:Kn n) (p:List (Tm n)) (q:List (Tm m)) (a c:Option Addr) (pc qc:Nat) (B:Nat) (w:World)
    (hp:p=[]∨∃b o,a=some ⟨b,o,none⟩/\b<B/\∀(i:Nat) (y:Tm n),p[i]? =some y->Held w b (o+i*4) n y/\In B w n y)
    (hq:q=[]∨∃b o,c=some ⟨b,o,none⟩/\b<B/\∀(i:Nat) (y:Tm m),q[i]? =some y->Held w b (o+i*4) m y/\In B w m y)
    (hpl:p.length<=9223372036854775807) (hql:q.length<=9223372036854775807) (hB:B<=w.heap.size):
    Calls Tryz.prog 33 #[.slice a p.length pc,.slice c q.length qc] w fun e w'=>e=.returned (.bool (ah (fun a b=>same n a m b) p q))/\Below w.heap.size w w':=by
 have HE:Hid (Calls Tryz.prog 54 #[.slice a p.length pc,.slice c q.length qc,.func (Fn.func 16) #[] #[]] w fun e w'=>
   e=.returned (.bool (ah (fun a b=>same n a m b) p q))/\Below w.heap.size w w'):=by
  by_cases hl:p.length=q.length
  ·rcases hp with hp|⟨pb,po,rfl,hpb,hp⟩
   ·subst hp
    have hq0:q=[]:=List.eq_nil_of_length_eq_zero hl.symm
    subst hq0
    refine(xE a c pc qc w).mono ?_
    rintro e w' ⟨rfl,rfl⟩
    exact⟨rfl,Below.refl _ _⟩
   ·rcases hq with hq|⟨qb,qo,rfl,hqb,hq⟩
    ·subst hq
     have hp0:p=[]:=List.eq_nil_of_length_eq_zero hl
     subst hp0
     refine(xE _ c pc qc w).mono ?_
     rintro e w' ⟨rfl,rfl⟩
     exact⟨rfl,Below.refl _ _⟩
    ·have h:=JU n m ih p q p.length rfl hl.symm pb po qb qo pc qc B w (by omega) hpb hqb hp hq hB
     rw[hl]at h
     rw[hl]
     exact h
  ·rw[wL _ _ _ hl]
   refine(LJ p.length q.length a c pc qc w hpl hql (by simp;omega)).mono ?_
   rintro e w' ⟨rfl,rfl⟩
   exact⟨rfl,Below.refl _ _⟩
 clear hp hq ih hpl hql hB
 generalize p.length=pl at*
 generalize q.length=ql at*
 generalize ah (fun a b=>same n a m b) p q=r at*
 go_enter Tryz.func33,Tryz.ntmps33
 go_wp2_with fail
 refine HE.out.mono ?_
 rintro e w1 ⟨rfl,hb1⟩
 go_wp2_with fail
 go_ret
 exact⟨rfl,hb1⟩
theorem Jh (w:World) (k k' u u':Int) (s s':ByteArray) (a a':Option Addr) (l l' c c':Nat) (r:Bool)
    (H:Hid (∀w1:World,Below w.heap.size w w1->Calls Tryz.prog 33 #[.slice a l c,.slice a' l' c'] w1 fun e w'=>e=.returned (.bool r)/\Below w1.heap.size w1 w')):
    Calls Tryz.prog 16 #[.agg #[.int .i64 k,.int .i64 u,.string s,.slice a l c],.agg #[.int .i64 k',.int .i64 u',.string s',.slice a' l' c']] w fun e w'=>e=.returned (.bool (k==k' && u==u' && s.toList==s'.toList && r))/\Below w.heap.size w w':=by
 cases h1:k==k'
 ·go_enter Tryz.func16,Tryz.ntmps16
  go_wp2_with fail
  go_ret
  exact⟨rfl,((Below.refl _ _).alloc (Nat.le_refl _) _).alloc (by simp) _⟩
 cases h2:u==u'
 ·go_enter Tryz.func16,Tryz.ntmps16
  go_wp2_with fail
  go_ret
  exact⟨rfl,((Below.refl _ _).alloc (Nat.le_refl _) _).alloc (by simp) _⟩
 cases h3:s.toList==s'.toList
 ·go_enter Tryz.func16,Tryz.ntmps16
  go_wp2_with fail
  go_ret
  exact⟨rfl,((Below.refl _ _).alloc (Nat.le_refl _) _).alloc (by simp) _⟩
 go_enter Tryz.func16,Tryz.ntmps16
 go_wp2_with fail
 refine(H.out _ (((Below.refl _ _).alloc (Nat.le_refl _) _).alloc (by simp) _)).mono ?_
 rintro e w1 ⟨rfl,hb1⟩
 go_wp2_with fail
 all_goals go_ret
 all_goals exact⟨rfl,(((Below.refl _ _).alloc (Nat.le_refl _) _).alloc (by simp) _).trans (hb1.mono (by simp;omega))⟩
theorem Cs (n:Nat):Kn n:=by
 induction n with
 | zero=>intro x m y B w hx;exact hx.elim
 | succ n ih=>
  intro x m y B w hx hy hB
  cases m with
  | zero=>exact hy.elim
  | succ m=>
  obtain⟨⟨k,u,s⟩,⟨a,pc⟩,p⟩:=x
  obtain⟨⟨k',u',s'⟩,⟨a',qc⟩,q⟩:=y
  obtain⟨⟨_,_,_,hpl,hpc⟩,hp⟩:=hx
  obtain⟨⟨_,_,_,hql,hqc⟩,hq⟩:=hy
  simp only at hpl hpc hp hql hqc hq
  unfold maxLen at hpc hqc
  refine Jh w k k' u u' s s' a a' p.length q.length pc qc _ (fun w1 hw=>wZ n m ih p q a a' pc qc B w1 ?_ ?_ (by omega) (by omega) (Nat.le_trans hB hw.size))
  ·rcases hp with hp|⟨b,o,e,hb,hp⟩
   ·exact Or.inl hp
   ·exact Or.inr ⟨b,o,e,hb,fun i y hy=>⟨(hp i y hy).1.below (hw.mono hB) hb,(hp i y hy).2.below (hw.mono hB)⟩⟩
  ·rcases hq with hq|⟨b,o,e,hb,hq⟩
   ·exact Or.inl hq
   ·exact Or.inr ⟨b,o,e,hb,fun i y hy=>⟨(hq i y hy).1.below (hw.mono hB) hb,(hq i y hy).2.below (hw.mono hB)⟩⟩
theorem wO (x y:Int):(x<y/\mI x y=-1)∨(x=y/\mI x y=0)∨(y<x/\mI x y=1):=by
 unfold mI
 by_cases h:x<y
 ·rw[if_pos h];exact Or.inl ⟨h,rfl⟩
 ·rw[if_neg h]
  by_cases h':y<x
  ·rw[if_pos h'];exact Or.inr (Or.inr ⟨h',rfl⟩)
  ·rw[if_neg h'];exact Or.inr (Or.inl ⟨by omega,rfl⟩)
theorem Mq:(x y:List UInt8)->Op.bytesLess x y=true->Op.bytesLess y x=false
 | _,[],h=>by simp[Op.bytesLess]at h
 | [],_::_,_=>by simp[Op.bytesLess]
 | a::x,b::y,h=>by
  simp only[Op.bytesLess,Bool.or_eq_true,decide_eq_true_eq,Bool.and_eq_true,beq_iff_eq]at h
  simp only[Op.bytesLess,Bool.or_eq_false_iff,decide_eq_false_iff_not,Bool.and_eq_false_iff,beq_eq_false_iff_ne]
  rcases h with h|⟨rfl,h⟩
  ·rw[UInt8.lt_iff_toNat_lt]at h
   refine⟨by rw[UInt8.lt_iff_toNat_lt];omega,Or.inl fun e=>by subst e;omega⟩
  ·exact⟨by rw[UInt8.lt_iff_toNat_lt];omega,Or.inr (Mq x y h)⟩
theorem JA:(x y:List UInt8)->Op.bytesLess x y=false->Op.bytesLess y x=false->x=y
 | [],[],_,_=>rfl
 | [],_::_,h,_=>by simp[Op.bytesLess]at h
 | _::_,[],_,h=>by simp[Op.bytesLess]at h
 | a::x,b::y,h,h'=>by
  simp only[Op.bytesLess,Bool.or_eq_false_iff,decide_eq_false_iff_not,Bool.and_eq_false_iff,beq_eq_false_iff_ne]at h h'
  obtain⟨h1,h2⟩:=h
  obtain⟨h3,h4⟩:=h'
  have e:a=b:=by
   rw[UInt8.lt_iff_toNat_lt]at h1 h3
   exact UInt8.toNat_inj.1 (by omega)
  subst e
  rw[JA x y (h2.resolve_left (fun n=>n rfl)) (h4.resolve_left (fun n=>n rfl))]
theorem yx (l:List UInt8):Op.bytesLess l l=false:=by
 induction l with
 | nil=>rfl
 | cons a l ih=>simp[Op.bytesLess,ih]
theorem Mt (x y:ByteArray):(Op.bytesLess x.toList y.toList=true/\wX x y=-1)∨(x.toList=y.toList/\wX x y=0)∨(Op.bytesLess y.toList x.toList=true/\wX x y=1):=by
 unfold wX
 cases h:Op.bytesLess x.toList y.toList
 ·by_cases e:x.toList=y.toList
  ·rw[e];simp
  ·have h':Op.bytesLess y.toList x.toList=true:=by
     cases h2:Op.bytesLess y.toList x.toList
     ·exact(e (JA _ _ h h2)).elim
     ·rfl
   have e':(x.toList==y.toList)=false:=by simpa using e
   rw[e']
   simp[h']
 ·simp
theorem bQ {x:Tm 0} (h:∀a∈nodes 0 x,good a=true):False:=by
 have:=h ((0,0,.empty),(none,0,0)) (by simp[nodes])
 rcases jr _ this with g|g|g|g|g|⟨g,_⟩<;>simp at g
theorem yK {α β:Type} (f:α->β->Int) (g:α->β->Bool):(p:List α)->(q:List β)->p.length=q.length->(∀a∈p,∀b∈q,(f a b=0 ↔ g a b=true))->(nS f p q=0 ↔ ah g p q=true)
 | [],[],_,_=>by simp[nS,ah]
 | [],_::_,e,_=>by simp at e
 | _::_,[],e,_=>by simp at e
 | a::p,b::q,e,H=>by
  have h0:=H a (by simp) b (by simp)
  have h1:=yK f g p q (by simpa using e) (fun a' ha b' hb=>H a' (by simp[ha]) b' (by simp[hb]))
  simp only[nS,ah,Bool.and_eq_true]
  by_cases e0:f a b=0
  ·rw[if_pos e0,h1]
   exact⟨fun h=>⟨h0.1 e0,h⟩,fun h=>h.2⟩
  ·rw[if_neg e0]
   exact⟨fun h=>(e0 h).elim,fun h=>(e0 (h0.2 h.1)).elim⟩
theorem dD (x:Nd) (h:good x=true):(x.1.1≠2->x.1.2.2.toList=[])/\(x.1.1=2->x.1.2.1=0)/\(x.1.1=4->x.1.2.1=0)/\(x.1.1=6->x.1.2.1=0)/\(x.1.1≠4->x.2.2.1=0):=by
 have hk:=jr x h
 unfold good at h
 rcases hk with g|g|g|g|g|⟨g,g0⟩
 all_goals (rw[g]at h ⊢;simp at h ⊢;simp[h])
theorem Dc:(n:Nat)->(x:Tm n)->(m:Nat)->(y:Tm m)->(∀a∈nodes n x,good a=true)->(∀a∈nodes m y,good a=true)->(yh n x m y=0 ↔ same n x m y=true)
 | 0,_,_,_,h,_=>(bQ h).elim
 | _+1,_,0,_,_,h=>(bQ h).elim
 | n+1,x,m+1,y,hx,hy=>by
  have gx:=dD _ (hx (x.1,(x.2.1.1,x.2.2.length,x.2.1.2)) (by simp[nodes]))
  have gy:=dD _ (hy (y.1,(y.2.1.1,y.2.2.length,y.2.1.2)) (by simp[nodes]))
  have kx:=jr _ (hx (x.1,(x.2.1.1,x.2.2.length,x.2.1.2)) (by simp[nodes]))
  have hl:=fun e=>yK (fun a b=>yh n a m b) (fun a b=>same n a m b) x.2.2 y.2.2 e (fun a ha b hb=>Dc n a m b (fun d hd=>hx d (mV ha hd)) (fun d hd=>hy d (mV hb hd)))
  simp only at gx gy kx
  simp only[yh,same]
  have hS:=Mt x.1.2.2 y.1.2.2
  have hI:=wO x.1.2.1 y.1.2.1
  have hK:=wO x.1.1 y.1.1
  have hL:=wO x.2.2.length y.2.2.length
  obtain⟨⟨k,u,s⟩,⟨a,c⟩,p⟩:=x
  obtain⟨⟨k',u',s'⟩,⟨a',c'⟩,q⟩:=y
  simp only at*
  clear hx hy
  by_cases e:k=k'
  ·subst e
   rw[if_pos rfl]
   have nilp:k≠4->p=[]/\q=[]:=fun h=>⟨List.eq_nil_of_length_eq_zero (gx.2.2.2.2 h),List.eq_nil_of_length_eq_zero (gy.2.2.2.2 h)⟩
   have nils:k≠2->s.toList=[]/\s'.toList=[]:=fun h=>⟨gx.1 h,gy.1 h⟩
   rcases kx with g|g|g|g|g|⟨g,g0⟩
   ·subst g
    obtain⟨rfl,rfl⟩:=nilp (by decide)
    obtain⟨e1,e2⟩:=nils (by decide)
    rw[if_pos (by decide),e1,e2]
    simp[ah]
    omega
   ·subst g
    obtain⟨rfl,rfl⟩:=nilp (by decide)
    have u0:u=0:=gx.2.1 rfl
    have u1:u'=0:=gy.2.1 rfl
    subst u0 u1
    rw[if_neg (by decide),if_pos rfl]
    simp[ah]
    rcases hS with⟨h,h'⟩|⟨h,h'⟩|⟨h,h'⟩
    ·refine⟨fun e=>by omega,fun e=> ?_⟩
     rw[e,yx]at h
     cases h
    ·exact⟨fun _=>h,fun _=>h'⟩
    ·refine⟨fun e=>by omega,fun e=> ?_⟩
     rw[e,yx]at h
     cases h
   ·subst g
    obtain⟨rfl,rfl⟩:=nilp (by decide)
    obtain⟨e1,e2⟩:=nils (by decide)
    rw[if_pos (by decide),e1,e2]
    simp[ah]
    omega
   ·subst g
    obtain⟨e1,e2⟩:=nils (by decide)
    have u0:u=0:=gx.2.2.1 rfl
    have u1:u'=0:=gy.2.2.1 rfl
    subst u0 u1
    rw[if_neg (by decide),if_neg (by decide),if_pos rfl,e1,e2]
    by_cases el:p.length=q.length
    ·rw[if_pos el,hl el]
     simp
    ·rw[if_neg el,wL _ _ _ el]
     simp
     omega
   ·subst g
    obtain⟨rfl,rfl⟩:=nilp (by decide)
    obtain⟨e1,e2⟩:=nils (by decide)
    rw[if_pos (by decide),e1,e2]
    simp[ah]
    omega
   ·subst g
    obtain⟨rfl,rfl⟩:=nilp (by decide)
    obtain⟨e1,e2⟩:=nils (by decide)
    have u1:u'=0:=gy.2.2.2.1 rfl
    subst g0 u1
    rw[if_neg (by decide),if_neg (by decide),if_neg (by decide),e1,e2]
    simp[ah]
  ·rw[if_neg e]
   have:(k==k')=false:=by simpa using e
   rw[this]
   simp
   omega
abbrev An:=(n:Nat)×Tm n
def aU:An->Int
 | ⟨0,_⟩=>0
 | ⟨_+1,x⟩=>x.1.1
def dx (x y:An):Bool:=same x.1 x.2 y.1 y.2
def InA (B:Nat) (w:World) (x:An):Prop:=In B w x.1 x.2
def ai (x:An):Prop:=∀a∈nodes x.1 x.2,good a=true
def gz {α β S:Type} (f:α->β->S->Option S):List α->List β->S->Option S
 | x::p,y::q,b=>(f x y b).bind (gz f p q)
 | _,_,b=>some b
def wC (b:List An) (i:Nat) (t:An):Option (List An):=
 match b[i]? with
 | some y=>if aU y=6 then some (b.set i t)else if dx y t then some b else none
 | none=>none
def fit:(n:Nat)->Tm n->(m:Nat)->Tm m->List An->Option (List An)
 | n+1,p,m+1,t,b=>
  if p.1.1=6 then some b
  else if p.1.1=5 then wC b p.1.2.1.toNat ⟨m+1,t⟩
  else if p.1.1=4 then
   if t.1.1=4/\p.2.2.length=t.2.2.length then gz (fun x y b=>fit n x m y b) p.2.2 t.2.2 b else none
  else if same (n+1) p (m+1) t then some b else none
 | _,_,_,_,_=>none
def QQ (x y:An) (b:List An):Option (List An):=fit x.1 x.2 y.1 y.2 b
def fits:List (An×An)->List An->Option (List An)
 | [],b=>some b
 | (x,y)::r,b=>(QQ x y b).bind (fits r)
def pairs (n m:Nat) (p:List (Tm n)) (q:List (Tm m)):List (An×An):=List.zipWith (fun x y=>(⟨n,x⟩,⟨m,y⟩)) p q
def Parts (P:An->Prop):Prop:=∀(n:Nat) (x:Tm (n+1)) (y:Tm n),P ⟨n+1,x⟩->y∈x.2.2->P ⟨n,y⟩
theorem xK {α β S:Type} (f:α->β->S->Option S) (Q:S->Prop):(p:List α)->(q:List β)->(∀x∈p,∀y∈q,∀b c,Q b->f x y b=some c->Q c)->∀b c,Q b->gz f p q b=some c->Q c
 | [],_,_,b,c,hb,h=>by simp[gz]at h;rw[<-h];exact hb
 | _::_,[],_,b,c,hb,h=>by simp[gz]at h;rw[<-h];exact hb
 | x::p,y::q,hf,b,c,hb,h=>by
  simp only[gz]at h
  obtain⟨d,h1,h2⟩:=Option.bind_eq_some_iff.1 h
  exact xK f Q p q (fun x' hx y' hy=>hf x' (List.mem_cons_of_mem _ hx) y' (List.mem_cons_of_mem _ hy)) d c (hf x (by simp) y (by simp) b d hb h1) h2
theorem Gr (P:An->Prop) (b c:List An) (i:Nat) (t:An) (ht:P t) (hb:b.length=4/\∀y∈b,P y) (h:wC b i t=some c):c.length=4/\∀y∈c,P y:=by
 unfold wC at h
 split at h
 ·split at h
  ·obtain rfl:=Option.some.inj h
   refine⟨by simpa using hb.1,fun y hy=> ?_⟩
   rcases List.mem_or_eq_of_mem_set hy with h1|rfl
   ·exact hb.2 y h1
   ·exact ht
  ·split at h
   ·obtain rfl:=Option.some.inj h
    exact hb
   ·cases h
 ·cases h
theorem mE (P:An->Prop) (hP:Parts P):(n:Nat)->(p:Tm n)->(m:Nat)->(t:Tm m)->P ⟨m,t⟩->∀b c,(b.length=4/\∀y∈b,P y)->fit n p m t b=some c->(c.length=4/\∀y∈c,P y)
 | 0,_,_,_,_,_,_,_,h=>by simp[fit]at h
 | n+1,_,0,_,_,_,_,_,h=>by simp[fit]at h
 | n+1,p,m+1,t,ht,b,c,hb,h=>by
  simp only[fit]at h
  split at h
  ·obtain rfl:=Option.some.inj h;exact hb
  split at h
  ·exact Gr P b c _ _ ht hb h
  split at h
  ·split at h
   ·exact xK _ _ p.2.2 t.2.2 (fun x hx y hy b c hb hc=>mE P hP n x m y (hP m t y ht hy) b c hb hc) b c hb h
   ·cases h
  ·split at h
   ·obtain rfl:=Option.some.inj h;exact hb
   ·cases h
theorem Gm {α β S:Type} (f:α->β->S->Option S) (p:List α) (q:List β) (k:Nat) (x:α) (y:β) (hx:p[k]? =some x) (hy:q[k]? =some y) (b:S):
    gz f (p.drop k) (q.drop k) b=(f x y b).bind (gz f (p.drop (k+1)) (q.drop (k+1))):=by
 obtain⟨h1,e1⟩:=List.getElem?_eq_some_iff.1 hx
 obtain⟨h2,e2⟩:=List.getElem?_eq_some_iff.1 hy
 rw[List.drop_eq_getElem_cons h1,List.drop_eq_getElem_cons h2,e1,e2]
 rfl
theorem JD (B:Nat) (w:World):Parts (InA B w):=by
 intro n x y h hy
 rcases h.2 with h1|⟨b,o,e,hb,h1⟩
 ·have h2:x.2.2=[]:=h1
  rw[h2]at hy
  cases hy
 ·obtain⟨i,hi⟩:=List.getElem?_of_mem hy
  exact(h1 i y hi).2
theorem aH:Parts ai:=fun _ _ _ h hy a ha=>h a (mV hy ha)
theorem Ip {P Q:An->Prop} (hP:Parts P) (hQ:Parts Q):Parts fun x=>P x/\Q x:=fun n x y h hy=>⟨hP n x y h.1 hy,hQ n x y h.2 hy⟩
end Go.Proofs.YtmbjgiaebneodaaGreat
