/- What is proved here: plain facts and contracts that the claimed theorem stands on. No condition but those that each names. -/
import Derived.Test.YtmbjgiaebneodaaGreatG18
namespace Go.Proofs.YtmbjgiaebneodaaGreat
open Go.RowKit Go.Maps
open Go.RowKit
set_option maxHeartbeats 1000000
set_option maxRecDepth 100000
theorem Bu {base:Nat} {hp:HLoc} {room:Int} {ws:List Wd} {nm:List ByteArray} {M:Nat->Prop} {R:List Wd×List Wd×bI} {len g:Nat} {tv:Value} {w w1 w2:World} (h:HpAt base hp room ws nm M w) (hb:Below w.heap.size w w1) (hr:jL R len g tv w1 w2) (hbw:base<=w.heap.size):Laid base hp room R.2.1 nm M w (w2.setCell ⟨hp.b,hp.o+1,none⟩ tv):=by
 obtain⟨r1,r2,r3,r4,r5⟩:=hr
 have hs:=hb.size
 have hb2:=hb.trans (r1.mono hs)
 obtain⟨tv0,lv,mv,h1,h2,h3,h4,h5,h6,h7⟩:=h.later hb2
 have k:=aI w2 hp.b (hp.o+1) tv
 have r6:∀b,tv.ownBlock=some b->w1.heap.size<=b:=fun b e=>(r2.lt b e).1
 refine⟨⟨tv,lv,mv,h1.set1 tv,di (qg r2 (by omega)) k (fun b e e'=> ?_),h3.kept k (fun b e e'=> ?_) (fun b e e'=> ?_),Or.inl h4.1,fun b e=>Or.inr (by have:=r6 b e;omega),fun b e=>Or.inl (h6 b e).1,fun b e=>Or.inl (h7 b e).1⟩,(aD hb2 M).trans k ?_⟩
 ·subst e'
  have:=r6 _ e
  have:=h4.2
  omega
 ·subst e'
  exact lh h3.1 h1 (by decide) e
 ·subst e'
  exact uj h3 h1 e
 ·rintro b _ rfl
  exact h4.1
theorem zB (R:List Wd×List Wd×bI) (hp:HLoc) (ta:Option Addr) (L tc:Nat) (a:Option Addr) (len pc:Nat) (w:World) (hhp:hp.b<w.heap.size) (c1:w.cell? ⟨hp.b,hp.o+1,none⟩=some (.slice ta L tc)) (f1:w.frozen? ⟨hp.b,hp.o+1,none⟩=false)
    (HA:Hid (Calls Tryz.prog 138 #[.pointer (some ⟨hp.b,hp.o,none⟩),.slice a len pc] w fun e w'=>e=.returned (.bool true)/\Below w.heap.size w w'))
    (HC:Hid (∀w1,Below w.heap.size w w1->Calls Tryz.prog 139 #[.slice ta L tc,.slice a len pc] w1 fun e w'=>∃g tv,e=.returned (.tuple #[tv,.slice (some ⟨g,0,none⟩) len len])/\Hid (jL R len g tv w1 w'))):
    Calls Tryz.prog 128 #[.pointer (some ⟨hp.b,hp.o,none⟩),.slice a len pc] w fun e w'=>∃g tv w1 w2,e=.returned (.tuple #[.slice (some ⟨g,0,none⟩) len len,.int .i64 0])/\w'=w2.setCell ⟨hp.b,hp.o+1,none⟩ tv/\Hid (Below w.heap.size w w1/\jL R len g tv w1 w2):=by
 go_enter Tryz.func128,Tryz.ntmps128
 go_wp2_with fail
 refine HA.out.mono ?_
 rintro e w1 ⟨rfl,hb⟩
 have HB:=hide hb
 replace c1:=(af hb hp.b (hp.o+1) hhp).trans c1
 replace f1:=(fq hb hp.b (hp.o+1) hhp).trans f1
 have hhp1:hp.b<w1.heap.size:=Nat.lt_of_lt_of_le hhp hb.size
 clear hb HA
 go_wp2_with fail
 refine(HC.out w1 HB.out).mono ?_
 rintro e w2 ⟨g,tv,rfl,H⟩
 obtain⟨ta',tc',rfl⟩:∃ta' tc',tv=.slice ta' R.2.1.length tc':=by
  rcases H.out.2.1.2 with⟨e,e0⟩|⟨g,c,cur,e,_⟩
  ·exact⟨none,0,by rw[e,e0]⟩
  ·exact⟨_,c,e⟩
 replace c1:=(af H.out.1 hp.b (hp.o+1) hhp1).trans c1
 replace f1:=(fq H.out.1 hp.b (hp.o+1) hhp1).trans f1
 clear HC
 go_wp2_with fail
 go_ret2
 exact⟨g,_,w1,w2,rfl,rfl,HB.out,H.out⟩
theorem StandL.mem {ws:List Wd} {nm:List ByteArray} {n:Nat} {l:List Wd} {p:List (Tm n)} (h:StandL ws nm n l p) {v:Wd} (hv:v∈l):∃y∈p,Stands ws nm n y v:=by
 obtain⟨i,hi⟩:=List.getElem?_of_mem hv
 have hl:i<p.length:=by rw[<-h.1];exact(List.getElem?_eq_some_iff.1 hi).1
 exact⟨p[i],List.getElem_mem _,h.2 i v p[i] hi (List.getElem?_eq_getElem hl)⟩
def Only (g g':bI) (a b:Nat):Prop:=∀p,(p<a∨b<=p)->look g' p=look g p
theorem IW {us A C:List Wd} {h:Wd} (k:(A++h::C) <+:us):partsOf us A.length C.length=C:=by
 obtain⟨r,rfl⟩:=k
 unfold partsOf
 rw[show A++h::C++r=(A++ [h])++(C++r) by simp]
 rw[List.drop_left' (by simp),List.take_left' rfl]
theorem BQ {w w1:World} {vs:List Wd} {a:Option Addr} (h:dG w vs a) (hb:Below w.heap.size w w1):dG w1 vs a:=by
 rcases h with h|⟨b,o,e,hl,h⟩
 ·exact Or.inl h
 ·exact Or.inr ⟨b,o,e,Nat.lt_of_lt_of_le hl hb.size,fun i v hv=>⟨(af hb b _ hl).trans (h i v hv).1,(af hb b _ hl).trans (h i v hv).2⟩⟩
def Roots (ws:List Wd) (nm:List ByteArray) (n:Nat) (vs:List Wd) (p:List (Tm n)):Prop:=
 StandL ws nm n vs p/\(∀y∈p,ai ⟨n,y⟩)/\(∀y∈p,av n y=true)/\(p.map fun y=>1+sz n y).sum<=90000/\(p.flatMap fun y=>nodes n y).length<=90000/\vs.length<=1000
def iL (ws:List Wd) (n:Nat) (vs:List Wd):List Wd×List Wd×bI:=fC (iO ws n) vs ([],[])
theorem Roots.all {ws:List Wd} {nm:List ByteArray} {n:Nat} {vs:List Wd} {p:List (Tm n)} (h:Roots ws nm n vs p) (hw:ws.length<=1000) (hn:nm.length<=50000):vs.all (bu ws nm)=true/\∀v∈vs,bR v.2:=by
 have key:∀v∈vs,bu ws nm v=true/\bR v.2:=fun v hv=>by
  obtain⟨y,hy,hs⟩:=h.1.mem hv
  exact AP hs (h.2.1 y hy) (h.2.2.1 y hy) (by omega) (by omega)
 exact⟨List.all_eq_true.2 fun v hv=>(key v hv).1,fun v hv=>(key v hv).2⟩
def zm (base:Nat) (hp:HLoc) (room:Int) (R:List Wd×List Wd×bI) (nm:List ByteArray) (M:Nat->Prop) (g:Nat) (w w':World):Prop:=
 HpAt base hp room R.2.1 nm (fun b=>(M b∨w.heap.size<=b)/\b≠g) w'/\Keep M w w'/\dG w' R.1 (some ⟨g,0,none⟩)/\w.heap.size<=g/\g<w'.heap.size/\∃len,w'.ownsRow g 119 2 (.slice (some ⟨g,0,none⟩) len len) len (az R.1)
theorem xA {w:World} {g base len:Nat} {vs:List Wd} (h:w.ownsRow base 119 2 (.slice (some ⟨g,0,none⟩) len len) len (az vs)):dG w vs (some ⟨g,0,none⟩)/\g<w.heap.size:=by
 refine⟨Or.inr ⟨g,0,rfl,(h.lt g rfl).2,fun i v hv=> ?_⟩,(h.lt g rfl).2⟩
 have:=gM h i v hv
 rw[Nat.zero_add]
 exact this
theorem J4 {base:Nat} {hp:HLoc} {room:Int} {ws:List Wd} {nm:List ByteArray} {M:Nat->Prop} {R:List Wd×List Wd×bI} {len g:Nat} {tv:Value} {w w1 w2:World} (h:HpAt base hp room ws nm M w) (hb:Below w.heap.size w w1) (hr:jL R len g tv w1 w2) (hbw:base<=w.heap.size):zm base hp room R nm M g w (w2.setCell ⟨hp.b,hp.o+1,none⟩ tv):=by
 have hl:=Bu h hb hr hbw
 obtain⟨r1,r2,r3,r4,r5⟩:=hr
 have hs:=hb.size
 have hb2:=hb.trans (r1.mono hs)
 obtain⟨tv0,lv,mv,h1,h2,h3,h4,h5,h6,h7⟩:=h.later hb2
 have k:=aI w2 hp.b (hp.o+1) tv
 have r6:∀b,tv.ownBlock=some b->w1.heap.size<=b:=fun b e=>(r2.lt b e).1
 have hhp:hp.b<w.heap.size:=h4.2
 refine⟨⟨tv,lv,mv,h1.set1 tv,di (qg r2 (by omega)) k (fun b e e'=> ?_),h3.kept k (fun b e e'=> ?_) (fun b e e'=> ?_),⟨Or.inl h4.1,by omega⟩,fun b e=>⟨Or.inr (by have:=r6 b e;omega),fun e'=>r5 (by rw[e,e'])⟩,fun b e=>⟨Or.inl (h6 b e).1,by have:=(h6 b e).2;omega⟩,fun b e=>⟨Or.inl (h7 b e).1,by have:=(h7 b e).2;omega⟩⟩,hl.2, ?_,by omega, ?_, ?_⟩
 ·subst e'
  have:=r6 _ e
  omega
 ·subst e'
  exact lh h3.1 h1 (by decide) e
 ·subst e'
  exact uj h3 h1 e
 ·have r3':=di r3 k (fun b e e'=>by
    subst e'
    simp only[Value.ownBlock]at e
    have:=Option.some.inj e
    omega)
  exact(xA r3').1
 ·have:=(xA r3).2
  simpa [World.setCell]using this
 ·exact⟨len,di r3 k (fun b e e'=>by
    subst e'
    simp only[Value.ownBlock]at e
    have:=Option.some.inj e
    omega)⟩
theorem yS (n:Nat) (p:List (Tm n)) (vs:List Wd) (a:Option Addr) (pc base:Nat) (hp:HLoc) (room:Int) (ws:List Wd) (nm:List ByteArray) (M:Nat->Prop) (w:World) (h:HpAt base hp room ws nm M w) (hr:Roots ws nm n vs p) (hin:dG w vs a) (hlt:∀b o,a=some ⟨b,o,none⟩->b<w.heap.size) (hbw:base<=w.heap.size) (hw:ws.length<=1000) (hn:nm.length<=50000):
    Calls Tryz.prog 128 #[.pointer (some ⟨hp.b,hp.o,none⟩),.slice a vs.length pc] w fun e w'=>∃g,e=.returned (.tuple #[.slice (some ⟨g,0,none⟩) vs.length vs.length,.int .i64 0])/\Hid (zm base hp room (iL ws n vs) nm M g w w'):=by
 obtain⟨hall,hi64⟩:=hr.all hw hn
 obtain⟨tv,lv,mv,h1,h2,h3,h4,h5,h6,h7⟩:=id h
 obtain⟨⟨c0,c1,c2,c3⟩,hf⟩:=h1.cells
 obtain⟨ta,tc,rfl⟩:∃ta tc,tv=.slice ta ws.length tc:=by
  rcases h2.2 with⟨e,e0⟩|⟨g,c,cur,e,_⟩
  ·exact⟨none,0,by rw[e,e0]⟩
  ·exact⟨_,c,e⟩
 refine(zB (iL ws n vs) hp ta ws.length tc a vs.length pc w h1.lt c1 (hf _) ?_ ?_).mono ?_
 ·have hk:=ze base hp room ws nm M vs a vs.length pc w h (by omega) rfl (by have:=hr.2.2.2.2.2;omega) hin hi64
  rw[hall]at hk
  exact hk
 ·intro w1 hb
  refine BZ ws nm n vs p base (.slice ta ws.length tc) a pc w1 (own_below h2 hb) hr.1 hr.2.1 (by omega) (by have:=hr.2.2.2.2.2;omega) hr.2.2.2.1 hr.2.2.2.2.1 (BQ hin hb) ?_
  intro b o e
  exact Nat.lt_of_lt_of_le (hlt b o e) hb.size
 ·rintro e w' ⟨g,tv,w1,w2,rfl,rfl,H⟩
  exact⟨g,rfl,J4 h H.out.1 H.out.2 hbw⟩
def mW (ws:List Wd):Nat->Wd->List Nat
 | 0,_=> []
 | n+1,v=>if v.1=4 then
    match ws[v.2.toNat]? with
    | some h=>v.2.toNat::(partsOf ws v.2.toNat h.2.toNat).flatMap (mW ws n)
    | none=> []
  else []
theorem kK {ws:List Wd} {n:Nat} {v:Wd} (h:v.1≠4):mW ws n v=[]:=by
 cases n with
 | zero=>rfl
 | succ n=>simp[mW,h]
theorem qC {ws:List Wd} {n p m:Nat} (h:ws[p]? =some (0,(m:Int))):mW ws (n+1) (4,(p:Int))=p::(partsOf ws p m).flatMap (mW ws n):=by
 simp[mW,h]
theorem yA {nm:List ByteArray} {s:ByteArray} (h:s∈nm):dE nm s=nm:=by
 unfold dE
 rw[if_pos ((Ae nm s).2 h)]
theorem Co {ws:List Wd} {nm:List ByteArray} {n:Nat} (ih:∀(x:Tm n) (v:Wd) (S:List Wd×bI),Stands ws nm n x v->(mW ws n v).Nodup->(∀p∈mW ws n v,look S.2 p=none)->((iO ws n v S).1=(aB n x S.1 nm).1/\(iO ws n v S).2.1=(aB n x S.1 nm).2.1/\(aB n x S.1 nm).2.2=nm)/\∀p,look (iO ws n v S).2.2 p=none ↔ look S.2 p=none/\p∉mW ws n v):
    (us:List Wd)->(ys:List (Tm n))->StandL ws nm n us ys->(S:List Wd×bI)->(us.flatMap (mW ws n)).Nodup->(∀p∈us.flatMap (mW ws n),look S.2 p=none)->
    ((fC (iO ws n) us S).1=(aO (aB n) ys S.1 nm).1/\(fC (iO ws n) us S).2.1=(aO (aB n) ys S.1 nm).2.1/\(aO (aB n) ys S.1 nm).2.2=nm)/\∀p,look (fC (iO ws n) us S).2.2 p=none ↔ look S.2 p=none/\p∉us.flatMap (mW ws n)
 | us,ys,hs,S,hn,hl=>by
  induction us generalizing ys S with
  | nil=>
   obtain rfl:ys=[]:=by have:=hs.1;cases ys with|nil=>rfl|cons a l=>simp at this
   simp[fC,aO]
  | cons v us ihu=>
   cases ys with
   | nil=>have:=hs.1;simp at this
   | cons y ys=>
    have h0:Stands ws nm n y v:=hs.2 0 v y (by simp) (by simp)
    have ht:StandL ws nm n us ys:=⟨by have:=hs.1;simpa using this,fun i a b ha hb=>hs.2 (i+1) a b (by simpa using ha) (by simpa using hb)⟩
    rw[List.flatMap_cons]at hn hl
    obtain⟨n1,n2,n3⟩:=List.nodup_append.1 hn
    obtain⟨⟨a1,a2,a3⟩,a4⟩:=ih y v S h0 n1 (fun p hp=>hl p (List.mem_append_left _ hp))
    have hl2:∀p∈us.flatMap (mW ws n),look (iO ws n v S).2.2 p=none:=fun p hp=>(a4 p).2 ⟨hl p (List.mem_append_right _ hp),fun h=>n3 p h p hp rfl⟩
    obtain⟨⟨b1,b2,b3⟩,b4⟩:=ihu ys ht (iO ws n v S).2 n2 hl2
    simp only[fC,aO]
    rw[a3,<-a2]
    refine⟨⟨by rw[a1,b1],b2,b3⟩,fun p=> ?_⟩
    rw[b4 p,a4 p,List.flatMap_cons,List.mem_append,not_or,and_assoc]
theorem FJ {ws:List Wd} {nm:List ByteArray} (hnd:nm.Nodup):(n:Nat)->(x:Tm n)->(v:Wd)->(S:List Wd×bI)->Stands ws nm n x v->(mW ws n v).Nodup->(∀p∈mW ws n v,look S.2 p=none)->
    ((iO ws n v S).1=(aB n x S.1 nm).1/\(iO ws n v S).2.1=(aB n x S.1 nm).2.1/\(aB n x S.1 nm).2.2=nm)/\∀p,look (iO ws n v S).2.2 p=none ↔ look S.2 p=none/\p∉mW ws n v
 | 0,_,_,_,h,_,_=>h.elim
 | n+1,x,v,S,h,hn,hl=>by
  by_cases h4:x.1.1=4
  ·obtain⟨p,rfl,hp,hlen,hst⟩:=iy h h4
   rw[qC hp]at hn hl ⊢
   have hlk:=hl p (by simp)
   rw[zQ hlk hp]
   have hnp:=List.nodup_cons.1 hn
   obtain⟨⟨b1,b2,b3⟩,b4⟩:=Co (fun x v S=>FJ hnd n x v S) (partsOf ws p x.2.2.length) x.2.2 hst S hnp.2 (fun q hq=>hl q (List.mem_cons_of_mem _ hq))
   have e:aB (n+1) x S.1 nm=((4,((aO (aB n) x.2.2 S.1 nm).2.1.length:Int)),(aO (aB n) x.2.2 S.1 nm).2.1++(0,(x.2.2.length:Int))::(aO (aB n) x.2.2 S.1 nm).1,(aO (aB n) x.2.2 S.1 nm).2.2):=by
    simp only[aB]
    rw[if_neg (by omega),if_pos h4]
   rw[e]
   refine⟨⟨by rw[b2],by rw[b1,b2],b3⟩,fun q=> ?_⟩
   by_cases hq:q=p
   ·subst hq
    rw[rE]
    simp
   ·rw[oN _ _ hq,b4 q]
    simp[hq]
  ·have hv4:=gU h h4
   rw[vB hv4,kK hv4]
   refine⟨⟨?_, ?_, ?_⟩,fun q=>by simp⟩
   ·simp only[aB]
    by_cases h2:x.1.1=2
    ·rw[if_pos h2]
     obtain⟨i,rfl,hi⟩:=h.1 h2
     rw[yA (List.mem_of_getElem? hi),AX hnd hi]
    ·rw[if_neg h2,if_neg h4]
     exact h.2.2 h2 h4
   ·simp only[aB]
    split
    ·rfl
    ·rfl
   ·simp only[aB]
    split
    ·rename_i h2
     obtain⟨i,rfl,hi⟩:=h.1 h2
     exact yA (List.mem_of_getElem? hi)
    ·rfl
theorem DY {ws ws':List Wd} (h:ws <+:ws') {p m:Nat} (hl:p+1+m<=ws.length):partsOf ws' p m=partsOf ws p m:=by
 obtain⟨t,rfl⟩:=h
 unfold partsOf
 rw[List.drop_append_of_le_length (by omega),List.take_append_of_le_length (by rw[List.length_drop];omega)]
theorem NP {ws ws':List Wd} (h:ws <+:ws') {p:Nat} {v:Wd} (hp:ws[p]? =some v):ws'[p]? =some v:=by
 obtain⟨t,rfl⟩:=h
 rw[List.getElem?_append_left (List.getElem?_eq_some_iff.1 hp).1]
 exact hp
theorem kX {α β:Type} {f g:α->List β}:{l:List α}->(∀a∈l,f a=g a)->l.flatMap f=l.flatMap g
 | [],_=>rfl
 | a::l,h=>by rw[List.flatMap_cons,List.flatMap_cons,h a (by simp),kX (l:=l) fun b hb=>h b (by simp[hb])]
theorem qi {ws ws':List Wd} {nm:List ByteArray} (hp:ws <+:ws'):(n:Nat)->(x:Tm n)->(v:Wd)->Stands ws nm n x v->mW ws' n v=mW ws n v
 | 0,_,_,h=>h.elim
 | n+1,x,v,h=>by
  by_cases h4:x.1.1=4
  ·obtain⟨p,rfl,hq,hlen,hst⟩:=iy h h4
   rw[qC hq,qC (NP hp hq),DY hp hlen]
   congr 1
   refine kX fun u hu=> ?_
   obtain⟨y,_,hy⟩:=hst.mem hu
   exact qi hp n y u hy
  ·rw[kK (gU h h4),kK (gU h h4)]
theorem yU {ws:List Wd} {nm:List ByteArray}:(n:Nat)->(x:Tm n)->(v:Wd)->Stands ws nm n x v->∀p∈mW ws n v,p<ws.length
 | 0,_,_,h,_,_=>h.elim
 | n+1,x,v,h,q,hq=>by
  by_cases h4:x.1.1=4
  ·obtain⟨p,rfl,hp,hlen,hst⟩:=iy h h4
   rw[qC hp,List.mem_cons,List.mem_flatMap]at hq
   rcases hq with rfl|⟨u,hu,hq⟩
   ·omega
   ·obtain⟨y,_,hy⟩:=hst.mem hu
    exact yU n y u hy q hq
  ·rw[kK (gU h h4)]at hq
   cases hq
theorem ve {n:Nat} (ih:∀(x:Tm n) (ws:List Wd) (nm:List ByteArray),ai ⟨n,x⟩->(mW (aB n x ws nm).2.1 n (aB n x ws nm).1).Nodup/\∀p∈mW (aB n x ws nm).2.1 n (aB n x ws nm).1,ws.length<=p):
    (l:List (Tm n))->(ws:List Wd)->(nm:List ByteArray)->(∀y∈l,ai ⟨n,y⟩)->((aO (aB n) l ws nm).1.flatMap (mW (aO (aB n) l ws nm).2.1 n)).Nodup/\∀p∈(aO (aB n) l ws nm).1.flatMap (mW (aO (aB n) l ws nm).2.1 n),ws.length<=p
 | [],_,_,_=>by simp[aO]
 | y::l,ws,nm,hr=>by
  have h1:=ih y ws nm (hr y (by simp))
  have hs:=fK n y ws nm (hr y (by simp))
  have h2:=ve ih l (aB n y ws nm).2.1 (aB n y ws nm).2.2 (fun z hz=>hr z (by simp[hz]))
  have hp:=(pY (fun x ws nm=>kD n x ws nm) l (aB n y ws nm).2.1 (aB n y ws nm).2.2).1
  have hm:=qi hp n y _ hs
  have hlt:=yU n y _ hs
  have hpre:=(kD n y ws nm).1.length_le
  simp only[aO,List.flatMap_cons]
  rw[hm]
  refine⟨List.nodup_append.2 ⟨h1.1,h2.1,fun a ha b hb e=> ?_⟩,fun p hp=> ?_⟩
  ·have:=hlt a ha
   have:=h2.2 b hb
   omega
  ·rcases List.mem_append.1 hp with hp|hp
   ·exact h1.2 p hp
   ·have:=h2.2 p hp
    omega
theorem Af:(n:Nat)->(x:Tm n)->(ws:List Wd)->(nm:List ByteArray)->ai ⟨n,x⟩->(mW (aB n x ws nm).2.1 n (aB n x ws nm).1).Nodup/\∀p∈mW (aB n x ws nm).2.1 n (aB n x ws nm).1,ws.length<=p
 | 0,_,_,_,h=>(bQ h).elim
 | n+1,x,ws,nm,h=>by
  by_cases h4:x.1.1=4
  ·have e:aB (n+1) x ws nm=((4,((aO (aB n) x.2.2 ws nm).2.1.length:Int)),(aO (aB n) x.2.2 ws nm).2.1++(0,(x.2.2.length:Int))::(aO (aB n) x.2.2 ws nm).1,(aO (aB n) x.2.2 ws nm).2.2):=by
     simp only[aB]
     rw[if_neg (by omega),if_pos h4]
   have hr:∀y∈x.2.2,ai ⟨n,y⟩:=fun y hy=>aH n x y h hy
   have k:=ve (fun x ws nm hx=>Af n x ws nm hx) x.2.2 ws nm hr
   have hpre:=(pY (fun x ws nm=>kD n x ws nm) x.2.2 ws nm).1.length_le
   have hst:=lW (fun x ws nm hx=>fK n x ws nm hx) x.2.2 ws nm hr
   have hln:=fD (aB n) x.2.2 ws nm
   rw[e]
   generalize (aO (aB n) x.2.2 ws nm).2.1=A at*
   generalize (aO (aB n) x.2.2 ws nm).1=C at*
   generalize (aO (aB n) x.2.2 ws nm).2.2=N at*
   have hat:(A++(0,(x.2.2.length:Int))::C)[A.length]? =some (0,(x.2.2.length:Int)):=by simp
   have hpp:partsOf (A++(0,(x.2.2.length:Int))::C) A.length x.2.2.length=C:=by rw[<-hln];exact IW (List.prefix_refl _)
   have hmo:C.flatMap (mW (A++(0,(x.2.2.length:Int))::C) n)=C.flatMap (mW A n):=kX fun u hu=>by
    obtain⟨i,hi⟩:=List.getElem?_of_mem hu
    have hil:=(List.getElem?_eq_some_iff.1 hi).1
    obtain⟨u',hu',hs⟩:=hst i (x.2.2[i]'(by omega)) (List.getElem?_eq_getElem _)
    rw[hi]at hu'
    injection hu' with hu'
    subst hu'
    exact qi (List.prefix_append _ _) n _ u hs
   have hltC:∀p∈C.flatMap (mW A n),p<A.length:=fun p hp=>by
    obtain⟨u,hu,hp⟩:=List.mem_flatMap.1 hp
    obtain⟨i,hi⟩:=List.getElem?_of_mem hu
    have hil:=(List.getElem?_eq_some_iff.1 hi).1
    obtain⟨u',hu',hs⟩:=hst i (x.2.2[i]'(by omega)) (List.getElem?_eq_getElem _)
    rw[hi]at hu'
    injection hu' with hu'
    subst hu'
    exact yU n _ u hs p hp
   simp only
   rw[qC hat,hpp,hmo]
   refine⟨List.nodup_cons.2 ⟨fun hp=>by have:=hltC _ hp;omega,k.1⟩,fun p hp=> ?_⟩
   rcases List.mem_cons.1 hp with rfl|hp
   ·exact hpre
   ·exact k.2 p hp
  ·have hs:=fK (n+1) x ws nm h
   rw[kK (gU hs h4)]
   simp
theorem BU (n:Nat):(l:List (Tm n))->(ws:List Wd)->(nm:List ByteArray)->((aO (aB n) l ws nm).2.1.length:Int)=ws.length+(l.map (sz n)).sum
 | [],_,_=>by simp[aO]
 | y::l,ws,nm=>by
  have h1:=(gG n y ws nm).1
  have h2:=BU n l (aB n y ws nm).2.1 (aB n y ws nm).2.2
  simp only[aO,List.map_cons,List.sum_cons]
  omega
theorem Fb {ws:List Wd} {nm:List ByteArray} (hnd:nm.Nodup) {n:Nat} {vs:List Wd} {p:List (Tm n)} (h:StandL ws nm n vs p) (hn:(vs.flatMap (mW ws n)).Nodup):
    (iL ws n vs).1=(aO (aB n) p [] nm).1/\(iL ws n vs).2.1=(aO (aB n) p [] nm).2.1/\(aO (aB n) p [] nm).2.2=nm:=
 (Co (fun x v S=>FJ hnd n x v S) vs p h ([],[]) hn (fun _ _=>rfl)).1
def iD:ByteArray:=⟨#[99,111,100,101]⟩
def mq:ByteArray:=⟨#[98,101,104]⟩
def Fh:ByteArray:=⟨#[111,110]⟩
def iG:ByteArray:=⟨#[115,101,110,100]⟩
def iR:ByteArray:=⟨#[115,112,97,119,110]⟩
def lL:ByteArray:=⟨#[108,105,110,107]⟩
def lI:ByteArray:=⟨#[115,116,111,112]⟩
def dK (n:Nat) (x:Tm n):Bool:=(gZ n x).1.1==0 && (gZ n x).1.2.1==0 && (gZ n x).1.2.2.toList.isEmpty && ((gZ n x).2.2.1:Int)==0
def vV (s:ByteArray) (v:Int):Bool:=s.toList.isEmpty && v==0
def kS (n:Nat) (a:Ac n):Bool:=
 if a.1=1 then vV a.2.2.1 a.2.2.2
 else if a.1=2 then dK n a.2.1.1 && bq a.2.2.1 && decide (0<=a.2.2.2) && decide (a.2.2.2<4)
 else if a.1=3 then dK n a.2.1.2 && vV a.2.2.1 a.2.2.2
 else if a.1=4 then dK n a.2.1.1 && dK n a.2.1.2 && vV a.2.2.1 a.2.2.2
 else false
def sN (n:Nat) (c:Cl n):Bool:=decide ((c.2.2.length:Int)<=8) && c.2.2.all (kS n)
def wP (n:Nat) (b:Bh n):Bool:=bq b.1 && decide (1<=(b.2.2.length:Int)) && decide ((b.2.2.length:Int)<=6) && b.2.2.all (sN n)
def iZ (n:Nat) (l:List (Bh n)):Bool:=decide (1<=(l.length:Int)) && decide ((l.length:Int)<=7) && l.all (wP n)
def aC (s:ByteArray) (N:Nat):Tm (N+1):=((2,0,s),(none,0),[])
def bT (n:Nat) (a:Ac (n+1)):Tm (n+2):=
 if a.1=1 then bH (n+1) [aC iG n,a.2.1.1,a.2.1.2]
 else if a.1=2 then bH (n+1) [aC iR n,aC a.2.2.1 n,a.2.1.2,aF 5 a.2.2.2 n]
 else if a.1=3 then bH (n+1) [aC lL n,a.2.1.1]
 else bH (n+1) [aC lI n]
def dL (n:Nat) (c:Cl (n+1)):Tm (n+4):=
 bH (n+3) [aC Fh (n+2),lift (n+3) (n+1) c.1.1,lift (n+3) (n+1) c.1.2.1,bH (n+2) (c.2.2.map (bT n)),lift (n+3) (n+1) c.1.2.2]
def dF (n:Nat) (b:Bh (n+1)):Tm (n+5):=bH (n+4) (aC mq (n+3)::aC b.1 (n+3)::b.2.2.map (dL n))
def bM (n:Nat) (l:List (Bh (n+1))):Tm (n+6):=bH (n+5) (aC iD (n+4)::l.map (dF n))
def RelL {α β:Type} (R:α->β->Prop) (l:List α) (r:List β):Prop:=l.length=r.length/\∀(i:Nat) (x:α) (y:β),l[i]? =some x->r[i]? =some y->R x y
theorem RelL.nil {α β:Type} {R:α->β->Prop}:RelL R [] []:=⟨rfl,fun i x y h=>by simp at h⟩
theorem RelL.snoc {α β:Type} {R:α->β->Prop} {l:List α} {r:List β} (h:RelL R l r) {x:α} {y:β} (k:R x y):RelL R (l++ [x]) (r++ [y]):=by
 refine⟨by simp[h.1],fun i a b ha hb=> ?_⟩
 by_cases hi:i<l.length
 ·rw[List.getElem?_append_left hi]at ha
  rw[List.getElem?_append_left (by rw[<-h.1];exact hi)]at hb
  exact h.2 i a b ha hb
 ·rw[List.getElem?_append_right (by omega)]at ha
  rw[List.getElem?_append_right (by rw[<-h.1];omega)]at hb
  have h0:i-l.length=0:=by
   by_cases h0:i-l.length=0
   ·exact h0
   ·rw[List.getElem?_eq_none (by simp;omega)]at ha;cases ha
  rw[<-h.1,h0]at hb
  rw[h0]at ha
  simp at ha hb
  rw[<-ha,<-hb]
  exact k
theorem RelL.tail {α β:Type} {R:α->β->Prop} {x:α} {y:β} {l:List α} {r:List β} (h:RelL R (x::l) (y::r)):R x y/\RelL R l r:=
 ⟨h.2 0 x y (by simp) (by simp),by simpa using h.1,fun i a b ha hb=>h.2 (i+1) a b (by simpa using ha) (by simpa using hb)⟩
theorem RelL.all {α β:Type} {R:α->β->Prop} (f:α->Bool) (g:β->Bool) (hf:∀x y,R x y->f x=g y):(l:List α)->(r:List β)->RelL R l r->l.all f=r.all g
 | [],[],_=>rfl
 | [],_::_,h=>by have:=h.1;simp at this
 | _::_,[],h=>by have:=h.1;simp at this
 | x::l,y::r,h=>by
  simp only[List.all_cons,hf x y h.tail.1,RelL.all f g hf l r h.tail.2]
theorem RelL.same {α β:Type} {R:α->β->Prop} {n m:Nat} (f:α->Tm n) (g:β->Tm m) (hf:∀x y,R x y->same n (f x) m (g y)=true):(l:List α)->(r:List β)->RelL R l r->ah (fun a b=>same n a m b) (l.map f) (r.map g)=true
 | [],[],_=>rfl
 | [],_::_,h=>by have:=h.1;simp at this
 | _::_,[],h=>by have:=h.1;simp at this
 | x::l,y::r,h=>by
  simp only[List.map_cons,ah,Bool.and_eq_true]
  exact⟨hf x y h.tail.1,RelL.same f g hf l r h.tail.2⟩
def ES (n:Nat) (a b:Ac n):Prop:=a.1=b.1/\same n a.2.1.1 n b.2.1.1=true/\same n a.2.1.2 n b.2.1.2=true/\a.2.2=b.2.2
def Dq (n:Nat) (a b:Cl n):Prop:=(same n a.1.1 n b.1.1=true/\same n a.1.2.1 n b.1.2.1=true/\same n a.1.2.2 n b.1.2.2=true)/\RelL (ES n) a.2.2 b.2.2
def vW (n:Nat) (a b:Bh n):Prop:=a.1=b.1/\RelL (Dq n) a.2.2 b.2.2
theorem Gc {n m:Nat} {x:Tm n} {y:Tm m} (h:same n x m y=true):(gZ n x).1=(gZ m y).1/\(gZ n x).2.2.1=(gZ m y).2.2.1:=by
 cases n with
 | zero=>simp[same]at h
 | succ n=>
  cases m with
  | zero=>simp[same]at h
  | succ m=>
   have h1:=aM h
   have h2:=bN _ _ _ h1.2
   simp only[gZ,aL]
   exact⟨h1.1,h2⟩
theorem qw {n m:Nat} {x:Tm n} {y:Tm m} (h:same n x m y=true):dK n x=dK m y:=by
 have h1:=Gc h
 simp only[dK,h1.1,h1.2]
theorem PZ {n:Nat} {a b:Ac n} (h:ES n a b):kS n a=kS n b:=by
 obtain⟨h1,h2,h3,h4⟩:=h
 simp only[kS,h1,h4,qw h2,qw h3]
theorem Qj {n:Nat} {a b:Cl n} (h:Dq n a b):sN n a=sN n b:=by
 simp only[sN,h.2.1,RelL.all (R:=ES n) (kS n) (kS n) (fun _ _ h=>PZ h) _ _ h.2]
theorem Qi {n:Nat} {a b:Bh n} (h:vW n a b):wP n a=wP n b:=by
 simp only[wP,h.1,h.2.1,RelL.all (R:=Dq n) (sN n) (sN n) (fun _ _ h=>Qj h) _ _ h.2]
theorem F4 {n:Nat} {l r:List (Bh n)} (h:RelL (vW n) l r):iZ n l=iZ n r:=by
 simp only[iZ,h.1,RelL.all (R:=vW n) (wP n) (wP n) (fun _ _ h=>Qi h) _ _ h]
theorem bV (s:ByteArray) (N M:Nat):same (N+1) (aC s N) (M+1) (aC s M)=true:=aZ rfl rfl
theorem oV (k u:Int) (N M:Nat):same (N+1) (aF k u N) (M+1) (aF k u M)=true:=aZ rfl rfl
theorem fF {N M:Nat} {l:List (Tm N)} {r:List (Tm M)} (h:ah (fun a b=>same N a M b) l r=true):same (N+1) (bH N l) (M+1) (bH M r)=true:=aZ rfl h
theorem kH:(N n:Nat)->n<=N->(x:Tm n)->same n x n x=true->same N (lift N n x) n x=true
 | _,0,_,_,h=>by simp[same]at h
 | 0,n+1,h,_,_=>by omega
 | N+1,n+1,h,x,hr=>by
  have h1:=(aM hr).2
  refine aZ rfl (gP _ _ _ fun y hy=>kH N n (by omega) y ?_)
  obtain⟨i,hi⟩:=List.getElem?_of_mem hy
  exact jG _ _ _ h1 i y y hi hi
theorem xZ {n m:Nat} {x:Tm n} {y:Tm m} (h:same n x m y=true):same n x n x=true:=aW _ _ _ _ _ _ h (cK _ _ _ _ h)
theorem DI {n m:Nat} {x:Tm n} {y:Tm m} (h:same n x m y=true):same m y m y=true:=aW _ _ _ _ _ _ (cK _ _ _ _ h) h
theorem nu {N n m:Nat} (hn:n<=N) (hm:m<=N) {x:Tm n} {y:Tm m} (h:same n x m y=true):same N (lift N n x) N (lift N m y)=true:=
 aW _ _ _ _ _ _ (kH N n hn x (xZ h)) (aW _ _ _ _ _ _ h (cK _ _ _ _ (kH N m hm y (DI h))))
theorem jU {B:Nat} {w:World}:{n:Nat}->{x:Tm n}->In B w n x->same n x n x=true
 | 0,_,k=>k.elim
 | n+1,x,k=>by
  refine aZ rfl (jy _ _ fun y hy=> ?_)
  obtain⟨i,hi⟩:=List.getElem?_of_mem hy
  rcases k.2 with e|⟨b,o,_,_,k2⟩
  ·rw[e]at hy;cases hy
  ·exact jU (k2 i y hi).2
theorem JH {n:Nat} {a b:Ac (n+1)} (h:ES (n+1) a b):same (n+2) (bT n a) (n+2) (bT n b)=true:=by
 obtain⟨h1,h2,h3,h4⟩:=h
 unfold bT
 rw[h1,h4]
 split
 ·exact fF (by simp[ah,bV,h2,h3])
 split
 ·exact fF (by simp[ah,bV,oV,h3])
 split
 ·exact fF (by simp[ah,bV,h2])
 ·exact fF (by simp[ah,bV])
theorem JK {n:Nat} {a b:Cl (n+1)} (h:Dq (n+1) a b):same (n+4) (dL n a) (n+4) (dL n b)=true:=by
 have e:=RelL.same (bT n) (bT n) (fun _ _ h=>JH h) _ _ h.2
 exact fF (by simp only[ah,Bool.and_eq_true];exact⟨bV _ _ _,nu (by omega) (by omega) h.1.1,nu (by omega) (by omega) h.1.2.1,fF e,nu (by omega) (by omega) h.1.2.2,trivial⟩)
theorem Ls {n:Nat} {a b:Bh (n+1)} (h:vW (n+1) a b):same (n+5) (dF n a) (n+5) (dF n b)=true:=by
 have e:=RelL.same (dL n) (dL n) (fun _ _ h=>JK h) _ _ h.2
 refine fF ?_
 simp only[ah,Bool.and_eq_true]
 exact⟨bV _ _ _,by rw[h.1];exact bV _ _ _,e⟩
theorem vT {n:Nat} {l r:List (Bh (n+1))} (h:RelL (vW (n+1)) l r):same (n+6) (bM n l) (n+6) (bM n r)=true:=by
 have e:=RelL.same (dF n) (dF n) (fun _ _ h=>Ls h) _ _ h
 refine fF ?_
 simp only[ah,Bool.and_eq_true]
 exact⟨bV _ _ _,e⟩
theorem bY (k u:Int) (s:ByteArray) (a:Option Addr) (l c:Nat) (w:World):
    Calls Tryz.prog 130 #[.agg #[.int .i64 k,.int .i64 u,.string s,.slice a l c]] w fun e w'=>e=.returned (.bool (k==0 && u==0 && s.toList.isEmpty && (l:Int)==0))/\w'=w.alloc (.cells #[.int .i64 k,.int .i64 u,.string s,.slice a l c] 30):=by
 cases h1:k==0
 ·go_enter Tryz.func130,Tryz.ntmps130
  go_wp2_with fail
  go_ret
  exact⟨rfl,rfl⟩
 cases h2:u==0
 ·go_enter Tryz.func130,Tryz.ntmps130
  go_wp2_with fail
  go_ret
  exact⟨rfl,rfl⟩
 cases h3:s.toList.isEmpty
 ·go_enter Tryz.func130,Tryz.ntmps130
  go_wp2_with fail
  go_ret
  exact⟨rfl,rfl⟩
 go_enter Tryz.func130,Tryz.ntmps130
 go_wp2_with fail
 go_ret
 exact⟨rfl,rfl⟩
theorem oJ (K t0 t1 x0 x1 v:Int) (t2 x2 s:ByteArray) (t3 x3:Option Addr) (t4 t5 x4 x5:Nat) (w:World):
    Calls Tryz.prog 129 #[.agg #[.int .i64 K,.int .i64 t0,.int .i64 t1,.string t2,.slice t3 t4 t5,.int .i64 x0,.int .i64 x1,.string x2,.slice x3 x4 x5,.string s,.int .i64 v]] w fun e w'=>e=.returned (.bool (vV s v))/\w'=w.alloc (.cells #[.int .i64 K,.int .i64 t0,.int .i64 t1,.string t2,.slice t3 t4 t5,.int .i64 x0,.int .i64 x1,.string x2,.slice x3 x4 x5,.string s,.int .i64 v] 74):=by
 unfold vV
 cases h3:s.toList.isEmpty
 ·go_enter Tryz.func129,Tryz.ntmps129
  go_wp2_with fail
  go_ret
  exact⟨rfl,rfl⟩
 go_enter Tryz.func129,Tryz.ntmps129
 go_wp2_with fail
 go_ret
 exact⟨rfl,rfl⟩
theorem Ej (K t0 t1 x0 x1 v:Int) (t2 x2 s:ByteArray) (t3 x3:Option Addr) (t4 t5 x4 x5:Nat) (w:World) (hs:s.size<=9223372036854775807) (r1 r2 r3 r4:Bool)
    (h1:Hid ((t0==0 && t1==0 && t2.toList.isEmpty && (t4:Int)==0)=r1)) (h2:Hid ((x0==0 && x1==0 && x2.toList.isEmpty && (x4:Int)==0)=r2)) (h3:Hid (vV s v=r3)) (h4:Hid (bq s=r4)):
    Calls Tryz.prog 112 #[.agg #[.int .i64 K,.int .i64 t0,.int .i64 t1,.string t2,.slice t3 t4 t5,.int .i64 x0,.int .i64 x1,.string x2,.slice x3 x4 x5,.string s,.int .i64 v]] w fun e w'=>e=.returned (.bool (if K=1 then r3 else if K=2 then r1 && r4 && decide (0<=v) && decide (v<4)else if K=3 then r2 && r3 else if K=4 then r1 && r2 && r3 else false))/\Below w.heap.size w w':=by
 by_cases k1:K=1
 ·subst k1
  rw[if_pos rfl]
  go_enter Tryz.func112,Tryz.ntmps112
  go_wp2_with (go_at_call 129;refine(oJ _ _ _ _ _ _ _ _ _ _ _ _ _ _ _ _).mono ?_;rintro e w' ⟨rfl,rfl⟩;rw[h3.out])
  go_ret
  exact⟨rfl,by go_grown⟩
 rw[if_neg k1]
 by_cases k2:K=2
 ·subst k2
  rw[if_pos rfl]
  clear h2 h3 k1
  cases r1
  ·go_enter Tryz.func112,Tryz.ntmps112
   go_wp2_with (go_at_call 130;refine(bY _ _ _ _ _ _ _).mono ?_;rintro e w' ⟨rfl,rfl⟩;rw[h1.out])
   go_ret
   exact⟨rfl,by go_grown⟩
  cases r4
  ·go_enter Tryz.func112,Tryz.ntmps112
   go_wp2_with (first|(go_at_call 130;refine(bY _ _ _ _ _ _ _).mono ?_;rintro e w' ⟨rfl,rfl⟩;rw[h1.out])|(go_at_call 49;refine(gV _ _ hs).mono ?_;rintro e w' ⟨rfl,rfl⟩;rw[h4.out]))
   go_ret
   exact⟨rfl,by go_grown⟩
  cases hv:decide (0<=v)
  ·go_enter Tryz.func112,Tryz.ntmps112
   go_wp2_with (first|(go_at_call 130;refine(bY _ _ _ _ _ _ _).mono ?_;rintro e w' ⟨rfl,rfl⟩;rw[h1.out])|(go_at_call 49;refine(gV _ _ hs).mono ?_;rintro e w' ⟨rfl,rfl⟩;rw[h4.out]))
   go_ret
   exact⟨rfl,by go_grown⟩
  ·go_enter Tryz.func112,Tryz.ntmps112
   go_wp2_with (first|(go_at_call 130;refine(bY _ _ _ _ _ _ _).mono ?_;rintro e w' ⟨rfl,rfl⟩;rw[h1.out])|(go_at_call 49;refine(gV _ _ hs).mono ?_;rintro e w' ⟨rfl,rfl⟩;rw[h4.out]))
   go_ret
   exact⟨rfl,by go_grown⟩
 rw[if_neg k2]
 by_cases k3:K=3
 ·subst k3
  rw[if_pos rfl]
  clear h1 h4 k1 k2
  cases r2
  ·go_enter Tryz.func112,Tryz.ntmps112
   go_wp2_with (go_at_call 130;refine(bY _ _ _ _ _ _ _).mono ?_;rintro e w' ⟨rfl,rfl⟩;rw[h2.out])
   go_ret
   exact⟨rfl,by go_grown⟩
  ·go_enter Tryz.func112,Tryz.ntmps112
   go_wp2_with (first|(go_at_call 130;refine(bY _ _ _ _ _ _ _).mono ?_;rintro e w' ⟨rfl,rfl⟩;rw[h2.out])|(go_at_call 129;refine(oJ _ _ _ _ _ _ _ _ _ _ _ _ _ _ _ _).mono ?_;rintro e w' ⟨rfl,rfl⟩;rw[h3.out]))
   go_ret
   exact⟨rfl,by go_grown⟩
 rw[if_neg k3]
 by_cases k4:K=4
 ·subst k4
  rw[if_pos rfl]
  clear h4 k1 k2 k3
  cases r1
  ·go_enter Tryz.func112,Tryz.ntmps112
   go_wp2_with (go_at_call 130;refine(bY _ _ _ _ _ _ _).mono ?_;rintro e w' ⟨rfl,rfl⟩;rw[h1.out])
   go_ret
   exact⟨rfl,by go_grown⟩
  cases r2
  ·go_enter Tryz.func112,Tryz.ntmps112
   go_wp2_with (go_at_call 130;refine(bY _ _ _ _ _ _ _).mono ?_;rintro e w' ⟨rfl,rfl⟩;first|rw[h1.out]|rw[h2.out])
   go_ret
   exact⟨rfl,by go_grown⟩
  ·go_enter Tryz.func112,Tryz.ntmps112
   go_wp2_with (first|(go_at_call 130;refine(bY _ _ _ _ _ _ _).mono ?_;rintro e w' ⟨rfl,rfl⟩;first|rw[h1.out]|rw[h2.out])|(go_at_call 129;refine(oJ _ _ _ _ _ _ _ _ _ _ _ _ _ _ _ _).mono ?_;rintro e w' ⟨rfl,rfl⟩;rw[h3.out]))
   go_ret
   exact⟨rfl,by go_grown⟩
 rw[if_neg k4]
 have e1:(K==1)=false:=by simpa using k1
 have e2:(K==2)=false:=by simpa using k2
 have e3:(K==3)=false:=by simpa using k3
 have e4:(K==4)=false:=by simpa using k4
 clear k1 k2 k3 k4
 go_enter Tryz.func112,Tryz.ntmps112
 go_wp2_with fail
 go_ret
 exact⟨rfl,by go_grown⟩
theorem Jb (n:Nat) (a:Ac (n+1)) (w:World) (hs:a.2.2.1.size<=maxLen):
    Calls Tryz.prog 112 #[.agg (eG (n+1) a).toArray] w fun e w'=>e=.returned (.bool (kS (n+1) a))/\Below w.heap.size w w':=by
 unfold maxLen at hs
 exact Ej a.1 _ _ _ _ _ _ _ _ _ _ _ _ _ _ w (by omega) _ _ _ _ rfl rfl rfl rfl
def OH (n:Nat) (w:World) (b o:Nat) (x:Ac (n+1)):Prop:=
 w.cell? ⟨b,o,none⟩=some (.int .i64 x.1)/\
 (w.cell? ⟨b,o+1,none⟩=some (.int .i64 x.2.1.1.1.1)/\w.cell? ⟨b,o+2,none⟩=some (.int .i64 x.2.1.1.1.2.1)/\w.cell? ⟨b,o+3,none⟩=some (.string x.2.1.1.1.2.2)/\w.cell? ⟨b,o+4,none⟩=some (.slice x.2.1.1.2.1.1 x.2.1.1.2.2.length x.2.1.1.2.1.2))/\
 (w.cell? ⟨b,o+5,none⟩=some (.int .i64 x.2.1.2.1.1)/\w.cell? ⟨b,o+6,none⟩=some (.int .i64 x.2.1.2.1.2.1)/\w.cell? ⟨b,o+7,none⟩=some (.string x.2.1.2.1.2.2)/\w.cell? ⟨b,o+8,none⟩=some (.slice x.2.1.2.2.1.1 x.2.1.2.2.2.length x.2.1.2.2.1.2))/\
 w.cell? ⟨b,o+9,none⟩=some (.string x.2.2.1)/\w.cell? ⟨b,o+10,none⟩=some (.int .i64 x.2.2.2)
def PH (n:Nat) (w:World) (b o:Nat) (x:Cl (n+1)):Prop:=
 (w.cell? ⟨b,o,none⟩=some (.int .i64 x.1.1.1.1)/\w.cell? ⟨b,o+1,none⟩=some (.int .i64 x.1.1.1.2.1)/\w.cell? ⟨b,o+2,none⟩=some (.string x.1.1.1.2.2)/\w.cell? ⟨b,o+3,none⟩=some (.slice x.1.1.2.1.1 x.1.1.2.2.length x.1.1.2.1.2))/\
 (w.cell? ⟨b,o+4,none⟩=some (.int .i64 x.1.2.1.1.1)/\w.cell? ⟨b,o+5,none⟩=some (.int .i64 x.1.2.1.1.2.1)/\w.cell? ⟨b,o+6,none⟩=some (.string x.1.2.1.1.2.2)/\w.cell? ⟨b,o+7,none⟩=some (.slice x.1.2.1.2.1.1 x.1.2.1.2.2.length x.1.2.1.2.1.2))/\
 w.cell? ⟨b,o+8,none⟩=some (.slice x.2.1.1 x.2.2.length x.2.1.2)/\
 (w.cell? ⟨b,o+9,none⟩=some (.int .i64 x.1.2.2.1.1)/\w.cell? ⟨b,o+10,none⟩=some (.int .i64 x.1.2.2.1.2.1)/\w.cell? ⟨b,o+11,none⟩=some (.string x.1.2.2.1.2.2)/\w.cell? ⟨b,o+12,none⟩=some (.slice x.1.2.2.2.1.1 x.1.2.2.2.2.length x.1.2.2.2.1.2))
theorem Lay.ac {n B:Nat} {w:World} {I:Ac (n+1)->Prop} {a:Option Addr} {p:List (Ac (n+1))} (h:Lay B w 11 (eG (n+1)) I a p) (k:Nat) (x:Ac (n+1)) (hx:p[k]? =some x):∃b o,a=some ⟨b,o,none⟩/\b<B/\OH n w b (o+k*11) x/\I x:=by
 rcases h with h|⟨b,o,e,hb,h⟩
 ·subst h;simp at hx
 ·obtain⟨h1,h2⟩:=h k x hx
  exact⟨b,o,e,hb,⟨h1 0 _ rfl,⟨h1 1 _ rfl,h1 2 _ rfl,h1 3 _ rfl,h1 4 _ rfl⟩,⟨h1 5 _ rfl,h1 6 _ rfl,h1 7 _ rfl,h1 8 _ rfl⟩,h1 9 _ rfl,h1 10 _ rfl⟩,h2⟩
theorem Lay.cl {n B:Nat} {w:World} {I:Cl (n+1)->Prop} {a:Option Addr} {p:List (Cl (n+1))} (h:Lay B w 13 (dJ (n+1)) I a p) (k:Nat) (x:Cl (n+1)) (hx:p[k]? =some x):∃b o,a=some ⟨b,o,none⟩/\b<B/\PH n w b (o+k*13) x/\I x:=by
 rcases h with h|⟨b,o,e,hb,h⟩
 ·subst h;simp at hx
 ·obtain⟨h1,h2⟩:=h k x hx
  exact⟨b,o,e,hb,⟨⟨h1 0 _ rfl,h1 1 _ rfl,h1 2 _ rfl,h1 3 _ rfl⟩,⟨h1 4 _ rfl,h1 5 _ rfl,h1 6 _ rfl,h1 7 _ rfl⟩,h1 8 _ rfl,h1 9 _ rfl,h1 10 _ rfl,h1 11 _ rfl,h1 12 _ rfl⟩,h2⟩
theorem Lay.bh {n B:Nat} {w:World} {I:Bh (n+1)->Prop} {a:Option Addr} {p:List (Bh (n+1))} (h:Lay B w 2 (nK (n+1)) I a p) (k:Nat) (x:Bh (n+1)) (hx:p[k]? =some x):∃b o,a=some ⟨b,o,none⟩/\b<B/\(w.cell? ⟨b,o+k*2,none⟩=some (.string x.1)/\w.cell? ⟨b,o+k*2+1,none⟩=some (.slice x.2.1.1 x.2.2.length x.2.1.2))/\I x:=by
 rcases h with h|⟨b,o,e,hb,h⟩
 ·subst h;simp at hx
 ·obtain⟨h1,h2⟩:=h k x hx
  exact⟨b,o,e,hb,⟨h1 0 _ rfl,h1 1 _ rfl⟩,h2⟩
theorem ji {α:Type} {I:Nat->World->α->Prop} {O:(Nat->Prop)->α->Prop} (hS:Stays I O) {k:Nat} {f:α->List Value} {a:Option Addr} {B:Nat} {w w':World} (hb:Below B w w') {l:List α} (h:Lay B w k f (I B w) a l):Lay B w' k f (I B w') a l:=(bi hS k f a).below hb h
theorem Bl (n:Nat) (p:List (Ac (n+1))) (len:Nat) (hpl:Hid (p.length=len)) (a:Option Addr) (pc B:Nat) (w:World)
    (hp:Hid (Lay B w 11 (eG (n+1)) (AcIn (n+1) B w) a p)) (hlen:len<=9223372036854775807) (hB:B<=w.heap.size):
    Calls Tryz.prog 92 #[.slice a len pc] w fun e w'=>e=.returned (.bool (decide ((len:Int)<=8) && p.all (kS (n+1))))/\Below w.heap.size w w':=by
 by_cases h8:(8:Int)<len
 ·have h8':decide ((len:Int)<=8)=false:=by simp;omega
  rw[h8']
  go_enter Tryz.func92,Tryz.ntmps92
  go_wp2_with fail
  go_ret
  exact⟨rfl,Below.refl _ _⟩
 have h8':decide ((len:Int)<=8)=true:=by simp;omega
 rw[h8',Bool.true_and]
 clear h8'
 go_enter Tryz.func92,Tryz.ntmps92
 go_wp2_with fail
 go_loopw [10] (fun i wr=>∃k:Nat,k<=len/\i=.int .i64 k/\Below w.heap.size w wr/\Hid ((p.drop k).all (kS (n+1))=p.all (kS (n+1)))) (fun i _=>len-(intOf i).toNat)
 case atStart=>exact⟨0,by omega,rfl,Below.refl _ _,rfl⟩
 case round=>
  obtain⟨k,hk,rfl,hb,hd⟩:=hrel
  by_cases hlt:k<len
  ·obtain⟨x,hx⟩:∃x,p[k]? =some x:=⟨p[k]'(by rw[hpl.out];exact hlt),List.getElem?_eq_getElem _⟩
   have HS:=hide (qy (kS (n+1)) p k x hx)
   obtain⟨pb,po,rfl,hpb,⟨x0,⟨x1,x2,x3,x4⟩,⟨x5,x6,x7,x8⟩,x9,x10⟩,hi⟩:=(ji (dW (n+1)) (hb.mono hB) hp.out).ac k x hx
   have HC:=fun w1=>hide (Jb n x w1 hi.2.2.2.1)
   replace HC:Hid (∀w1,Calls Tryz.prog 112 #[.agg #[.int .i64 x.1,.int .i64 x.2.1.1.1.1,.int .i64 x.2.1.1.1.2.1,.string x.2.1.1.1.2.2,.slice x.2.1.1.2.1.1 x.2.1.1.2.2.length x.2.1.1.2.1.2,.int .i64 x.2.1.2.1.1,.int .i64 x.2.1.2.1.2.1,.string x.2.1.2.1.2.2,.slice x.2.1.2.2.1.1 x.2.1.2.2.2.length x.2.1.2.2.1.2,.string x.2.2.1,.int .i64 x.2.2.2]] w1 fun e w'=>e=.returned (.bool (kS (n+1) x))/\Below w1.heap.size w1 w'):=fun w1=>(HC w1).out
   clear hi hx
   generalize kS (n+1) x=r at*
   have hk1:(0:Int)<=(k:Int):=by omega
   have hk2:(k:Int)<(len:Int):=by omega
   go_wp2_with fail
   refine(HC.out _).mono ?_
   rintro e w1 ⟨rfl,hb1⟩
   have hb2:Below w.heap.size w w1:=(hb.trans (((Below.refl _ _).alloc (Nat.le_refl _) _).mono hb.size)).trans (hb1.mono (by have:=hb.size;simp;omega))
   clear hb1
   cases r with
   | true=>
    go_wp2_with fail
    go_roundw
    case rel=>exact⟨k+1,by omega,by go_num,hb2,by rw[<-hd.out,HS.out];rfl⟩
    case measure=>simp[intOf];omega
   | false=>
    go_wp2_with fail
    go_ret
    exact⟨aT (by rw[<-hd.out,HS.out];rfl),hb2⟩
  ·go_wp2_with fail
   go_ret
   refine⟨aT ?_,hb⟩
   rw[<-hd.out,List.drop_eq_nil_of_le (by rw[hpl.out];omega)]
   rfl
theorem uU (n:Nat) (p:List (Cl (n+1))) (len:Nat) (hpl:Hid (p.length=len)) (a:Option Addr) (pc B:Nat) (w:World)
    (hp:Hid (Lay B w 13 (dJ (n+1)) (fM (n+1) B w) a p)) (hlen:len<=9223372036854775807) (hB:B<=w.heap.size):
    Calls Tryz.prog 69 #[.slice a len pc] w fun e w'=>e=.returned (.bool (decide (1<=(len:Int)) && decide ((len:Int)<=6) && p.all (sN (n+1))))/\Below w.heap.size w w':=by
 by_cases h1:(len:Int)<1
 ·have h1':decide (1<=(len:Int))=false:=by simp;omega
  rw[h1']
  go_enter Tryz.func69,Tryz.ntmps69
  go_wp2_with fail
  go_ret
  exact⟨rfl,Below.refl _ _⟩
 by_cases h8:(6:Int)<len
 ·have h8':decide ((len:Int)<=6)=false:=by simp;omega
  rw[h8']
  go_enter Tryz.func69,Tryz.ntmps69
  go_wp2_with fail
  go_ret
  exact⟨aT (by simp),Below.refl _ _⟩
 have h8':(decide (1<=(len:Int)) && decide ((len:Int)<=6))=true:=by simp;omega
 rw[h8',Bool.true_and]
 clear h8'
 go_enter Tryz.func69,Tryz.ntmps69
 go_wp2_with fail
 go_loopw [15] (fun i wr=>∃k:Nat,k<=len/\i=.int .i64 k/\Below w.heap.size w wr/\Hid ((p.drop k).all (sN (n+1))=p.all (sN (n+1)))) (fun i _=>len-(intOf i).toNat)
 case atStart=>exact⟨0,by omega,rfl,Below.refl _ _,rfl⟩
 case round=>
  obtain⟨k,hk,rfl,hb,hd⟩:=hrel
  by_cases hlt:k<len
  ·obtain⟨x,hx⟩:∃x,p[k]? =some x:=⟨p[k]'(by rw[hpl.out];exact hlt),List.getElem?_eq_getElem _⟩
   have HS:=hide (qy (sN (n+1)) p k x hx)
   obtain⟨pb,po,rfl,hpb,⟨⟨x0,x1,x2,x3⟩,⟨x4,x5,x6,x7⟩,x8,x9,x10,x11,x12⟩,hi⟩:=(ji (dA (n+1)) (hb.mono hB) hp.out).cl k x hx
   have hB':B<=wr.heap.size:=Nat.le_trans hB hb.size
   have HC:Hid (∀w1,Below wr.heap.size wr w1->Calls Tryz.prog 92 #[.slice x.2.1.1 x.2.2.length x.2.1.2] w1 fun e w'=>e=.returned (.bool (sN (n+1) x))/\Below w1.heap.size w1 w'):=
    fun w1 hw=>Bl n x.2.2 x.2.2.length rfl x.2.1.1 x.2.1.2 B w1 (ji (dW (n+1)) (hw.mono hB') hi.2.2) (by have:=hi.2.1;unfold maxLen at this;omega) (Nat.le_trans hB' hw.size)
   clear hi hx
   generalize sN (n+1) x=r at*
   have hk1:(0:Int)<=(k:Int):=by omega
   have hk2:(k:Int)<(len:Int):=by omega
   go_wp2_with fail
   refine(HC.out _ ((Below.refl _ _).alloc (Nat.le_refl _) _)).mono ?_
   rintro e w1 ⟨rfl,hb1⟩
   have hb2:Below w.heap.size w w1:=(hb.trans (((Below.refl _ _).alloc (Nat.le_refl _) _).mono hb.size)).trans (hb1.mono (by have:=hb.size;simp;omega))
   clear hb1
   cases r with
   | true=>
    go_wp2_with fail
    go_roundw
    case rel=>exact⟨k+1,by omega,by go_num,hb2,by rw[<-hd.out,HS.out];rfl⟩
    case measure=>simp[intOf];omega
   | false=>
    go_wp2_with fail
    go_ret
    exact⟨aT (by rw[<-hd.out,HS.out];rfl),hb2⟩
  ·go_wp2_with fail
   go_ret
   refine⟨aT ?_,hb⟩
   rw[<-hd.out,List.drop_eq_nil_of_le (by rw[hpl.out];omega)]
   rfl
theorem PO (n:Nat) (x:Bh n):wP n x=(bq x.1 && (decide (1<=(x.2.2.length:Int)) && decide ((x.2.2.length:Int)<=6) && x.2.2.all (sN n))):=by
 simp only[wP,Bool.and_assoc]
theorem nT (n:Nat) (p:List (Bh (n+1))) (len:Nat) (hpl:Hid (p.length=len)) (a:Option Addr) (pc B:Nat) (w:World)
    (hp:Hid (PgIn (n+1) B w a p)) (hlen:len<=9223372036854775807) (hB:B<=w.heap.size):
    Calls Tryz.prog 46 #[.slice a len pc] w fun e w'=>e=.returned (.bool (iZ (n+1) p))/\Below w.heap.size w w':=by
 have HP:Hid (iZ (n+1) p=(decide (1<=(len:Int)) && decide ((len:Int)<=7) && p.all (wP (n+1)))):=by
  show iZ (n+1) p=_
  rw[<-hpl.out]
  rfl
 rw[HP.out]
 by_cases h1:(len:Int)<1
 ·have h1':decide (1<=(len:Int))=false:=by simp;omega
  rw[h1']
  go_enter Tryz.func46,Tryz.ntmps46
  go_wp2_with fail
  go_ret
  exact⟨rfl,Below.refl _ _⟩
 by_cases h8:(7:Int)<len
 ·have h8':decide ((len:Int)<=7)=false:=by simp;omega
  rw[h8']
  go_enter Tryz.func46,Tryz.ntmps46
  go_wp2_with fail
  go_ret
  exact⟨aT (by simp),Below.refl _ _⟩
 have h8':(decide (1<=(len:Int)) && decide ((len:Int)<=7))=true:=by simp;omega
 rw[h8',Bool.true_and]
 clear h8' HP
 go_enter Tryz.func46,Tryz.ntmps46
 go_wp2_with fail
 go_loopw [15] (fun i wr=>∃k:Nat,k<=len/\i=.int .i64 k/\Below w.heap.size w wr/\Hid ((p.drop k).all (wP (n+1))=p.all (wP (n+1)))) (fun i _=>len-(intOf i).toNat)
 case atStart=>exact⟨0,by omega,rfl,Below.refl _ _,rfl⟩
 case round=>
  obtain⟨k,hk,rfl,hb,hd⟩:=hrel
  by_cases hlt:k<len
  ·obtain⟨x,hx⟩:∃x,p[k]? =some x:=⟨p[k]'(by rw[hpl.out];exact hlt),List.getElem?_eq_getElem _⟩
   have HS:=hide (qy (wP (n+1)) p k x hx)
   obtain⟨pb,po,rfl,hpb,⟨x0,x1⟩,hi⟩:=(PgIn.below (hb.mono hB) hp.out).bh k x hx
   have hB':B<=wr.heap.size:=Nat.le_trans hB hb.size
   have hs:x.1.size<=9223372036854775807:=by have:=hi.1;unfold maxLen at this;omega
   have HC:Hid (∀w1,Below wr.heap.size wr w1->Calls Tryz.prog 69 #[.slice x.2.1.1 x.2.2.length x.2.1.2] w1 fun e w'=>e=.returned (.bool (decide (1<=(x.2.2.length:Int)) && decide ((x.2.2.length:Int)<=6) && x.2.2.all (sN (n+1))))/\Below w1.heap.size w1 w'):=
    fun w1 hw=>uU n x.2.2 x.2.2.length rfl x.2.1.1 x.2.1.2 B w1 (ji (dA (n+1)) (hw.mono hB') hi.2.2) (by have:=hi.2.1;unfold maxLen at this;omega) (Nat.le_trans hB' hw.size)
   have HE:=hide (PO (n+1) x)
   clear hi hx
   generalize (decide (1<=(x.2.2.length:Int)) && decide ((x.2.2.length:Int)<=6) && x.2.2.all (sN (n+1)))=r at*
   have hk1:(0:Int)<=(k:Int):=by omega
   have hk2:(k:Int)<(len:Int):=by omega
   have HN:=fun w1=>hide (gV x.1 w1 hs)
   generalize bq x.1=r0 at*
   generalize wP (n+1) x=r1 at*
   have hal:Below w.heap.size w (wr.alloc (.cells #[.string x.1,.slice x.2.1.1 x.2.2.length x.2.1.2] 80)):=hb.trans (((Below.refl _ _).alloc (Nat.le_refl _) _).mono hb.size)
   cases r0 with
   | false=>
    go_wp2_with (go_at_call 49;refine(HN _).out.mono ?_;rintro e w' ⟨rfl,rfl⟩)
    go_ret
    exact⟨aT (by rw[<-hd.out,HS.out,HE.out];rfl),hal⟩
   | true=>
    go_wp2_with (first|(go_at_call 49;refine(HN _).out.mono ?_;rintro e w' ⟨rfl,rfl⟩)|(go_at_call 69;refine(HC.out _ ((Below.refl _ _).alloc (Nat.le_refl _) _)).mono ?_;rintro e w1 ⟨rfl,hb1⟩;have hb2:Below w.heap.size w w1:=hal.trans (hb1.mono (by have:=hb.size;simp;omega));clear hb1;cases r))
    ·go_ret
     exact⟨aT (by rw[<-hd.out,HS.out,HE.out];rfl),hb2⟩
    ·go_roundw
     case rel=>exact⟨k+1,by omega,by go_num,hb2,by rw[<-hd.out,HS.out,HE.out];rfl⟩
     case measure=>simp[intOf];omega
  ·go_wp2_with fail
   go_ret
   refine⟨aT ?_,hb⟩
   rw[<-hd.out,List.drop_eq_nil_of_le (by rw[hpl.out];omega)]
   rfl
end Go.Proofs.YtmbjgiaebneodaaGreat
