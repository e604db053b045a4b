/- What is proved here: plain facts and contracts that the claimed theorem stands on. No condition but those that each names. -/
import Derived.Test.YtbknffhilfoakaaGreatG18
namespace Go.Proofs.YtbknffhilfoakaaGreat
open Go.RowKit Go.Maps
open Go.RowKit
set_option maxHeartbeats 2000000
set_option maxRecDepth 100000
theorem zC {base:Nat} {hp:HLoc} {room:Int} {ws:List Wd} {nm:List ByteArray} {M:Nat->Prop} {R:List Wd×List Wd×bH} {len g:Nat} {tv:Value} {w w1 w2:World} (h:HpAt base hp room ws nm M w) (hb:Below w.heap.size w w1) (hr:jk R len g tv w1 w2) (hbw:base<=w.heap.size):Laid base hp room R.2.1 nm M w (w2.setCell ⟨hp.b,hp.o+1,none⟩ tv):=by
 obtain⟨r1,r2,r3,r4,r5⟩:=hr
 have hs:=hb.size
 have hb2:=hb.trans (r1.mono hs)
 obtain⟨tv0,lv,mv,h1,h2,h3,h4,h5,h6,h7⟩:=h.later hb2
 have k:=aI w2 hp.b (hp.o+1) tv
 have r6:∀b,tv.ownBlock=some b->w1.heap.size<=b:=fun b e=>(r2.lt b e).1
 refine⟨⟨tv,lv,mv,h1.set1 tv,cB (kX r2 (by omega)) k (fun b e e'=> ?_),h3.kept k (fun b e e'=> ?_) (fun b e e'=> ?_),Or.inl h4.1,fun b e=>Or.inr (by have:=r6 b e;omega),fun b e=>Or.inl (h6 b e).1,fun b e=>Or.inl (h7 b e).1⟩,(aC hb2 M).trans k ?_⟩
 ·subst e'
  have:=r6 _ e
  have:=h4.2
  omega
 ·subst e'
  exact ko h3.1 h1 (by decide) e
 ·subst e'
  exact qH h3 h1 e
 ·rintro b _ rfl
  exact h4.1
theorem vT (R:List Wd×List Wd×bH) (hp:HLoc) (ta:Option Addr) (L tc:Nat) (a:Option Addr) (len pc:Nat) (w:World) (hhp:hp.b<w.heap.size) (c1:w.cell? ⟨hp.b,hp.o+1,none⟩=some (.slice ta L tc)) (f1:w.frozen? ⟨hp.b,hp.o+1,none⟩=false)
    (HA:Hid (Calls Tryz.prog 67 #[.pointer (some ⟨hp.b,hp.o,none⟩),.slice a len pc] w fun e w'=>e=.returned (.bool true)/\Below w.heap.size w w'))
    (HC:Hid (∀w1,Below w.heap.size w w1->Calls Tryz.prog 68 #[.slice ta L tc,.slice a len pc] w1 fun e w'=>∃g tv,e=.returned (.tuple #[tv,.slice (some ⟨g,0,none⟩) len len])/\Hid (jk R len g tv w1 w'))):
    Calls Tryz.prog 46 #[.pointer (some ⟨hp.b,hp.o,none⟩),.slice a len pc] w fun e w'=>∃g tv w1 w2,e=.returned (.tuple #[.slice (some ⟨g,0,none⟩) len len,.int .i64 0])/\w'=w2.setCell ⟨hp.b,hp.o+1,none⟩ tv/\Hid (Below w.heap.size w w1/\jk R len g tv w1 w2):=by
 go_enter Tryz.func46,Tryz.ntmps46
 go_wp2_with fail
 refine HA.out.mono ?_
 rintro e w1 ⟨rfl,hb⟩
 have HB:=hide hb
 replace c1:=(ag hb hp.b (hp.o+1) hhp).trans c1
 replace f1:=(dP hb hp.b (hp.o+1) hhp).trans f1
 have hhp1:hp.b<w1.heap.size:=Nat.lt_of_lt_of_le hhp hb.size
 clear hb HA
 go_wp2_with fail
 refine(HC.out w1 HB.out).mono ?_
 rintro e w2 ⟨g,tv,rfl,H⟩
 obtain⟨ta',tc',rfl⟩:∃ta' tc',tv=.slice ta' R.2.1.length tc':=by
  rcases H.out.2.1.2 with⟨e,e0⟩|⟨g,c,cur,e,_⟩
  ·exact⟨none,0,by rw[e,e0]⟩
  ·exact⟨_,c,e⟩
 replace c1:=(ag H.out.1 hp.b (hp.o+1) hhp1).trans c1
 replace f1:=(dP H.out.1 hp.b (hp.o+1) hhp1).trans f1
 clear HC
 go_wp2_with fail
 go_ret2
 exact⟨g,_,w1,w2,rfl,rfl,HB.out,H.out⟩
theorem StandL.mem {ws:List Wd} {nm:List ByteArray} {n:Nat} {l:List Wd} {p:List (Tm n)} (h:StandL ws nm n l p) {v:Wd} (hv:v∈l):∃y∈p,Stands ws nm n y v:=by
 obtain⟨i,hi⟩:=List.getElem?_of_mem hv
 have hl:i<p.length:=by rw[<-h.1];exact(List.getElem?_eq_some_iff.1 hi).1
 exact⟨p[i],List.getElem_mem _,h.2 i v p[i] hi (List.getElem?_eq_getElem hl)⟩
def Only (g g':bH) (a b:Nat):Prop:=∀p,(p<a∨b<=p)->look g' p=look g p
theorem Ex {us A C:List Wd} {h:Wd} (k:(A++h::C) <+:us):partsOf us A.length C.length=C:=by
 obtain⟨r,rfl⟩:=k
 unfold partsOf
 rw[show A++h::C++r=(A++ [h])++(C++r) by simp]
 rw[List.drop_left' (by simp),List.take_left' rfl]
theorem xg {w w1:World} {vs:List Wd} {a:Option Addr} (h:dm w vs a) (hb:Below w.heap.size w w1):dm w1 vs a:=by
 rcases h with h|⟨b,o,e,hl,h⟩
 ·exact Or.inl h
 ·exact Or.inr ⟨b,o,e,Nat.lt_of_lt_of_le hl hb.size,fun i v hv=>⟨(ag hb b _ hl).trans (h i v hv).1,(ag hb b _ hl).trans (h i v hv).2⟩⟩
def Roots (ws:List Wd) (nm:List ByteArray) (n:Nat) (vs:List Wd) (p:List (Tm n)):Prop:=
 StandL ws nm n vs p/\(∀y∈p,ak ⟨n,y⟩)/\(∀y∈p,ai n y=true)/\(p.map fun y=>1+sz n y).sum<=90000/\(p.flatMap fun y=>nodes n y).length<=90000/\vs.length<=1000
def iH (ws:List Wd) (n:Nat) (vs:List Wd):List Wd×List Wd×bH:=fA (iE ws n) vs ([],[])
theorem Roots.all {ws:List Wd} {nm:List ByteArray} {n:Nat} {vs:List Wd} {p:List (Tm n)} (h:Roots ws nm n vs p) (hw:ws.length<=1000) (hn:nm.length<=50000):vs.all (bB ws nm)=true/\∀v∈vs,dZ v.2:=by
 have key:∀v∈vs,bB ws nm v=true/\dZ v.2:=fun v hv=>by
  obtain⟨y,hy,hs⟩:=h.1.mem hv
  exact xI hs (h.2.1 y hy) (h.2.2.1 y hy) (by omega) (by omega)
 exact⟨List.all_eq_true.2 fun v hv=>(key v hv).1,fun v hv=>(key v hv).2⟩
def vQ (base:Nat) (hp:HLoc) (room:Int) (R:List Wd×List Wd×bH) (nm:List ByteArray) (M:Nat->Prop) (g:Nat) (w w':World):Prop:=
 HpAt base hp room R.2.1 nm (fun b=>(M b∨w.heap.size<=b)/\b≠g) w'/\Keep M w w'/\dm w' R.1 (some ⟨g,0,none⟩)/\w.heap.size<=g/\g<w'.heap.size/\∃len,w'.ownsRow g 68 2 (.slice (some ⟨g,0,none⟩) len len) len (aB R.1)
theorem uI {w:World} {g base len:Nat} {vs:List Wd} (h:w.ownsRow base 68 2 (.slice (some ⟨g,0,none⟩) len len) len (aB vs)):dm w vs (some ⟨g,0,none⟩)/\g<w.heap.size:=by
 refine⟨Or.inr ⟨g,0,rfl,(h.lt g rfl).2,fun i v hv=> ?_⟩,(h.lt g rfl).2⟩
 have:=gG h i v hv
 rw[Nat.zero_add]
 exact this
theorem F4 {base:Nat} {hp:HLoc} {room:Int} {ws:List Wd} {nm:List ByteArray} {M:Nat->Prop} {R:List Wd×List Wd×bH} {len g:Nat} {tv:Value} {w w1 w2:World} (h:HpAt base hp room ws nm M w) (hb:Below w.heap.size w w1) (hr:jk R len g tv w1 w2) (hbw:base<=w.heap.size):vQ base hp room R nm M g w (w2.setCell ⟨hp.b,hp.o+1,none⟩ tv):=by
 have hl:=zC h hb hr hbw
 obtain⟨r1,r2,r3,r4,r5⟩:=hr
 have hs:=hb.size
 have hb2:=hb.trans (r1.mono hs)
 obtain⟨tv0,lv,mv,h1,h2,h3,h4,h5,h6,h7⟩:=h.later hb2
 have k:=aI w2 hp.b (hp.o+1) tv
 have r6:∀b,tv.ownBlock=some b->w1.heap.size<=b:=fun b e=>(r2.lt b e).1
 have hhp:hp.b<w.heap.size:=h4.2
 refine⟨⟨tv,lv,mv,h1.set1 tv,cB (kX r2 (by omega)) k (fun b e e'=> ?_),h3.kept k (fun b e e'=> ?_) (fun b e e'=> ?_),⟨Or.inl h4.1,by omega⟩,fun b e=>⟨Or.inr (by have:=r6 b e;omega),fun e'=>r5 (by rw[e,e'])⟩,fun b e=>⟨Or.inl (h6 b e).1,by have:=(h6 b e).2;omega⟩,fun b e=>⟨Or.inl (h7 b e).1,by have:=(h7 b e).2;omega⟩⟩,hl.2, ?_,by omega, ?_, ?_⟩
 ·subst e'
  have:=r6 _ e
  omega
 ·subst e'
  exact ko h3.1 h1 (by decide) e
 ·subst e'
  exact qH h3 h1 e
 ·have r3':=cB r3 k (fun b e e'=>by
    subst e'
    simp only[Value.ownBlock]at e
    have:=Option.some.inj e
    omega)
  exact(uI r3').1
 ·have:=(uI r3).2
  simpa [World.setCell]using this
 ·exact⟨len,cB r3 k (fun b e e'=>by
    subst e'
    simp only[Value.ownBlock]at e
    have:=Option.some.inj e
    omega)⟩
theorem vN (n:Nat) (p:List (Tm n)) (vs:List Wd) (a:Option Addr) (pc base:Nat) (hp:HLoc) (room:Int) (ws:List Wd) (nm:List ByteArray) (M:Nat->Prop) (w:World) (h:HpAt base hp room ws nm M w) (hr:Roots ws nm n vs p) (hin:dm w vs a) (hlt:∀b o,a=some ⟨b,o,none⟩->b<w.heap.size) (hbw:base<=w.heap.size) (hw:ws.length<=1000) (hn:nm.length<=50000):
    Calls Tryz.prog 46 #[.pointer (some ⟨hp.b,hp.o,none⟩),.slice a vs.length pc] w fun e w'=>∃g,e=.returned (.tuple #[.slice (some ⟨g,0,none⟩) vs.length vs.length,.int .i64 0])/\Hid (vQ base hp room (iH ws n vs) nm M g w w'):=by
 obtain⟨hall,hi64⟩:=hr.all hw hn
 obtain⟨tv,lv,mv,h1,h2,h3,h4,h5,h6,h7⟩:=id h
 obtain⟨⟨c0,c1,c2,c3⟩,hf⟩:=h1.cells
 obtain⟨ta,tc,rfl⟩:∃ta tc,tv=.slice ta ws.length tc:=by
  rcases h2.2 with⟨e,e0⟩|⟨g,c,cur,e,_⟩
  ·exact⟨none,0,by rw[e,e0]⟩
  ·exact⟨_,c,e⟩
 refine(vT (iH ws n vs) hp ta ws.length tc a vs.length pc w h1.lt c1 (hf _) ?_ ?_).mono ?_
 ·have hk:=vX base hp room ws nm M vs a vs.length pc w h (by omega) rfl (by have:=hr.2.2.2.2.2;omega) hin hi64
  rw[hall]at hk
  exact hk
 ·intro w1 hb
  refine xN ws nm n vs p base (.slice ta ws.length tc) a pc w1 (own_below h2 hb) hr.1 hr.2.1 (by omega) (by have:=hr.2.2.2.2.2;omega) hr.2.2.2.1 hr.2.2.2.2.1 (xg hin hb) ?_
  intro b o e
  exact Nat.lt_of_lt_of_le (hlt b o e) hb.size
 ·rintro e w' ⟨g,tv,w1,w2,rfl,rfl,H⟩
  exact⟨g,rfl,F4 h H.out.1 H.out.2 hbw⟩
def lX (ws:List Wd):Nat->Wd->List Nat
 | 0,_=> []
 | n+1,v=>if v.1=4 then
    match ws[v.2.toNat]? with
    | some h=>v.2.toNat::(partsOf ws v.2.toNat h.2.toNat).flatMap (lX ws n)
    | none=> []
  else []
theorem jE {ws:List Wd} {n:Nat} {v:Wd} (h:v.1≠4):lX ws n v=[]:=by
 cases n with
 | zero=>rfl
 | succ n=>simp[lX,h]
theorem nQ {ws:List Wd} {n p m:Nat} (h:ws[p]? =some (0,(m:Int))):lX ws (n+1) (4,(p:Int))=p::(partsOf ws p m).flatMap (lX ws n):=by
 simp[lX,h]
theorem uT {nm:List ByteArray} {s:ByteArray} (h:s∈nm):di nm s=nm:=by
 unfold di
 rw[if_pos ((wP nm s).2 h)]
theorem xe {ws:List Wd} {nm:List ByteArray} {n:Nat} (ih:∀(x:Tm n) (v:Wd) (S:List Wd×bH),Stands ws nm n x v->(lX ws n v).Nodup->(∀p∈lX ws n v,look S.2 p=none)->((iE ws n v S).1=(az n x S.1 nm).1/\(iE ws n v S).2.1=(az n x S.1 nm).2.1/\(az n x S.1 nm).2.2=nm)/\∀p,look (iE ws n v S).2.2 p=none ↔ look S.2 p=none/\p∉lX ws n v):
    (us:List Wd)->(ys:List (Tm n))->StandL ws nm n us ys->(S:List Wd×bH)->(us.flatMap (lX ws n)).Nodup->(∀p∈us.flatMap (lX ws n),look S.2 p=none)->
    ((fA (iE ws n) us S).1=(aT (az n) ys S.1 nm).1/\(fA (iE ws n) us S).2.1=(aT (az n) ys S.1 nm).2.1/\(aT (az n) ys S.1 nm).2.2=nm)/\∀p,look (fA (iE ws n) us S).2.2 p=none ↔ look S.2 p=none/\p∉us.flatMap (lX ws n)
 | us,ys,hs,S,hn,hl=>by
  induction us generalizing ys S with
  | nil=>
   obtain rfl:ys=[]:=by have:=hs.1;cases ys with|nil=>rfl|cons a l=>simp at this
   simp[fA,aT]
  | cons v us ihu=>
   cases ys with
   | nil=>have:=hs.1;simp at this
   | cons y ys=>
    have h0:Stands ws nm n y v:=hs.2 0 v y (by simp) (by simp)
    have ht:StandL ws nm n us ys:=⟨by have:=hs.1;simpa using this,fun i a b ha hb=>hs.2 (i+1) a b (by simpa using ha) (by simpa using hb)⟩
    rw[List.flatMap_cons]at hn hl
    obtain⟨n1,n2,n3⟩:=List.nodup_append.1 hn
    obtain⟨⟨a1,a2,a3⟩,a4⟩:=ih y v S h0 n1 (fun p hp=>hl p (List.mem_append_left _ hp))
    have hl2:∀p∈us.flatMap (lX ws n),look (iE ws n v S).2.2 p=none:=fun p hp=>(a4 p).2 ⟨hl p (List.mem_append_right _ hp),fun h=>n3 p h p hp rfl⟩
    obtain⟨⟨b1,b2,b3⟩,b4⟩:=ihu ys ht (iE ws n v S).2 n2 hl2
    simp only[fA,aT]
    rw[a3,<-a2]
    refine⟨⟨by rw[a1,b1],b2,b3⟩,fun p=> ?_⟩
    rw[b4 p,a4 p,List.flatMap_cons,List.mem_append,not_or,and_assoc]
theorem Cx {ws:List Wd} {nm:List ByteArray} (hnd:nm.Nodup):(n:Nat)->(x:Tm n)->(v:Wd)->(S:List Wd×bH)->Stands ws nm n x v->(lX ws n v).Nodup->(∀p∈lX ws n v,look S.2 p=none)->
    ((iE ws n v S).1=(az n x S.1 nm).1/\(iE ws n v S).2.1=(az n x S.1 nm).2.1/\(az n x S.1 nm).2.2=nm)/\∀p,look (iE ws n v S).2.2 p=none ↔ look S.2 p=none/\p∉lX ws n v
 | 0,_,_,_,h,_,_=>h.elim
 | n+1,x,v,S,h,hn,hl=>by
  by_cases h4:x.1.1=4
  ·obtain⟨p,rfl,hp,hlen,hst⟩:=iA h h4
   rw[nQ hp]at hn hl ⊢
   have hlk:=hl p (by simp)
   rw[vU hlk hp]
   have hnp:=List.nodup_cons.1 hn
   obtain⟨⟨b1,b2,b3⟩,b4⟩:=xe (fun x v S=>Cx hnd n x v S) (partsOf ws p x.2.2.length) x.2.2 hst S hnp.2 (fun q hq=>hl q (List.mem_cons_of_mem _ hq))
   have e:az (n+1) x S.1 nm=((4,((aT (az n) x.2.2 S.1 nm).2.1.length:Int)),(aT (az n) x.2.2 S.1 nm).2.1++(0,(x.2.2.length:Int))::(aT (az n) x.2.2 S.1 nm).1,(aT (az n) x.2.2 S.1 nm).2.2):=by
    simp only[az]
    rw[if_neg (by omega),if_pos h4]
   rw[e]
   refine⟨⟨by rw[b2],by rw[b1,b2],b3⟩,fun q=> ?_⟩
   by_cases hq:q=p
   ·subst hq
    rw[oK]
    simp
   ·rw[mK _ _ hq,b4 q]
    simp[hq]
  ·have hv4:=gN h h4
   rw[qX hv4,jE hv4]
   refine⟨⟨?_, ?_, ?_⟩,fun q=>by simp⟩
   ·simp only[az]
    by_cases h2:x.1.1=2
    ·rw[if_pos h2]
     obtain⟨i,rfl,hi⟩:=h.1 h2
     rw[uT (List.mem_of_getElem? hi),xR hnd hi]
    ·rw[if_neg h2,if_neg h4]
     exact h.2.2 h2 h4
   ·simp only[az]
    split
    ·rfl
    ·rfl
   ·simp only[az]
    split
    ·rename_i h2
     obtain⟨i,rfl,hi⟩:=h.1 h2
     exact uT (List.mem_of_getElem? hi)
    ·rfl
theorem Az {ws ws':List Wd} (h:ws <+:ws') {p m:Nat} (hl:p+1+m<=ws.length):partsOf ws' p m=partsOf ws p m:=by
 obtain⟨t,rfl⟩:=h
 unfold partsOf
 rw[List.drop_append_of_le_length (by omega),List.take_append_of_le_length (by rw[List.length_drop];omega)]
theorem Ia {ws ws':List Wd} (h:ws <+:ws') {p:Nat} {v:Wd} (hp:ws[p]? =some v):ws'[p]? =some v:=by
 obtain⟨t,rfl⟩:=h
 rw[List.getElem?_append_left (List.getElem?_eq_some_iff.1 hp).1]
 exact hp
theorem jW {α β:Type} {f g:α->List β}:{l:List α}->(∀a∈l,f a=g a)->l.flatMap f=l.flatMap g
 | [],_=>rfl
 | a::l,h=>by rw[List.flatMap_cons,List.flatMap_cons,h a (by simp),jW (l:=l) fun b hb=>h b (by simp[hb])]
theorem nC {ws ws':List Wd} {nm:List ByteArray} (hp:ws <+:ws'):(n:Nat)->(x:Tm n)->(v:Wd)->Stands ws nm n x v->lX ws' n v=lX ws n v
 | 0,_,_,h=>h.elim
 | n+1,x,v,h=>by
  by_cases h4:x.1.1=4
  ·obtain⟨p,rfl,hq,hlen,hst⟩:=iA h h4
   rw[nQ hq,nQ (Ia hp hq),Az hp hlen]
   congr 1
   refine jW fun u hu=> ?_
   obtain⟨y,_,hy⟩:=hst.mem hu
   exact nC hp n y u hy
  ·rw[jE (gN h h4),jE (gN h h4)]
theorem vV {ws:List Wd} {nm:List ByteArray}:(n:Nat)->(x:Tm n)->(v:Wd)->Stands ws nm n x v->∀p∈lX ws n v,p<ws.length
 | 0,_,_,h,_,_=>h.elim
 | n+1,x,v,h,q,hq=>by
  by_cases h4:x.1.1=4
  ·obtain⟨p,rfl,hp,hlen,hst⟩:=iA h h4
   rw[nQ hp,List.mem_cons,List.mem_flatMap]at hq
   rcases hq with rfl|⟨u,hu,hq⟩
   ·omega
   ·obtain⟨y,_,hy⟩:=hst.mem hu
    exact vV n y u hy q hq
  ·rw[jE (gN h h4)]at hq
   cases hq
theorem qZ {n:Nat} (ih:∀(x:Tm n) (ws:List Wd) (nm:List ByteArray),ak ⟨n,x⟩->(lX (az n x ws nm).2.1 n (az n x ws nm).1).Nodup/\∀p∈lX (az n x ws nm).2.1 n (az n x ws nm).1,ws.length<=p):
    (l:List (Tm n))->(ws:List Wd)->(nm:List ByteArray)->(∀y∈l,ak ⟨n,y⟩)->((aT (az n) l ws nm).1.flatMap (lX (aT (az n) l ws nm).2.1 n)).Nodup/\∀p∈(aT (az n) l ws nm).1.flatMap (lX (aT (az n) l ws nm).2.1 n),ws.length<=p
 | [],_,_,_=>by simp[aT]
 | y::l,ws,nm,hr=>by
  have h1:=ih y ws nm (hr y (by simp))
  have hs:=fG n y ws nm (hr y (by simp))
  have h2:=qZ ih l (az n y ws nm).2.1 (az n y ws nm).2.2 (fun z hz=>hr z (by simp[hz]))
  have hp:=(nH (fun x ws nm=>jL n x ws nm) l (az n y ws nm).2.1 (az n y ws nm).2.2).1
  have hm:=nC hp n y _ hs
  have hlt:=vV n y _ hs
  have hpre:=(jL n y ws nm).1.length_le
  simp only[aT,List.flatMap_cons]
  rw[hm]
  refine⟨List.nodup_append.2 ⟨h1.1,h2.1,fun a ha b hb e=> ?_⟩,fun p hp=> ?_⟩
  ·have:=hlt a ha
   have:=h2.2 b hb
   omega
  ·rcases List.mem_append.1 hp with hp|hp
   ·exact h1.2 p hp
   ·have:=h2.2 p hp
    omega
theorem vw:(n:Nat)->(x:Tm n)->(ws:List Wd)->(nm:List ByteArray)->ak ⟨n,x⟩->(lX (az n x ws nm).2.1 n (az n x ws nm).1).Nodup/\∀p∈lX (az n x ws nm).2.1 n (az n x ws nm).1,ws.length<=p
 | 0,_,_,_,h=>(bW h).elim
 | n+1,x,ws,nm,h=>by
  by_cases h4:x.1.1=4
  ·have e:az (n+1) x ws nm=((4,((aT (az n) x.2.2 ws nm).2.1.length:Int)),(aT (az n) x.2.2 ws nm).2.1++(0,(x.2.2.length:Int))::(aT (az n) x.2.2 ws nm).1,(aT (az n) x.2.2 ws nm).2.2):=by
     simp only[az]
     rw[if_neg (by omega),if_pos h4]
   have hr:∀y∈x.2.2,ak ⟨n,y⟩:=fun y hy=>aH n x y h hy
   have k:=qZ (fun x ws nm hx=>vw n x ws nm hx) x.2.2 ws nm hr
   have hpre:=(nH (fun x ws nm=>jL n x ws nm) x.2.2 ws nm).1.length_le
   have hst:=kY (fun x ws nm hx=>fG n x ws nm hx) x.2.2 ws nm hr
   have hln:=fu (az n) x.2.2 ws nm
   rw[e]
   generalize (aT (az n) x.2.2 ws nm).2.1=A at*
   generalize (aT (az n) x.2.2 ws nm).1=C at*
   generalize (aT (az n) x.2.2 ws nm).2.2=N at*
   have hat:(A++(0,(x.2.2.length:Int))::C)[A.length]? =some (0,(x.2.2.length:Int)):=by simp
   have hpp:partsOf (A++(0,(x.2.2.length:Int))::C) A.length x.2.2.length=C:=by rw[<-hln];exact Ex (List.prefix_refl _)
   have hmo:C.flatMap (lX (A++(0,(x.2.2.length:Int))::C) n)=C.flatMap (lX A n):=jW fun u hu=>by
    obtain⟨i,hi⟩:=List.getElem?_of_mem hu
    have hil:=(List.getElem?_eq_some_iff.1 hi).1
    obtain⟨u',hu',hs⟩:=hst i (x.2.2[i]'(by omega)) (List.getElem?_eq_getElem _)
    rw[hi]at hu'
    injection hu' with hu'
    subst hu'
    exact nC (List.prefix_append _ _) n _ u hs
   have hltC:∀p∈C.flatMap (lX A n),p<A.length:=fun p hp=>by
    obtain⟨u,hu,hp⟩:=List.mem_flatMap.1 hp
    obtain⟨i,hi⟩:=List.getElem?_of_mem hu
    have hil:=(List.getElem?_eq_some_iff.1 hi).1
    obtain⟨u',hu',hs⟩:=hst i (x.2.2[i]'(by omega)) (List.getElem?_eq_getElem _)
    rw[hi]at hu'
    injection hu' with hu'
    subst hu'
    exact vV n _ u hs p hp
   simp only
   rw[nQ hat,hpp,hmo]
   refine⟨List.nodup_cons.2 ⟨fun hp=>by have:=hltC _ hp;omega,k.1⟩,fun p hp=> ?_⟩
   rcases List.mem_cons.1 hp with rfl|hp
   ·exact hpre
   ·exact k.2 p hp
  ·have hs:=fG (n+1) x ws nm h
   rw[jE (gN hs h4)]
   simp
theorem yz (n:Nat):(l:List (Tm n))->(ws:List Wd)->(nm:List ByteArray)->((aT (az n) l ws nm).2.1.length:Int)=ws.length+(l.map (sz n)).sum
 | [],_,_=>by simp[aT]
 | y::l,ws,nm=>by
  have h1:=(gB n y ws nm).1
  have h2:=yz n l (az n y ws nm).2.1 (az n y ws nm).2.2
  simp only[aT,List.map_cons,List.sum_cons]
  omega
theorem zX {ws:List Wd} {nm:List ByteArray} (hnd:nm.Nodup) {n:Nat} {vs:List Wd} {p:List (Tm n)} (h:StandL ws nm n vs p) (hn:(vs.flatMap (lX ws n)).Nodup):
    (iH ws n vs).1=(aT (az n) p [] nm).1/\(iH ws n vs).2.1=(aT (az n) p [] nm).2.1/\(aT (az n) p [] nm).2.2=nm:=
 (xe (fun x v S=>Cx hnd n x v S) vs p h ([],[]) hn (fun _ _=>rfl)).1
def kw:ByteArray:=⟨#[99,111,100,101]⟩
def mR:ByteArray:=⟨#[98,101,104]⟩
def zH:ByteArray:=⟨#[111,110]⟩
def jM:ByteArray:=⟨#[115,101,110,100]⟩
def gV:ByteArray:=⟨#[115,112,97,119,110]⟩
def jD:ByteArray:=⟨#[108,105,110,107]⟩
def jP:ByteArray:=⟨#[115,116,111,112]⟩
def aS (n:Nat) (x:Tm n):Bool:=(dF n x).1.1==0 && (dF n x).1.2.1==0 && (dF n x).1.2.2.toList.isEmpty && ((dF n x).2.2.1:Int)==0
def yN (s:ByteArray) (v:Int):Bool:=s.toList.isEmpty && v==0
def iN (n:Nat) (a:Ac n):Bool:=
 if a.1=1 then yN a.2.2.1 a.2.2.2
 else if a.1=2 then aS n a.2.1.1 && bJ a.2.2.1 && decide (0<=a.2.2.2) && decide (a.2.2.2<4)
 else if a.1=3 then aS n a.2.1.2 && yN a.2.2.1 a.2.2.2
 else if a.1=4 then aS n a.2.1.1 && aS n a.2.1.2 && yN a.2.2.1 a.2.2.2
 else false
def wQ (n:Nat) (c:Cl n):Bool:=decide ((c.2.2.length:Int)<=8) && c.2.2.all (iN n)
def AQ (n:Nat) (b:Bh n):Bool:=bJ b.1 && decide (1<=(b.2.2.length:Int)) && decide ((b.2.2.length:Int)<=6) && b.2.2.all (wQ n)
def og (n:Nat) (l:List (Bh n)):Bool:=decide (1<=(l.length:Int)) && decide ((l.length:Int)<=7) && l.all (AQ n)
def ay (s:ByteArray) (N:Nat):Tm (N+1):=((2,0,s),(none,0),[])
def eQ (n:Nat) (a:Ac (n+1)):Tm (n+2):=
 if a.1=1 then bV (n+1) [ay jM n,a.2.1.1,a.2.1.2]
 else if a.1=2 then bV (n+1) [ay gV n,ay a.2.2.1 n,a.2.1.2,aQ 5 a.2.2.2 n]
 else if a.1=3 then bV (n+1) [ay jD n,a.2.1.1]
 else bV (n+1) [ay jP n]
def eT (n:Nat) (c:Cl (n+1)):Tm (n+4):=
 bV (n+3) [ay zH (n+2),lift (n+3) (n+1) c.1.1,lift (n+3) (n+1) c.1.2.1,bV (n+2) (c.2.2.map (eQ n)),lift (n+3) (n+1) c.1.2.2]
def fQ (n:Nat) (b:Bh (n+1)):Tm (n+5):=bV (n+4) (ay mR (n+3)::ay b.1 (n+3)::b.2.2.map (eT n))
def dx (n:Nat) (l:List (Bh (n+1))):Tm (n+6):=bV (n+5) (ay kw (n+4)::l.map (fQ n))
theorem gM (s:ByteArray) (N M:Nat):same (N+1) (ay s N) (M+1) (ay s M)=true:=bX rfl rfl
theorem lw {B:Nat} {w:World}:{n:Nat}->{x:Tm n}->In B w n x->same n x n x=true
 | 0,_,k=>k.elim
 | n+1,x,k=>by
  refine bX rfl (gP _ _ fun y hy=> ?_)
  obtain⟨i,hi⟩:=List.getElem?_of_mem hy
  rcases k.2 with e|⟨b,o,_,_,k2⟩
  ·rw[e]at hy;cases hy
  ·exact lw (k2 i y hi).2
theorem bS (k u:Int) (s:ByteArray) (a:Option Addr) (l c:Nat) (w:World):
    Calls Tryz.prog 114 #[.agg #[.int .i64 k,.int .i64 u,.string s,.slice a l c]] w fun e w'=>e=.returned (.bool (k==0 && u==0 && s.toList.isEmpty && (l:Int)==0))/\w'=w.alloc (.cells #[.int .i64 k,.int .i64 u,.string s,.slice a l c] 25):=by
 cases h1:k==0
 ·go_enter Tryz.func114,Tryz.ntmps114
  go_wp2_with fail
  go_ret
  exact⟨rfl,rfl⟩
 cases h2:u==0
 ·go_enter Tryz.func114,Tryz.ntmps114
  go_wp2_with fail
  go_ret
  exact⟨rfl,rfl⟩
 cases h3:s.toList.isEmpty
 ·go_enter Tryz.func114,Tryz.ntmps114
  go_wp2_with fail
  go_ret
  exact⟨rfl,rfl⟩
 go_enter Tryz.func114,Tryz.ntmps114
 go_wp2_with fail
 go_ret
 exact⟨rfl,rfl⟩
theorem mh (K t0 t1 x0 x1 v:Int) (t2 x2 s:ByteArray) (t3 x3:Option Addr) (t4 t5 x4 x5:Nat) (w:World):
    Calls Tryz.prog 113 #[.agg #[.int .i64 K,.int .i64 t0,.int .i64 t1,.string t2,.slice t3 t4 t5,.int .i64 x0,.int .i64 x1,.string x2,.slice x3 x4 x5,.string s,.int .i64 v]] w fun e w'=>e=.returned (.bool (yN s v))/\w'=w.alloc (.cells #[.int .i64 K,.int .i64 t0,.int .i64 t1,.string t2,.slice t3 t4 t5,.int .i64 x0,.int .i64 x1,.string x2,.slice x3 x4 x5,.string s,.int .i64 v] 92):=by
 unfold yN
 cases h3:s.toList.isEmpty
 ·go_enter Tryz.func113,Tryz.ntmps113
  go_wp2_with fail
  go_ret
  exact⟨rfl,rfl⟩
 go_enter Tryz.func113,Tryz.ntmps113
 go_wp2_with fail
 go_ret
 exact⟨rfl,rfl⟩
theorem Be (K t0 t1 x0 x1 v:Int) (t2 x2 s:ByteArray) (t3 x3:Option Addr) (t4 t5 x4 x5:Nat) (w:World) (hs:s.size<=9223372036854775807) (r1 r2 r3 r4:Bool)
    (h1:Hid ((t0==0 && t1==0 && t2.toList.isEmpty && (t4:Int)==0)=r1)) (h2:Hid ((x0==0 && x1==0 && x2.toList.isEmpty && (x4:Int)==0)=r2)) (h3:Hid (yN s v=r3)) (h4:Hid (bJ s=r4)):
    Calls Tryz.prog 105 #[.agg #[.int .i64 K,.int .i64 t0,.int .i64 t1,.string t2,.slice t3 t4 t5,.int .i64 x0,.int .i64 x1,.string x2,.slice x3 x4 x5,.string s,.int .i64 v]] w fun e w'=>e=.returned (.bool (if K=1 then r3 else if K=2 then r1 && r4 && decide (0<=v) && decide (v<4)else if K=3 then r2 && r3 else if K=4 then r1 && r2 && r3 else false))/\Below w.heap.size w w':=by
 by_cases k1:K=1
 ·subst k1
  rw[if_pos rfl]
  go_enter Tryz.func105,Tryz.ntmps105
  go_wp2_with (go_at_call 113;refine(mh _ _ _ _ _ _ _ _ _ _ _ _ _ _ _ _).mono ?_;rintro e w' ⟨rfl,rfl⟩;rw[h3.out])
  go_ret
  exact⟨rfl,by go_grown⟩
 rw[if_neg k1]
 by_cases k2:K=2
 ·subst k2
  rw[if_pos rfl]
  clear h2 h3 k1
  cases r1
  ·go_enter Tryz.func105,Tryz.ntmps105
   go_wp2_with (go_at_call 114;refine(bS _ _ _ _ _ _ _).mono ?_;rintro e w' ⟨rfl,rfl⟩;rw[h1.out])
   go_ret
   exact⟨rfl,by go_grown⟩
  cases r4
  ·go_enter Tryz.func105,Tryz.ntmps105
   go_wp2_with (first|(go_at_call 114;refine(bS _ _ _ _ _ _ _).mono ?_;rintro e w' ⟨rfl,rfl⟩;rw[h1.out])|(go_at_call 21;refine(gF _ _ hs).mono ?_;rintro e w' ⟨rfl,rfl⟩;rw[h4.out]))
   go_ret
   exact⟨rfl,by go_grown⟩
  cases hv:decide (0<=v)
  ·go_enter Tryz.func105,Tryz.ntmps105
   go_wp2_with (first|(go_at_call 114;refine(bS _ _ _ _ _ _ _).mono ?_;rintro e w' ⟨rfl,rfl⟩;rw[h1.out])|(go_at_call 21;refine(gF _ _ hs).mono ?_;rintro e w' ⟨rfl,rfl⟩;rw[h4.out]))
   go_ret
   exact⟨rfl,by go_grown⟩
  ·go_enter Tryz.func105,Tryz.ntmps105
   go_wp2_with (first|(go_at_call 114;refine(bS _ _ _ _ _ _ _).mono ?_;rintro e w' ⟨rfl,rfl⟩;rw[h1.out])|(go_at_call 21;refine(gF _ _ hs).mono ?_;rintro e w' ⟨rfl,rfl⟩;rw[h4.out]))
   go_ret
   exact⟨rfl,by go_grown⟩
 rw[if_neg k2]
 by_cases k3:K=3
 ·subst k3
  rw[if_pos rfl]
  clear h1 h4 k1 k2
  cases r2
  ·go_enter Tryz.func105,Tryz.ntmps105
   go_wp2_with (go_at_call 114;refine(bS _ _ _ _ _ _ _).mono ?_;rintro e w' ⟨rfl,rfl⟩;rw[h2.out])
   go_ret
   exact⟨rfl,by go_grown⟩
  ·go_enter Tryz.func105,Tryz.ntmps105
   go_wp2_with (first|(go_at_call 114;refine(bS _ _ _ _ _ _ _).mono ?_;rintro e w' ⟨rfl,rfl⟩;rw[h2.out])|(go_at_call 113;refine(mh _ _ _ _ _ _ _ _ _ _ _ _ _ _ _ _).mono ?_;rintro e w' ⟨rfl,rfl⟩;rw[h3.out]))
   go_ret
   exact⟨rfl,by go_grown⟩
 rw[if_neg k3]
 by_cases k4:K=4
 ·subst k4
  rw[if_pos rfl]
  clear h4 k1 k2 k3
  cases r1
  ·go_enter Tryz.func105,Tryz.ntmps105
   go_wp2_with (go_at_call 114;refine(bS _ _ _ _ _ _ _).mono ?_;rintro e w' ⟨rfl,rfl⟩;rw[h1.out])
   go_ret
   exact⟨rfl,by go_grown⟩
  cases r2
  ·go_enter Tryz.func105,Tryz.ntmps105
   go_wp2_with (go_at_call 114;refine(bS _ _ _ _ _ _ _).mono ?_;rintro e w' ⟨rfl,rfl⟩;first|rw[h1.out]|rw[h2.out])
   go_ret
   exact⟨rfl,by go_grown⟩
  ·go_enter Tryz.func105,Tryz.ntmps105
   go_wp2_with (first|(go_at_call 114;refine(bS _ _ _ _ _ _ _).mono ?_;rintro e w' ⟨rfl,rfl⟩;first|rw[h1.out]|rw[h2.out])|(go_at_call 113;refine(mh _ _ _ _ _ _ _ _ _ _ _ _ _ _ _ _).mono ?_;rintro e w' ⟨rfl,rfl⟩;rw[h3.out]))
   go_ret
   exact⟨rfl,by go_grown⟩
 rw[if_neg k4]
 have e1:(K==1)=false:=by simpa using k1
 have e2:(K==2)=false:=by simpa using k2
 have e3:(K==3)=false:=by simpa using k3
 have e4:(K==4)=false:=by simpa using k4
 clear k1 k2 k3 k4
 go_enter Tryz.func105,Tryz.ntmps105
 go_wp2_with fail
 go_ret
 exact⟨rfl,by go_grown⟩
theorem DC (n:Nat) (a:Ac (n+1)) (w:World) (hs:a.2.2.1.size<=maxLen):
    Calls Tryz.prog 105 #[.agg (oh (n+1) a).toArray] w fun e w'=>e=.returned (.bool (iN (n+1) a))/\Below w.heap.size w w':=by
 unfold maxLen at hs
 exact Be a.1 _ _ _ _ _ _ _ _ _ _ _ _ _ _ w (by omega) _ _ _ _ rfl rfl rfl rfl
def Je (n:Nat) (w:World) (b o:Nat) (x:Ac (n+1)):Prop:=
 w.cell? ⟨b,o,none⟩=some (.int .i64 x.1)/\
 (w.cell? ⟨b,o+1,none⟩=some (.int .i64 x.2.1.1.1.1)/\w.cell? ⟨b,o+2,none⟩=some (.int .i64 x.2.1.1.1.2.1)/\w.cell? ⟨b,o+3,none⟩=some (.string x.2.1.1.1.2.2)/\w.cell? ⟨b,o+4,none⟩=some (.slice x.2.1.1.2.1.1 x.2.1.1.2.2.length x.2.1.1.2.1.2))/\
 (w.cell? ⟨b,o+5,none⟩=some (.int .i64 x.2.1.2.1.1)/\w.cell? ⟨b,o+6,none⟩=some (.int .i64 x.2.1.2.1.2.1)/\w.cell? ⟨b,o+7,none⟩=some (.string x.2.1.2.1.2.2)/\w.cell? ⟨b,o+8,none⟩=some (.slice x.2.1.2.2.1.1 x.2.1.2.2.2.length x.2.1.2.2.1.2))/\
 w.cell? ⟨b,o+9,none⟩=some (.string x.2.2.1)/\w.cell? ⟨b,o+10,none⟩=some (.int .i64 x.2.2.2)
def Jj (n:Nat) (w:World) (b o:Nat) (x:Cl (n+1)):Prop:=
 (w.cell? ⟨b,o,none⟩=some (.int .i64 x.1.1.1.1)/\w.cell? ⟨b,o+1,none⟩=some (.int .i64 x.1.1.1.2.1)/\w.cell? ⟨b,o+2,none⟩=some (.string x.1.1.1.2.2)/\w.cell? ⟨b,o+3,none⟩=some (.slice x.1.1.2.1.1 x.1.1.2.2.length x.1.1.2.1.2))/\
 (w.cell? ⟨b,o+4,none⟩=some (.int .i64 x.1.2.1.1.1)/\w.cell? ⟨b,o+5,none⟩=some (.int .i64 x.1.2.1.1.2.1)/\w.cell? ⟨b,o+6,none⟩=some (.string x.1.2.1.1.2.2)/\w.cell? ⟨b,o+7,none⟩=some (.slice x.1.2.1.2.1.1 x.1.2.1.2.2.length x.1.2.1.2.1.2))/\
 w.cell? ⟨b,o+8,none⟩=some (.slice x.2.1.1 x.2.2.length x.2.1.2)/\
 (w.cell? ⟨b,o+9,none⟩=some (.int .i64 x.1.2.2.1.1)/\w.cell? ⟨b,o+10,none⟩=some (.int .i64 x.1.2.2.1.2.1)/\w.cell? ⟨b,o+11,none⟩=some (.string x.1.2.2.1.2.2)/\w.cell? ⟨b,o+12,none⟩=some (.slice x.1.2.2.2.1.1 x.1.2.2.2.2.length x.1.2.2.2.1.2))
theorem Lay.ac {n B:Nat} {w:World} {I:Ac (n+1)->Prop} {a:Option Addr} {p:List (Ac (n+1))} (h:Lay B w 11 (oh (n+1)) I a p) (k:Nat) (x:Ac (n+1)) (hx:p[k]? =some x):∃b o,a=some ⟨b,o,none⟩/\b<B/\Je n w b (o+k*11) x/\I x:=by
 rcases h with h|⟨b,o,e,hb,h⟩
 ·subst h;simp at hx
 ·obtain⟨h1,h2⟩:=h k x hx
  exact⟨b,o,e,hb,⟨h1 0 _ rfl,⟨h1 1 _ rfl,h1 2 _ rfl,h1 3 _ rfl,h1 4 _ rfl⟩,⟨h1 5 _ rfl,h1 6 _ rfl,h1 7 _ rfl,h1 8 _ rfl⟩,h1 9 _ rfl,h1 10 _ rfl⟩,h2⟩
theorem Lay.cl {n B:Nat} {w:World} {I:Cl (n+1)->Prop} {a:Option Addr} {p:List (Cl (n+1))} (h:Lay B w 13 (jS (n+1)) I a p) (k:Nat) (x:Cl (n+1)) (hx:p[k]? =some x):∃b o,a=some ⟨b,o,none⟩/\b<B/\Jj n w b (o+k*13) x/\I x:=by
 rcases h with h|⟨b,o,e,hb,h⟩
 ·subst h;simp at hx
 ·obtain⟨h1,h2⟩:=h k x hx
  exact⟨b,o,e,hb,⟨⟨h1 0 _ rfl,h1 1 _ rfl,h1 2 _ rfl,h1 3 _ rfl⟩,⟨h1 4 _ rfl,h1 5 _ rfl,h1 6 _ rfl,h1 7 _ rfl⟩,h1 8 _ rfl,h1 9 _ rfl,h1 10 _ rfl,h1 11 _ rfl,h1 12 _ rfl⟩,h2⟩
theorem Lay.bh {n B:Nat} {w:World} {I:Bh (n+1)->Prop} {a:Option Addr} {p:List (Bh (n+1))} (h:Lay B w 2 (EC (n+1)) I a p) (k:Nat) (x:Bh (n+1)) (hx:p[k]? =some x):∃b o,a=some ⟨b,o,none⟩/\b<B/\(w.cell? ⟨b,o+k*2,none⟩=some (.string x.1)/\w.cell? ⟨b,o+k*2+1,none⟩=some (.slice x.2.1.1 x.2.2.length x.2.1.2))/\I x:=by
 rcases h with h|⟨b,o,e,hb,h⟩
 ·subst h;simp at hx
 ·obtain⟨h1,h2⟩:=h k x hx
  exact⟨b,o,e,hb,⟨h1 0 _ rfl,h1 1 _ rfl⟩,h2⟩
theorem fH {α:Type} {I:Nat->World->α->Prop} {O:(Nat->Prop)->α->Prop} (hS:Stays I O) {k:Nat} {f:α->List Value} {a:Option Addr} {B:Nat} {w w':World} (hb:Below B w w') {l:List α} (h:Lay B w k f (I B w) a l):Lay B w' k f (I B w') a l:=(ed hS k f a).below hb h
theorem yU (n:Nat) (p:List (Ac (n+1))) (len:Nat) (hpl:Hid (p.length=len)) (a:Option Addr) (pc B:Nat) (w:World)
    (hp:Hid (Lay B w 11 (oh (n+1)) (AcIn (n+1) B w) a p)) (hlen:len<=9223372036854775807) (hB:B<=w.heap.size):
    Calls Tryz.prog 90 #[.slice a len pc] w fun e w'=>e=.returned (.bool (decide ((len:Int)<=8) && p.all (iN (n+1))))/\Below w.heap.size w w':=by
 by_cases h8:(8:Int)<len
 ·have h8':decide ((len:Int)<=8)=false:=by simp;omega
  rw[h8']
  go_enter Tryz.func90,Tryz.ntmps90
  go_wp2_with fail
  go_ret
  exact⟨rfl,Below.refl _ _⟩
 have h8':decide ((len:Int)<=8)=true:=by simp;omega
 rw[h8',Bool.true_and]
 clear h8'
 go_enter Tryz.func90,Tryz.ntmps90
 go_wp2_with fail
 go_loopw [10] (fun i wr=>∃k:Nat,k<=len/\i=.int .i64 k/\Below w.heap.size w wr/\Hid ((p.drop k).all (iN (n+1))=p.all (iN (n+1)))) (fun i _=>len-(intOf i).toNat)
 case atStart=>exact⟨0,by omega,rfl,Below.refl _ _,rfl⟩
 case round=>
  obtain⟨k,hk,rfl,hb,hd⟩:=hrel
  by_cases hlt:k<len
  ·obtain⟨x,hx⟩:∃x,p[k]? =some x:=⟨p[k]'(by rw[hpl.out];exact hlt),List.getElem?_eq_getElem _⟩
   have HS:=hide (nY (iN (n+1)) p k x hx)
   obtain⟨pb,po,rfl,hpb,⟨x0,⟨x1,x2,x3,x4⟩,⟨x5,x6,x7,x8⟩,x9,x10⟩,hi⟩:=(fH (je (n+1)) (hb.mono hB) hp.out).ac k x hx
   have HC:=fun w1=>hide (DC n x w1 hi.2.2.2.1)
   replace HC:Hid (∀w1,Calls Tryz.prog 105 #[.agg #[.int .i64 x.1,.int .i64 x.2.1.1.1.1,.int .i64 x.2.1.1.1.2.1,.string x.2.1.1.1.2.2,.slice x.2.1.1.2.1.1 x.2.1.1.2.2.length x.2.1.1.2.1.2,.int .i64 x.2.1.2.1.1,.int .i64 x.2.1.2.1.2.1,.string x.2.1.2.1.2.2,.slice x.2.1.2.2.1.1 x.2.1.2.2.2.length x.2.1.2.2.1.2,.string x.2.2.1,.int .i64 x.2.2.2]] w1 fun e w'=>e=.returned (.bool (iN (n+1) x))/\Below w1.heap.size w1 w'):=fun w1=>(HC w1).out
   clear hi hx
   generalize iN (n+1) x=r at*
   have hk1:(0:Int)<=(k:Int):=by omega
   have hk2:(k:Int)<(len:Int):=by omega
   go_wp2_with fail
   refine(HC.out _).mono ?_
   rintro e w1 ⟨rfl,hb1⟩
   have hb2:Below w.heap.size w w1:=(hb.trans (((Below.refl _ _).alloc (Nat.le_refl _) _).mono hb.size)).trans (hb1.mono (by have:=hb.size;simp;omega))
   clear hb1
   cases r with
   | true=>
    go_wp2_with fail
    go_roundw
    case rel=>exact⟨k+1,by omega,by go_num,hb2,by rw[<-hd.out,HS.out];rfl⟩
    case measure=>simp[intOf];omega
   | false=>
    go_wp2_with fail
    go_ret
    exact⟨aU (by rw[<-hd.out,HS.out];rfl),hb2⟩
  ·go_wp2_with fail
   go_ret
   refine⟨aU ?_,hb⟩
   rw[<-hd.out,List.drop_eq_nil_of_le (by rw[hpl.out];omega)]
   rfl
theorem sS (n:Nat) (p:List (Cl (n+1))) (len:Nat) (hpl:Hid (p.length=len)) (a:Option Addr) (pc B:Nat) (w:World)
    (hp:Hid (Lay B w 13 (jS (n+1)) (jH (n+1) B w) a p)) (hlen:len<=9223372036854775807) (hB:B<=w.heap.size):
    Calls Tryz.prog 75 #[.slice a len pc] w fun e w'=>e=.returned (.bool (decide (1<=(len:Int)) && decide ((len:Int)<=6) && p.all (wQ (n+1))))/\Below w.heap.size w w':=by
 by_cases h1:(len:Int)<1
 ·have h1':decide (1<=(len:Int))=false:=by simp;omega
  rw[h1']
  go_enter Tryz.func75,Tryz.ntmps75
  go_wp2_with fail
  go_ret
  exact⟨rfl,Below.refl _ _⟩
 by_cases h8:(6:Int)<len
 ·have h8':decide ((len:Int)<=6)=false:=by simp;omega
  rw[h8']
  go_enter Tryz.func75,Tryz.ntmps75
  go_wp2_with fail
  go_ret
  exact⟨aU (by simp),Below.refl _ _⟩
 have h8':(decide (1<=(len:Int)) && decide ((len:Int)<=6))=true:=by simp;omega
 rw[h8',Bool.true_and]
 clear h8'
 go_enter Tryz.func75,Tryz.ntmps75
 go_wp2_with fail
 go_loopw [15] (fun i wr=>∃k:Nat,k<=len/\i=.int .i64 k/\Below w.heap.size w wr/\Hid ((p.drop k).all (wQ (n+1))=p.all (wQ (n+1)))) (fun i _=>len-(intOf i).toNat)
 case atStart=>exact⟨0,by omega,rfl,Below.refl _ _,rfl⟩
 case round=>
  obtain⟨k,hk,rfl,hb,hd⟩:=hrel
  by_cases hlt:k<len
  ·obtain⟨x,hx⟩:∃x,p[k]? =some x:=⟨p[k]'(by rw[hpl.out];exact hlt),List.getElem?_eq_getElem _⟩
   have HS:=hide (nY (wQ (n+1)) p k x hx)
   obtain⟨pb,po,rfl,hpb,⟨⟨x0,x1,x2,x3⟩,⟨x4,x5,x6,x7⟩,x8,x9,x10,x11,x12⟩,hi⟩:=(fH (dK (n+1)) (hb.mono hB) hp.out).cl k x hx
   have hB':B<=wr.heap.size:=Nat.le_trans hB hb.size
   have HC:Hid (∀w1,Below wr.heap.size wr w1->Calls Tryz.prog 90 #[.slice x.2.1.1 x.2.2.length x.2.1.2] w1 fun e w'=>e=.returned (.bool (wQ (n+1) x))/\Below w1.heap.size w1 w'):=
    fun w1 hw=>yU n x.2.2 x.2.2.length rfl x.2.1.1 x.2.1.2 B w1 (fH (je (n+1)) (hw.mono hB') hi.2.2) (by have:=hi.2.1;unfold maxLen at this;omega) (Nat.le_trans hB' hw.size)
   clear hi hx
   generalize wQ (n+1) x=r at*
   have hk1:(0:Int)<=(k:Int):=by omega
   have hk2:(k:Int)<(len:Int):=by omega
   go_wp2_with fail
   refine(HC.out _ ((Below.refl _ _).alloc (Nat.le_refl _) _)).mono ?_
   rintro e w1 ⟨rfl,hb1⟩
   have hb2:Below w.heap.size w w1:=(hb.trans (((Below.refl _ _).alloc (Nat.le_refl _) _).mono hb.size)).trans (hb1.mono (by have:=hb.size;simp;omega))
   clear hb1
   cases r with
   | true=>
    go_wp2_with fail
    go_roundw
    case rel=>exact⟨k+1,by omega,by go_num,hb2,by rw[<-hd.out,HS.out];rfl⟩
    case measure=>simp[intOf];omega
   | false=>
    go_wp2_with fail
    go_ret
    exact⟨aU (by rw[<-hd.out,HS.out];rfl),hb2⟩
  ·go_wp2_with fail
   go_ret
   refine⟨aU ?_,hb⟩
   rw[<-hd.out,List.drop_eq_nil_of_le (by rw[hpl.out];omega)]
   rfl
theorem Gi (n:Nat) (x:Bh n):AQ n x=(bJ x.1 && (decide (1<=(x.2.2.length:Int)) && decide ((x.2.2.length:Int)<=6) && x.2.2.all (wQ n))):=by
 simp only[AQ,Bool.and_assoc]
theorem tO (n:Nat) (p:List (Bh (n+1))) (len:Nat) (hpl:Hid (p.length=len)) (a:Option Addr) (pc B:Nat) (w:World)
    (hp:Hid (PgIn (n+1) B w a p)) (hlen:len<=9223372036854775807) (hB:B<=w.heap.size):
    Calls Tryz.prog 60 #[.slice a len pc] w fun e w'=>e=.returned (.bool (og (n+1) p))/\Below w.heap.size w w':=by
 have HP:Hid (og (n+1) p=(decide (1<=(len:Int)) && decide ((len:Int)<=7) && p.all (AQ (n+1)))):=by
  show og (n+1) p=_
  rw[<-hpl.out]
  rfl
 rw[HP.out]
 by_cases h1:(len:Int)<1
 ·have h1':decide (1<=(len:Int))=false:=by simp;omega
  rw[h1']
  go_enter Tryz.func60,Tryz.ntmps60
  go_wp2_with fail
  go_ret
  exact⟨rfl,Below.refl _ _⟩
 by_cases h8:(7:Int)<len
 ·have h8':decide ((len:Int)<=7)=false:=by simp;omega
  rw[h8']
  go_enter Tryz.func60,Tryz.ntmps60
  go_wp2_with fail
  go_ret
  exact⟨aU (by simp),Below.refl _ _⟩
 have h8':(decide (1<=(len:Int)) && decide ((len:Int)<=7))=true:=by simp;omega
 rw[h8',Bool.true_and]
 clear h8' HP
 go_enter Tryz.func60,Tryz.ntmps60
 go_wp2_with fail
 go_loopw [15] (fun i wr=>∃k:Nat,k<=len/\i=.int .i64 k/\Below w.heap.size w wr/\Hid ((p.drop k).all (AQ (n+1))=p.all (AQ (n+1)))) (fun i _=>len-(intOf i).toNat)
 case atStart=>exact⟨0,by omega,rfl,Below.refl _ _,rfl⟩
 case round=>
  obtain⟨k,hk,rfl,hb,hd⟩:=hrel
  by_cases hlt:k<len
  ·obtain⟨x,hx⟩:∃x,p[k]? =some x:=⟨p[k]'(by rw[hpl.out];exact hlt),List.getElem?_eq_getElem _⟩
   have HS:=hide (nY (AQ (n+1)) p k x hx)
   obtain⟨pb,po,rfl,hpb,⟨x0,x1⟩,hi⟩:=(PgIn.below (hb.mono hB) hp.out).bh k x hx
   have hB':B<=wr.heap.size:=Nat.le_trans hB hb.size
   have hs:x.1.size<=9223372036854775807:=by have:=hi.1;unfold maxLen at this;omega
   have HC:Hid (∀w1,Below wr.heap.size wr w1->Calls Tryz.prog 75 #[.slice x.2.1.1 x.2.2.length x.2.1.2] w1 fun e w'=>e=.returned (.bool (decide (1<=(x.2.2.length:Int)) && decide ((x.2.2.length:Int)<=6) && x.2.2.all (wQ (n+1))))/\Below w1.heap.size w1 w'):=
    fun w1 hw=>sS n x.2.2 x.2.2.length rfl x.2.1.1 x.2.1.2 B w1 (fH (dK (n+1)) (hw.mono hB') hi.2.2) (by have:=hi.2.1;unfold maxLen at this;omega) (Nat.le_trans hB' hw.size)
   have HE:=hide (Gi (n+1) x)
   clear hi hx
   generalize (decide (1<=(x.2.2.length:Int)) && decide ((x.2.2.length:Int)<=6) && x.2.2.all (wQ (n+1)))=r at*
   have hk1:(0:Int)<=(k:Int):=by omega
   have hk2:(k:Int)<(len:Int):=by omega
   have HN:=fun w1=>hide (gF x.1 w1 hs)
   generalize bJ x.1=r0 at*
   generalize AQ (n+1) x=r1 at*
   have hal:Below w.heap.size w (wr.alloc (.cells #[.string x.1,.slice x.2.1.1 x.2.2.length x.2.1.2] 87)):=hb.trans (((Below.refl _ _).alloc (Nat.le_refl _) _).mono hb.size)
   cases r0 with
   | false=>
    go_wp2_with (go_at_call 21;refine(HN _).out.mono ?_;rintro e w' ⟨rfl,rfl⟩)
    go_ret
    exact⟨aU (by rw[<-hd.out,HS.out,HE.out];rfl),hal⟩
   | true=>
    go_wp2_with (first|(go_at_call 21;refine(HN _).out.mono ?_;rintro e w' ⟨rfl,rfl⟩)|(go_at_call 75;refine(HC.out _ ((Below.refl _ _).alloc (Nat.le_refl _) _)).mono ?_;rintro e w1 ⟨rfl,hb1⟩;have hb2:Below w.heap.size w w1:=hal.trans (hb1.mono (by have:=hb.size;simp;omega));clear hb1;cases r))
    ·go_ret
     exact⟨aU (by rw[<-hd.out,HS.out,HE.out];rfl),hb2⟩
    ·go_roundw
     case rel=>exact⟨k+1,by omega,by go_num,hb2,by rw[<-hd.out,HS.out,HE.out];rfl⟩
     case measure=>simp[intOf];omega
  ·go_wp2_with fail
   go_ret
   refine⟨aU ?_,hb⟩
   rw[<-hd.out,List.drop_eq_nil_of_le (by rw[hpl.out];omega)]
   rfl
theorem gU (s:ByteArray) (w:World):
    Calls Tryz.prog 76 #[.string s] w fun e w'=>e=.returned (.agg #[.int .i64 2,.int .i64 0,.string s,.slice none 0 0])/\w'=w.alloc (.cells #[.int .i64 2,.int .i64 0,.string s,.slice none 0 0] 25):=by
 go_enter Tryz.func76,Tryz.ntmps76
 go_wp2_with fail
 exact bodyPost_ret (v:=.agg #[.int .i64 2,.int .i64 0,.string s,.slice none 0 0]) (by simp[results,Tryz.results76,go_sem]) rfl ⟨rfl,rfl⟩
theorem dQ (a:Option Addr) (l c:Nat) (w:World):
    Calls Tryz.prog 78 #[.slice a l c] w fun e w'=>e=.returned (.agg #[.int .i64 4,.int .i64 0,.string ⟨#[]⟩,.slice a l c])/\w'=w.alloc (.cells #[.int .i64 4,.int .i64 0,.string ⟨#[]⟩,.slice a l c] 25):=by
 go_enter Tryz.func78,Tryz.ntmps78
 go_wp2_with fail
 exact bodyPost_ret (v:=.agg #[.int .i64 4,.int .i64 0,.string ⟨#[]⟩,.slice a l c]) (by simp[results,Tryz.results78,go_sem]) rfl ⟨rfl,rfl⟩
def gu (B N:Nat) (X:Tm N) (w:World) (e:Ending) (w':World):Prop:=
 ∃y:Tm N,e=.returned (val N y)/\Hid (Below w.heap.size w w'/\In w'.heap.size w' N y/\Off (fun b=>b<B∨w.heap.size<=b) N y/\same N y N X=true)
abbrev GrowT (n B base:Nat) (xs:List (Tm n)) (v:Value) (w0 wr:World):Prop:=Grow (fun B w x=>In B w n x) (fun P x=>Off P n x) (fw n) 4 25 B base xs v w0 wr
theorem gX (n:Nat) (x:Tm n):(fw n x).length=4:=rfl
theorem bO (s:ByteArray) (N:Nat) (h:s.size<=maxLen) (B:Nat) (w:World):In B w (N+1) (ay s N):=⟨⟨by simp[ay,dZ],by simp[ay,dZ],h,by simp[ay],by simp[ay]⟩,Or.inl rfl⟩
theorem yC (k u:Int) (N:Nat) (hk:dZ k) (hu:dZ u) (B:Nat) (w:World):In B w (N+1) (aQ k u N):=⟨⟨hk,hu,Nat.zero_le _,by simp[aQ],by simp[aQ]⟩,Or.inl rfl⟩
theorem fB (s:ByteArray) (N:Nat) (P:Nat->Prop):Off P (N+1) (ay s N):=Or.inl rfl
theorem Cr {n:Nat} {w:World} {b o:Nat} {x:Tm n} {B:Nat} {w0:World} (hi:In B w0 n x) (h:∀(j:Nat) (u:Value),(fw n x)[j]? =some u->w.cell? ⟨b,o+j,none⟩=some u):Held w b o n x:=by
 cases n with
 | zero=>exact hi.elim
 | succ n=>exact⟨h 0 _ rfl,h 1 _ rfl,h 2 _ rfl,h 3 _ rfl⟩
theorem GrowT.tells {B base N:Nat} {xs ys:List (Tm N)} {v:Value} {w w0 wr w':World} (h:GrowT N B base xs v w0 wr) (hbase:w.heap.size<=base) (hs:aj (fun a b=>same N a N b) xs ys=true)
    (hw:∀b,b<B∨base<=b->b<wr.heap.size->w'.heap[b]? =wr.heap[b]?) (hsz:wr.heap.size<=w'.heap.size) (hb:Below w.heap.size w w'):
    ∃a c,v=.slice a xs.length c/\gu B (N+1) (bV N ys) w (.returned (.agg #[.int .i64 4,.int .i64 0,.string ⟨#[]⟩,.slice a xs.length c])) w':=by
 have hS:=aX N
 obtain⟨a,c,e,hc,hl,ho⟩:=h.lay hS (gX N)
 refine⟨a,c,e,((4,0,.empty),(a,c),xs),rfl,hb,⟨⟨by simp[dZ],by simp[dZ],Nat.zero_le _,hc.1,hc.2⟩, ?_⟩, ?_,bX rfl hs⟩
 ·have h2:=(ed hS 4 (fw N) a).2.1 _ _ _ _ ho hl
  have h3:=(ed hS 4 (fw N) a).2.2.1 _ _ wr w' _ (fun b hb'=>hw b hb'.1 hb'.2) h2 hl
  have h4:=(ed hS 4 (fw N) a).2.2.2.1 _ _ _ _ hsz h3
  rcases h4 with h4|⟨b,o,e,hb,h4⟩
  ·exact Or.inl h4
  ·exact Or.inr ⟨b,o,e,hb,fun i y hy=>⟨Cr (h4 i y hy).2 (h4 i y hy).1,(h4 i y hy).2⟩⟩
 ·rcases ho with ho|⟨b,o,e,hb,ho⟩
  ·exact Or.inl ho
  ·exact Or.inr ⟨b,o,e,by omega,fun i y hy=>(ho y (List.mem_of_getElem? hy)).mono fun b hb=>by omega⟩
theorem lT {B N:Nat} (xs:List (Tm N)) {w w1 w':World} {cs:Array Value} {g L:Nat} (h1:Below w.heap.size w w1) (hg:g=w1.heap.size) (hL:L=xs.length) (h2:Below (w1.alloc (.cells cs 25)).heap.size (w1.alloc (.cells cs 25)) w') (hcs:cs.toList=xs.flatMap (fw N)) (hm:xs.length<=8) (hBw:B<=w.heap.size) (hX:∀y∈xs,In B w N y):
    gu B (N+1) (bV N xs) w (.returned (.agg #[.int .i64 4,.int .i64 0,.string ⟨#[]⟩,.slice (some ⟨g,0,none⟩) L L])) w':=by
 have h:=Grow.lit (T:=25) (k:=4) (B:=B) (base:=w1.heap.size) (aX N) xs (w0:=w1) hcs (gX N) (by unfold maxLen;omega) (Nat.le_refl _) (Below.refl _ _) (fun y hy=>⟨((hX y hy).below (h1.mono hBw)).mono (Nat.le_trans hBw h1.size),(iR (hX y hy)).mono fun b hb=>Or.inl hb⟩)
 have hal:Below w.heap.size w (w1.alloc (.cells cs 25)):=h1.trans (((Below.refl _ _).alloc (Nat.le_refl _) _).mono h1.size)
 obtain⟨a,c,e,k⟩:=GrowT.tells h h1.size (gP _ _ fun y hy=>lw (hX y hy)) (fun b _ hb=>h2.block b hb) h2.size (hal.trans (h2.mono hal.size))
 injection e with e1 e2 e3
 subst e1 e3 hL hg
 exact k
theorem fC {w:World} {o1 o2 o3:Obj}:Below w.heap.size w (((w.alloc o1).alloc o2).alloc o3)/\w.heap.size+1+1+1=(((w.alloc o1).alloc o2).alloc o3).heap.size:=
 ⟨(((Below.refl _ _).alloc (Nat.le_refl _) _).alloc (by simp) _).alloc (by simp;omega) _,by simp⟩
theorem pQ {w:World} {o1 o2 o3 o4:Obj}:Below w.heap.size w ((((w.alloc o1).alloc o2).alloc o3).alloc o4)/\w.heap.size+1+1+1+1=((((w.alloc o1).alloc o2).alloc o3).alloc o4).heap.size:=
 ⟨((((Below.refl _ _).alloc (Nat.le_refl _) _).alloc (by simp) _).alloc (by simp;omega) _).alloc (by simp;omega) _,by simp⟩
theorem su {w:World} {o:Obj}:Below w.heap.size w (w.alloc o).drew:=((Below.refl _ _).alloc (Nat.le_refl _) _).drew
theorem aM {w:World} {o:Obj}:Below w.heap.size w (w.alloc o):=(Below.refl _ _).alloc (Nat.le_refl _) _
theorem dO (s:ByteArray) (h:s.size<=8):s.size<=maxLen:=by unfold maxLen;omega
theorem vP (n:Nat) (t x:Tm (n+1)) (s:ByteArray) (v:Int) (B:Nat) (w:World) (ht:In B w (n+1) t) (hx:In B w (n+1) x) (hB:B<=w.heap.size):
    Calls Tryz.prog 106 #[.agg #[.int .i64 1,.int .i64 t.1.1,.int .i64 t.1.2.1,.string t.1.2.2,.slice t.2.1.1 t.2.2.length t.2.1.2,.int .i64 x.1.1,.int .i64 x.1.2.1,.string x.1.2.2,.slice x.2.1.1 x.2.2.length x.2.1.2,.string s,.int .i64 v]] w (gu B (n+2) (bV (n+1) [ay jM n,t,x]) w):=by
 have HX:Hid (∀y∈[ay jM n,t,x],In B w (n+1) y):=fun y hy=>by
  simp only[List.mem_cons,List.not_mem_nil,or_false]at hy
  rcases hy with rfl|rfl|rfl
  ·exact bO _ _ (dO _ (by decide)) _ _
  ·exact ht
  ·exact hx
 clear ht hx
 go_enter Tryz.func106,Tryz.ntmps106
 go_wp2_with fail
 go_region_held3 (fun w'=>(w'.cell? ⟨w.heap.size,1,none⟩=some (.int .i64 t.1.1)/\w'.cell? ⟨w.heap.size,2,none⟩=some (.int .i64 t.1.2.1)/\w'.cell? ⟨w.heap.size,3,none⟩=some (.string t.1.2.2)/\w'.cell? ⟨w.heap.size,4,none⟩=some (.slice t.2.1.1 t.2.2.length t.2.1.2))/\
     (w'.cell? ⟨w.heap.size,5,none⟩=some (.int .i64 x.1.1)/\w'.cell? ⟨w.heap.size,6,none⟩=some (.int .i64 x.1.2.1)/\w'.cell? ⟨w.heap.size,7,none⟩=some (.string x.1.2.2)/\w'.cell? ⟨w.heap.size,8,none⟩=some (.slice x.2.1.1 x.2.2.length x.2.1.2))) (first|(go_keep;done)|(simp[go_sem];done))
  ((first|(go_at_call 76;refine(gU _ _).mono ?_;rintro e w1 ⟨rfl,rfl⟩)|(go_at_call 78;refine(dQ _ _ _ _).mono ?_;rintro e w1 ⟨rfl,rfl⟩)))
 go_wp2_with fail
 exact bodyPost_ret (v:=.agg #[.int .i64 4,.int .i64 0,.string ⟨#[]⟩,.slice (some ⟨w.heap.size+1+1+1,0,none⟩) 3 3]) (by simp[results,Tryz.results106,go_sem]) rfl (lT [ay jM n,t,x] fC.1 fC.2 rfl su rfl (by simp) hB HX.out)
theorem vJ (n:Nat) (t x:Tm (n+1)) (s:ByteArray) (v:Int) (B:Nat) (w:World) (ht:In B w (n+1) t) (hB:B<=w.heap.size):
    Calls Tryz.prog 106 #[.agg #[.int .i64 3,.int .i64 t.1.1,.int .i64 t.1.2.1,.string t.1.2.2,.slice t.2.1.1 t.2.2.length t.2.1.2,.int .i64 x.1.1,.int .i64 x.1.2.1,.string x.1.2.2,.slice x.2.1.1 x.2.2.length x.2.1.2,.string s,.int .i64 v]] w (gu B (n+2) (bV (n+1) [ay jD n,t]) w):=by
 have HX:Hid (∀y∈[ay jD n,t],In B w (n+1) y):=fun y hy=>by
  simp only[List.mem_cons,List.not_mem_nil,or_false]at hy
  rcases hy with rfl|rfl
  ·exact bO _ _ (dO _ (by decide)) _ _
  ·exact ht
 clear ht
 go_enter Tryz.func106,Tryz.ntmps106
 go_wp2_with fail
 go_region_held3 (fun w'=>w'.cell? ⟨w.heap.size,1,none⟩=some (.int .i64 t.1.1)/\w'.cell? ⟨w.heap.size,2,none⟩=some (.int .i64 t.1.2.1)/\w'.cell? ⟨w.heap.size,3,none⟩=some (.string t.1.2.2)/\w'.cell? ⟨w.heap.size,4,none⟩=some (.slice t.2.1.1 t.2.2.length t.2.1.2)) (first|(go_keep;done)|(simp[go_sem];done))
  ((first|(go_at_call 76;refine(gU _ _).mono ?_;rintro e w1 ⟨rfl,rfl⟩)|(go_at_call 78;refine(dQ _ _ _ _).mono ?_;rintro e w1 ⟨rfl,rfl⟩)))
 go_wp2_with fail
 exact bodyPost_ret (v:=.agg #[.int .i64 4,.int .i64 0,.string ⟨#[]⟩,.slice (some ⟨w.heap.size+1+1+1,0,none⟩) 2 2]) (by simp[results,Tryz.results106,go_sem]) rfl (lT [ay jD n,t] fC.1 fC.2 rfl su rfl (by simp) hB HX.out)
theorem wK (n:Nat) (K:Int) (h1:(K==1)=false) (h2:(K==2)=false) (h3:(K==3)=false) (t x:Tm (n+1)) (s:ByteArray) (v:Int) (B:Nat) (w:World) (hB:B<=w.heap.size):
    Calls Tryz.prog 106 #[.agg #[.int .i64 K,.int .i64 t.1.1,.int .i64 t.1.2.1,.string t.1.2.2,.slice t.2.1.1 t.2.2.length t.2.1.2,.int .i64 x.1.1,.int .i64 x.1.2.1,.string x.1.2.2,.slice x.2.1.1 x.2.2.length x.2.1.2,.string s,.int .i64 v]] w (gu B (n+2) (bV (n+1) [ay jP n]) w):=by
 have HX:Hid (∀y∈[ay jP n],In B w (n+1) y):=fun y hy=>by
  simp only[List.mem_cons,List.not_mem_nil,or_false]at hy
  subst hy
  exact bO _ _ (dO _ (by decide)) _ _
 go_enter Tryz.func106,Tryz.ntmps106
 go_wp2_with (first|(go_at_call 76;refine(gU _ _).mono ?_;rintro e w1 ⟨rfl,rfl⟩)|(go_at_call 78;refine(dQ _ _ _ _).mono ?_;rintro e w1 ⟨rfl,rfl⟩))
 exact bodyPost_ret (v:=.agg #[.int .i64 4,.int .i64 0,.string ⟨#[]⟩,.slice (some ⟨w.heap.size+1+1+1,0,none⟩) 1 1]) (by simp[results,Tryz.results106,go_sem]) rfl (lT [ay jP n] fC.1 fC.2 rfl aM rfl (by simp) hB HX.out)
theorem ug (n:Nat) (t x:Tm (n+1)) (s:ByteArray) (v:Int) (hv:dZ v) (hs:s.size<=maxLen) (B:Nat) (w:World) (hx:In B w (n+1) x) (hB:B<=w.heap.size):
    Calls Tryz.prog 106 #[.agg #[.int .i64 2,.int .i64 t.1.1,.int .i64 t.1.2.1,.string t.1.2.2,.slice t.2.1.1 t.2.2.length t.2.1.2,.int .i64 x.1.1,.int .i64 x.1.2.1,.string x.1.2.2,.slice x.2.1.1 x.2.2.length x.2.1.2,.string s,.int .i64 v]] w (gu B (n+2) (bV (n+1) [ay gV n,ay s n,x,aQ 5 v n]) w):=by
 have HX:Hid (∀y∈[ay gV n,ay s n,x,aQ 5 v n],In B w (n+1) y):=fun y hy=>by
  simp only[List.mem_cons,List.not_mem_nil,or_false]at hy
  rcases hy with rfl|rfl|rfl|rfl
  ·exact bO _ _ (dO _ (by decide)) _ _
  ·exact bO _ _ hs _ _
  ·exact hx
  ·exact yC _ _ _ (by simp[dZ]) hv _ _
 clear hx hs hv
 go_enter Tryz.func106,Tryz.ntmps106
 go_wp2_with fail
 go_region_held3 (fun w'=>(w'.cell? ⟨w.heap.size,9,none⟩=some (.string s)/\w'.cell? ⟨w.heap.size,10,none⟩=some (.int .i64 v))/\
     (w'.cell? ⟨w.heap.size,5,none⟩=some (.int .i64 x.1.1)/\w'.cell? ⟨w.heap.size,6,none⟩=some (.int .i64 x.1.2.1)/\w'.cell? ⟨w.heap.size,7,none⟩=some (.string x.1.2.2)/\w'.cell? ⟨w.heap.size,8,none⟩=some (.slice x.2.1.1 x.2.2.length x.2.1.2))) (first|(go_keep;done)|(simp[go_sem];done))
  ((first|(go_at_call 76;refine(gU _ _).mono ?_;rintro e w1 ⟨rfl,rfl⟩)|(go_at_call 78;refine(dQ _ _ _ _).mono ?_;rintro e w1 ⟨rfl,rfl⟩)))
 all_goals go_wp2_with fail
 all_goals exact bodyPost_ret (v:=.agg #[.int .i64 4,.int .i64 0,.string ⟨#[]⟩,.slice (some ⟨w.heap.size+1+1+1+1,0,none⟩) 4 4]) (by simp[results,Tryz.results106,go_sem]) rfl (lT [ay gV n,ay s n,x,aQ 5 v n] pQ.1 pQ.2 rfl su rfl (by simp) hB HX.out)
theorem xA (n:Nat) (a:Ac (n+1)) (B:Nat) (w:World) (hi:AcIn (n+1) B w a) (hB:B<=w.heap.size):
    Calls Tryz.prog 106 #[.agg (oh (n+1) a).toArray] w (gu B (n+2) (eQ n a) w):=by
 obtain⟨K,⟨t,x⟩,s,v⟩:=a
 obtain⟨h1,h2,h3,h4,h5⟩:=hi
 unfold eQ
 by_cases k1:K=1
 ·subst k1
  exact vP n t x s v B w h2 h3 hB
 by_cases k2:K=2
 ·subst k2
  exact ug n t x s v h5 h4 B w h3 hB
 by_cases k3:K=3
 ·subst k3
  exact vJ n t x s v B w h2 hB
 ·simp only[k1,k2,k3,if_false]
  exact wK n K (by simpa using k1) (by simpa using k2) (by simpa using k3) t x s v B w hB
end Go.Proofs.YtbknffhilfoakaaGreat
