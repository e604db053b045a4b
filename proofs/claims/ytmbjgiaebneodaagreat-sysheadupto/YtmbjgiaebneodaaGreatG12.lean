/- What is proved here: plain facts and contracts that the claimed theorem stands on. No condition but those that each names. -/
import Derived.Maps.RangeWalk
import Derived.WideKeyPair
import Derived.WideKeyEntry
import Derived.Test.YtmbjgiaebneodaaGreatG10
import Derived.Test.YtmbjgiaebneodaaGreatG11
namespace Go.Proofs.YtmbjgiaebneodaaGreat
open Go.RowKit Go.Maps
open Go.RowKit
set_option maxRecDepth 100000
set_option maxHeartbeats 1000000
structure Kee (S:Nat->Prop) (w w':World):Prop where
 os:w'.os=w.os
 tape:w'.tape=w.tape
 output:w'.output=w.output
 size:w.heap.size<=w'.heap.size
 block:∀b,b<w.heap.size->¬S b->w'.heap[b]? =w.heap[b]?
theorem Kee.refl (S:Nat->Prop) (w:World):Kee S w w:=⟨rfl,rfl,rfl,Nat.le_refl _,fun _ _ _=>rfl⟩
theorem Kee.trans {S T:Nat->Prop} {w w1 w2:World} (h:Kee S w w1) (k:Kee T w1 w2) (hT:∀b,b<w.heap.size->T b->S b):Kee S w w2:=
 ⟨k.os.trans h.os,k.tape.trans h.tape,k.output.trans h.output,Nat.le_trans h.size k.size,fun b hb hs=>(k.block b (Nat.lt_of_lt_of_le hb h.size) (fun ht=>hs (hT b hb ht))).trans (h.block b hb hs)⟩
theorem Kee.mono {S T:Nat->Prop} {w w1:World} (h:Kee S w w1) (hT:∀b,b<w.heap.size->S b->T b):Kee T w w1:=⟨h.os,h.tape,h.output,h.size,fun b hb hs=>h.block b hb fun k=>hs (hT b hb k)⟩
theorem aj {w w':World} (h:Below w.heap.size w w') (S:Nat->Prop):Kee S w w':=⟨h.os,h.tape,h.output,h.size,fun b hb _=>h.block b hb⟩
theorem cO {w w':World} {row:Option Nat} (h:w.grownBy w' row):Kee (fun b=>row=some b) w w':=⟨h.os,h.tape,h.output,h.size,fun b hb hs=>h.block b hb fun e=>hs e.symm⟩
theorem aP (w:World) (q o:Nat) (v:Value):Kee (fun b=>b=q) w (w.setCell ⟨q,o,none⟩ v):=
 ⟨rfl,rfl,rfl,by simp[World.setCell],fun b _ hne=>by
  have:q≠b:=fun e=>hne e.symm
  simp[World.setCell,Array.getElem?_modify,this]⟩
theorem Kee.below {S:Nat->Prop} {w w':World} {B:Nat} (h:Kee S w w') (hB:B<=w.heap.size) (hS:∀b,b<B->¬S b):Below B w w':=⟨h.os,h.tape,h.output,h.size,fun b hb=>h.block b (by omega) (hS b hb)⟩
theorem Kee.cell {S:Nat->Prop} {w w':World} (h:Kee S w w') {b:Nat} (o:Nat) (hb:b<w.heap.size) (hS:¬S b):w'.cell? ⟨b,o,none⟩=w.cell? ⟨b,o,none⟩:=by
 simp only[World.cell?,h.block b hb hS]
theorem aG {base:Nat} {e:TypeId} {sz:Nat} {v:Value} {n:Nat} {xs:List Value} {w w':World} {S:Nat->Prop} (h:w.ownsRow base e sz v n xs) (k:Kee S w w') (h1:∀b,v.ownBlock=some b->¬S b):w'.ownsRow base e sz v n xs:=by
 refine⟨h.1, ?_⟩
 rcases h.2 with⟨e,e0⟩|⟨g,cap,cur,e,hg,hh,hr⟩
 ·exact Or.inl ⟨e,e0⟩
 ·exact Or.inr ⟨g,cap,cur,e,hg,(k.block g (Array.getElem?_eq_some_iff.1 hh).1 (h1 g (by rw[e];rfl))).trans hh,hr⟩
theorem Held.kee {S:Nat->Prop} {w w':World} (h:Kee S w w') {b o:Nat} (hb:b<w.heap.size) (hS:¬S b):{n:Nat}->{x:Tm n}->Held w b o n x->Held w' b o n x
 | 0,_,k=>k
 | _+1,_,k=>by
  obtain⟨k0,k1,k2,k3⟩:=k
  exact⟨(h.cell _ hb hS).trans k0,(h.cell _ hb hS).trans k1,(h.cell _ hb hS).trans k2,(h.cell _ hb hS).trans k3⟩
theorem In.kee {S:Nat->Prop} {w w':World} (h:Kee S w w'):{n:Nat}->{x:Tm n}->In w.heap.size w n x->Off (fun b=>¬S b) n x->In w'.heap.size w' n x
 | 0,_,k,_=>k
 | _+1,x,k,o=>by
  obtain⟨k0,k1⟩:=k
  refine⟨k0, ?_⟩
  rcases k1 with k1|⟨b,f,e,hb,k1⟩
  ·exact Or.inl k1
  ·rcases o with o|⟨b',f',e',hb',o⟩
   ·exact Or.inl o
   ·rw[e]at e'
    injection e' with e'
    injection e' with e1 e2
    subst e1 e2
    exact Or.inr ⟨b,f,e,Nat.lt_of_lt_of_le hb h.size,fun i y hy=>⟨(k1 i y hy).1.kee h hb hb',(k1 i y hy).2.kee h (o i y hy)⟩⟩
/-! ### the keys -/
theorem zw:WideMaps.ArrKey Tryz.prog 151 3 2:=⟨Tryz.underlying151,by kernel_rfl,by kernel_rfl,by kernel_rfl⟩
theorem dN:Keyed Tryz.prog 151:=Keyed.of_law zw.law
theorem Du:∃m,Tryz.prog.types.size=m+1:=by
 have h:(Tryz.prog.types.size==0)=false:=by kernel_rfl
 have h':Tryz.prog.types.size≠0:=beq_eq_false_iff_ne.1 h
 exact⟨Tryz.prog.types.size-1,by omega⟩
def pk (k:Int×Int):Value:=.agg #[.int .i64 k.1,.int .i64 k.2]
def kl (k:Int×Int):Lit:=.string (keyBytes [.int .i64 k.1,.int .i64 k.2])
def I2 (k:Int×Int):Prop:=bR k.1/\bR k.2
theorem Ow {a:Int} (h:bR a):(Lit.int .i64 a).wf=true:=WalkArith.wf_i64 (by unfold bR at h;omega)
theorem dZ {k:Int×Int} (h:I2 k):keyOf Tryz.prog 151 (pk k)=some (kl k):=WideMaps.keyOf_pair zw Tryz.underlying3 Du (Ow h.1) (Ow h.2)
theorem ol {k k':Int×Int} (h:I2 k) (h':I2 k') (e:kl k=kl k'):k=k':=by
 have h1:=dN.inj (dZ h) (e▸dZ h')
 simp only[pk,Value.agg.injEq,Array.mk.injEq,List.cons.injEq,Value.int.injEq,true_and,and_true]at h1
 exact Prod.ext h1.1 h1.2
def Ad (v:Value):Option (DataW Value×List MemPlace):=some (.held v,[])
def upd {α:Type} (f:Int×Int->α) (k:Int×Int) (x:α):Int×Int->α:=fun j=>if j=k then x else f j
theorem upd_same {α:Type} (f:Int×Int->α) (k:Int×Int) (x:α):upd f k x k=x:=if_pos rfl
theorem aS {α:Type} (f:Int×Int->α) {k j:Int×Int} (x:α) (h:j≠k):upd f k x j=f j:=if_neg h
def kL:Value:=.slice none 0 0
def bS (N:Nat) (l:List (Tm N)):List Value:=bJ (l.map (gZ N))
theorem nW (N:Nat) (l:List (Tm N)):(bS N l).length=l.length*4:=by simp[bS,lV]
theorem nZ (N:Nat) (l r:List (Tm N)):bS N (l++r)=bS N l++bS N r:=by simp[bS,vL]
def TRow (base N:Nat) (v:Value) (l:List (Tm N)) (w:World):Prop:=w.ownsRow base 30 4 v l.length (bS N l)
structure GM (base mb n N:Nat) (f:Int×Int->List (Tm N)) (sl:Int×Int->Value) (w:World):Prop where
 lo:base<=mb
 map:∃D,w.ownsMap Tryz.prog 151 Ad mb n D/\(∀k,I2 k->D.atKey (kl k) (.held kL)=.held (sl k))/\∀x,has D x=true ↔∃k,I2 k/\x=kl k/\f k≠[]
 row:∀k,I2 k->TRow base N (sl k) (f k) w
 apart:∀k j,I2 k->I2 j->k≠j->∀b,(sl k).ownBlock=some b->(sl j).ownBlock≠some b
def OA (mb:Nat) (sl:Int×Int->Value) (b:Nat):Prop:=b=mb∨∃k,I2 k/\(sl k).ownBlock=some b
theorem dz {w:World} {base:Nat} {e:TypeId} {sz:Nat} {v:Value} {n:Nat} {xs:List Value} (h:w.ownsRow base e sz v n xs) (b:Nat) (hb:v.ownBlock=some b):∃cur,w.heap[b]? =some (.cells cur e (0,0)):=by
 rcases h.2 with⟨rfl,_⟩|⟨g,cap,cur,rfl,_,hh,_⟩
 ·simp[Value.ownBlock]at hb
 ·simp[Value.ownBlock]at hb
  subst hb
  exact⟨cur,hh⟩
variable {base mb n N:Nat} {f:Int×Int->List (Tm N)} {sl:Int×Int->Value} {w:World}
theorem GM.lt (h:GM base mb n N f sl w) (b:Nat) (hb:OA mb sl b):base<=b/\b<w.heap.size:=by
 rcases hb with rfl|⟨k,hk,hb⟩
 ·obtain⟨D,h1,_⟩:=h.map
  exact⟨h.lo,h1.lt⟩
 ·exact(h.row k hk).lt b hb
theorem GM.ne (h:GM base mb n N f sl w) {k:Int×Int} (hk:I2 k):(sl k).ownBlock≠some mb:=by
 intro e
 obtain⟨c,hc⟩:=dz (h.row k hk) mb e
 obtain⟨D,⟨es,clock,hb,_⟩,_⟩:=h.map
 rw[hb]at hc
 cases hc
theorem GM.kee {S:Nat->Prop} {w':World} (h:GM base mb n N f sl w) (k:Kee S w w') (hS:∀b,OA mb sl b->¬S b):GM base mb n N f sl w':=by
 refine⟨h.lo, ?_,fun j hj=>aG (h.row j hj) k fun b hb=>hS b (Or.inr ⟨j,hj,hb⟩),h.apart⟩
 obtain⟨D,h1,h2⟩:=h.map
 refine⟨D, ?_,h2⟩
 have hlt:=h1.lt
 obtain⟨es,clock,hb,hr⟩:=h1
 exact⟨es,clock,(k.block mb hlt (hS mb (Or.inl rfl))).trans hb,hr⟩
theorem GM.mono (h:GM base mb n N f sl w) {m:Nat} (hm:n<=m):GM base mb m N f sl w:=by
 obtain⟨h1,⟨D,h2,h3⟩,h4,h5⟩:=h
 exact⟨h1,⟨D,h2.mono hm,h3⟩,h4,h5⟩
theorem GM.new (w:World) (N:Nat):GM w.heap.size w.heap.size 0 N (fun _=> []) (fun _=>kL) (w.alloc (.map #[] 0)):=
 ⟨Nat.le_refl _,⟨.map [],World.ownsMap_made w _ _ _,fun k _=>by simp[DataW.atKey],fun x=>⟨fun h=>by simp[has]at h,fun⟨k,_,_,h⟩=>absurd rfl h⟩⟩,
  fun k _=>⟨by simp[bS,bJ],Or.inl ⟨rfl,rfl⟩⟩,fun k j _ _ _ b hb=>by simp[kL,Value.ownBlock]at hb⟩
theorem TRow.rebase {base':Nat} {v:Value} {l:List (Tm N)} (h:TRow base N v l w) (hb:base'<=base):TRow base' N v l w:=qg h hb
theorem GM.rebase {base':Nat} (h:GM base mb n N f sl w) (hb:base'<=base):GM base' mb n N f sl w:=
 ⟨Nat.le_trans hb h.lo,h.map,fun k hk=>(h.row k hk).rebase hb,h.apart⟩
theorem KJ {v:Value} {d:DataW Value} {ps:List MemPlace} (h:Ad v=some (d,ps)):d=.held v:=by
 unfold Ad at h
 injection h with h
 injection h with h1 h2
 exact h1.symm
theorem pX (w:World):(zeroValue 28).run Tryz.prog w=.ok (.slice none 0 0) w:=by kernel_rfl
theorem GM.look (h:GM base mb n N f sl w) {k:Int×Int} (hk:I2 k):(Instr.lookup 65 (.map (some mb)) (pk k) false).run Tryz.prog w=.ok (sl k) w:=by
 obtain⟨D,h1,h2,_⟩:=h.map
 obtain⟨v,ps,hrun,hv⟩:=h1.lookup dN Tryz.underlying65 (pX w) (zd:=.held kL) (zp:=[]) rfl (dZ hk)
 rw[h2 k hk]at hv
 have e:=KJ hv
 injection e with e
 rw[hrun,e]
theorem G9 (w:World) {k:Int×Int} (hk:I2 k):(Instr.lookup 65 (.map none) (pk k) false).run Tryz.prog w=.ok (.slice none 0 0) w:=by
 have h:=look_nil (P:=Tryz.prog) (w:=w) false dN Tryz.underlying65 (pX w) (dZ hk)
 simpa using h
theorem Hl {D:DataW Value} (hm:IsMap D) {k j:Int×Int} (hk:I2 k) (hj:I2 j) (v:Value) (z:DataW Value):(D.put (kl k) (.held v)).atKey (kl j) z=if j=k then .held v else D.atKey (kl j) z:=by
 by_cases e:j=k
 ·subst e
  rw[if_pos rfl,atKey_put_same hm (dN.key (dZ hj))]
 ·rw[if_neg e,atKey_put_other fun e'=>e (ol hj hk e')]
theorem GM.put_of (h:GM base mb n N f sl w) {k:Int×Int} (hk:I2 k) {w1 w2:World} (hK:Kee (fun b=>b=mb∨(sl k).ownBlock=some b) w w1) {v:Value} {l:List (Tm N)} (hl:l≠[]) (ho:TRow base N v l w1)
    (hloc:∀b,v.ownBlock=some b->(sl k).ownBlock=some b∨w.heap.size<=b) (hkk:Kee (fun b=>b=mb) w1 w2)
    (hown:∀D,w.ownsMap Tryz.prog 151 Ad mb n D->w2.ownsMap Tryz.prog 151 Ad mb (n+1) (D.put (kl k) (.held v))):GM base mb (n+1) N (upd f k l) (upd sl k v) w2:=by
 obtain⟨D,h1,h2,h3⟩:=h.map
 have hlt:=h1.lt
 have hmb:∀b,v.ownBlock=some b->b≠mb:=fun b hb e=>by
  subst e
  rcases hloc b hb with e|e
  ·exact h.ne hk e
  ·omega
 have hneq:∀j,I2 j->j≠k->∀b,(sl j).ownBlock=some b->v.ownBlock≠some b:=fun j hj hjk b hb hv=>by
  rcases hloc b hv with e|e
  ·exact h.apart j k hj hk hjk b hb e
  ·have:=((h.row j hj).lt b hb).2
   omega
 refine⟨h.lo,⟨_,hown D h1,fun j hj=> ?_,fun x=> ?_⟩,fun j hj=> ?_,fun i j hi hj hij b=> ?_⟩
 ·rw[Hl h1.isMap hk hj]
  unfold upd
  split
  ·rfl
  ·exact h2 j hj
 ·constructor
  ·intro hx
   by_cases e:x=kl k
   ·exact⟨k,hk,e,by rw[upd_same];exact hl⟩
   ·rw[has_put_other e]at hx
    obtain⟨j,hj,ej,hf⟩:=(h3 x).1 hx
    refine⟨j,hj,ej, ?_⟩
    rw[aS _ _ fun e'=>e (by rw[ej,e'])]
    exact hf
  ·rintro ⟨j,hj,rfl,hf⟩
   by_cases e:j=k
   ·rw[e,has_put_same h1.isMap (dN.key (dZ hk))]
   ·rw[has_put_other fun e'=>e (ol hj hk e')]
    rw[aS _ _ e]at hf
    exact(h3 _).2 ⟨j,hj,rfl,hf⟩
 ·by_cases e:j=k
  ·subst e
   rw[upd_same,upd_same]
   exact aG ho hkk fun b hb e=>hmb b hb e
  ·rw[aS _ _ e,aS _ _ e]
   refine aG (aG (h.row j hj) hK fun b hb e'=> ?_) hkk fun b hb e'=>h.ne hj (by rw[hb,e'])
   rcases e' with e'|e'
   ·exact h.ne hj (by rw[hb,e'])
   ·exact h.apart j k hj hk e b hb e'
 ·by_cases e1:i=k
  ·subst e1
   rw[upd_same,aS _ _ fun e=>hij e.symm]
   exact fun hb hb'=>hneq j hj (fun e=>hij e.symm) b hb' hb
  ·rw[aS _ _ e1]
   by_cases e2:j=k
   ·subst e2
    rw[upd_same]
    exact fun hb=>hneq i hi hij b hb
   ·rw[aS _ _ e2]
    exact h.apart i j hi hj hij b
theorem gL {w2:World} (ht:w.mapTurned w2 mb):Kee (fun b=>b=mb) w w2/\w2.heap.size=w.heap.size:=by
 refine⟨(cO ht.grown).mono fun b _ e=>(Option.some.inj e).symm, ?_⟩
 obtain⟨_,_,_,_,_,rfl⟩:=ht
 simp[ChangeMaps.setBlock]
theorem GM.store (h:GM base mb n N f sl w) {k:Int×Int} (hk:I2 k) {w1:World} (hK:Kee (fun b=>(sl k).ownBlock=some b) w w1) {v:Value} {l:List (Tm N)} (hl:l≠[]) (ho:TRow base N v l w1)
    (hloc:∀b,v.ownBlock=some b->(sl k).ownBlock=some b∨w.heap.size<=b) (hn:n<1000000):
    ∃w2,(Instr.mapUpdate 65 (.map (some mb)) (pk k) v).run Tryz.prog w1=.ok () w2/\GM base mb (n+1) N (upd f k l) (upd sl k v) w2/\Kee (fun b=>b=mb) w1 w2/\w2.heap.size=w1.heap.size:=by
 have hstep:∀D,w.ownsMap Tryz.prog 151 Ad mb n D->∃w2,(Instr.mapUpdate 65 (.map (some mb)) (pk k) v).run Tryz.prog w1=.ok () w2/\w2.ownsMap Tryz.prog 151 Ad mb (n+1) (D.put (kl k) (.held v))/\w1.mapTurned w2 mb:=by
  intro D h1
  have hlt:=h1.lt
  have h1':w1.ownsMap Tryz.prog 151 Ad mb n D:=by
   obtain⟨es,clock,hb,hr⟩:=h1
   exact⟨es,clock,(hK.block mb hlt (h.ne hk)).trans hb,hr⟩
  exact h1'.store (d:=.held v) (ps:=[]) dN Tryz.underlying65 (by unfold maxLen;omega) (dZ hk) rfl
 obtain⟨D,h1,_⟩:=h.map
 obtain⟨w2,hrun,_,ht⟩:=hstep D h1
 obtain⟨hkk,hsz⟩:=gL ht
 refine⟨w2,hrun,h.put_of hk (hK.mono fun b _ e=>Or.inr e) hl ho hloc hkk (fun D' h'=> ?_),hkk,hsz⟩
 obtain⟨w3,hrun3,hown,_⟩:=hstep D' h'
 rw[hrun]at hrun3
 injection hrun3 with _ e
 rw[e]
 exact hown
theorem GM.entry (h:GM base mb n N f sl w) {k:Int×Int} (hk:I2 k) (hn:n<1000000):∃(st:Nat) (w1:World),(Instr.mapEntry 65 (.map (some mb)) (pk k)).run Tryz.prog w=.ok (.tuple #[sl k,goInt st]) w1/\Kee (fun b=>b=mb) w w1/\w1.heap.size=w.heap.size/\
    ∀(w2:World) (v:Value) (l:List (Tm N)),w2.heap[mb]? =w1.heap[mb]? ->Kee (fun b=>b=mb∨(sl k).ownBlock=some b) w w2->l≠[]->TRow base N v l w2->(∀b,v.ownBlock=some b->(sl k).ownBlock=some b∨w.heap.size<=b)->
     ∃w3,(Instr.entryStore 65 (.map (some mb)) (goInt st) v).run Tryz.prog w2=.ok () w3/\GM base mb (n+1) N (upd f k l) (upd sl k v) w3/\Kee (fun b=>b=mb) w2 w3/\w3.heap.size=w2.heap.size:=by
 obtain⟨D,h1,h2,_⟩:=h.map
 obtain⟨es,clock,hb,F,hs,hD⟩:=h1
 have h1:w.ownsMap Tryz.prog 151 Ad mb n D:=⟨es,clock,hb,F,hs,hD⟩
 obtain⟨v0,st,es1,c1,hrun,hv0,hst⟩:=WideElems.entry_then_store (e:=28) zw.law Tryz.underlying65 pX hb F (dZ hk)
 have e0:v0=sl k:=by
  have hlook:=h.look hk
  obtain⟨v1,ps,hrun1,hv1⟩:=h1.lookup dN Tryz.underlying65 (pX w) (zd:=.held kL) (zp:=[]) rfl (dZ hk)
  rw[hlook]at hrun1
  rcases Maps.fit_look false dN Tryz.underlying65 (pX w) hb F (dZ hk)with⟨hr,hno,_⟩|⟨e1,y,hm1,hk1,hr,_⟩
  ·rw[hlook]at hr
   injection hr with hr _
   rcases hv0 with⟨e2,hm2,hk2,_⟩|⟨_,rfl⟩
   ·exact absurd hk2 (hno e2 hm2)
   ·exact hr.symm
  ·rw[hlook]at hr
   injection hr with hr _
   rcases hv0 with⟨e2,hm2,hk2,rfl⟩|⟨hno,_⟩
   ·have:=entry_eq_of_key ((MapKept.stamped_iff es clock).1 F.stamped).2.2 hm1 hm2 (hk1.trans hk2.symm)
    simp at hr
    rw[hr,this]
   ·exact absurd hk1 (hno e1 hm1)
 subst e0
 have ht:w.mapTurned (ChangeMaps.setBlock w mb (.map es1 c1)) mb:=⟨es,clock,es1,c1,hb,rfl⟩
 obtain⟨hk1,hz1⟩:=gL ht
 refine⟨st,_,hrun,hk1,hz1,fun w2 v l hw2 hK hl ho hloc=> ?_⟩
 have hb2:w2.heap[mb]? =some (.map es1 c1):=hw2.trans (ChangeMaps.heap_setBlock_same hb _)
 obtain⟨es',c',hr1,hr2⟩:=hst w2 v hb2
 have ht2:w2.mapTurned (ChangeMaps.setBlock w2 mb (.map es' c')) mb:=⟨es1,c1,es',c',hb2,rfl⟩
 obtain⟨hk2,hz2⟩:=gL ht2
 refine⟨_,hr1,h.put_of hk hK hl ho hloc hk2 (fun D' h'=> ?_),hk2,hz2⟩
 obtain⟨w3,hrun3,hown,_⟩:=h'.store (d:=.held v) (ps:=[]) dN Tryz.underlying65 (by unfold maxLen;omega) (dZ hk) rfl
 rw[hr2]at hrun3
 injection hrun3 with _ e
 rw[<-e]at hown
 obtain⟨es3,c3,hb3,hr3⟩:=hown
 rw[ChangeMaps.heap_setBlock_same hb]at hb3
 exact⟨es3,c3,(ChangeMaps.heap_setBlock_same hb2 _).trans hb3,hr3⟩
theorem GM.drop (h:GM base mb n N f sl w) {k:Int×Int} (hk:I2 k) (ty:TypeId):
    ∃w2,(Builtin.delete_ #[65,151] ty #[.map (some mb),pk k]).run Tryz.prog w=.ok (.tuple #[]) w2/\GM base mb n N (upd f k []) (upd sl k kL) w2/\Kee (fun b=>b=mb) w w2/\w2.heap.size=w.heap.size:=by
 obtain⟨D,h1,h2,h3⟩:=h.map
 obtain⟨w2,hrun,hown,ht⟩:=h1.drop dN Tryz.underlying65 (dZ hk) ty
 obtain⟨hkk,hsz⟩:=gL ht
 refine⟨w2,hrun,⟨h.lo,⟨_,hown,fun j hj=> ?_,fun x=> ?_⟩,fun j hj=> ?_,fun i j hi hj hij b=> ?_⟩,hkk,hsz⟩
 ·by_cases e:j=k
  ·subst e
   rw[upd_same,atKey_del_same]
  ·rw[aS _ _ e,atKey_del_other fun e'=>e (ol hj hk e')]
   exact h2 j hj
 ·constructor
  ·intro hx
   by_cases e:x=kl k
   ·rw[e,has_del_same]at hx
    cases hx
   ·rw[has_del_other e]at hx
    obtain⟨j,hj,ej,hf⟩:=(h3 x).1 hx
    refine⟨j,hj,ej, ?_⟩
    rw[aS _ _ fun e'=>e (by rw[ej,e'])]
    exact hf
  ·rintro ⟨j,hj,rfl,hf⟩
   by_cases e:j=k
   ·rw[e,upd_same]at hf
    exact absurd rfl hf
   ·rw[has_del_other fun e'=>e (ol hj hk e')]
    rw[aS _ _ e]at hf
    exact(h3 _).2 ⟨j,hj,rfl,hf⟩
 ·by_cases e:j=k
  ·subst e
   rw[upd_same,upd_same]
   exact⟨by simp[bS,bJ],Or.inl ⟨rfl,rfl⟩⟩
  ·rw[aS _ _ e,aS _ _ e]
   exact aG (h.row j hj) hkk fun b hb e'=>h.ne hj (by rw[hb,e'])
 ·by_cases e1:i=k
  ·subst e1
   rw[upd_same]
   intro hb
   simp[kL,Value.ownBlock]at hb
  ·rw[aS _ _ e1]
   by_cases e2:j=k
   ·subst e2
    rw[upd_same]
    intro _ hb
    simp[kL,Value.ownBlock]at hb
   ·rw[aS _ _ e2]
    exact h.apart i j hi hj hij b
theorem xq {P:Program} (w:World) (t ty e:TypeId) (i:TypeInfo) (ht:P.underlying t=some (.slice e)) (hi:P.info? e=some i)
    (g sLen sCap:Nat) (cur:Array Value) (hg:w.heap[g]? =some (.cells cur e (0,0)))
    (a:Addr) (m c:Nat) (news:List Value) (hl:news.length=m*i.size) (hnews:∀j u,news[j]? =some u->w.cell? (a.add j)=some u) (h1:∀u∈news,u.oneCell'=true)
    (hroom:sLen+m<=sCap) (hfit:sLen*i.size+news.length<=cur.size):
    (Builtin.append_ #[t,t] ty #[.slice (some ⟨g,0,none⟩) sLen sCap,.slice (some a) m c]).run P w=
     .ok (.slice (some ⟨g,0,none⟩) (sLen+m) sCap) (w.setRow g (cur.toList.take (sLen*i.size)++news++cur.toList.drop (sLen*i.size+news.length)).toArray):=by
 have hf:=run_firstCells_some (P:=P) w i.size m a m c news hl hnews
 have hst:=run_storeCells_at P g (sLen*i.size) e news 0 cur w hg (by simpa using hfit) h1
 simp only[Nat.add_zero]at hst
 simp[Builtin.append_,run_underlying ht,sizeOf,typeInfo,hi,Builtin.lenOf,hroom,hf,Addr.add_lit,hst]
theorem I5:(Tryz.prog.info? 30).map (fun i=>(i.zero,i.size,i.bytes))=some (some (.agg #[.int .i64 0,.int .i64 0,.string ⟨#[]⟩,.slice none 0 0]),4,56):=by kernel_rfl
def nV:List Value:=[.int .i64 0,.int .i64 0,.string ⟨#[]⟩,.slice none 0 0]
theorem xw (w:World) (ty:TypeId) (g o c:Nat) (cur:Array Value) (hg:w.heap[g]? =some (.cells cur 30 (0,0))) (hfit:o+4<=cur.size):
    (Builtin.clear_ #[28] ty #[.slice (some ⟨g,o,none⟩) 1 c]).run Tryz.prog w=.ok (.tuple #[]) (w.setRow g (cur.toList.take o++nV++cur.toList.drop (o+4)).toArray):=by
 have hst:=run_storeCells_at Tryz.prog g o 30 nV 0 cur w hg (by simpa [nV]using hfit) (by simp[nV,Value.oneCell'])
 have hz:(Builtin.zeroCells (Value.agg #[.int .i64 0,.int .i64 0,.string ⟨#[]⟩,.slice none 0 0]).cells 1).toList=nV:=by
  simp[Builtin.zeroCells,Value.cells,nV]
  rfl
 simp only[Nat.add_zero]at hst
 have hl:nV.length=4:=rfl
 rw[hl]at hst
 simp[Builtin.clear_,run_underlying Tryz.underlying28,hz,hst]
theorem KY (w:World) (g L c:Nat) (h:L<=c) (h1:1<=L):(Instr.slice 28 (.slice (some ⟨g,0,none⟩) L c) (some (.int .i64 0)) (some (.int .i64 1)) (some (.int .i64 L))).run Tryz.prog w=.ok (.slice (some ⟨g,0,none⟩) 1 L) w:=by
 have e2:(1:Int)<=(L:Int):=by omega
 simp[Instr.slice,run_underlying Tryz.underlying28,Instr.sliceBounds,Instr.sliceBound,asIntOf,e2,h,go_sem]
theorem Ey (w:World) (g L c:Nat):(Instr.slice 28 (.slice (some ⟨g,0,none⟩) L c) none (some (.int .i64 0)) none).run Tryz.prog w=.ok (.slice (some ⟨g,0,none⟩) 0 c) w:=by
 simp[Instr.slice,run_underlying Tryz.underlying28,Instr.sliceBounds,Instr.sliceBound,asIntOf,go_sem]
theorem Dr (w:World) (g L c:Nat) (h:L<=c) (h1:2<=L):(Instr.slice 28 (.slice (some ⟨g,0,none⟩) L c) (some (.int .i64 1)) none none).run Tryz.prog w=.ok (.slice (some ⟨g,4,none⟩) (L-1) (c-1)) w:=by
 have e2:(1:Int)<=(L:Int):=by omega
 have e3:¬c=1:=by omega
 simp[Instr.slice,run_underlying Tryz.underlying28,Instr.sliceBounds,Instr.sliceBound,asIntOf,e2,e3,go_sem,Addr.add_lit]
theorem DJ (w:World) (g m c:Nat) (h:m+1<=c):(Instr.slice 28 (.slice (some ⟨g,0,none⟩) m c) (some (.int .i64 m)) (some (.int .i64 ((m:Int)+1))) none).run Tryz.prog w=.ok (.slice (some ⟨g,m*4,none⟩) 1 (c-m)) w:=by
 have e2:¬c=m:=by omega
 have e3:(m:Int)+1<=(c:Int):=by omega
 have e4:(0:Int)<=(m:Int)+1:=by omega
 simp[Instr.slice,run_underlying Tryz.underlying28,Instr.sliceBounds,Instr.sliceBound,asIntOf,e2,e3,e4,go_sem,Addr.add_lit]
theorem tK {w w':World} {v x' v':Value} {ops:Array Oper} {o:Oper} {a:Act} {K:Act->World->Prop} {Q:Exit->Act->World->Prop} {E:Prop} (hgd:o.guard=none) (s x:Operand) (ho:o.op=.call {callee:=.builtin .append,args:= #[s,x],argTypes:= #[28,28]})
    (hs:a.eval s=v) (hx:a.eval x=x') (hr:(Builtin.append_ #[28,28] o.type #[v,x']).run Tryz.prog w=.ok v' w') (hK:K (a.put o.dst v') w'):if Region.wanted o (yielded ops a.tmps)=true then Oper.wp Tryz.prog o a w K Q else E:=by
 have hw:Region.wanted o (yielded ops a.tmps)=true:=by simp[Region.wanted,hgd]
 rw[if_pos hw]
 unfold Oper.wp execOp
 simp only[ho,resolve,invoke,builtin,Sem.run_bind,Sem.run_pure,Result.andThen_ok,List.map_toArray,List.map_cons,List.map_nil,hs,hx,hr]
 exact hK
theorem ae {w:World} {g:Nat} {cur:Array Value} {e:TypeId} (h:w.heap[g]? =some (.cells cur e (0,0))) (j:Nat):w.cell? ⟨g,j,none⟩=cur.toList[j]? :=by
 simp[World.cell?,h]
theorem DU {N:Nat} (base g c m:Nat) (y:Tm N) (l:List (Tm N)) (w:World) (hm:l.length=m) (h:TRow base N (.slice (some ⟨g,0,none⟩) (m+1) c) (y::l) w) (h0:l≠[]):
    Calls Tryz.prog 63 #[.slice (some ⟨g,0,none⟩) ((m:Nat)+1) c,.int .i64 0,.int .i64 1] w fun e w'=>e=.returned (.slice (some ⟨g,0,none⟩) m c)/\TRow base N (.slice (some ⟨g,0,none⟩) m c) l w'/\w.grownBy w' (some g)/\w'.heap.size=w.heap.size:=by
 obtain⟨it,hit,htz0,htz1,htz2⟩:=info_parts I5
 have hm0:0<m:=by
  rw[<-hm]
  exact List.length_pos_iff.2 h0
 obtain⟨h1,h2⟩:=h
 rcases h2 with⟨e,_⟩|⟨g',cap,cur,e,hg,hh,hc,hcm,hz,ht⟩
 ·cases e
 ·injection e with e1 e2 e3
  injection e1 with e1
  injection e1 with e1 _
  subst e1 e3
  simp only[List.length_cons,hm]at h1 hc ht e2
  have hcl:cur.toList.length=c*4:=by rw[Array.length_toList,hz]
  have htl:cur.toList.take ((m+1)*4)=bS N [y]++bS N l:=by
   rw[ht,<-nZ]
   rfl
  have ly:(bS N [y]).length=4:=by rw[nW];rfl
  have ll:(bS N l).length=m*4:=by rw[nW,hm]
  have HN:Hid (∀W:World,W.heap[g]? =some (.cells cur 30 (0,0))->∀j u,(bS N l)[j]? =some u->W.cell? ((⟨g,4,none⟩:Addr).add j)=some u):=by
   intro W hW j u hj
   have hjl:=(List.getElem?_eq_some_iff.1 hj).1
   rw[Addr.add_lit,ae hW]
   have e:(cur.toList.take ((m+1)*4))[4+j]? =some u:=by
    rw[htl,List.getElem?_append_right (by omega),ly,Nat.add_sub_cancel_left]
    exact hj
   rw[List.getElem?_take]at e
   split at e
   ·exact e
   ·cases e
  have HA:Hid (∀(W:World) (ty:TypeId),W.heap[g]? =some (.cells cur 30 (0,0))->(Builtin.append_ #[28,28] ty #[.slice (some ⟨g,0,none⟩) 0 c,.slice (some ⟨g,4,none⟩) m (c-1)]).run Tryz.prog W=
   .ok (.slice (some ⟨g,0,none⟩) m c) (W.setRow g (bS N l++cur.toList.drop (m*4)).toArray)):=by
   intro W ty hW
   have hr:=xq (P:=Tryz.prog) W 28 ty 30 it Tryz.underlying28 hit g 0 c cur hW ⟨g,4,none⟩ m (c-1) (bS N l) (by rw[ll,htz1]) (HN.out W hW) (sJ _) (by omega) (by rw[ll,hz];omega)
   simpa [ll]using hr
  have HC:Hid (∀(W:World) (ty:TypeId),W.heap[g]? =some (.cells (bS N l++cur.toList.drop (m*4)).toArray 30 (0,0))->(Builtin.clear_ #[28] ty #[.slice (some ⟨g,m*4,none⟩) 1 (c-m)]).run Tryz.prog W=
   .ok (.tuple #[]) (W.setRow g (bS N l++nV++cur.toList.drop ((m+1)*4)).toArray)):=by
   intro W ty hW
   have hr:=xw W ty g (m*4) (c-m) _ hW (by simp only[List.size_toArray,List.length_append,List.length_drop,ll,hcl];omega)
   rw[hr]
   refine congrArg (fun x=>Result.ok (Value.tuple #[]) (W.setRow g (List.toArray x))) ?_
   rw[List.toList_toArray,List.take_append_of_le_length (by omega),List.take_of_length_le (by omega),List.drop_append,List.drop_of_length_le (by omega),ll,List.drop_drop,List.nil_append]
   rw[show m*4+(m*4+4-m*4)=(m+1)*4 by omega]
  have hA:=HA.out w.drew 28 hh
  have HB:Hid ((w.drew.setRow g (bS N l++cur.toList.drop (m*4)).toArray).heap[g]? =some (.cells (bS N l++cur.toList.drop (m*4)).toArray 30 (0,0))):=setRow_heap w.drew g cur _ _ _ hh
  have hC:=fun ty:TypeId=>HC.out _ ty HB.out
  have s1:=fun W:World=>KY W g (m+1) c (by omega) (by omega)
  have s2:=fun W:World=>Ey W g (m+1) c
  have s3:=fun W:World=>Dr W g (m+1) c (by omega) (by omega)
  have s4:=fun W:World=>DJ W g m c (by omega)
  rw[Nat.add_sub_cancel]at s3
  go_enter Tryz.func63,Tryz.ntmps63
  go_wp2_with fail
  go_region_held3 (fun _=>True) (trivial) ((first|(refine tK rfl _ _ rfl (by simp[Act.eval]) (by simp[Act.eval]) hA ?_)))
  go_wp2_with fail
  go_ret
  have hb:∀b,b≠g->((w.drew.setRow g (bS N l++cur.toList.drop (m*4)).toArray).setRow g (bS N l++(nV++cur.toList.drop ((m+1)*4))).toArray).heap[b]? =w.heap[b]? :=fun b hb=>(setRow_other _ _ _ _ hb).trans (setRow_other _ _ _ _ hb)
  refine⟨rfl,⟨by rw[ll,hm],Or.inr ⟨g,c,_,by rw[hm],hg,setRow_heap _ _ _ _ _ _ HB.out,by omega,hcm, ?_, ?_⟩⟩,⟨rfl,rfl,rfl,by simp,fun b _ hne=>hb b fun e=>hne (by rw[e])⟩,by simp⟩
  ·have hz4:nV.length=4:=rfl
   simp only[List.size_toArray,List.length_append,List.length_drop,ll,hcl,hz4]
   omega
  ·rw[List.toList_toArray,List.take_append_of_le_length (by omega),List.take_of_length_le (by omega)]
abbrev Ac (n:Nat):Type:=Int×(Tm n×Tm n)×(ByteArray×Int)
abbrev Cl (n:Nat):Type:=(Tm n×Tm n×Tm n)×(Option Addr×Nat)×List (Ac n)
abbrev Bh (n:Nat):Type:=ByteArray×(Option Addr×Nat)×List (Cl n)
def fP (n:Nat) (x:Tm n):List Value:=yn (gZ n x)
def eG (n:Nat) (a:Ac n):List Value:=.int .i64 a.1::(fP n a.2.1.1++fP n a.2.1.2++ [.string a.2.2.1,.int .i64 a.2.2.2])
def dJ (n:Nat) (c:Cl n):List Value:=fP n c.1.1++fP n c.1.2.1++(.slice c.2.1.1 c.2.2.length c.2.1.2::fP n c.1.2.2)
def nK (n:Nat) (b:Bh n):List Value:=[.string b.1,.slice b.2.1.1 b.2.2.length b.2.1.2]
def Lay {α:Type} (B:Nat) (w:World) (k:Nat) (f:α->List Value) (I:α->Prop) (a:Option Addr) (l:List α):Prop:=
 l=[]∨∃b o,a=some ⟨b,o,none⟩/\b<B/\∀(i:Nat) (y:α),l[i]? =some y->(∀(j:Nat) (u:Value),(f y)[j]? =some u->w.cell? ⟨b,o+i*k+j,none⟩=some u)/\I y
def AcIn (n:Nat) (B:Nat) (w:World) (a:Ac n):Prop:=bR a.1/\In B w n a.2.1.1/\In B w n a.2.1.2/\a.2.2.1.size<=maxLen/\bR a.2.2.2
def fM (n:Nat) (B:Nat) (w:World) (c:Cl n):Prop:=(In B w n c.1.1/\In B w n c.1.2.1/\In B w n c.1.2.2)/\(c.2.2.length<=c.2.1.2/\c.2.1.2<=maxLen)/\Lay B w 11 (eG n) (AcIn n B w) c.2.1.1 c.2.2
def nQ (n:Nat) (B:Nat) (w:World) (b:Bh n):Prop:=b.1.size<=maxLen/\(b.2.2.length<=b.2.1.2/\b.2.1.2<=maxLen)/\Lay B w 13 (dJ n) (fM n B w) b.2.1.1 b.2.2
def tF {α:Type} (O:α->Prop) (P:Nat->Prop) (a:Option Addr) (l:List α):Prop:=l=[]∨∃b o,a=some ⟨b,o,none⟩/\P b/\∀y∈l,O y
def kG (n:Nat) (P:Nat->Prop) (a:Ac n):Prop:=Off P n a.2.1.1/\Off P n a.2.1.2
def iV (n:Nat) (P:Nat->Prop) (c:Cl n):Prop:=(Off P n c.1.1/\Off P n c.1.2.1/\Off P n c.1.2.2)/\tF (kG n P) P c.2.1.1 c.2.2
def iU (n:Nat) (P:Nat->Prop) (b:Bh n):Prop:=tF (iV n P) P b.2.1.1 b.2.2
def Stays {α:Type} (I:Nat->World->α->Prop) (O:(Nat->Prop)->α->Prop):Prop:=
 (∀(P Q:Nat->Prop) (x:α),(∀b,P b->Q b)->O P x->O Q x)/\(∀(P:Nat->Prop) (B:Nat) (w:World) (x:α),O P x->I B w x->O (fun b=>P b/\b<B) x)/\
 (∀(P:Nat->Prop) (B:Nat) (w w':World) (x:α),(∀b,P b->w'.heap[b]? =w.heap[b]?)->O P x->I B w x->I B w' x)/\(∀(B C:Nat) (w:World) (x:α),B<=C->I B w x->I C w x)/\
 (∀(B:Nat) (w:World) (x:α),I B w x->O (fun b=>b<B) x)
theorem nH {B:Nat} {w:World}:{n:Nat}->{x:Tm n}->In B w n x->Off (fun b=>b<B) n x
 | 0,_,k=>k
 | _+1,_,k=>by
  obtain⟨_,k1⟩:=k
  rcases k1 with k1|⟨b,o,e,hb,k1⟩
  ·exact Or.inl k1
  ·exact Or.inr ⟨b,o,e,hb,fun i y hy=>nH (k1 i y hy).2⟩
theorem dm (n:Nat):Stays (fun B w x=>In B w n x) (fun P x=>Off P n x):=
 ⟨fun _ _ _ h k=>k.mono h,fun _ _ _ _ h k=>In.offB h k,fun _ _ _ _ _ h p k=>In.off h p k,fun _ _ _ _ h k=>k.mono h,fun _ _ _ k=>nH k⟩
theorem dW (n:Nat):Stays (AcIn n) (kG n):=by
 obtain⟨t1,t2,t3,t4,t5⟩:=dm n
 exact⟨fun P Q x h k=>⟨t1 P Q _ h k.1,t1 P Q _ h k.2⟩,fun P B w x h k=>⟨t2 P B w _ h.1 k.2.1,t2 P B w _ h.2 k.2.2.1⟩,
  fun P B w w' x h p k=>⟨k.1,t3 P B w w' _ h p.1 k.2.1,t3 P B w w' _ h p.2 k.2.2.1,k.2.2.2⟩,fun B C w x h k=>⟨k.1,t4 B C w _ h k.2.1,t4 B C w _ h k.2.2.1,k.2.2.2⟩,
  fun B w x k=>⟨t5 B w _ k.2.1,t5 B w _ k.2.2.1⟩⟩
theorem bi {α:Type} {I:Nat->World->α->Prop} {O:(Nat->Prop)->α->Prop} (h:Stays I O) (k:Nat) (f:α->List Value) (a:Option Addr):
    Stays (fun B w l=>Lay B w k f (I B w) a l) (fun P l=>tF (O P) P a l):=by
 obtain⟨t1,t2,t3,t4,t5⟩:=h
 refine⟨fun P Q x h k=> ?_,fun P B w x h k=> ?_,fun P B w w' x h p k=> ?_,fun B C w x h k=> ?_,fun B w x k=> ?_⟩
 ·rcases k with k|⟨b,o,e,hb,k⟩
  ·exact Or.inl k
  ·exact Or.inr ⟨b,o,e,h b hb,fun y hy=>t1 P Q y h (k y hy)⟩
 ·rcases k with k|⟨b,o,e,hb,k⟩
  ·exact Or.inl k
  ·rcases h with h|⟨b',o',e',hb',h⟩
   ·exact Or.inl h
   ·rw[e]at e'
    simp at e'
    obtain⟨rfl,rfl⟩:=e'
    refine Or.inr ⟨b,o,e,⟨hb',hb⟩,fun y hy=> ?_⟩
    obtain⟨i,hi⟩:=List.getElem?_of_mem hy
    exact t2 P B w y (h y hy) (k i y hi).2
 ·rcases k with k|⟨b,o,e,hb,k⟩
  ·exact Or.inl k
  ·rcases p with p|⟨b',o',e',hb',p⟩
   ·exact Or.inl p
   ·rw[e]at e'
    simp at e'
    obtain⟨rfl,rfl⟩:=e'
    exact Or.inr ⟨b,o,e,hb,fun i y hy=>⟨fun j u hj=>(aK (h b hb') _).trans ((k i y hy).1 j u hj),t3 P B w w' y h (p y (List.mem_of_getElem? hy)) (k i y hy).2⟩⟩
 ·rcases k with k|⟨b,o,e,hb,k⟩
  ·exact Or.inl k
  ·exact Or.inr ⟨b,o,e,by omega,fun i y hy=>⟨(k i y hy).1,t4 B C w y h (k i y hy).2⟩⟩
 ·rcases k with k|⟨b,o,e,hb,k⟩
  ·exact Or.inl k
  ·refine Or.inr ⟨b,o,e,hb,fun y hy=> ?_⟩
   obtain⟨i,hi⟩:=List.getElem?_of_mem hy
   exact t5 B w y (k i y hi).2
theorem dA (n:Nat):Stays (fM n) (iV n):=by
 obtain⟨t1,t2,t3,t4,t5⟩:=dm n
 have L:=fun a=>bi (dW n) 11 (eG n) a
 exact⟨fun P Q x h k=>⟨⟨t1 P Q _ h k.1.1,t1 P Q _ h k.1.2.1,t1 P Q _ h k.1.2.2⟩,(L _).1 P Q _ h k.2⟩,
  fun P B w x h k=>⟨⟨t2 P B w _ h.1.1 k.1.1,t2 P B w _ h.1.2.1 k.1.2.1,t2 P B w _ h.1.2.2 k.1.2.2⟩,(L _).2.1 P B w _ h.2 k.2.2⟩,
  fun P B w w' x h p k=>⟨⟨t3 P B w w' _ h p.1.1 k.1.1,t3 P B w w' _ h p.1.2.1 k.1.2.1,t3 P B w w' _ h p.1.2.2 k.1.2.2⟩,k.2.1,(L _).2.2.1 P B w w' _ h p.2 k.2.2⟩,
  fun B C w x h k=>⟨⟨t4 B C w _ h k.1.1,t4 B C w _ h k.1.2.1,t4 B C w _ h k.1.2.2⟩,k.2.1,(L _).2.2.2.1 B C w _ h k.2.2⟩,
  fun B w x k=>⟨⟨t5 B w _ k.1.1,t5 B w _ k.1.2.1,t5 B w _ k.1.2.2⟩,(L _).2.2.2.2 B w _ k.2.2⟩⟩
theorem dw (n:Nat):Stays (nQ n) (iU n):=by
 have L:=fun a=>bi (dA n) 13 (dJ n) a
 exact⟨fun P Q x h k=>(L _).1 P Q _ h k,fun P B w x h k=>(L _).2.1 P B w _ h k.2.2,fun P B w w' x h p k=>⟨k.1,k.2.1,(L _).2.2.1 P B w w' _ h p k.2.2⟩,
  fun B C w x h k=>⟨k.1,k.2.1,(L _).2.2.2.1 B C w _ h k.2.2⟩,fun B w x k=>(L _).2.2.2.2 B w _ k.2.2⟩
def PgIn (n:Nat) (B:Nat) (w:World) (a:Option Addr) (l:List (Bh n)):Prop:=Lay B w 2 (nK n) (nQ n B w) a l
theorem Stays.below {α:Type} {I:Nat->World->α->Prop} {O:(Nat->Prop)->α->Prop} (h:Stays I O) {B:Nat} {w w':World} (hb:Below B w w') {x:α} (k:I B w x):I B w' x:=
 h.2.2.1 (fun b=>b<B) B w w' x (fun b hb'=>hb.block b hb') (h.2.2.2.2 B w x k) k
theorem Stays.mono {α:Type} {I:Nat->World->α->Prop} {O:(Nat->Prop)->α->Prop} (h:Stays I O) {B C:Nat} (hb:B<=C) {w:World} {x:α} (k:I B w x):I C w x:=h.2.2.2.1 B C w x hb k
theorem PgIn.below {n B:Nat} {w w':World} {a:Option Addr} {l:List (Bh n)} (hb:Below B w w') (k:PgIn n B w a l):PgIn n B w' a l:=(bi (dw n) 2 (nK n) a).below hb k
theorem PgIn.mono {n B C:Nat} (h:B<=C) {w:World} {a:Option Addr} {l:List (Bh n)} (k:PgIn n B w a l):PgIn n C w a l:=(bi (dw n) 2 (nK n) a).mono h k
def Grow {α:Type} (I:Nat->World->α->Prop) (O:(Nat->Prop)->α->Prop) (f:α->List Value) (k:Nat) (T:TypeId) (B base:Nat) (xs:List α) (v:Value) (w0 wr:World):Prop:=
 Below base w0 wr/\wr.ownsRow base T k v xs.length (xs.flatMap f)/\∀y∈xs,I wr.heap.size wr y/\O (fun b=>(b<B∨base<=b)/\v.ownBlock≠some b) y
theorem Grow.nil {α:Type} {I:Nat->World->α->Prop} {O:(Nat->Prop)->α->Prop} {f:α->List Value} {k:Nat} {T:TypeId} {B base:Nat} (w:World):Grow I O f k T B base [] (.slice none 0 0) w w:=
 ⟨Below.refl _ _,World.ownsRow_nil _ _ _ _,fun y hy=>by cases hy⟩
theorem Grow.later {α:Type} {I:Nat->World->α->Prop} {O:(Nat->Prop)->α->Prop} (hS:Stays I O) {f:α->List Value} {k:Nat} {T:TypeId} {B base:Nat} {xs:List α} {v:Value} {w0 wr w1:World} (h:Grow I O f k T B base xs v w0 wr) (hb:base<=wr.heap.size) (h1:Below wr.heap.size wr w1):Grow I O f k T B base xs v w0 w1:=by
 obtain⟨k1,k2,k3⟩:=h
 exact⟨k1.trans (h1.mono hb),own_below k2 h1,fun y hy=>⟨hS.mono h1.size (hS.below h1 (k3 y hy).1),(k3 y hy).2⟩⟩
theorem Grow.step {α:Type} {I:Nat->World->α->Prop} {O:(Nat->Prop)->α->Prop} (hS:Stays I O) {f:α->List Value} {k:Nat} {T:TypeId} {B base:Nat} {xs:List α} {v:Value} {w0 wr w1 w2:World} (h:Grow I O f k T B base xs v w0 wr) (hB:B<=base) (hb:base<=wr.heap.size) (h1:Below wr.heap.size wr w1)
    (X:α) (hX:I w1.heap.size w1 X) (hO:O (fun b=>b<B∨wr.heap.size<=b) X) {g c:Nat}
    (hown:w2.ownsRow base T k (.slice (some ⟨g,0,none⟩) (xs.length+1) c) (xs.length+1) (xs.flatMap f++f X)) (hg:w1.grownBy w2 v.ownBlock) (hat:v.ownBlock=some g∨g=w1.heap.size):
    Grow I O f k T B base (xs++ [X]) (.slice (some ⟨g,0,none⟩) (xs.length+1) c) w0 w2:=by
 obtain⟨k1,k2,k3⟩:=h
 have hvown:∀b,v.ownBlock=some b->base<=b/\b<wr.heap.size:=fun b e=>k2.lt b e
 have hold:∀b,b<w1.heap.size->v.ownBlock≠some b->w2.heap[b]? =w1.heap[b]? :=fun b hb hne=>hg.block b hb (fun e=>hne e.symm)
 have h1s:=h1.size
 have hgs:=hg.size
 refine⟨⟨(hg.os.trans h1.os).trans k1.os,(hg.tape.trans h1.tape).trans k1.tape,(hg.output.trans h1.output).trans k1.output,by have:=k1.size;omega,fun b hb'=> ?_⟩, ?_, ?_⟩
 ·exact(hold b (by omega) (fun e=>by have:=(hvown b e).1;omega)).trans ((h1.block b (by omega)).trans (k1.block b hb'))
 ·have e1:(xs++ [X]).length=xs.length+1:=by simp
  have e2:(xs++ [X]).flatMap f=xs.flatMap f++f X:=by simp
  rw[e1,e2]
  exact hown
 ·intro y hy
  rcases List.mem_append.1 hy with hy|hy
  ·obtain⟨j1,j2⟩:=k3 y hy
   have j3:=hS.2.1 _ _ _ _ j2 j1
   refine⟨hS.mono hgs (hS.2.2.1 _ _ w1 w2 y (fun b hb'=>hold b ?_ hb'.1.2) j3 (hS.mono h1s (hS.below h1 j1))),hS.1 _ _ y (fun b hb'=>⟨hb'.1.1, ?_⟩) j3⟩
   ·have:=hb'.2
    omega
   ·simp only[Value.ownBlock]
    intro e
    injection e with e
    rcases hat with e2|e2
    ·exact hb'.1.2 (by rw[e2,e])
    ·have:=hb'.2
     omega
  ·simp only[List.mem_singleton]at hy
   subst hy
   have j3:=hS.2.1 _ _ _ _ hO hX
   refine⟨hS.mono hgs (hS.2.2.1 _ _ w1 w2 y (fun b hb'=>hold b hb'.2 (fun e=> ?_)) j3 hX),hS.1 _ _ y (fun b hb'=>⟨?_, ?_⟩) j3⟩
   ·have:=hvown b e
    have:=hb'.1
    omega
   ·have:=hb'.1
    omega
   ·simp only[Value.ownBlock]
    intro e
    injection e with e
    rcases hat with e2|e2
    ·have:=hvown g e2
     have:=hb'.1
     omega
    ·have:=hb'.2
     omega
theorem Grow.lit {α:Type} {I:Nat->World->α->Prop} {O:(Nat->Prop)->α->Prop} (hS:Stays I O) {f:α->List Value} {k:Nat} {T:TypeId} {B base:Nat} (xs:List α) {w0 w1:World} {cs:Array Value} (hcs:cs.toList=xs.flatMap f) (hk:∀x,(f x).length=k) (hm:xs.length<=maxLen) (hb:base<=w1.heap.size) (h1:Below base w0 w1)
    (hX:∀y∈xs,I w1.heap.size w1 y/\O (fun b=>b<B∨base<=b) y):
    Grow I O f k T B base xs (.slice (some ⟨w1.heap.size,0,none⟩) xs.length xs.length) w0 (w1.alloc (.cells cs T)):=by
 have hal:Below w1.heap.size w1 (w1.alloc (.cells cs T)):=(Below.refl _ _).alloc (Nat.le_refl _) _
 have hl:(xs.flatMap f).length=xs.length*k:=by
  clear hcs hX hm
  induction xs with
  | nil=>simp
  | cons x xs ih=>rw[List.flatMap_cons,List.length_append,ih,hk,List.length_cons,Nat.succ_mul];omega
 have hcz:cs.size=xs.length*k:=by rw[<-hl,<-hcs];simp
 refine⟨h1.trans (hal.mono hb),⟨by rw[hl],Or.inr ⟨w1.heap.size,xs.length,cs,rfl,hb,heap_alloc_new w1 _,Nat.le_refl _,hm,by omega, ?_⟩⟩,fun y hy=>⟨hS.mono hal.size (hS.below hal (hX y hy).1), ?_⟩⟩
 ·rw[hcs,List.take_of_length_le (by omega)]
 ·refine hS.1 _ _ y (fun b hb'=>⟨hb'.1, ?_⟩) (hS.2.1 _ _ _ _ (hX y hy).2 (hX y hy).1)
  simp only[Value.ownBlock]
  intro e
  injection e with e
  have:=hb'.2
  omega
theorem Grow.lay {α:Type} {I:Nat->World->α->Prop} {O:(Nat->Prop)->α->Prop} (hS:Stays I O) {f:α->List Value} {k:Nat} {T:TypeId} {B base:Nat} {xs:List α} {v:Value} {w0 wr:World} (hk:∀x,(f x).length=k) (h:Grow I O f k T B base xs v w0 wr):
    ∃a c,v=.slice a xs.length c/\(xs.length<=c/\c<=maxLen)/\Lay wr.heap.size wr k f (I wr.heap.size wr) a xs/\tF (O (fun b=>b<B∨base<=b)) (fun b=>b<B∨base<=b) a xs:=by
 obtain⟨k1,k2,k3⟩:=h
 rcases k2.2 with⟨e,h0⟩|⟨g,cap,cur,e,hgb,hh,hc,hm,hz,he⟩
 ·have hx0:xs=[]:=List.eq_nil_of_length_eq_zero (by omega)
  subst hx0
  exact⟨none,0,e,⟨Nat.le_refl _,Nat.zero_le _⟩,Or.inl rfl,Or.inl rfl⟩
 ·refine⟨some ⟨g,0,none⟩,cap,e,⟨hc,hm⟩,Or.inr ⟨g,0,rfl,(Array.getElem?_eq_some_iff.1 hh).1,fun i y hy=>⟨fun j u hj=> ?_,(k3 y (List.mem_of_getElem? hy)).1⟩⟩,Or.inr ⟨g,0,rfl,Or.inr hgb,fun y hy=>hS.1 _ _ y (fun b hb=>hb.1) (k3 y hy).2⟩⟩
  have hat:∀(l:List α) (i j:Nat) (y:α) (u:Value),l[i]? =some y->(f y)[j]? =some u->(l.flatMap f)[i*k+j]? =some u:=by
   intro l
   induction l with
   | nil=>intro i j y u h;simp at h
   | cons x l ih=>
    intro i j y u h hj
    rw[List.flatMap_cons]
    cases i with
    | zero=>
     simp at h
     subst h
     rw[List.getElem?_append_left (by have:=(List.getElem?_eq_some_iff.1 hj).1;omega)]
     simpa using hj
    | succ i=>
     rw[List.getElem?_append_right (by rw[hk,Nat.succ_mul];omega),hk,Nat.succ_mul,show i*k+k+j-k=i*k+j by omega]
     exact ih i j y u (by simpa using h) hj
  have h1:=hat xs i j y u hy hj
  have hlt:=(List.getElem?_eq_some_iff.1 h1).1
  rw[<-he]at h1
  rw[List.getElem?_take]at h1
  split at h1
  ·rw[Nat.zero_add]
   simp only[World.cell?,hh]
   rw[Array.getElem?_toList]at h1
   simpa using h1
  ·cases h1
def KD (o1:Option (List An)) (f:List An->Option (List An)) (w:World) (e:Ending) (w':World):Prop:=
 ∃a len c r,e=.returned (.tuple #[.slice a len c,.bool r])/\Hid (Below w.heap.size w w'/\(o1=none->r=false)/\∀b,o1=some b->∃l1:List (Tm (top b)),ah (fun x y=>same (top b) x (top b) y) l1 (Ba b)=true/\(f (lT (top b) l1)=none->r=false)/\
  ∀b2,f (lT (top b) l1)=some b2->r=true/\len=4/\b2.length=4/\∃w1 l,w.heap.size<=w1.heap.size/\CpRow (top b2) (Ba b2) w1 w' a c l)
theorem EA (p0 p1 q0 q1 r0 r1 s0 s1 t0 t1:Int) (p2 q2 r2 s2 t2:ByteArray) (pa qa ra sa ta ca:Option Addr) (pl pc ql qc rl rc sl sc tl tc cl cc:Nat) (o1:Option (List An)) (f:List An->Option (List An)) (w:World)
    (H1:Hid (∀W1 W,Below w.heap.size w W1->CpRow 1 (List.replicate 4 dn) W1 W (some ⟨W1.heap.size,0,none⟩) 4 (List.replicate 4 dn)->Calls Tryz.prog 100 #[.agg #[.int .i64 p0,.int .i64 p1,.string p2,.slice pa pl pc],.agg #[.int .i64 s0,.int .i64 s1,.string s2,.slice sa sl sc],.slice (some ⟨W1.heap.size,0,none⟩) 4 4] W (Ag 0 o1 W)))
    (H2:Hid (∀(b:List An) (l:List (Tm (top b))) (a:Option Addr) (c:Nat) (W1 W:World),Below w.heap.size w W->o1=some b->b.length=4->CpRow (top b) (Ba b) W1 W a c l->Calls Tryz.prog 100 #[.agg #[.int .i64 q0,.int .i64 q1,.string q2,.slice qa ql qc],.agg #[.int .i64 t0,.int .i64 t1,.string t2,.slice ta tl tc],.slice a 4 c] W (Ag 0 (f (lT (top b) l)) W))):
    Calls Tryz.prog 81 #[.agg #[.int .i64 p0,.int .i64 p1,.string p2,.slice pa pl pc,.int .i64 q0,.int .i64 q1,.string q2,.slice qa ql qc,.slice ca cl cc,.int .i64 r0,.int .i64 r1,.string r2,.slice ra rl rc],.agg #[.int .i64 s0,.int .i64 s1,.string s2,.slice sa sl sc],.agg #[.int .i64 t0,.int .i64 t1,.string t2,.slice ta tl tc]] w (KD o1 f w):=by
 go_enter Tryz.func81,Tryz.ntmps81
 go_wp2_with fail
 have HW:Hid (∃w0 g0 g1 g2,(w0=((w.alloc (.cells #[.int .i64 p0,.int .i64 p1,.string p2,.slice pa pl pc,.int .i64 q0,.int .i64 q1,.string q2,.slice qa ql qc,.slice ca cl cc,.int .i64 r0,.int .i64 r1,.string r2,.slice ra rl rc] 77)).alloc (.cells #[.int .i64 s0,.int .i64 s1,.string s2,.slice sa sl sc] 30)).alloc (.cells #[.int .i64 t0,.int .i64 t1,.string t2,.slice ta tl tc] 30)/\g0=w.heap.size/\g1=w.heap.size+1/\g2=w.heap.size+2)/\Below w.heap.size w w0/\∀W,Below w0.heap.size w0 W->(W.cell? ⟨g0,0,none⟩=some (.int .i64 p0)/\W.cell? ⟨g0,1,none⟩=some (.int .i64 p1)/\W.cell? ⟨g0,2,none⟩=some (.string p2)/\W.cell? ⟨g0,3,none⟩=some (.slice pa pl pc))/\(W.cell? ⟨g0,4,none⟩=some (.int .i64 q0)/\W.cell? ⟨g0,5,none⟩=some (.int .i64 q1)/\W.cell? ⟨g0,6,none⟩=some (.string q2)/\W.cell? ⟨g0,7,none⟩=some (.slice qa ql qc))/\(W.cell? ⟨g1,0,none⟩=some (.int .i64 s0)/\W.cell? ⟨g1,1,none⟩=some (.int .i64 s1)/\W.cell? ⟨g1,2,none⟩=some (.string s2)/\W.cell? ⟨g1,3,none⟩=some (.slice sa sl sc))/\(W.cell? ⟨g2,0,none⟩=some (.int .i64 t0)/\W.cell? ⟨g2,1,none⟩=some (.int .i64 t1)/\W.cell? ⟨g2,2,none⟩=some (.string t2)/\W.cell? ⟨g2,3,none⟩=some (.slice ta tl tc))):=by
  have hs1:(w.alloc (.cells #[.int .i64 p0,.int .i64 p1,.string p2,.slice pa pl pc,.int .i64 q0,.int .i64 q1,.string q2,.slice qa ql qc,.slice ca cl cc,.int .i64 r0,.int .i64 r1,.string r2,.slice ra rl rc] 77)).heap.size=w.heap.size+1:=by simp
  have hs2:((w.alloc (.cells #[.int .i64 p0,.int .i64 p1,.string p2,.slice pa pl pc,.int .i64 q0,.int .i64 q1,.string q2,.slice qa ql qc,.slice ca cl cc,.int .i64 r0,.int .i64 r1,.string r2,.slice ra rl rc] 77)).alloc (.cells #[.int .i64 s0,.int .i64 s1,.string s2,.slice sa sl sc] 30)).heap.size=w.heap.size+2:=by simp
  refine⟨_,_,_,_,⟨rfl,rfl,rfl,rfl⟩,(((Below.refl _ _).alloc (Nat.le_refl _) _).alloc (by simp) _).alloc (by simp;omega) _,fun W hW=> ?_⟩
  have e0:=(hW.block w.heap.size (by simp;omega)).trans ((((Below.refl _ _).alloc (Nat.le_refl _) _).block w.heap.size (by simp;omega)).trans ((((Below.refl _ _).alloc (Nat.le_refl _) _).block w.heap.size (by simp)).trans (heap_alloc_new w (.cells #[.int .i64 p0,.int .i64 p1,.string p2,.slice pa pl pc,.int .i64 q0,.int .i64 q1,.string q2,.slice qa ql qc,.slice ca cl cc,.int .i64 r0,.int .i64 r1,.string r2,.slice ra rl rc] 77))))
  have n1:=heap_alloc_new (w.alloc (.cells #[.int .i64 p0,.int .i64 p1,.string p2,.slice pa pl pc,.int .i64 q0,.int .i64 q1,.string q2,.slice qa ql qc,.slice ca cl cc,.int .i64 r0,.int .i64 r1,.string r2,.slice ra rl rc] 77)) (.cells #[.int .i64 s0,.int .i64 s1,.string s2,.slice sa sl sc] 30)
  rw[hs1]at n1
  have e1:=(hW.block (w.heap.size+1) (by simp)).trans ((((Below.refl _ _).alloc (Nat.le_refl _) _).block (w.heap.size+1) (by simp)).trans n1)
  have n2:=heap_alloc_new ((w.alloc (.cells #[.int .i64 p0,.int .i64 p1,.string p2,.slice pa pl pc,.int .i64 q0,.int .i64 q1,.string q2,.slice qa ql qc,.slice ca cl cc,.int .i64 r0,.int .i64 r1,.string r2,.slice ra rl rc] 77)).alloc (.cells #[.int .i64 s0,.int .i64 s1,.string s2,.slice sa sl sc] 30)) (.cells #[.int .i64 t0,.int .i64 t1,.string t2,.slice ta tl tc] 30)
  rw[hs2]at n2
  have e2:=(hW.block (w.heap.size+2) (by simp)).trans n2
  exact⟨⟨ae e0 0,ae e0 1,ae e0 2,ae e0 3⟩,⟨ae e0 4,ae e0 5,ae e0 6,ae e0 7⟩,⟨ae e1 0,ae e1 1,ae e1 2,ae e1 3⟩,ae e2 0,ae e2 1,ae e2 2,ae e2 3⟩
 obtain⟨w0,g0,g1,g2,⟨hw0,hg0,hg1,hg2⟩,HB0,HC⟩:=HW.out
 rw[<-hw0,<-hg2,<-hg1,<-hg0]
 replace HB0:=hide HB0
 replace HC:=hide HC
 clear hw0 hg0 hg1 hg2 HW
 obtain⟨⟨x0,x1,x2,x3⟩,_,⟨y0,y1,y2,y3⟩,_⟩:=HC.out w0 (Below.refl _ _)
 have HD0:Hid (Below w0.heap.size w0 w0.drew):=(Below.refl _ _).drew
 have HKS:Hid (∀W,Below w0.heap.size w0 W->(W.cell? ⟨g0,0,none⟩=some (.int .i64 p0)/\W.cell? ⟨g0,1,none⟩=some (.int .i64 p1)/\W.cell? ⟨g0,2,none⟩=some (.string p2)/\W.cell? ⟨g0,3,none⟩=some (.slice pa pl pc))/\(W.cell? ⟨g1,0,none⟩=some (.int .i64 s0)/\W.cell? ⟨g1,1,none⟩=some (.int .i64 s1)/\W.cell? ⟨g1,2,none⟩=some (.string s2)/\W.cell? ⟨g1,3,none⟩=some (.slice sa sl sc))):=fun W hW=>⟨(HC.out W hW).1,(HC.out W hW).2.2.1⟩
 go_region_held3 (fun W=>(W.cell? ⟨g0,0,none⟩=some (.int .i64 p0)/\W.cell? ⟨g0,1,none⟩=some (.int .i64 p1)/\W.cell? ⟨g0,2,none⟩=some (.string p2)/\W.cell? ⟨g0,3,none⟩=some (.slice pa pl pc))/\(W.cell? ⟨g1,0,none⟩=some (.int .i64 s0)/\W.cell? ⟨g1,1,none⟩=some (.int .i64 s1)/\W.cell? ⟨g1,2,none⟩=some (.string s2)/\W.cell? ⟨g1,3,none⟩=some (.slice sa sl sc)))
  (first|(go_keep;done)|exact HKS.out _ HD0.out|exact HKS.out _ HB2.out|exact HKS.out _ HB1.out) ((first
   | (go_at_call 101;refine(BI _).mono ?_;rintro e w1 ⟨rfl,HN⟩;have HB1:=hide (HD0.out.trans (HN.out.1.mono HD0.out.size)))
   | (go_at_call 100;refine(H1.out _ _ (HB0.out.trans (HD0.out.mono HB0.out.size)) HN.out).mono ?_;rintro e w2 ⟨a2,len2,c2,r2',rfl,HF⟩;have HB2:=hide (HB1.out.trans (HF.out.1.mono HB1.out.size)))))
 have HBF:=hide (HB0.out.trans (HB2.out.mono HB0.out.size))
 clear x0 x1 x2 x3 y0 y1 y2 y3 HKS HN HB1 HD0 H1
 cases o1 with
 | none=>
  obtain⟨rfl,rfl⟩:len2=0/\r2'=false:=HF.out.2.1 (by simp)
  clear HF
  go_wp2_with fail
  go_ret2
  exact⟨none,0,0,false,rfl,HBF.out,fun _=>rfl,fun b hb=>by cases hb⟩
 | some b=>
  obtain⟨hr,hl,h4,w1',l1,hw1,hcp⟩:=HF.out.2.2 b trivial rfl
  subst hr hl
  have HT:=hide (H2.out b l1 a2 c2 w1' w2 HBF.out rfl h4 hcp)
  have HCP:=hide hcp.2.2.2.2.1
  obtain⟨_,⟨x0,x1,x2,x3⟩,_,y0,y1,y2,y3⟩:=HC.out w2 HB2.out
  clear hcp HF h4 hw1
  go_wp2_with fail
  refine HT.out.mono ?_
  rintro e w3 ⟨a3,len3,c3,r3,rfl,HF3⟩
  go_wp2_with fail
  go_ret2
  refine⟨a3,len3,c3,r3,rfl,HBF.out.trans (HF3.out.1.mono HBF.out.size),(fun h=>by cases h),fun b' hb'=> ?_⟩
  cases hb'
  refine⟨l1,HCP.out,fun hn=>(HF3.out.2.1 (by simp[hn])).2,fun b2 hb2=> ?_⟩
  obtain⟨k1,k2,k3,wz,lz,kz,kc⟩:=HF3.out.2.2 b2 trivial hb2
  exact⟨k1,k2,k3,wz,lz,Nat.le_trans HBF.out.size kz,kc⟩
theorem MP {n:Nat} {p l:List (Tm n)} {w w':World} {a:Option Addr} {c:Nat} (h:CpRow n p w w' a c l):Lies w'.heap.size w' n l a:=by
 obtain⟨_,_,_,_,_,h6⟩:=h
 rcases h6 with e|⟨b,o,e,_,h2,h3⟩
 ·exact Or.inl e
 ·exact Or.inr ⟨b,o,e,h2,fun i y hy=>⟨(h3 i y hy).1,(h3 i y hy).2.1⟩⟩
theorem qp {y:An} (h:Ju y):ai y:=ax.2 (aN.1 h.1).1
theorem any_ok:∀y∈lT 1 (List.replicate 4 dn),Ju y:=by
 intro y hy
 simp only[lT,List.mem_map,List.mem_replicate]at hy
 obtain⟨x,⟨_,rfl⟩,rfl⟩:=hy
 exact⟨Au,Or.inl rfl⟩
theorem dS {n:Nat} {x:Tm n} (h:aQ n x=0):(nodes n x).length<=2097152:=Nat.le_trans (mg h) (by omega)
theorem GV (n m k:Nat) (c:Cl (n+1)) (s:Tm (m+1)) (t:Tm (k+1)) (B:Nat) (w:World) (hc:fM (n+1) B w c) (hs:In B w (m+1) s) (ht:In B w (k+1) t) (hB:B<=w.heap.size)
    (h1:aQ (n+1) c.1.1=0) (h2:aQ (n+1) c.1.2.1=0) (h3:aQ (m+1) s=0) (h4:ja (m+1) s=true) (h5:aQ (k+1) t=0) (h6:ja (k+1) t=true):
    Calls Tryz.prog 81 #[.agg (dJ (n+1) c).toArray,val (m+1) s,val (k+1) t] w (KD (fit (n+1) c.1.1 (m+1) s (lT 1 (List.replicate 4 dn))) (fit (n+1) c.1.2.1 (k+1) t) w):=by
 refine EA c.1.1.1.1 c.1.1.1.2.1 c.1.2.1.1.1 c.1.2.1.1.2.1 c.1.2.2.1.1 c.1.2.2.1.2.1 s.1.1 s.1.2.1 t.1.1 t.1.2.1 c.1.1.1.2.2 c.1.2.1.1.2.2 c.1.2.2.1.2.2 s.1.2.2 t.1.2.2 c.1.1.2.1.1 c.1.2.1.2.1.1 c.1.2.2.2.1.1 s.2.1.1 t.2.1.1 c.2.1.1
  c.1.1.2.2.length c.1.1.2.1.2 c.1.2.1.2.2.length c.1.2.1.2.1.2 c.1.2.2.2.2.length c.1.2.2.2.1.2 s.2.2.length s.2.1.2 t.2.2.length t.2.1.2 c.2.2.length c.2.1.2 _ _ w ?_ ?_
 ·intro W1 W hW1 hcp
  have hb:=hW1.trans (hcp.1.mono hW1.size)
  have h:=xN (n+1) (m+1) 1 c.1.1 s (List.replicate 4 dn) (some ⟨W1.heap.size,0,none⟩) 4 W.heap.size W ((hc.1.1.below (hb.mono hB)).mono (Nat.le_trans hB hb.size)) ((hs.below (hb.mono hB)).mono (Nat.le_trans hB hb.size)) (MP hcp) (Nat.le_refl _) (dS h1) (dS h3) (fun y hy=>by
   rw[(List.mem_replicate.1 hy).2]
   exact dS Au) (by simp)
  have e:tY (aQ (n+1) c.1.1) (aQ (m+1) s) (ja (m+1) s) (eX 1 (List.replicate 4 dn))=0:=by
   rw[h1,h3,h4,JY]
   rfl
  rw[e]at h
  exact h
 ·intro b l a c' W1 W hW ho h4' hcp
  have hok:=mE Ju uW (n+1) c.1.1 (m+1) s ⟨h3,Or.inr (by rw[dQ];exact h4)⟩ (lT 1 (List.replicate 4 dn)) b ⟨by simp[lT],any_ok⟩ ho
  obtain⟨hl,hl4,htell,hr⟩:=FL hcp (fun y hy=>qp (hok.2 y hy)) h4'
  have hbnd:=xS hok.2 hl4 hok.1 htell
  have h:=xN (n+1) (k+1) (top b) c.1.2.1 t l a c' W.heap.size W ((hc.1.2.1.below (hW.mono hB)).mono (Nat.le_trans hB hW.size)) ((ht.below (hW.mono hB)).mono (Nat.le_trans hB hW.size)) hl (Nat.le_refl _) (dS h2) (dS h5) (fun y hy=>dS ((fT hbnd).2 y hy).1) (by omega)
  have e:tY (aQ (n+1) c.1.2.1) (aQ (k+1) t) (ja (k+1) t) (eX (top b) l)=0:=by
   rw[h2,h5,h6,hbnd]
   rfl
  rw[e,hl4]at h
  exact h
end Go.Proofs.YtmbjgiaebneodaaGreat
