/- What is proved here: how what the document's step does lies in memory, and what each act leaves of it. No condition but that all lies in memory. -/
import Derived.Test.YtbknffhilfoakaaGreatG30
namespace Go.Proofs.YtbknffhilfoakaaGreat
open Go.RowKit
def fU (y:Tc) (f:Int) (sv pv lv:Value):Array Value:= #[.int .i64 y.1.1,.int .i64 y.1.2.1,.string y.1.2.2,.slice y.2.1.1 y.2.2.length y.2.1.2,.int .i64 f,sv,pv,lv]
theorem dH {w:World} {base:Nat} {e:TypeId} {sz:Nat} {v:Value} {n:Nat} {xs:List Value} (h:w.ownsRow base e sz v n xs) {q:Nat} {cs:Array Value} {t:TypeId} {fr:Nat×Nat} (hq:w.heap[q]? =some (.cells cs t fr)) (hne:e≠t):v.ownBlock≠some q:=fun hb=>by
 rcases h.2 with⟨rfl,_⟩|⟨g,c,cur,rfl,_,hg,_⟩
 ·simp[Value.ownBlock]at hb
 ·simp only[Value.ownBlock,Option.some.injEq]at hb
  subst hb
  rw[hg]at hq
  injection hq with hq
  injection hq with _ hq _
  exact hne hq
theorem Cy {w:World} {q:Nat} {T:TypeId} (h:∃c,w.heap[q]? =some (.cells c T (0,0))) (o:Nat) (v:Value):∃c,(w.setCell ⟨q,o,none⟩ v).heap[q]? =some (.cells c T (0,0)):=by
 obtain⟨c,h⟩:=h
 refine⟨c.setIfInBounds o v, ?_⟩
 simp[World.setCell,Array.getElem?_modify,h]
theorem JI {w:World} {q:Nat} {T:TypeId} (h:∃c,w.heap[q]? =some (.cells c T (0,0))) (o:Nat) (v0 v1 v2 v3:Value):∃c,(bG w q o v0 v1 v2 v3).heap[q]? =some (.cells c T (0,0)):=Cy (Cy (Cy (Cy h _ _) _ _) _ _) _ _
structure DaAt (Zq Pq:Nat->Prop) (base ob:Nat) (y:Tc) (n D k:Nat) (nx:Int) (d:Dg) (w:World) (l:List (Tm (D+1))) (bg:Nat) (sd:List (Int×Tm (D+1+n+1))) (sp:List (Int×ByteArray×Tm (D+1+n+1))) (sv pv lv:Value):Prop where
 box:w.heap[ob]? =some (.cells (fU y (if d.stops then 1 else 0) sv pv lv) 43)
 own:base<=ob/\base<=bg/\base<=w.heap.size
 bnd:dz (D+1) l=true
 tells:l.map (cn (D+1))=d.b
 row:∀(i:Nat) (x:Tm (D+1)),l[i]? =some x->Held w bg (i*4) (D+1) x/\In base w (D+1) x/\Off Pq (D+1) x
 bgT:∃cur,w.heap[bg]? =some (.cells cur 25 (0,0))
 sRow:w.ownsRow base 111 5 sv sd.length (sd.flatMap fun z=>Cj z.1 z.2)
 pRow:w.ownsRow base 116 6 pv sp.length (sp.flatMap fun z=>BZ z.1 z.2.1 z.2.2)
 lRow:w.ownsRow base 3 1 lv d.links.length (d.links.map fun u=> .int .i64 u)
 sIs:sd.map (fun z=>(z.1,cn _ z.2))=d.sends
 pIs:sp.map (fun z=>(z.1,z.2.1,cn _ z.2.2))=d.spawns
 sIn:∀z∈sd,aP _ z.2=0/\In w.heap.size w _ z.2/\Off (fun q=>¬dh ob bg sv pv lv q/\Zq q) _ z.2
 pIn:∀z∈sp,aP _ z.2.2=0/\In w.heap.size w _ z.2.2/\Off (fun q=>¬dh ob bg sv pv lv q/\Zq q) _ z.2.2
 few:sd.length<=k/\sp.length<=k/\d.links.length<=k/\d.next=nx+sp.length
section
variable {Zq Pq:Nat->Prop} {base ob:Nat} {y:Tc} {n D k:Nat} {nx:Int} {d:Dg} {w:World} {l:List (Tm (D+1))} {bg:Nat} {sd:List (Int×Tm (D+1+n+1))} {sp:List (Int×ByteArray×Tm (D+1+n+1))} {sv pv lv:Value}
theorem DaAt.lt (h:DaAt Zq Pq base ob y n D k nx d w l bg sd sp sv pv lv):ob<w.heap.size/\bg<w.heap.size:=⟨(Array.getElem?_eq_some_iff.1 h.box).1,by obtain⟨c,hc⟩:=h.bgT;exact(Array.getElem?_eq_some_iff.1 hc).1⟩
theorem DaAt.apart (h:DaAt Zq Pq base ob y n D k nx d w l bg sd sp sv pv lv):ob≠bg/\(sv.ownBlock≠some ob/\pv.ownBlock≠some ob/\lv.ownBlock≠some ob)/\(sv.ownBlock≠some bg/\pv.ownBlock≠some bg/\lv.ownBlock≠some bg):=by
 obtain⟨c,hc⟩:=h.bgT
 refine⟨fun e=> ?_,⟨dH h.sRow h.box (by decide),dH h.pRow h.box (by decide),dH h.lRow h.box (by decide)⟩,dH h.sRow hc (by decide),dH h.pRow hc (by decide),dH h.lRow hc (by decide)⟩
 subst e
 rw[h.box]at hc
 injection hc with hc
 injection hc with _ hc _
 exact absurd hc (by decide)
theorem oL {w:World} {base base':Nat} {e e':TypeId} {sz sz':Nat} {v v':Value} {n n':Nat} {xs xs':List Value} (h:w.ownsRow base e sz v n xs) (h':w.ownsRow base' e' sz' v' n' xs') (hne:e≠e') (b:Nat) (hb:v.ownBlock=some b):v'.ownBlock≠some b:=fun hb'=>by
 obtain⟨c,hc⟩:=dA h b hb
 exact dH h' hc (fun e=>hne e.symm) hb'
theorem DaAt.high (h:DaAt Zq Pq base ob y n D k nx d w l bg sd sp sv pv lv):∀q,dh ob bg sv pv lv q->base<=q/\q<w.heap.size:=by
 intro q hq
 obtain⟨h1,h2,_⟩:=h.own
 rcases hq with rfl|rfl|hq|hq|hq
 ·exact⟨h1,h.lt.1⟩
 ·exact⟨h2,h.lt.2⟩
 ·exact h.sRow.lt q hq
 ·exact h.pRow.lt q hq
 ·exact h.lRow.lt q hq
theorem DaAt.turn (h:DaAt Zq Pq base ob y n D k nx d w l bg sd sp sv pv lv) {w':World} {sv' pv' lv':Value} (hk:Kee (dh ob bg sv pv lv) w w') (hW:∀q,dh ob bg sv' pv' lv' q->dh ob bg sv pv lv q∨w.heap.size<=q):
    (∀z∈sd,aP _ z.2=0/\In w'.heap.size w' _ z.2/\Off (fun q=>¬dh ob bg sv' pv' lv' q/\Zq q) _ z.2)/\(∀z∈sp,aP _ z.2.2=0/\In w'.heap.size w' _ z.2.2/\Off (fun q=>¬dh ob bg sv' pv' lv' q/\Zq q) _ z.2.2)/\∀(m:Nat) (x:Tm m),In base w m x->In base w' m x:=by
 have hD:∀b,(¬dh ob bg sv pv lv b/\Zq b)->b<w.heap.size->¬dh ob bg sv' pv' lv' b/\Zq b:=fun b q hl=>⟨fun e=>by
  rcases hW b e with e|e
  ·exact q.1 e
  ·omega,q.2⟩
 have ht:∀{m:Nat} {x:Tm m},In w.heap.size w m x/\Off (fun q=>¬dh ob bg sv pv lv q/\Zq q) m x->In w'.heap.size w' m x/\Off (fun q=>¬dh ob bg sv' pv' lv' q/\Zq q) m x:=fun q=>dn hk.size (fun b q hl=>hk.block b hl q.1) hD q
 have hbl:Below base w w':=hk.below h.own.2.2 fun b hb e=>by have:=(h.high b e).1;omega
 exact⟨fun z hz=>⟨(h.sIn z hz).1,ht (h.sIn z hz).2⟩,fun z hz=>⟨(h.pIn z hz).1,ht (h.pIn z hz).2⟩,fun m x hx=>hx.below hbl⟩
theorem DaAt.later (h:DaAt Zq Pq base ob y n D k nx d w l bg sd sp sv pv lv) {w':World} (hb:Below w.heap.size w w'):DaAt Zq Pq base ob y n D k nx d w' l bg sd sp sv pv lv:=by
 have hk:=aG hb (fun _=>False)
 obtain⟨t1,t2,t3⟩:=h.turn (sv':=sv) (pv':=pv) (lv':=lv) (aG hb _) fun q e=>Or.inl e
 obtain⟨c,hc⟩:=h.bgT
 obtain⟨o1,o2,o3⟩:=h.own
 exact⟨bC hb h.box,⟨o1,o2,Nat.le_trans o3 hb.size⟩,h.bnd,h.tells,fun i x hx=>⟨(h.row i x hx).1.below hb h.lt.2,t3 _ _ (h.row i x hx).2.1,(h.row i x hx).2.2⟩,⟨c,bC hb hc⟩,aL h.sRow hk fun _ _ q=>q,aL h.pRow hk fun _ _ q=>q,aL h.lRow hk fun _ _ q=>q,h.sIs,h.pIs,t1,t2,h.few⟩
theorem DaAt.lies (h:DaAt Zq Pq base ob y n D k nx d w l bg sd sp sv pv lv):LiesT Pq base w (D+1) l (some ⟨bg,0,none⟩):=Or.inr ⟨bg,0,rfl,h.lt.2,fun i x hx=>by
 rw[Nat.zero_add]
 exact h.row i x hx⟩
theorem lW {w:World} {q b o:Nat} {v:Value} (h:b≠q):(w.setCell ⟨q,o,none⟩ v).heap[b]? =w.heap[b]? :=by
 have:q≠b:=fun e=>h e.symm
 simp[World.setCell,Array.getElem?_modify,this]
theorem Aj {w:World} {q o:Nat} {v:Value}:(w.setCell ⟨q,o,none⟩ v).heap.size=w.heap.size:=by simp[World.setCell]
theorem ig {w:World} {base:Nat} {e:TypeId} {sz:Nat} {v:Value} {n:Nat} {xs:List Value} (h:w.ownsRow base e sz v n xs) {q o:Nat} {u:Value} (hq:v.ownBlock≠some q):(w.setCell ⟨q,o,none⟩ u).ownsRow base e sz v n xs:=aL h (aW w q o u) fun b hb e=>hq (by rw[hb,e])
theorem DaAt.send (h:DaAt Zq Pq base ob y n D k nx d w l bg sd sp sv pv lv) {w3:World} {sv':Value} {u:Int} {z:Tm (D+1+n+1)} (hk:Kee (fun q=>sv.ownBlock=some q) w w3) (hr:w3.ownsRow base 111 5 sv' (sd.length+1) ((sd.flatMap fun z=>Cj z.1 z.2)++Cj u z)) (hs:∀q,sv'.ownBlock=some q->sv.ownBlock=some q∨w.heap.size<=q)
    (hz:aP _ z=0/\In w3.heap.size w3 _ z/\Off (fun q=>¬dh ob bg sv' pv lv q/\Zq q) _ z):DaAt Zq Pq base ob y n D (k+1) nx {d with sends:=d.sends++ [(u,cn _ z)]} (w3.setCell ⟨ob,5,none⟩ sv') l bg (sd++ [(u,z)]) sp sv' pv lv:=by
 obtain⟨a1,⟨a2,a3,a4⟩,a5,a6,a7⟩:=h.apart
 have hk':Kee (dh ob bg sv pv lv) w (w3.setCell ⟨ob,5,none⟩ sv'):=Kee.trans (hk.mono fun q _ hq=>Or.inr (Or.inr (Or.inl hq))) (aW _ _ _ _) fun q _ hq=>Or.inl hq
 have hW:∀q,dh ob bg sv' pv lv q->dh ob bg sv pv lv q∨w.heap.size<=q:=fun q hq=>by
  rcases hq with hq|hq|hq|hq
  ·exact Or.inl (Or.inl hq)
  ·exact Or.inl (Or.inr (Or.inl hq))
  ·exact(hs q hq).imp (fun e=>Or.inr (Or.inr (Or.inl e))) id
  ·exact Or.inl (Or.inr (Or.inr (Or.inr hq)))
 obtain⟨t1,t2,t3⟩:=h.turn hk' hW
 obtain⟨c,hc⟩:=h.bgT
 obtain⟨o1,o2,o3⟩:=h.own
 have hb3:w3.heap[bg]? =w.heap[bg]? :=hk.block bg h.lt.2 a5
 have ho3:w3.heap[ob]? =w.heap[ob]? :=hk.block ob h.lt.1 a2
 have hne:sv'.ownBlock≠some ob:=dH hr (ho3.trans h.box) (by decide)
 have hbg:(w3.setCell ⟨ob,5,none⟩ sv').heap[bg]? =w.heap[bg]? :=(lW fun e=>a1 e.symm).trans hb3
 have hz':=dn (w:=w3) (w':=w3.setCell ⟨ob,5,none⟩ sv') (D':=fun q=>¬dh ob bg sv' pv lv q/\Zq q) (by rw[Aj];exact Nat.le_refl _) (fun b q hl=>lW fun e=>q.1 (Or.inl e)) (fun b q _=>q) hz.2
 refine⟨?_,⟨o1,o2,Nat.le_trans o3 hk'.size⟩,h.bnd,h.tells,fun i x hx=>⟨eG hbg (h.row i x hx).1,t3 _ _ (h.row i x hx).2.1,(h.row i x hx).2.2⟩,⟨c,hbg.trans hc⟩, ?_,ig (aL h.pRow hk fun q hq e=>oL h.sRow h.pRow (by decide) q e hq) a3,ig (aL h.lRow hk fun q hq e=>oL h.sRow h.lRow (by decide) q e hq) a4,by simp[h.sIs],h.pIs,fun x hx=> ?_,t2, ?_⟩
 ·have h1:=ho3.trans h.box
  simp[World.setCell,Array.getElem?_modify,h1,fU]
 ·have:=ig (q:=ob) (o:=5) (u:=sv') hr hne
  simpa using this
 ·rcases List.mem_append.1 hx with hx|hx
  ·exact t1 x hx
  ·rw[List.mem_singleton.1 hx]
   exact⟨hz.1,hz'⟩
 ·obtain⟨f1,f2,f3,f4⟩:=h.few
  exact⟨by simp;omega,by omega,by show d.links.length<=k+1;omega,f4⟩
theorem DaAt.link (h:DaAt Zq Pq base ob y n D k nx d w l bg sd sp sv pv lv) {w3:World} {lv':Value} {u:Int} (hk:Kee (fun q=>lv.ownBlock=some q) w w3) (hr:w3.ownsRow base 3 1 lv' (d.links.length+1) ((d.links.map fun u=> .int .i64 u)++ [.int .i64 u])) (hs:∀q,lv'.ownBlock=some q->lv.ownBlock=some q∨w.heap.size<=q):
    DaAt Zq Pq base ob y n D (k+1) nx {d with links:=d.links++ [u]} (w3.setCell ⟨ob,7,none⟩ lv') l bg sd sp sv pv lv':=by
 obtain⟨a1,⟨a2,a3,a4⟩,a5,a6,a7⟩:=h.apart
 have hk':Kee (dh ob bg sv pv lv) w (w3.setCell ⟨ob,7,none⟩ lv'):=Kee.trans (hk.mono fun q _ hq=>Or.inr (Or.inr (Or.inr (Or.inr hq)))) (aW _ _ _ _) fun q _ hq=>Or.inl hq
 have hW:∀q,dh ob bg sv pv lv' q->dh ob bg sv pv lv q∨w.heap.size<=q:=fun q hq=>by
  rcases hq with hq|hq|hq|hq|hq
  ·exact Or.inl (Or.inl hq)
  ·exact Or.inl (Or.inr (Or.inl hq))
  ·exact Or.inl (Or.inr (Or.inr (Or.inl hq)))
  ·exact Or.inl (Or.inr (Or.inr (Or.inr (Or.inl hq))))
  ·exact(hs q hq).imp (fun e=>Or.inr (Or.inr (Or.inr (Or.inr e)))) id
 obtain⟨t1,t2,t3⟩:=h.turn hk' hW
 obtain⟨c,hc⟩:=h.bgT
 obtain⟨o1,o2,o3⟩:=h.own
 have hb3:w3.heap[bg]? =w.heap[bg]? :=hk.block bg h.lt.2 a7
 have ho3:w3.heap[ob]? =w.heap[ob]? :=hk.block ob h.lt.1 a4
 have hne:lv'.ownBlock≠some ob:=dH hr (ho3.trans h.box) (by decide)
 have hbg:(w3.setCell ⟨ob,7,none⟩ lv').heap[bg]? =w.heap[bg]? :=(lW fun e=>a1 e.symm).trans hb3
 refine⟨?_,⟨o1,o2,Nat.le_trans o3 hk'.size⟩,h.bnd,h.tells,fun i x hx=>⟨eG hbg (h.row i x hx).1,t3 _ _ (h.row i x hx).2.1,(h.row i x hx).2.2⟩,⟨c,hbg.trans hc⟩,ig (aL h.sRow hk fun q hq e=>oL h.lRow h.sRow (by decide) q e hq) a2,ig (aL h.pRow hk fun q hq e=>oL h.lRow h.pRow (by decide) q e hq) a3, ?_,h.sIs,h.pIs,t1,t2, ?_⟩
 ·have h1:=ho3.trans h.box
  simp[World.setCell,Array.getElem?_modify,h1,fU]
 ·have:=ig (q:=ob) (o:=7) (u:=lv') hr hne
  simpa using this
 ·obtain⟨f1,f2,f3,f4⟩:=h.few
  exact⟨by omega,by omega,by simp;omega,f4⟩
theorem DaAt.stop (h:DaAt Zq Pq base ob y n D k nx d w l bg sd sp sv pv lv):DaAt Zq Pq base ob y n D (k+1) nx {d with stops:=true} (w.setCell ⟨ob,4,none⟩ (.int .i64 1)) l bg sd sp sv pv lv:=by
 obtain⟨a1,⟨a2,a3,a4⟩,a5,a6,a7⟩:=h.apart
 obtain⟨t1,t2,t3⟩:=h.turn (sv':=sv) (pv':=pv) (lv':=lv) ((aW w ob 4 (.int .i64 1)).mono fun q _ e=>Or.inl e) fun q e=>Or.inl e
 obtain⟨c,hc⟩:=h.bgT
 obtain⟨o1,o2,o3⟩:=h.own
 have hbg:(w.setCell ⟨ob,4,none⟩ (.int .i64 1)).heap[bg]? =w.heap[bg]? :=lW fun e=>a1 e.symm
 refine⟨?_,⟨o1,o2,by rw[Aj];exact o3⟩,h.bnd,h.tells,fun i x hx=>⟨eG hbg (h.row i x hx).1,t3 _ _ (h.row i x hx).2.1,(h.row i x hx).2.2⟩,⟨c,hbg.trans hc⟩,ig h.sRow a2,ig h.pRow a3,ig h.lRow a4,h.sIs,h.pIs,t1,t2, ?_⟩
 ·have h1:=h.box
  simp[World.setCell,Array.getElem?_modify,h1,fU]
 ·obtain⟨f1,f2,f3,f4⟩:=h.few
  exact⟨by omega,by omega,by show d.links.length<=k+1;omega,f4⟩
theorem DaAt.spawn (h:DaAt Zq Pq base ob y n D k nx d w l bg sd sp sv pv lv) {w3:World} {pv':Value} {nm:ByteArray} {z:Tm (D+1+n+1)} {v:Nat} (hv:v<4) (hnx:1<=d.next/\d.next<=99) (hk:Kee (fun q=>pv.ownBlock=some q) w w3) (hr:w3.ownsRow base 116 6 pv' (sp.length+1) ((sp.flatMap fun z=>BZ z.1 z.2.1 z.2.2)++BZ d.next nm z)) (hs:∀q,pv'.ownBlock=some q->pv.ownBlock=some q∨w.heap.size<=q)
    (hz:aP _ z=0/\In w3.heap.size w3 _ z/\Off (fun q=>¬dh ob bg sv pv' lv q/\Zq q) _ z):
    ∃l',DaAt Zq Pq base ob y n D (k+1) nx {d with b:=d.b.set v (nG d.next),next:=d.next+1,spawns:=d.spawns++ [(d.next,nm,cn _ z)]} (bG (w3.setCell ⟨ob,6,none⟩ pv') bg (v*4) (.int .i64 3) (.int .i64 d.next) (.string ⟨#[]⟩) (.slice none 0 0)) l' bg sd (sp++ [(d.next,nm,z)]) sv pv' lv:=by
 obtain⟨a1,⟨a2,a3,a4⟩,a5,a6,a7⟩:=h.apart
 obtain⟨c,hc⟩:=h.bgT
 obtain⟨o1,o2,o3⟩:=h.own
 have hb3:w3.heap[bg]? =w.heap[bg]? :=hk.block bg h.lt.2 a6
 have ho3:w3.heap[ob]? =w.heap[ob]? :=hk.block ob h.lt.1 a3
 have hne:pv'.ownBlock≠some ob:=dH hr (ho3.trans h.box) (by decide)
 have hne2:pv'.ownBlock≠some bg:=dH hr (hb3.trans hc) (by decide)
 obtain⟨w4,hw4⟩:∃w4,w4=w3.setCell ⟨ob,6,none⟩ pv':=⟨_,rfl⟩
 rw[<-hw4]
 have hk4:Kee (dh ob bg sv pv lv) w w4:=by
  rw[hw4]
  exact Kee.trans (hk.mono fun q _ hq=>Or.inr (Or.inr (Or.inr (Or.inl hq)))) (aW _ _ _ _) fun q _ hq=>Or.inl hq
 obtain⟨w5,hw5⟩:∃w5,w5=bG w4 bg (v*4) (.int .i64 3) (.int .i64 d.next) (.string ⟨#[]⟩) (.slice none 0 0):=⟨_,rfl⟩
 rw[<-hw5]
 have hk5:Kee (fun q=>q=bg) w4 w5:=by
  rw[hw5]
  exact jm _ _ _ _ _ _ _
 have hk':Kee (dh ob bg sv pv lv) w w5:=hk4.trans hk5 fun q _ e=>Or.inr (Or.inl e)
 have hW:∀q,dh ob bg sv pv' lv q->dh ob bg sv pv lv q∨w.heap.size<=q:=fun q hq=>by
  rcases hq with hq|hq|hq|hq|hq
  ·exact Or.inl (Or.inl hq)
  ·exact Or.inl (Or.inr (Or.inl hq))
  ·exact Or.inl (Or.inr (Or.inr (Or.inl hq)))
  ·exact(hs q hq).imp (fun e=>Or.inr (Or.inr (Or.inr (Or.inl e)))) id
  ·exact Or.inl (Or.inr (Or.inr (Or.inr (Or.inr hq))))
 obtain⟨t1,t2,t3⟩:=h.turn hk' hW
 have hbg4:w4.heap[bg]? =w.heap[bg]? :=by
  rw[hw4]
  exact(lW fun e=>a1 e.symm).trans hb3
 have hob5:w5.heap[ob]? =w4.heap[ob]? :=by
  rw[hw5]
  exact au a1 _ _ _ _
 have hz':=dn (w:=w3) (w':=w5) (D':=fun q=>¬dh ob bg sv pv' lv q/\Zq q) (by rw[hw5,aF,hw4,Aj];exact Nat.le_refl _) (fun b q hl=>by
  rw[hw5,au (fun e=>q.1 (Or.inr (Or.inl e))),hw4]
  exact lW fun e=>q.1 (Or.inl e)) (fun b q _=>q) hz.2
 have hrow:∀{e:TypeId} {s m:Nat} {u:Value} {xs:List Value},w3.ownsRow base e s u m xs->u.ownBlock≠some ob->u.ownBlock≠some bg->w5.ownsRow base e s u m xs:=fun{e s m u xs} hr h1 h2=>by
  have h4:w4.ownsRow base e s u m xs:=by
   rw[hw4]
   exact ig hr h1
  exact aL h4 hk5 fun b hb e=>h2 (by rw[hb,e])
 have hlen:l.length=4:=(dI h.bnd).1
 have hpk:=Fh d.next D hnx
 obtain⟨x0,hx0⟩:∃x0,l[v]? =some x0:=⟨l[v]'(by omega),List.getElem?_eq_getElem _⟩
 have y1:Held w4 bg (v*4) (D+1) x0:=eG hbg4 (h.row v x0 hx0).1
 have hhere:=uB (w:=w4) (g:=bg) (o:=v*4) (.int .i64 3) (.int .i64 d.next) (.string ⟨#[]⟩) (.slice none 0 0) ⟨y1.1,y1.2.1,y1.2.2.1,y1.2.2.2⟩
 refine⟨l.set v (aQ 3 d.next D), ?_,⟨o1,o2,Nat.le_trans o3 hk'.size⟩, ?_, ?_,fun i x hx=> ?_, ?_,hrow (aL h.sRow hk fun q hq e=>oL h.pRow h.sRow (by decide) q e hq) a2 a5, ?_,hrow (aL h.lRow hk fun q hq e=>oL h.pRow h.lRow (by decide) q e hq) a4 a7,h.sIs,by simp[h.pIs],t1,fun x hx=> ?_, ?_⟩
 ·have h1:=ho3.trans h.box
  rw[hob5,hw4]
  simp[World.setCell,Array.getElem?_modify,h1,fU]
 ·exact Ch h.bnd v hpk.1
 ·show (l.set v (aQ 3 d.next D)).map (cn (D+1))=d.b.set v (nG d.next)
  rw[List.map_set,h.tells,hpk.2]
 ·by_cases hi:v=i
  ·subst hi
   rw[List.getElem?_set_self (by omega)]at hx
   obtain rfl:=Option.some.inj hx
   rw[hw5]
   exact⟨⟨hhere.1,hhere.2.1,hhere.2.2.1,hhere.2.2.2⟩,cZ D 3 d.next (by unfold dZ;omega) (by unfold dZ;omega) base _ Pq⟩
  ·rw[List.getElem?_set_ne hi]at hx
   refine⟨(eG hbg4 (h.row i x hx).1).far fun j j1 j2=> ?_,t3 _ _ (h.row i x hx).2.1,(h.row i x hx).2.2⟩
   rw[hw5]
   exact xn j (by omega)
 ·rw[hw5]
  exact JI ⟨c,hbg4.trans hc⟩ _ _ _ _ _
 ·have:=hrow hr hne hne2
  simpa using this
 ·rcases List.mem_append.1 hx with hx|hx
  ·exact t2 x hx
  ·rw[List.mem_singleton.1 hx]
   exact⟨hz.1,hz'⟩
 ·obtain⟨f1,f2,f3,f4⟩:=h.few
  refine⟨by omega,by simp;omega,by show d.links.length<=k+1;omega, ?_⟩
  show d.next+1=_
  simp
  omega
end
end Go.Proofs.YtbknffhilfoakaaGreat
