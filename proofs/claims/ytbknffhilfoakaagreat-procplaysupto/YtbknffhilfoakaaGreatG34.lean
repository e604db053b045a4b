/- What is proved here: the document's Fits, of right terms that lie in memory. No condition but those. -/
import Derived.Test.YtbknffhilfoakaaGreatG33
import Derived.BigRegion
import Derived.Deep.LoopGhost
namespace Go.Proofs.YtbknffhilfoakaaGreat
open Go.RowKit
set_option maxHeartbeats 2000000
set_option maxRecDepth 100000
theorem Fz:(Tryz.prog.info? 127).map (fun i=>(i.zero,i.size,i.bytes))=some (some (.agg #[.int .i64 0,.int .i64 0,.string .empty,.slice none 0 0,.int .i64 0,.int .i64 0,.string .empty,.slice none 0 0]),8,112):=by kernel_rfl
def RfP (B:Nat) (w:World) (base g c:Nat) (o:Option (List An)) (td:List (An×An)) (b:List An) (ta:Option Addr) (tc:Nat) (wr:World):Prop:=
 Below w.heap.size w wr/\Has base g c b wr/\Bnd B wr b/\TdAt B g wr td ta/\td.length<=tc/\tc<=maxLen/\fits td b=o
def RfB (wr:World) (xb yb:Nat) (x y:Nd) (wx:World):Prop:=
 Below wr.heap.size wr wx/\(wr.heap.size<=xb/\xb<wx.heap.size)/\(wr.heap.size<=yb/\yb<wx.heap.size)/\
 (wx.cell? ⟨xb,0,none⟩=some (.int .i64 x.1.1)/\wx.cell? ⟨xb,1,none⟩=some (.int .i64 x.1.2.1)/\wx.cell? ⟨xb,2,none⟩=some (.string x.1.2.2)/\wx.cell? ⟨xb,3,none⟩=some (.slice x.2.1 x.2.2.1 x.2.2.2))/\
 (wx.cell? ⟨yb,0,none⟩=some (.int .i64 y.1.1)/\wx.cell? ⟨yb,1,none⟩=some (.int .i64 y.1.2.1)/\wx.cell? ⟨yb,2,none⟩=some (.string y.1.2.2)/\wx.cell? ⟨yb,3,none⟩=some (.slice y.2.1 y.2.2.1 y.2.2.2))
theorem RfB.one (wr:World) (x y:Nd):RfB wr wr.heap.size (wr.heap.size+1) x y ((wr.alloc (.cells #[.int .i64 x.1.1,.int .i64 x.1.2.1,.string x.1.2.2,.slice x.2.1 x.2.2.1 x.2.2.2] 25)).alloc (.cells #[.int .i64 y.1.1,.int .i64 y.1.2.1,.string y.1.2.2,.slice y.2.1 y.2.2.1 y.2.2.2] 25)).drew:=by
 refine⟨(((Below.refl _ _).alloc (Nat.le_refl _) _).alloc (by simp) _).drew,⟨Nat.le_refl _,by simp[World.drew];omega⟩,⟨by omega,by simp[World.drew]⟩,⟨?_, ?_, ?_, ?_⟩, ?_, ?_, ?_, ?_⟩<;>simp[go_sem]
theorem RfB.two (wr:World) (x y:Nd):RfB wr (wr.heap.size+1) wr.heap.size x y ((wr.alloc (.cells #[.int .i64 y.1.1,.int .i64 y.1.2.1,.string y.1.2.2,.slice y.2.1 y.2.2.1 y.2.2.2] 25)).alloc (.cells #[.int .i64 x.1.1,.int .i64 x.1.2.1,.string x.1.2.2,.slice x.2.1 x.2.2.1 x.2.2.2] 25)).drew:=by
 refine⟨(((Below.refl _ _).alloc (Nat.le_refl _) _).alloc (by simp) _).drew,⟨by omega,by simp[World.drew]⟩,⟨Nat.le_refl _,by simp[World.drew];omega⟩,⟨?_, ?_, ?_, ?_⟩, ?_, ?_, ?_, ?_⟩<;>simp[go_sem]
theorem PrIn.below {B:Nat} {w w':World} (h:Below B w w') {x:An×An} (k:PrIn B w x):PrIn B w' x:=⟨⟨k.1.1.below h,k.1.2⟩,k.2.1.below h,k.2.2⟩
def KQ (B:Nat) (w:World) (base g c:Nat) (r:List (An×An)) (b:List An) (h q tc:Nat) (wc:World):Prop:=
 Below w.heap.size w wc/\Has base g c b wc/\Bnd B wc b/\TdAt B g wc r (if tc=1 then some ⟨h,q,none⟩else some ⟨h,q+8,none⟩)/\r.length<=tc-1/\tc-1<=maxLen
theorem RfP.rest {B:Nat} {w:World} {g c:Nat} {o:Option (List An)} {z:An×An} {r:List (An×An)} {b:List An} {h q tc:Nat} {wr wc:World} {xb yb:Nat} {x y:Nd}
    (k:RfP B w (w.heap.size+2) g c o (z::r) b (some ⟨h,q,none⟩) tc wr) (hB:B<=w.heap.size) (e:RfB wr xb yb x y wc):KQ B w (w.heap.size+2) g c r b h q tc wc:=by
 obtain⟨k1,k2,k3,k4,k5,k6,_⟩:=k
 have hb:=e.1
 have hs:=k1.size
 have hg:=k2.lt
 refine⟨k1.trans (hb.mono hs),k2.below hb,k3.below (hb.mono (by omega)),(k4.rest (by simpa using k5)).grown (aZ hb _) (by omega) hg.2,by simp at k5;omega,by omega⟩
def RfR2 (B:Nat) (w:World) (base g c:Nat) (r:List (An×An)) (b:List An) (ta:Option Addr) (tc:Nat) (wc:World):Prop:=
 Below w.heap.size w wc/\Has base g c b wc/\Bnd B wc b/\TdAt B g wc r ta/\r.length<=tc/\tc<=maxLen
theorem RfR2.rfp {B:Nat} {w:World} {base g c:Nat} {r:List (An×An)} {b:List An} {ta:Option Addr} {tc:Nat} {wc:World} {o:Option (List An)} (h:RfR2 B w base g c r b ta tc wc) (e:fits r b=o):RfP B w base g c o r b ta tc wc:=
 ⟨h.1,h.2.1,h.2.2.1,h.2.2.2.1,h.2.2.2.2.1,h.2.2.2.2.2,e⟩
theorem nX {n m:Nat} {x:Tm (n+1)} {y:Tm (m+1)} (r:List (An×An)):dE r<dE ((⟨n+1,x⟩,⟨m+1,y⟩)::r):=by
 simp only[dE,List.map_cons,List.sum_cons,nodes,List.length_cons]
 omega
theorem nT {n m:Nat} {x:Tm (n+1)} {y:Tm (m+1)} {r:List (An×An)} {gk:Nat} (h:gk=dE ((⟨n+1,x⟩,⟨m+1,y⟩)::r)/\gk<=2097152):dE r<=2097152:=by
 have:=nX (x:=x) (y:=y) r
 omega
theorem DW (n:Nat) (x:Tm n):0<(nodes n x).length:=by
 have:=bD n x
 omega
theorem FB (r:List (An×An)):r.length<=dE r:=by
 induction r with
 | nil=>exact Nat.le_refl _
 | cons z r ih=>
  have:=DW z.1.1 z.1.2
  simp only[dE,List.map_cons,List.sum_cons,List.length_cons]at ih ⊢
  omega
theorem RfP.start {B:Nat} {w w1:World} {g c:Nat} {o:Option (List An)} {b0:List An} {x0:An×An} {v0 v1 v2 v3 u0 u1 u2 u3:Value} (hB:B<=w.heap.size) (h1:Bx2 w v0 v1 v2 v3 u0 u1 u2 u3 w1) (hh:Has (w.heap.size+2) g c b0 w1) (hb:Bnd B w b0) (hx:PrIn B w x0) (ho:fits [x0] b0=o)
    (hc:aY [x0]=[v0,v1,v2,v3,u0,u1,u2,u3]):RfP B w (w.heap.size+2) g c o [x0] b0 (some ⟨w1.heap.size,0,none⟩) 1 (w1.alloc (.cells #[v0,v1,v2,v3,u0,u1,u2,u3] 127)):=by
 have hbl:Below w1.heap.size w1 (w1.alloc (.cells #[v0,v1,v2,v3,u0,u1,u2,u3] 127)):=(Below.refl _ _).alloc (Nat.le_refl _) _
 have hs:=h1.1.size
 have hb2:=h1.1.trans (hbl.mono hs)
 have hg:=hh.lt
 refine⟨hb2,hh.below hbl,hb.below (hb2.mono hB),⟨?_,Or.inr ⟨w1.heap.size,0,rfl,by omega,by simp,by omega, ?_⟩⟩,Nat.le_refl _,by unfold maxLen;omega,ho⟩
 ·intro z hz
  simp only[List.mem_singleton]at hz
  subst hz
  exact hx.below (hb2.mono hB)
 ·intro j u hj
  rw[hc]at hj
  rw[Nat.zero_add]
  have:j<8:=(List.getElem?_eq_some_iff.1 hj).1
  have h8:j=0∨j=1∨j=2∨j=3∨j=4∨j=5∨j=6∨j=7:=by omega
  rcases h8 with rfl|rfl|rfl|rfl|rfl|rfl|rfl|rfl<;>simp at hj<;>subst hj<;>simp[go_sem]
def J8 (B:Nat) (w:World) (n m:Nat) (p:List (Tm n)) (q:List (Tm m)) (a a':Option Addr):Prop:=
 (p=[]∨∃b o,a=some ⟨b,o,none⟩/\b<B/\∀(i:Nat) (y:Tm n),p[i]? =some y->Held w b (o+i*4) n y/\In B w n y)/\
 (q=[]∨∃b o,a'=some ⟨b,o,none⟩/\b<B/\∀(i:Nat) (y:Tm m),q[i]? =some y->Held w b (o+i*4) m y/\In B w m y)
theorem AB (n m:Nat) (p:List (Tm n)) (q:List (Tm m)) (k:Nat) (x:Tm n) (y:Tm m) (hx:p[k]? =some x) (hy:q[k]? =some y):aY ((pairs n m p q).take (k+1))=aY ((pairs n m p q).take k)++aY [(⟨n,x⟩,⟨m,y⟩)]:=by
 rw[List.take_add_one,kU]
 congr 1
 simp[pairs,List.getElem?_zipWith,hx,hy]
theorem Ie {w:World} {base e size:Nat} {v:Value} {n:Nat} {xs:List Value} (h:w.ownsRow base e size v n xs) (o:Obj):(w.alloc o).drew.ownsRow base e size v n xs:=h.alloc o
theorem IA (w:World) {n m:Nat} (x:Tm (n+1)) (y:Tm (m+1)):∀j u,(aY [(⟨n+1,x⟩,⟨m+1,y⟩)])[j]? =some u->(w.alloc (.cells #[.int .i64 x.1.1,.int .i64 x.1.2.1,.string x.1.2.2,.slice x.2.1.1 x.2.2.length x.2.1.2,.int .i64 y.1.1,.int .i64 y.1.2.1,.string y.1.2.2,.slice y.2.1.1 y.2.2.length y.2.1.2] 127)).drew.cell? ((⟨w.heap.size,0,none⟩:Addr).add j)=some u:=by
 intro j u hj
 rw[cu]
 have:j<8:=(List.getElem?_eq_some_iff.1 hj).1
 have h8:j=0∨j=1∨j=2∨j=3∨j=4∨j=5∨j=6∨j=7:=by omega
 rcases h8 with rfl|rfl|rfl|rfl|rfl|rfl|rfl|rfl<;>simp[aY,I7,kG,iW,dF,aO]at hj<;>subst hj<;>simp[go_sem]
theorem II {wc w w3:World} {e size:Nat} {v:Value} {n:Nat} {xs:List Value} {o:Obj} (h:w.ownsRow wc.heap.size e size v n xs) (hg:(w.alloc o).drew.grownBy w3 v.ownBlock) (hb:Below wc.heap.size wc w):∀b p,b<wc.heap.size->w3.cell? ⟨b,p,none⟩=w.cell? ⟨b,p,none⟩:=by
 intro b p hlt
 have hs:=hb.size
 refine(World.cell?_of_block (a:=⟨b,p,none⟩) (hg.block b ?_ ?_)).trans ?_
 ·show b<(w.alloc o).heap.size
  simp
  omega
 ·intro e
  have:=(h.lt b e.symm).1
  omega
 ·exact World.cell?_of_block (a:=⟨b,p,none⟩) ((World.grownBy_alloc w o none).block b (by omega) (by simp))
theorem C8 {wc w w3:World} {e size:Nat} {v:Value} {n:Nat} {xs:List Value} {o:Obj} (h:w.ownsRow wc.heap.size e size v n xs) (hg:(w.alloc o).drew.grownBy w3 v.ownBlock) (hb:Below wc.heap.size wc w):Below wc.heap.size wc w3:=by
 have hs:=hb.size
 have h2:Below wc.heap.size wc (w.alloc o).drew:=(hb.alloc hs o).drew
 exact Below.grown h2 hg h2.size fun k hk=>(h.lt k hk).1
theorem zn {n m:Nat} {x:Tm (n+1)} {y:Tm (m+1)} (r:List (An×An)):dE (pairs n m x.2.2 y.2.2++r)<dE ((⟨n+1,x⟩,⟨m+1,y⟩)::r):=by
 have:=zZ n m x.2.2 y.2.2 r
 have e:dE ((⟨n+1,x⟩,⟨m+1,y⟩)::r)=(nodes (n+1) x).length+dE r:=rfl
 have e2:(nodes (n+1) x).length=1+(x.2.2.flatMap fun y=>nodes n y).length:=by simp only[nodes,List.length_cons];omega
 omega
theorem RfR2.news {B:Nat} {w:World} {base g c:Nat} {r:List (An×An)} {b:List An} {ad:Addr} {tc:Nat} {wc w2:World} (h:RfR2 B w base g c r b (some ad) tc wc) (hb:Below wc.heap.size wc w2):∀j u,(aY r)[j]? =some u->w2.cell? (ad.add j)=some u:=by
 intro j u hj
 rcases h.2.2.2.1.2 with h2|⟨q,o,e,k1,k2,k3,k4⟩
 ·rw[h2]at hj;simp[aY]at hj
 ·obtain rfl:ad=⟨q,o,none⟩:=by simpa using e
  rw[Addr.add_lit]
  exact(ag hb q _ k2).trans (k4 j u hj)
theorem RfR2.more {B:Nat} {w:World} {base g c:Nat} {r:List (An×An)} {b:List An} {ta:Option Addr} {tc:Nat} {wc w2 w4:World} {v v4:Value} {l kk rl:Nat} {ps:List (An×An)} {e:TypeId} (h:RfR2 B w base g c r b ta tc wc) (hb:Below wc.heap.size wc w2) (ho:w2.ownsRow wc.heap.size e 8 v l (aY ps))
    (ho4:w4.ownsRow wc.heap.size e 8 v4 (kk+rl) (aY ps++aY r)) (hg:w2.grownBy w4 v.ownBlock) (hps:∀z∈ps,PrIn B wc z) (hB:B<=w.heap.size) (hkk:ps.length=kk) (hrl:r.length=rl) (hbase:w.heap.size<=base:=by omega):
    ∃ta4 tc4,v4=.slice ta4 (kk+rl) tc4/\RfR2 B w base g c (ps++r) b ta4 tc4 w4:=by
 obtain⟨k1,k2,k3,k4,k5,k6⟩:=h
 have hs:=k1.size
 have hs2:=hb.size
 have hgg:=k2.lt
 have hb4:Below wc.heap.size wc w4:=Below.grown hb hg hs2 fun k hk=>(ho.lt k hk).1
 have hin:∀z∈ps++r,PrIn B w4 z:=by
  intro z hz
  rcases List.mem_append.1 hz with hz|hz
  ·exact(hps z hz).below (hb4.mono (by omega))
  ·exact(k4.1 z hz).below (hb4.mono (by omega))
 have hc:=ho4
 rw[<-kU]at hc
 have hrest:∀ta4 tc4,TdAt B g w4 (ps++r) ta4->(ps++r).length<=tc4->tc4<=maxLen->RfR2 B w base g c (ps++r) b ta4 tc4 w4:=fun ta4 tc4 h1 h2 h3=>⟨k1.trans (hb4.mono hs),k2.below hb4,k3.below (hb4.mono (by omega)),h1,h2,h3⟩
 rcases ho4.2 with⟨hv,h0⟩|⟨g4,cap,cur,hv,hg4,hh,hcap,hm,_⟩
 ·refine⟨none,0,by rw[hv,h0],hrest _ _ ⟨hin,Or.inl (List.eq_nil_of_length_eq_zero (by rw[List.length_append];omega))⟩ (by rw[List.length_append];omega) (Nat.zero_le _)⟩
 ·refine⟨some ⟨g4,0,none⟩,cap,hv,hrest _ _ ⟨hin,Or.inr ⟨g4,0,rfl,by omega,(Array.getElem?_eq_some_iff.1 hh).1,by omega,fun j u hj=> ?_⟩⟩ (by rw[List.length_append];omega) hm⟩
  have:=hc.cells (g:=g4) (by rw[hv];rfl) j u hj
  rw[cu]at this
  rw[Nat.zero_add]
  exact this
theorem RfR2.next {B:Nat} {w:World} {base g c:Nat} {r:List (An×An)} {b:List An} {ta:Option Addr} {tc:Nat} {wc w2:World} (h:RfR2 B w base g c r b ta tc wc) (hb:Below wc.heap.size wc w2) (hB:B<=w.heap.size) (hbase:w.heap.size<=base:=by omega):RfR2 B w base g c r b ta tc w2:=by
 obtain⟨k1,k2,k3,k4,k5,k6⟩:=h
 have hs:=k1.size
 have hg:=k2.lt
 exact⟨k1.trans (hb.mono hs),k2.below hb,k3.below (hb.mono (by omega)),k4.grown (aZ hb _) (by omega) hg.2,k5,k6⟩
theorem RfR2.put {B:Nat} {w:World} {base g c:Nat} {r:List (An×An)} {b:List An} {ta:Option Addr} {tc:Nat} {wc:World} (h:RfR2 B w base g c r b ta tc wc) (i:Nat) (hi:i<b.length) (t:An) (ht:InA B wc t/\ak t) (hB:B<=w.heap.size) (hbase:w.heap.size<=base:=by omega):
    RfR2 B w base g c r (b.set i t) ta tc (fF wc g (i*4) (iW t)):=by
 obtain⟨k1,k2,k3,k4,k5,k6⟩:=h
 have hs:=k1.size
 have hg:=k2.lt
 have hgr:wc.grownBy (fF wc g (i*4) (iW t)) (some g):=sP _ _ _ _
 have hbl:Below w.heap.size wc (fF wc g (i*4) (iW t)):=iy hgr (by omega) hg.2
 refine⟨k1.trans hbl,k2.put i t hi,⟨by simpa using k3.1,fun y hy=> ?_⟩,k4.grown hgr (by omega) hg.2,k5,k6⟩
 rcases List.mem_or_eq_of_mem_set hy with h1|rfl
 ·exact⟨(k3.2 y h1).1.below (hbl.mono hB),(k3.2 y h1).2⟩
 ·exact⟨ht.1.below (hbl.mono hB),ht.2⟩
def Cm (B:Nat) (o:Option (List An)) (w:World) (e:Ending) (w':World):Prop:=
 ∃a1 l1 c1 r,e=.returned (.tuple #[.slice a1 l1 c1,.bool r])/\Hid (Below w.heap.size w w'/\(o=none->l1=0/\r=false)/\∀b,o=some b->r=true/\∃g base,a1=some ⟨g,0,none⟩/\Has base g c1 b w'/\l1=b.length/\Bnd B w' b/\w.heap.size<=g)
theorem BC (w:World) (B:Nat) (hB:B<=w.heap.size) (k u k' u':Int) (s s':ByteArray) (a a':Option Addr) (l pc l' pc':Nat) (qa:Addr) (qc:Nat) (o:Option (List An)) (b0:List An) (x0:An×An)
    (HQ:Hid (∀w1,Below w.heap.size w w1->∀j v,(cK b0)[j]? =some v->w1.cell? (qa.add j)=some v)) (H4:Hid (b0.length=4)) (HN0:Hid (dE [x0]<=2097152)) (HB0:Hid (Bnd B w b0)) (HX0:Hid (PrIn B w x0)) (HO:Hid (fits [x0] b0=o))
    (HX:Hid (aY [x0]=[.int .i64 k,.int .i64 u,.string s,.slice a l pc,.int .i64 k',.int .i64 u',.string s',.slice a' l' pc'])):
    Calls Tryz.prog 34 #[.agg #[.int .i64 k,.int .i64 u,.string s,.slice a l pc],.agg #[.int .i64 k',.int .i64 u',.string s',.slice a' l' pc'],.slice (some qa) 4 qc] w
     (Cm B o w):=by
 obtain⟨it,hit,htz0,htz1,htz2⟩:=info_parts bP
 have HT:=hide (⟨hit,htz0,htz1,htz2⟩:_/\_/\_/\_)
 clear hit htz0 htz1 htz2
 go_enter Tryz.func34,Tryz.ntmps34
 go_wp2_with (at_builtin;refine wpList_append_own _ rfl _ _ 23 rfl (w.heap.size+2) 25 it _ 4 56 Tryz.underlying23 HT.out.1 HT.out.2.1 HT.out.2.2.1 HT.out.2.2.2 rfl (by decide) _ _ _ rfl (World.ownsRow_nil _ _ _ _) qa 4 qc (cK b0) rfl ?qc1 ?qc2 ?qc3 ?qc4 ?qc5 ?qc6 ?_)
 case qc1=>rw[fI,H4.out]
 case qc2=>exact HQ.out _ (((Below.refl _ _).alloc (Nat.le_refl _) _).alloc (by simp) _)
 case qc3=>exact qh _
 case qc4=>unfold maxLen;omega
 case qc5=>omega
 case qc6=>simp
 intro v1 w1 hown hgrow hnil
 have HF:Hid (∃g c,v1=.slice (some ⟨g,0,none⟩) 4 c/\Bx2 w (.int .i64 k) (.int .i64 u) (.string s) (.slice a l pc) (.int .i64 k') (.int .i64 u') (.string s') (.slice a' l' pc') w1/\Has (w.heap.size+2) g c b0 w1):=by
  have hb:Below ((w.alloc (.cells #[.int .i64 k,.int .i64 u,.string s,.slice a l pc] 25)).alloc (.cells #[.int .i64 k',.int .i64 u',.string s',.slice a' l' pc'] 25)).heap.size _ w1:=⟨hgrow.os,hgrow.tape,hgrow.output,hgrow.size,fun k hk=>hgrow.block k hk (by simp[Value.ownBlock])⟩
  have ho:=hown
  obtain⟨_,ho⟩:=ho
  rcases ho with⟨_,ho⟩|⟨g,cap,cur,rfl,hg,_⟩
  ·omega
  ·refine⟨g,cap,rfl,(Bx2.new w _ _ _ _ _ _ _ _ _ _).next hb, ?_⟩
   unfold Has
   rw[H4.out]
   exact hown
 clear hown hgrow hnil HQ
 obtain⟨g,c,rfl,HX1,HH1⟩:∃g c,v1=.slice (some ⟨g,0,none⟩) 4 c/\Hid (Bx2 w (.int .i64 k) (.int .i64 u) (.string s) (.slice a l pc) (.int .i64 k') (.int .i64 u') (.string s') (.slice a' l' pc') w1)/\Hid (Has (w.heap.size+2) g c b0 w1):=HF.out
 obtain⟨⟨v0,v1,v2,v3⟩,u0,u1,u2,u3⟩:=HX1.out.2.2
 clear HF
 go_wp2_with fail
 have HS:Hid (RfP B w (w.heap.size+2) g c o [x0] b0 (some ⟨w1.heap.size,0,none⟩) 1 (w1.alloc (.cells #[.int .i64 k,.int .i64 u,.string s,.slice a l pc,.int .i64 k',.int .i64 u',.string s',.slice a' l' pc'] 127))):=RfP.start hB HX1.out HH1.out HB0.out HX0.out HO.out HX.out
 clear v0 v1 v2 v3 u0 u1 u2 u3 HX1 HH1
 go_loopg [9] (dE [x0]) (fun gk v wr=>∃td b ta tl tc,v=.slice ta tl tc/\Hid (gk=dE td/\gk<=2097152/\tl=td.length/\RfP B w (w.heap.size+2) g c o td b ta tc wr))
 case atStart=>exact⟨[x0],b0,_,1,1,rfl,rfl,HN0.out,rfl,HS.out⟩
 case round=>
  obtain⟨td,b,ta,tl,tc,rfl,HR⟩:=hrel
  clear HS
  cases td with
  | nil=> 
   obtain rfl:tl=0:=HR.out.2.2.1
   go_wp2_with fail
   have ho:o=some b:=HR.out.2.2.2.2.2.2.2.2.2.symm
   have h4:b.length=4:=HR.out.2.2.2.2.2.1.1
   have hf:∀b',o=some b'->true=true/\∃g1 base,some (⟨g,0,none⟩:Addr)=some ⟨g1,0,none⟩/\Has base g1 c b' wr/\4=b'.length/\Bnd B wr b'/\w.heap.size<=g1:=by
    intro b' e
    rw[ho]at e
    obtain rfl:=Option.some.inj e
    exact⟨rfl,g,_,rfl,HR.out.2.2.2.2.1,h4.symm,HR.out.2.2.2.2.2.1,by have:=(HR.out.2.2.2.2.1).lt.1;omega⟩
   exact bodyPost_ret (v:=.tuple #[.slice (some ⟨g,0,none⟩) 4 c,.bool true]) (by simp[results,Tryz.results34,go_sem]) rfl ⟨some ⟨g,0,none⟩,4,c,true,rfl,HR.out.2.2.2.1,(fun e=>by rw[ho]at e;cases e),hf⟩
  | cons z r=>
   obtain⟨⟨n,x⟩,⟨m,y⟩⟩:=z
   obtain rfl:tl=r.length+1:=HR.out.2.2.1
   have HP:Hid (RfP B w (w.heap.size+2) g c o ((⟨n,x⟩,⟨m,y⟩)::r) b ta tc wr):=HR.out.2.2.2
   have HG:Hid (gk=dE ((⟨n,x⟩,⟨m,y⟩)::r)/\gk<=2097152):=⟨HR.out.1,HR.out.2.1⟩
   have HPI:=hide (HP.out.2.2.2.1.1 (⟨n,x⟩,⟨m,y⟩) (by simp))
   clear HR
   cases n with
   | zero=>exact HPI.out.1.1.elim
   | succ n=>
   cases m with
   | zero=>exact HPI.out.2.1.elim
   | succ m=>
   obtain⟨h,q,rfl,hh1,hh2,hh3,⟨x0,x1,x2,x3⟩,y0,y1,y2,y3⟩:=HP.out.2.2.2.1.first
   simp only[iW,dF,aO]at x0 x1 x2 x3 y0 y1 y2 y3
   have htc:r.length+1<=tc:=HP.out.2.2.2.2.1
   have htm:tc<=9223372036854775807:=by have:=HP.out.2.2.2.2.2.1;unfold maxLen at this;omega
   have hl1:(0:Int)<((r.length+1:Nat):Int):=by omega
   generalize hrl:r.length=rl at*
   have HRL:=hide hrl
   clear hrl
   have hhw:h<wr.heap.size:=hh2
   go_upto_region 4 with fail
   go_cut [10,11] (fun v10 v11 wx=>∃xb yb,v10=.pointer (some ⟨xb,0,none⟩)/\v11=.pointer (some ⟨yb,0,none⟩)/\Hid (RfB wr xb yb (aO n x) (aO m y) wx))
   case first=>
    go_region
    ·go_wp2_with fail
     go_meet
     exact⟨_,_,rfl,rfl,RfB.one wr (aO n x) (aO m y)⟩
    ·go_wp2_with fail
     go_meet
     exact⟨_,_,rfl,rfl,RfB.two wr (aO n x) (aO m y)⟩
   case rest=>
    obtain⟨xb,yb,rfl,rfl,HBX⟩:=hcut
    have HRR:=hide (HP.out.rest hB HBX.out)
    have HPC:Hid (PrIn B wc (⟨n+1,x⟩,⟨m+1,y⟩)):=HPI.out.below (HBX.out.1.mono (Nat.le_trans hB HP.out.1.size))
    have HFO:Hid ((vI ⟨n+1,x⟩ ⟨m+1,y⟩ b).bind (fits r)=o):=HP.out.2.2.2.2.2.2
    obtain⟨⟨a0,a1,a2,a3⟩,d0,d1,d2,d3⟩:=HBX.out.2.2.2
    simp only[aO]at a0 a1 a2 a3 d0 d1 d2 d3
    have hlx:xb<wc.heap.size:=HBX.out.2.1.2
    have hly:yb<wc.heap.size:=HBX.out.2.2.1.2
    have hgc:g<wc.heap.size:=HRR.out.2.1.lt.2
    clear HP HPI x0 x1 x2 x3 y0 y1 y2 y3 hh1 hh2 hh3 hhw
    have HWC:Hid (wc=wc):=rfl
    go_upto_region 5 with fail
    go_cut [9] (fun v9 wx=>∃ad tk,v9=.slice (some ad) rl tk/\wx=wc/\Hid (tk=tc-1/\some ad=if tc=1 then some ⟨h,q,none⟩else some ⟨h,q+8,none⟩))
    case first=>
     go_wp2_with fail
     all_goals go_meet
     all_goals exact⟨_,_,rfl,rfl,by omega,by split<;>first|rfl|contradiction|(exfalso;omega)⟩
    case rest=>
    obtain⟨ad,tk,rfl,rfl,HTA⟩:=hcut
    have HR2:Hid (RfR2 B w (w.heap.size+2) g c r b (some ad) tk wc):=by have:=HRR.out;unfold KQ at this;rw[<-HTA.out.2,<-HTA.out.1]at this;exact this
    clear HRR HTA
    by_cases hk6:x.1.1=6
    ·have HE:Hid (fits r b=o):=by have:=HFO.out;simp[vI,fit,hk6]at this;exact this
     have e6:(x.1.1==6)=true:=by simpa using hk6
     clear HFO hk6
     go_wp2_with fail
     go_roundg (dE r)
     case measure=>rw[HG.out.1];exact nX r
     case rel=>exact⟨r,b,some ad,rl,tk,rfl,rfl,nT HG.out,HRL.out.symm,HR2.out.rfp HE.out⟩
    have e6:(x.1.1==6)=false:=by simpa using hk6
    by_cases hk5:x.1.1=5
    ·have e5:(x.1.1==5)=true:=by simpa using hk5
     obtain⟨kv,hkv,ekv⟩:=Gl n x HPC.out.1.2 hk5
     have HFV:Hid (vI ⟨n+1,x⟩ ⟨m+1,y⟩ b=nA b kv ⟨m+1,y⟩):=by simp[Hid,vI,fit,hk5,ekv]
     obtain⟨z,hz⟩:∃z,b[kv]? =some z:=⟨b[kv]'(by rw[HR2.out.2.2.1.1];exact hkv),List.getElem?_eq_getElem _⟩
     obtain⟨hz1,hz2⟩:=HR2.out.2.2.1.2 z (List.mem_of_getElem? hz)
     obtain⟨nz,z⟩:=z
     cases nz with
     | zero=>exact hz1.elim
     | succ nz=>
     have HV:Hid (nA b kv ⟨m+1,y⟩=if z.1.1=6 then some (b.set kv ⟨m+1,y⟩)else if bY ⟨nz+1,z⟩ ⟨m+1,y⟩then some b else none):=by simp only[Hid,nA,hz,bE];rfl
     obtain⟨c0,c1,c2,c3⟩:=HR2.out.2.1.cells kv _ hz
     simp only[iW,dF,aO]at c0 c1 c2 c3
     have hk1:(0:Int)<=(kv:Int):=by omega
     have hk2:(kv:Int)<4:=by omega
     rw[ekv]at a1
     have HZ:=hide hz1
     clear hk5 hk6 ekv hz hz1 hz2
     by_cases hz6:z.1.1=6
     ·have HE:Hid (fits r (b.set kv ⟨m+1,y⟩)=o):=by have:=HFO.out;rw[HFV.out,HV.out,if_pos hz6]at this;exact this
      have ez:(z.1.1==6)=true:=by simpa using hz6
      have hf:=fun j=>HR2.out.2.1.free j
      have HR3:=hide (HR2.out.put kv (by rw[HR2.out.2.2.1.1];exact hkv) ⟨m+1,y⟩ HPC.out.2 hB)
      clear HFO HFV HV hz6
      go_wp2_with fail
      go_roundg (dE r)
      case measure=>rw[HG.out.1];exact nX r
      case rel=>exact⟨r,b.set kv ⟨m+1,y⟩,some ad,rl,tk,rfl,rfl,nT HG.out,HRL.out.symm,HR3.out.rfp HE.out⟩
     ·have HE:Hid ((if bY ⟨nz+1,z⟩ ⟨m+1,y⟩then some b else none).bind (fits r)=o):=by have:=HFO.out;rw[HFV.out,HV.out,if_neg hz6]at this;exact this
      have ez:(z.1.1==6)=false:=by simpa using hz6
      have HBC:Hid (B<=wc.heap.size):=Nat.le_trans hB HR2.out.1.size
      have HCD:=hide (show Calls Tryz.prog 17 #[.agg #[.int .i64 z.1.1,.int .i64 z.1.2.1,.string z.1.2.2,.slice z.2.1.1 z.2.2.length z.2.1.2],.agg #[.int .i64 y.1.1,.int .i64 y.1.2.1,.string y.1.2.2,.slice y.2.1.1 y.2.2.length y.2.1.2]] wc.drew _ from jK (nz+1) z (m+1) y B wc.drew (HZ.out.below (Below.refl _ _).drew) (HPC.out.2.1.below (Below.refl _ _).drew) HBC.out)
      replace HE:Hid ((if same (nz+1) z (m+1) y then some b else none).bind (fits r)=o):=HE
      clear HFO HFV HV hz6 HZ
      generalize same (nz+1) z (m+1) y=sm at*
      go_wp2_with fail
      go_region_held3 (fun w'=>w'.cell? ⟨g,kv*4,none⟩=some (.int .i64 z.1.1)/\w'.cell? ⟨g,kv*4+1,none⟩=some (.int .i64 z.1.2.1)/\w'.cell? ⟨g,kv*4+2,none⟩=some (.string z.1.2.2)/\w'.cell? ⟨g,kv*4+3,none⟩=some (.slice z.2.1.1 z.2.2.length z.2.1.2)
          /\w'.cell? ⟨yb,0,none⟩=some (.int .i64 y.1.1)/\w'.cell? ⟨yb,1,none⟩=some (.int .i64 y.1.2.1)/\w'.cell? ⟨yb,2,none⟩=some (.string y.1.2.2)/\w'.cell? ⟨yb,3,none⟩=some (.slice y.2.1.1 y.2.2.length y.2.1.2)/\w'.cell? ⟨xb,1,none⟩=some (.int .i64 kv))
       (go_keep) ((go_at_call 17;refine HCD.out.mono ?_;rintro e w2 ⟨rfl,hb2⟩;have hcc:=ag (bz hb2)))
      have HR3:=hide (HR2.out.next (bz hb2) hB)
      clear hcc hb2
      cases sm with
      | true=>
       have HE2:Hid (fits r b=o):=HE.out
       go_wp2_with fail
       go_roundg (dE r)
       case measure=>rw[HG.out.1];exact nX r
       case rel=>exact⟨r,b,some ad,rl,tk,rfl,rfl,nT HG.out,HRL.out.symm,HR3.out.rfp HE2.out⟩
      | false=>
       have HN:Hid (o=none):=HE.out.symm
       go_wp2_with fail
       exact bodyPost_ret (v:=.tuple #[.slice none 0 0,.bool false]) (by simp[results,Tryz.results34,go_sem]) rfl ⟨none,0,0,false,rfl,HR3.out.1,(fun _=>⟨rfl,rfl⟩),(fun b' e=>by rw[HN.out]at e;cases e)⟩
    have e5:(x.1.1==5)=false:=by simpa using hk5
    by_cases hk4:x.1.1=4
    ·have e4:(x.1.1==4)=true:=by simpa using hk4
     have HE:Hid ((if y.1.1=4/\x.2.2.length=y.2.2.length then eO (fun x y b=>fit n x m y b) x.2.2 y.2.2 b else none).bind (fits r)=o):=by have:=HFO.out;simp only[vI,fit,if_neg hk6,if_neg hk5,if_pos hk4]at this;exact this
     have hlen8:x.2.2.length<=8:=gm (aO n x) (HPC.out.1.2 (aO n x) (by simp[nodes,aO]))
     have hlenY:y.2.2.length<=8:=gm (aO m y) (HPC.out.2.2 (aO m y) (by simp[nodes,aO]))
     clear HFO hk4 hk5 hk6
     by_cases hy4:y.1.1=4
     case neg=>
      have HN:Hid (o=none):=by have:=HE.out;rw[if_neg (fun h=>hy4 h.1)]at this;exact this.symm
      have f4:(y.1.1 !=4)=true:=by simpa using hy4
      clear hy4 HE
      go_wp2_with fail
      exact bodyPost_ret (v:=.tuple #[.slice none 0 0,.bool false]) (by simp[results,Tryz.results34,go_sem]) rfl ⟨none,0,0,false,rfl,HR2.out.1,(fun _=>⟨rfl,rfl⟩),(fun b' e=>by rw[HN.out]at e;cases e)⟩
     have f4:(y.1.1 !=4)=false:=by simp[hy4]
     by_cases hll:x.2.2.length=y.2.2.length
     case neg=>
      have HN:Hid (o=none):=by have:=HE.out;rw[if_neg (fun h=>hll h.2)]at this;exact this.symm
      have fl:((x.2.2.length:Int) !=(y.2.2.length:Int))=true:=by simp;omega
      clear hy4 HE hll
      go_wp2_with fail
      exact bodyPost_ret (v:=.tuple #[.slice none 0 0,.bool false]) (by simp[results,Tryz.results34,go_sem]) rfl ⟨none,0,0,false,rfl,HR2.out.1,(fun _=>⟨rfl,rfl⟩),(fun b' e=>by rw[HN.out]at e;cases e)⟩
     have HE2:Hid (fits (pairs n m x.2.2 y.2.2++r) b=o):=by have:=HE.out;rw[if_pos ⟨hy4,hll⟩]at this;rw[Hid,rE];exact this
     have HLL:=hide hll
     have hxp:=HPC.out.1.1.2
     have hyp:=HPC.out.2.1.2
     have HEL:Hid (J8 B wc n m x.2.2 y.2.2 x.2.1.1 y.2.1.1):=⟨HPC.out.1.1.2,HPC.out.2.1.2⟩
     have hlen:x.2.2.length<=8:=hlen8
     have HLX:Hid (x.2.2.length=x.2.2.length):=rfl
     clear hy4 HE hll hxp hyp
     obtain⟨ip,hip,hpz0,hpz1,hpz2⟩:=info_parts Fz
     have HI:=hide (⟨hip,hpz0,hpz1,hpz2⟩:_/\_/\_/\_)
     clear hip hpz0 hpz1 hpz2 hlenY hlen8
     generalize hxl:x.2.2.length=xl at*
     generalize hyl:y.2.2.length=yl at*
     have HXL:=hide hxl
     have HYL:=hide hyl
     obtain rfl:xl=yl:=HLL.out
     clear hxl hyl HLX
     have fl:((xl:Int) !=(xl:Int))=false:=by simp
     go_wp2_with fail
     go_loopw [12,13] (fun v i w2=>∃kk:Nat,kk<=xl/\i=.int .i64 kk/\Hid (Below wc.heap.size wc w2/\w2.ownsRow wc.heap.size 127 8 v kk (aY ((pairs n m x.2.2 y.2.2).take kk)))) (fun _ i _=>xl-(intOf i).toNat)
     case atStart=>exact⟨0,by omega,rfl,Below.refl _ _,World.ownsRow_nil _ _ _ _⟩
     case round=>
      obtain⟨kk,hkk,rfl,HO2⟩:=hrel
      have HBW:Hid (Below wc.heap.size wc wr):=HO2.out.1
      have HOW:Hid (wr.ownsRow wc.heap.size 127 8 u12 kk (aY ((pairs n m x.2.2 y.2.2).take kk))):=HO2.out.2
      replace a3:=(ag HBW.out _ _ hlx).trans a3
      replace d3:=(ag HBW.out _ _ hly).trans d3
      have hbc:wc.heap.size<=wr.heap.size:=HBW.out.size
      clear HO2 HBX a0 a1 a2 d0 d1 d2
      by_cases hlt:kk<xl
      ·obtain⟨ex,hex⟩:∃ex,x.2.2[kk]? =some ex:=⟨x.2.2[kk]'(by rw[HXL.out];exact hlt),List.getElem?_eq_getElem _⟩
       obtain⟨ey,hey⟩:∃ey,y.2.2[kk]? =some ey:=⟨y.2.2[kk]'(by rw[HYL.out];exact hlt),List.getElem?_eq_getElem _⟩
       have HTK:=hide (AB n m x.2.2 y.2.2 kk ex ey hex hey)
       obtain⟨hel1,hel2⟩:=HEL.out
       rcases hel1 with hel1|⟨pb,po,hpa,hpb,hp⟩
       ·rw[hel1]at hex;simp at hex
       rcases hel2 with hel2|⟨qb,qo,hqa,hqb,hq⟩
       ·rw[hel2]at hey;simp at hey
       have hBc:B<=wc.heap.size:=Nat.le_trans hB HR2.out.1.size
       have hpc:pb<wc.heap.size:=by omega
       have hqc:qb<wc.heap.size:=by omega
       have hhx:=(hp kk ex hex).1.below HBW.out hpc
       have hhy:=(hq kk ey hey).1.below HBW.out hqc
       rw[hpa]at a3
       rw[hqa]at d3
       clear hp hq hex hey hpa hqa
       cases n with
       | zero=>exact hhx.elim
       | succ n=>
       cases m with
       | zero=>exact hhy.elim
       | succ m=>
       obtain⟨p0,p1,p2,p3⟩:=hhx
       obtain⟨q0,q1,q2,q3⟩:=hhy
       have hk1:(0:Int)<=(kk:Int):=by omega
       have hk2:(kk:Int)<(xl:Int):=by omega
       have hpw:pb<wr.heap.size:=by omega
       have hqw:qb<wr.heap.size:=by omega
       have hxw:xb<wr.heap.size:=by omega
       have hyw:yb<wr.heap.size:=by omega
       go_wp2_with fail
       go_region_held3 (fun w'=>w'.cell? ⟨xb,3,none⟩=some (.slice (some ⟨pb,po,none⟩) xl x.2.1.2)/\w'.cell? ⟨yb,3,none⟩=some (.slice (some ⟨qb,qo,none⟩) xl y.2.1.2)
           /\w'.cell? ⟨pb,po+kk*4,none⟩=some (.int .i64 ex.1.1)/\w'.cell? ⟨pb,po+kk*4+1,none⟩=some (.int .i64 ex.1.2.1)/\w'.cell? ⟨pb,po+kk*4+2,none⟩=some (.string ex.1.2.2)/\w'.cell? ⟨pb,po+kk*4+3,none⟩=some (.slice ex.2.1.1 ex.2.2.length ex.2.1.2)
           /\w'.cell? ⟨qb,qo+kk*4,none⟩=some (.int .i64 ey.1.1)/\w'.cell? ⟨qb,qo+kk*4+1,none⟩=some (.int .i64 ey.1.2.1)/\w'.cell? ⟨qb,qo+kk*4+2,none⟩=some (.string ey.1.2.2)/\w'.cell? ⟨qb,qo+kk*4+3,none⟩=some (.slice ey.2.1.1 ey.2.2.length ey.2.1.2))
        (go_keep) ((refine step_append_lies _ rfl _ _ 128 rfl wc.heap.size 127 ip _ 8 112 Tryz.underlying128 HI.out.1 HI.out.2.1 HI.out.2.2.1 HI.out.2.2.2 rfl (by decide) u12 kk _ (by simp[Act.eval]) (Ie HOW.out _) ⟨wr.heap.size,0,none⟩ 1 1 (aY [(⟨n+1,ex⟩,⟨m+1,ey⟩)]) (by simp[Act.eval]) rfl (IA wr ex ey) (o8 _) (by decide) (by unfold maxLen;omega) (by omega) (by simp[World.drew];omega) (wr.heap.size+1) (by simp[World.drew]) ?_;intro g3 c3 w3 hown3 hgrow3 hat3 hlt3;have hcc:=II HOW.out hgrow3 HBW.out))
       have HN3:Hid (Below wc.heap.size wc w3/\w3.ownsRow wc.heap.size 127 8 (.slice (some ⟨g3,0,none⟩) (kk+1) c3) (kk+1) (aY ((pairs (n+1) (m+1) x.2.2 y.2.2).take (kk+1)))):=by
        refine⟨C8 HOW.out hgrow3 HBW.out, ?_⟩
        rw[HTK.out]
        exact hown3
       clear hcc hown3 hgrow3 hat3 hlt3 HOW HBW HTK p0 p1 p2 p3 q0 q1 q2 q3
       go_wp2_with fail
       go_roundw
       case rel=>exact⟨kk+1,by omega,by go_num,HN3.out⟩
       case measure=>simp[intOf];omega
      ·obtain rfl:kk=xl:=by omega
       have HOWP:Hid (wr.ownsRow wc.heap.size 127 8 u12 kk (aY (pairs n m x.2.2 y.2.2))):=by
        have:=HOW.out
        rw[List.take_of_length_le (by simp[pairs,HXL.out,HYL.out])]at this
        exact this
       have HRB:Hid (rl<=2097152):=by have h1:=FB r;have h2:=nT HG.out;have h3:=HRL.out;unfold Hid;omega
       have hrb:rl<=2097152:=HRB.out
       clear HOW
       go_wp2_with (at_builtin;refine wpList_append_own _ rfl _ _ 128 rfl wc.heap.size 127 ip _ 8 112 Tryz.underlying128 HI.out.1 HI.out.2.1 HI.out.2.2.1 HI.out.2.2.2 rfl (by decide) u12 kk _ rfl HOWP.out ad rl tk (aY r) rfl ?qc1 ?qc2 ?qc3 ?qc4 ?qc5 ?qc6 ?_)
       case qc1=>rw[rJ,HRL.out]
       case qc2=>exact HR2.out.news HBW.out
       case qc3=>exact o8 _
       case qc4=>unfold maxLen;omega
       case qc5=>omega
       case qc6=>exact hbc
       intro v4 w4 hown4 hgrow4 hnil4
       obtain⟨ta4,tc4,hv4,hr4⟩:=HR2.out.more HBW.out HOWP.out hown4 hgrow4 (FI HPC.out) hB (by simp[pairs,HXL.out,HYL.out]) HRL.out
       have HR4:=hide hr4
       subst hv4
       clear hr4 hown4 hgrow4 hnil4 HOWP HBW
       go_wp2_with fail
       go_roundg (dE (pairs n m x.2.2 y.2.2++r))
       case measure=>rw[HG.out.1];exact zn r
       case rel=>exact⟨pairs n m x.2.2 y.2.2++r,b,ta4,kk+rl,tc4,rfl,rfl,Nat.le_trans (Nat.le_of_lt (zn r)) (by rw[<-HG.out.1];exact HG.out.2),by simp[pairs,HXL.out,HYL.out,HRL.out],HR4.out.rfp HE2.out⟩
    ·have e4:(x.1.1==4)=false:=by simpa using hk4
     have HBC:Hid (B<=wc.heap.size):=Nat.le_trans hB HR2.out.1.size
     have HE:Hid ((if same (n+1) x (m+1) y then some b else none).bind (fits r)=o):=by have:=HFO.out;simp only[vI,fit,if_neg hk6,if_neg hk5,if_neg hk4]at this;exact this
     have HCD:=hide (show Calls Tryz.prog 17 #[.agg #[.int .i64 x.1.1,.int .i64 x.1.2.1,.string x.1.2.2,.slice x.2.1.1 x.2.2.length x.2.1.2],.agg #[.int .i64 y.1.1,.int .i64 y.1.2.1,.string y.1.2.2,.slice y.2.1.1 y.2.2.length y.2.1.2]] wc _ from jK (n+1) x (m+1) y B wc HPC.out.1.1 HPC.out.2.1 HBC.out)
     clear hk4 hk5 hk6 HFO
     generalize same (n+1) x (m+1) y=sm at*
     go_wp2_with fail
     refine HCD.out.mono ?_
     rintro e w2 ⟨rfl,hb2⟩
     have HR3:=hide (HR2.out.next hb2 hB)
     clear hb2
     cases sm with
     | true=>
      have HE2:Hid (fits r b=o):=HE.out
      go_wp2_with fail
      go_roundg (dE r)
      case measure=>rw[HG.out.1];exact nX r
      case rel=>exact⟨r,b,some ad,rl,tk,rfl,rfl,nT HG.out,HRL.out.symm,HR3.out.rfp HE2.out⟩
     | false=>
      have HN:Hid (o=none):=HE.out.symm
      go_wp2_with fail
      exact bodyPost_ret (v:=.tuple #[.slice none 0 0,.bool false]) (by simp[results,Tryz.results34,go_sem]) rfl ⟨none,0,0,false,rfl,HR3.out.1,(fun _=>⟨rfl,rfl⟩),(fun b' e=>by rw[HN.out]at e;cases e)⟩
end Go.Proofs.YtbknffhilfoakaaGreat
