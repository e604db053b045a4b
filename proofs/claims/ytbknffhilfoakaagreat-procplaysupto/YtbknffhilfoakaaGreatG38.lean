/- What is proved here: the document's Step: what it takes and leaves is what the plain function of a step (stpC) says. No condition but that all lies in memory, and that the program is a right one. -/
import Derived.Test.YtbknffhilfoakaaGreatG37
namespace Go.Proofs.YtbknffhilfoakaaGreat
open Go.RowKit
set_option maxHeartbeats 8000000
set_option maxRecDepth 100000
theorem Km {qb:Nat} {name:ByteArray} {room:Int} {x:Tc} {ys:List Tc} {ma:Option Addr} {mc:Nat} {Dq:Nat->Prop} {w:World} (h:QA qb name room x ys ma mc Dq w) {n:Nat} (l:List (Bh (n+1))) (la:Option Addr) (lc B:Nat) (hl:PgIn (n+1) B w la l) (hB:B<=w.heap.size) (hE:oQ n l=0) (hD:∀b,b<B->Dq b) {self next:Int} (hs:1<=self/\self<=99) (hn:1<=next/\next<=92):
    Calls Tryz.prog 10 #[.pointer (some ⟨qb,0,none⟩),.slice la l.length lc,.int .i64 self,.int .i64 next] w (QsOut qb name room x ys Dq l self next w):=by
 obtain⟨L,hL⟩:∃L,L=ys.length:=⟨_,rfl⟩
 obtain⟨K,hK⟩:∃K,K=l.length:=⟨_,rfl⟩
 have hL20:L<=20:=by rw[hL];exact h.bounds.2.2
 have hPG:=BU hE
 have hK7:K<=7:=by
  have:=hPG.1
  unfold og at this
  simp only[Bool.and_eq_true,decide_eq_true_eq]at this
  omega
 have hql:=(Array.getElem?_eq_some_iff.1 h.box).1
 have HQ:=hide h.less
 have HPG:=hide hPG
 have HLL:=hide (⟨hl,hB,hK,hL⟩:_/\_/\_/\_)
 have HDB:Hid (∀b,b<B->Dq b/\b<w.heap.size):=fun b hb=>⟨hD b hb,by omega⟩
 have HQL:=hide hql
 have HQC:Hid (∀W,Below w.heap.size w W->W.cell? ⟨qb,0,none⟩=some (.string name)/\W.cell? ⟨qb,1,none⟩=some (.int .i64 room)/\(W.cell? ⟨qb,2,none⟩=some (.int .i64 x.1.1)/\W.cell? ⟨qb,3,none⟩=some (.int .i64 x.1.2.1)/\W.cell? ⟨qb,4,none⟩=some (.string x.1.2.2)/\W.cell? ⟨qb,5,none⟩=some (.slice x.2.1.1 x.2.2.length x.2.1.2))/\W.cell? ⟨qb,6,none⟩=some (.slice ma L mc)):=fun W hW=>h.cellsB hL (hW.block qb hql)
 rw[<-hK]
 obtain⟨Q,hQ⟩:∃Q,Q=QsOut qb name room x ys Dq l self next w:=⟨_,rfl⟩
 rw[<-hQ]
 have HQQ:=hide hQ
 clear hPG hl hD hE hK hL h hql hQ
 go_enter Tryz.func10,Tryz.ntmps10
 go_upto_region 1 with fail
 generalize hw0:w.alloc _=w0
 have HB0:Hid (Below w.heap.size w w0):=by rw[<-hw0];exact(Below.refl _ _).alloc (Nat.le_refl _) _
 have HX0:Hid (w0.heap[w.heap.size]? =some (.cells #[.int .i64 0,.int .i64 0,.string ⟨#[]⟩,.slice none 0 0,.int .i64 0,.slice none 0 0,.slice none 0 0,.slice none 0 0] 43)):=by rw[<-hw0];exact heap_alloc_new _ _
 clear hw0
 obtain⟨rb,hrb⟩:∃rb,rb=w.heap.size:=⟨_,rfl⟩
 rw[<-hrb]
 rw[<-hrb]at HX0
 have HRN:=hide hrb
 clear hrb
 obtain⟨q0,_⟩:=HQC.out w0 HB0.out
 have HNM:=hide (JK (n+1) name l la lc K B w0 HLL.out.2.2.1.symm (by omega) (Nat.le_trans HLL.out.2.1 HB0.out.size) (hide (HLL.out.1.below (HB0.out.mono HLL.out.2.1))))
 go_wp2_with fail
 refine HNM.out.mono ?_
 rintro e w1 ⟨ib,rfl,H1⟩
 have HB01:=hide H1.out.2
 have HB1:=hide (HB0.out.trans (HB01.out.mono HB0.out.size))
 have HRZ:Hid (∀W,Below w1.heap.size w1 W->W.there rb 0 8/\(W.cell? ⟨rb,0,none⟩=some (.int .i64 0)/\W.cell? ⟨rb,1,none⟩=some (.int .i64 0)/\W.cell? ⟨rb,2,none⟩=some (.string ⟨#[]⟩)/\W.cell? ⟨rb,3,none⟩=some (.slice none 0 0)/\W.cell? ⟨rb,4,none⟩=some (.int .i64 0)/\W.cell? ⟨rb,5,none⟩=some (.slice none 0 0)/\W.cell? ⟨rb,6,none⟩=some (.slice none 0 0)/\W.cell? ⟨rb,7,none⟩=some (.slice none 0 0))/\W.frozen? ⟨rb,0,none⟩=false/\W.frozen? ⟨rb,1,none⟩=false/\W.frozen? ⟨rb,2,none⟩=false/\W.frozen? ⟨rb,3,none⟩=false/\W.frozen? ⟨rb,4,none⟩=false/\W.frozen? ⟨rb,5,none⟩=false/\W.frozen? ⟨rb,6,none⟩=false/\W.frozen? ⟨rb,7,none⟩=false):=fun W hW=>by
  have hb:=bC (HB01.out.trans (hW.mono HB01.out.size)) HX0.out
  have hf:∀j,W.frozen? ⟨rb,j,none⟩=false:=fun j=>by simp[World.frozen?,hb]
  exact⟨bq hb,⟨ae hb 0,ae hb 1,ae hb 2,ae hb 3,ae hb 4,ae hb 5,ae hb 6,ae hb 7⟩,hf 0,hf 1,hf 2,hf 3,hf 4,hf 5,hf 6,hf 7⟩
 have HRK:Hid (∀W,Below w1.heap.size w1 W->∀vs,Below w.heap.size w (W.setCells rb 0 vs)):=fun W hW vs=>by
  have h1:=HB1.out.trans (hW.mono HB1.out.size)
  exact h1.trans ((aJ rb vs 0 W).1.below h1.size fun b hb e=>by have:=HRN.out;omega)
 clear HNM q0
 rcases H1.out.1 with⟨hno,rfl⟩|⟨kb,bh,rfl,hbk,hbo⟩
 ·have HST:Hid (gH room l name self next (cn 13 x) (ys.map (cn 13))=none):=by
    refine zD ?_
    have:eU name l=[]:=by unfold eU;rw[hno];rfl
    rw[this]
    exact BK _ _
  clear hno
  obtain⟨⟨rc0,rc1,rc2,rc3,rc4,rc5,rc6,rc7⟩,rf0,rf1,rf2,rf3,rf4,rf5,rf6,rf7⟩:=(HRZ.out w1 (Below.refl _ _)).2
  go_wp2_with fail
  rw[iG]
  refine bodyPost_ret (v:=.tuple #[.agg #[.int .i64 0,.int .i64 0,.string ⟨#[]⟩,.slice none 0 0,.int .i64 0,.slice none 0 0,.slice none 0 0,.slice none 0 0],.int .i64 4]) (mQ Tryz.results10 rfl rfl (dB _ rfl (HRZ.out w1 (Below.refl _ _)).1)) rfl ?_
  rw[HQQ.out]
  exact QsOut.no HST.out (HRK.out w1 (Below.refl _ _) _)
 obtain⟨bn,⟨ca,cc⟩,cls⟩:=bh
 obtain⟨C,hC⟩:∃C,C=cls.length:=⟨_,rfl⟩
 have hkK:kb<K:=by rw[HLL.out.2.2.1];exact(List.getElem?_eq_some_iff.1 hbk).1
 have hclo:eU name l=cls:=by unfold eU;rw[hbo];rfl
 have HBH:=hide (HPG.out.2 _ (List.mem_of_getElem? hbk))
 have hC6:C<=6:=by rw[hC];exact HBH.out.1
 obtain⟨lb,lo,rfl,hlb,HLB⟩:∃g o,la=some ⟨g,o,none⟩/\g<B/\Hid ((∀(t:Nat) (u:Value),(EC (n+1) (bn,(ca,cc),cls))[t]? =some u->w.cell? ⟨g,o+kb*2+t,none⟩=some u)/\Bj (n+1) B w (bn,(ca,cc),cls)):=by
  rcases HLL.out.1 with e|⟨g,o,e,hg,h⟩
  ·rw[e]at hbk
   simp at hbk
  ·exact⟨g,o,e,hg,h kb _ hbk⟩
 go_upto_region 5 with fail
 generalize hw2:w1.alloc _=w2
 have HB12:Hid (Below w1.heap.size w1 w2):=by rw[<-hw2];exact(Below.refl _ _).alloc (Nat.le_refl _) _
 have HX2:Hid (w2.heap[w1.heap.size]? =some (.cells #[.int .i64 6,.int .i64 0,.string ⟨#[]⟩,.slice none 0 0] 25)):=by rw[<-hw2];exact heap_alloc_new _ _
 have HB2:=hide (HB1.out.trans (HB12.out.mono HB1.out.size))
 obtain⟨ab,hab⟩:∃ab,ab=w1.heap.size:=⟨_,rfl⟩
 rw[<-hab]
 rw[<-hab]at HX2
 have HAB:=hide hab
 clear hw2 hab
 have HW2:Hid (∀W,Below w2.heap.size w2 W->Below w.heap.size w W/\Below w1.heap.size w1 W):=fun W hW=>⟨HB2.out.trans (hW.mono HB2.out.size),HB12.out.trans (hW.mono HB12.out.size)⟩
 have HCC:Hid (∀W,Below w2.heap.size w2 W->W.cell? ⟨lb,lo+kb*2+1,none⟩=some (.slice ca C cc)):=fun W hW=>by
  rw[hC]
  exact((HW2.out W hW).1.cell (p:=⟨lb,lo+kb*2+1,none⟩) (Nat.lt_of_lt_of_le hlb hB)).trans (HLB.out.1 1 _ rfl)
 have HCH:Hid (pI cls (cn 13 x) (ys.map (cn 13)) 0=pI cls (cn 13 x) ((ys.map (cn 13)).drop 0) 0):=rfl
 have HCLO:=hide (⟨hclo,hC⟩:_/\_)
 have k1:(0:Int)<=(kb:Int):=by omega
 have k2:(kb:Int)<(K:Int):=by omega
 clear hbk hbo hclo hC
 go_wp2_with fail
 go_loopw [12] (fun v wr=>∃i:Nat,i<=L/\v=.int .i64 i/\Hid (Below w2.heap.size w2 wr/\pI cls (cn 13 x) (ys.map (cn 13)) 0=pI cls (cn 13 x) ((ys.map (cn 13)).drop i) i)) (fun v _=>L-(intOf v).toNat)
 case atStart=>exact⟨0,by omega,rfl,Below.refl _ _,HCH.out⟩
 case round=>
 obtain⟨i,hi,rfl,HR⟩:=hrel
 have HRB:=hide HR.out.1
 obtain⟨_,_,_,q6⟩:=HQC.out wr (HW2.out wr HRB.out).1
 by_cases hiL:i<L
 rotate_left
 ·obtain rfl:i=L:=by omega
  have HST:Hid (gH room l name self next (cn 13 x) (ys.map (cn 13))=none):=by
   refine zD ?_
   rw[HCLO.out.1,HR.out.2,List.drop_of_length_le (by rw[List.length_map,HLL.out.2.2.2];exact Nat.le_refl _)]
   rfl
  have HRW:=hide (HW2.out wr HRB.out).2
  clear HR
  obtain⟨⟨rc0,rc1,rc2,rc3,rc4,rc5,rc6,rc7⟩,rf0,rf1,rf2,rf3,rf4,rf5,rf6,rf7⟩:=(HRZ.out wr HRW.out).2
  go_wp2_with fail
  rw[iG]
  refine bodyPost_ret (v:=.tuple #[.agg #[.int .i64 0,.int .i64 0,.string ⟨#[]⟩,.slice none 0 0,.int .i64 0,.slice none 0 0,.slice none 0 0,.slice none 0 0],.int .i64 4]) (mQ Tryz.results10 rfl rfl (dB _ rfl (HRZ.out wr HRW.out).1)) rfl ?_
  rw[HQQ.out]
  exact QsOut.no HST.out (HRK.out wr HRW.out _)
 obtain⟨y,hy⟩:∃y,ys[i]? =some y:=⟨ys[i]'(by have:=HLL.out.2.2.2;omega),List.getElem?_eq_getElem _⟩
 obtain⟨mb,mo,rfl,HMY⟩:∃b o,ma=some ⟨b,o,none⟩/\Hid (b<w.heap.size/\(Dq b/\b<w.heap.size)/\∀(i:Nat) (y:Tc),ys[i]? =some y->Held w b (o+i*4) 13 y/\In w.heap.size w 13 y/\Off (fun b=>Dq b/\b<w.heap.size) 13 y):=by
  rcases HQ.out.row with e|⟨b,o,e,h1,h2,h3⟩
  ·rw[e]at hy
   simp at hy
  ·exact⟨b,o,e,h1,h2,h3⟩
 have hmy:(ys.map (cn 13))[i]? =some (cn 13 y):=by simp[hy]
 have HYO:=hide (HQ.out.ok y (List.mem_cons_of_mem _ (List.mem_of_getElem? hy)))
 have HXO:=hide (HQ.out.ok x (by simp))
 have HCD:=hide (HR.out.2.trans (EE cls (cn 13 x) hmy))
 have HYH:=hide (HMY.out.2.2 i y hy)
 have HYI:=hide hy
 have i1:(0:Int)<=(i:Int):=by omega
 have i2:(i:Int)<(L:Int):=by omega
 have i3:(i:Int)<(L:Int):=i2
 have HC0:Hid (ji (cn 13 x) (cn 13 y) cls=ji (cn 13 x) (cn 13 y) (cls.drop 0)):=rfl
 clear hy hmy HR
 go_wp2_with fail
 go_loopw [13] (fun v wi=>∃j:Nat,j<=C/\v=.int .i64 j/\Hid (Below w2.heap.size w2 wi/\ji (cn 13 x) (cn 13 y) cls=ji (cn 13 x) (cn 13 y) (cls.drop j))) (fun v _=>C-(intOf v).toNat)
 case atStart=>exact⟨0,by omega,rfl,HRB.out,HC0.out⟩
 case round=>
 obtain⟨j,hj,rfl,HR⟩:=hrel
 have HIB:=hide HR.out.1
 have HIC:=hide HR.out.2
 have cl1:=HCC.out wr HIB.out
 by_cases hjC:j<C
 rotate_left
 ·obtain rfl:j=C:=by omega
  have HN1:Hid (pI cls (cn 13 x) (ys.map (cn 13)) 0=pI cls (cn 13 x) ((ys.map (cn 13)).drop (i+1)) (i+1)):=by
   have e:ji (cn 13 x) (cn 13 y) cls=none:=by
    rw[HIC.out,List.drop_of_length_le (by rw[<-HCLO.out.2];exact Nat.le_refl _)]
    rfl
   have h:=HCD.out
   rw[e]at h
   exact h
  clear HR HIC HCD
  go_wp2_with fail
  go_roundw
  case rel=>exact⟨i+1,by omega,by go_num,HIB.out,HN1.out⟩
  case measure=>simp[intOf];omega
 obtain⟨c,hc⟩:∃c,cls[j]? =some c:=⟨cls[j]'(by rw[<-HCLO.out.2];exact hjC),List.getElem?_eq_getElem _⟩
 have HCO:=hide (HBH.out.2 c (List.mem_of_getElem? hc))
 have HCJ:=hide (HIC.out.trans (D6 (cn 13 x) (cn 13 y) hc))
 have HFC:=hide (Ht c HCO.out.1 HCO.out.2.1 HXO.out.1 HYO.out.1)
 obtain⟨⟨st,ms,nt⟩,⟨aa,ac⟩,acts⟩:=c
 obtain⟨A,hA⟩:∃A,A=acts.length:=⟨_,rfl⟩
 obtain⟨cb,co,rfl,hcb,HCI⟩:∃g o,ca=some ⟨g,o,none⟩/\g<B/\Hid ((∀(t:Nat) (u:Value),(jS (n+1) ((st,ms,nt),(aa,ac),acts))[t]? =some u->w.cell? ⟨g,o+j*13+t,none⟩=some u)/\jH (n+1) B w ((st,ms,nt),(aa,ac),acts)):=by
  rcases HLB.out.2.2.2 with e|⟨g,o,e,hg,h⟩
  ·have e:cls=[]:=e
   rw[e]at hc
   simp at hc
  ·exact⟨g,o,e,hg,h j _ hc⟩
 have hcell:∀(t:Nat) (u:Value),(jS (n+1) ((st,ms,nt),(aa,ac),acts))[t]? =some u->wr.cell? ⟨cb,co+j*13+t,none⟩=some u:=fun t u ht=>((HW2.out wr HIB.out).1.cell (p:=⟨cb,co+j*13+t,none⟩) (Nat.lt_of_lt_of_le hcb hB)).trans (HCI.out.1 t u ht)
 have y0:wr.cell? ⟨cb,co+j*13,none⟩=some (.int .i64 st.1.1):=hcell 0 _ rfl
 have y1:wr.cell? ⟨cb,co+j*13+1,none⟩=some (.int .i64 st.1.2.1):=hcell 1 _ rfl
 have y2:wr.cell? ⟨cb,co+j*13+2,none⟩=some (.string st.1.2.2):=hcell 2 _ rfl
 have y3:wr.cell? ⟨cb,co+j*13+3,none⟩=some (.slice st.2.1.1 st.2.2.length st.2.1.2):=hcell 3 _ rfl
 have y4:wr.cell? ⟨cb,co+j*13+4,none⟩=some (.int .i64 ms.1.1):=hcell 4 _ rfl
 have y5:wr.cell? ⟨cb,co+j*13+5,none⟩=some (.int .i64 ms.1.2.1):=hcell 5 _ rfl
 have y6:wr.cell? ⟨cb,co+j*13+6,none⟩=some (.string ms.1.2.2):=hcell 6 _ rfl
 have y7:wr.cell? ⟨cb,co+j*13+7,none⟩=some (.slice ms.2.1.1 ms.2.2.length ms.2.1.2):=hcell 7 _ rfl
 have y8:wr.cell? ⟨cb,co+j*13+8,none⟩=some (.slice aa A ac):=by rw[hA];exact hcell 8 _ rfl
 have y9:wr.cell? ⟨cb,co+j*13+9,none⟩=some (.int .i64 nt.1.1):=hcell 9 _ rfl
 have y10:wr.cell? ⟨cb,co+j*13+10,none⟩=some (.int .i64 nt.1.2.1):=hcell 10 _ rfl
 have y11:wr.cell? ⟨cb,co+j*13+11,none⟩=some (.string nt.1.2.2):=hcell 11 _ rfl
 have y12:wr.cell? ⟨cb,co+j*13+12,none⟩=some (.slice nt.2.1.1 nt.2.2.length nt.2.1.2):=hcell 12 _ rfl
 have j1:(0:Int)<=(j:Int):=by omega
 have j2:(j:Int)<(C:Int):=by omega
 have HAA:=hide hA
 clear hcell hc hA HR
 go_upto_region 12 with fail
 generalize hw3:wr.alloc _=w3
 have HB3a:Hid (Below wr.heap.size wr w3):=by rw[<-hw3];exact(Below.refl _ _).alloc (Nat.le_refl _) _
 have HX3:Hid (w3.heap[wr.heap.size]? =some (.cells #[.int .i64 st.1.1,.int .i64 st.1.2.1,.string st.1.2.2,.slice st.2.1.1 st.2.2.length st.2.1.2,.int .i64 ms.1.1,.int .i64 ms.1.2.1,.string ms.1.2.2,.slice ms.2.1.1 ms.2.2.length ms.2.1.2,.slice aa A ac,.int .i64 nt.1.1,.int .i64 nt.1.2.1,.string nt.1.2.2,.slice nt.2.1.1 nt.2.2.length nt.2.1.2] 90)):=by rw[<-hw3];exact heap_alloc_new _ _
 clear hw3 y0 y1 y2 y3 y4 y5 y6 y7 y8 y9 y10 y11 y12 cl1
 obtain⟨kx,hkx⟩:∃kx,kx=wr.heap.size:=⟨_,rfl⟩
 rw[<-hkx]
 rw[<-hkx]at HX3
 have HKX:=hide hkx
 clear hkx
 have HB3:=hide (HIB.out.trans (HB3a.out.mono HIB.out.size))
 have HW3:Hid (∀W,Below w3.heap.size w3 W->Below w2.heap.size w2 W):=fun W hW=>HB3.out.trans (hW.mono HB3.out.size)
 have HS3:Hid (∀W,Below w3.heap.size w3 W->(W.cell? ⟨kx,0,none⟩=some (.int .i64 st.1.1)/\W.cell? ⟨kx,1,none⟩=some (.int .i64 st.1.2.1)/\W.cell? ⟨kx,2,none⟩=some (.string st.1.2.2)/\W.cell? ⟨kx,3,none⟩=some (.slice st.2.1.1 st.2.2.length st.2.1.2))/\(W.cell? ⟨qb,2,none⟩=some (.int .i64 x.1.1)/\W.cell? ⟨qb,3,none⟩=some (.int .i64 x.1.2.1)/\W.cell? ⟨qb,4,none⟩=some (.string x.1.2.2)/\W.cell? ⟨qb,5,none⟩=some (.slice x.2.1.1 x.2.2.length x.2.1.2))/\W.cell? ⟨ab,0,none⟩=some (.int .i64 6)/\W.cell? ⟨ab,1,none⟩=some (.int .i64 0)/\W.cell? ⟨ab,2,none⟩=some (.string ⟨#[]⟩)/\W.cell? ⟨ab,3,none⟩=some (.slice none 0 0)):=fun W hW=>by
  have h1:=bC hW HX3.out
  have h2:=bC (HW3.out W hW) HX2.out
  exact⟨⟨ae h1 0,ae h1 1,ae h1 2,ae h1 3⟩,(HQC.out W (HW2.out W (HW3.out W hW)).1).2.2.1,ae h2 0,ae h2 1,ae h2 2,ae h2 3⟩
 have HF1:Hid (∀(W:World) (g:Nat),Below w3.heap.size w3 W->W.heap[g]? =some (.cells #[.int .i64 6,.int .i64 0,.string ⟨#[]⟩,.slice none 0 0,.int .i64 6,.int .i64 0,.string ⟨#[]⟩,.slice none 0 0,.int .i64 6,.int .i64 0,.string ⟨#[]⟩,.slice none 0 0,.int .i64 6,.int .i64 0,.string ⟨#[]⟩,.slice none 0 0] 25)->Calls Tryz.prog 34 #[.agg #[.int .i64 st.1.1,.int .i64 st.1.2.1,.string st.1.2.2,.slice st.2.1.1 st.2.2.length st.2.1.2],.agg #[.int .i64 x.1.1,.int .i64 x.1.2.1,.string x.1.2.2,.slice x.2.1.1 x.2.2.length x.2.1.2],.slice (some ⟨g,0,none⟩) 4 4] W (Cm W.heap.size (fit (n+1) st 13 x iJ) W)):=fun W g hW hg=>by
  have hw:=(HW2.out W (HW3.out W hW)).1
  refine J5 st x iJ W ((HCI.out.2.1.1.below (hw.mono hB)).mono (Nat.le_trans hB hw.size)) ((HQ.out.st.1.below hw).mono hw.size) HCO.out.1 HXO.out.1 _ _ ⟨(ng (fun _=>True) W.heap.size W).1,fun y hy=>⟨((ng (fun _=>True) W.heap.size W).2 y hy).2.1,jO ((ng (fun _=>True) W.heap.size W).2 y hy).1⟩⟩ fun w1 h1=> ?_
  have h2:=bC h1 hg
  exact World.news_of_block (cs:= #[.int .i64 6,.int .i64 0,.string ⟨#[]⟩,.slice none 0 0,.int .i64 6,.int .i64 0,.string ⟨#[]⟩,.slice none 0 0,.int .i64 6,.int .i64 0,.string ⟨#[]⟩,.slice none 0 0,.int .i64 6,.int .i64 0,.string ⟨#[]⟩,.slice none 0 0]) (t:=25) (fr:=(0,0)) h2
 have HD3:Hid (Below w3.heap.size w3 w3.drew):=(Below.refl _ _).drew
 have HAL:Hid (∀o,Below w3.heap.size w3 (w3.drew.alloc o)):=fun o=>HD3.out.alloc (Nat.le_refl _) o
 obtain⟨⟨s0,s1,s2,s3⟩,⟨s4,s5,s6,s7⟩,s8,s9,s10,s11⟩:=HS3.out w3 (Below.refl _ _)
 go_region_held3 (fun W=>(W.cell? ⟨kx,0,none⟩=some (.int .i64 st.1.1)/\W.cell? ⟨kx,1,none⟩=some (.int .i64 st.1.2.1)/\W.cell? ⟨kx,2,none⟩=some (.string st.1.2.2)/\W.cell? ⟨kx,3,none⟩=some (.slice st.2.1.1 st.2.2.length st.2.1.2))/\(W.cell? ⟨qb,2,none⟩=some (.int .i64 x.1.1)/\W.cell? ⟨qb,3,none⟩=some (.int .i64 x.1.2.1)/\W.cell? ⟨qb,4,none⟩=some (.string x.1.2.2)/\W.cell? ⟨qb,5,none⟩=some (.slice x.2.1.1 x.2.2.length x.2.1.2))/\W.cell? ⟨ab,0,none⟩=some (.int .i64 6)/\W.cell? ⟨ab,1,none⟩=some (.int .i64 0)/\W.cell? ⟨ab,2,none⟩=some (.string ⟨#[]⟩)/\W.cell? ⟨ab,3,none⟩=some (.slice none 0 0))
  (first|exact HS3.out _ HD3.out|exact HS3.out _ (HAL.out _)|exact HS3.out _ HB4.out) ((first
   | (go_at_call 34;refine(HF1.out _ _ (HAL.out _) (heap_alloc_new _ _)).mono ?_;rintro e w4 ⟨a1,l1,c1,r1,rfl,H4⟩;have HB4:=hide ((HAL.out _).trans (H4.out.1.mono (HAL.out _).size)))))
 clear s0 s1 s2 s3 s4 s5 s6 s7 s8 s9 s10 s11 HF1
 have HW4:=hide (HW3.out _ HB4.out)
 cases ho:fit (n+1) st 13 x iJ with
 | none=>
  obtain⟨rfl,rfl⟩:=H4.out.2.1 ho
  have HN2:Hid (ji (cn 13 x) (cn 13 y) cls=ji (cn 13 x) (cn 13 y) (cls.drop (j+1))):=by
   have h1:jr (((st,ms,nt),(aa,ac),acts):Cl (n+1)) (cn 13 x) (cn 13 y)=none:=by
    have:=HFC.out
    rw[ho]at this
    exact this
   have h:=HCJ.out
   rw[h1]at h
   exact h
  clear H4 HFC HCJ ho
  go_wp2_with fail
  go_roundw
  case rel=>exact⟨j+1,by omega,by go_num,HW4.out,HN2.out⟩
  case measure=>simp[intOf];omega
 | some b=>
 obtain⟨rfl,g1,base1,rfl,hHas,hl1,hBnd,hg1⟩:=H4.out.2.2 b ho
 obtain rfl:l1=4:=hl1.trans hBnd.1
 have HOB:=hide (iX (fun a=>xZ a/\Off (fun b=>Dq b/\b<w.heap.size) a.1 a.2) (ou lq (rD _)) (n+1) st 13 x ⟨BR HXO.out.1 HXO.out.2,HQ.out.st.2⟩ iJ b ⟨rfl,fun y hy=>⟨((ng (fun b=>Dq b/\b<w.heap.size) 0 w).2 y hy).1,((ng (fun b=>Dq b/\b<w.heap.size) 0 w).2 y hy).2.2⟩⟩ ho)
 have HHB:=hide (⟨hHas,hBnd,H4.out.1.size⟩:_/\_/\_)
 have HO1:=hide ho
 clear H4 ho hHas hBnd hl1
 have HS4:Hid (∀W,Below w4.heap.size w4 W->(W.cell? ⟨kx,4,none⟩=some (.int .i64 ms.1.1)/\W.cell? ⟨kx,5,none⟩=some (.int .i64 ms.1.2.1)/\W.cell? ⟨kx,6,none⟩=some (.string ms.1.2.2)/\W.cell? ⟨kx,7,none⟩=some (.slice ms.2.1.1 ms.2.2.length ms.2.1.2))/\W.cell? ⟨qb,6,none⟩=some (.slice (some ⟨mb,mo,none⟩) L mc)/\W.cell? ⟨mb,mo+i*4,none⟩=some (.int .i64 y.1.1)/\W.cell? ⟨mb,mo+i*4+1,none⟩=some (.int .i64 y.1.2.1)/\W.cell? ⟨mb,mo+i*4+2,none⟩=some (.string y.1.2.2)/\W.cell? ⟨mb,mo+i*4+3,none⟩=some (.slice y.2.1.1 y.2.2.length y.2.1.2)):=fun W hW=>by
  have h1:=bC (HB4.out.trans (hW.mono HB4.out.size)) HX3.out
  have h2:=(HW2.out W (HW4.out.trans (hW.mono HW4.out.size))).1
  have h3:Held W mb (mo+i*4) 13 y:=HYH.out.1.below h2 HMY.out.1
  exact⟨⟨ae h1 4,ae h1 5,ae h1 6,ae h1 7⟩,(HQC.out W h2).2.2.2,h3⟩
 have HF2:Hid (∀W,Below w4.heap.size w4 W->Calls Tryz.prog 34 #[.agg #[.int .i64 ms.1.1,.int .i64 ms.1.2.1,.string ms.1.2.2,.slice ms.2.1.1 ms.2.2.length ms.2.1.2],.agg #[.int .i64 y.1.1,.int .i64 y.1.2.1,.string y.1.2.2,.slice y.2.1.1 y.2.2.length y.2.1.2],.slice (some ⟨g1,0,none⟩) 4 c1] W (Cm W.heap.size (fit (n+1) ms 13 y b) W)):=fun W hW=>by
  have hw:=(HW2.out W (HW4.out.trans (hW.mono HW4.out.size))).1
  obtain⟨k1,k2,k3⟩:=HHB.out
  exact J5 ms y b W ((HCI.out.2.1.2.1.below (hw.mono hB)).mono (Nat.le_trans hB hw.size)) ((HYH.out.2.1.below hw).mono hw.size) HCO.out.2.1 HYO.out.1 _ _ ⟨k2.1,fun z hz=>⟨((k2.2 z hz).1.below (hW.mono k3)).mono (Nat.le_trans k3 hW.size),(k2.2 z hz).2⟩⟩ fun w1 h1=>World.ownsRow.cells (k1.below (hW.trans (h1.mono hW.size))) (g:=g1) rfl
 have HD4:Hid (Below w4.heap.size w4 w4.drew):=(Below.refl _ _).drew
 obtain⟨⟨s0,s1,s2,s3⟩,s4,s5,s6,s7,s8⟩:=HS4.out w4 (Below.refl _ _)
 go_upto_region 14 with fail
 go_region_held3 (fun W=>(W.cell? ⟨kx,4,none⟩=some (.int .i64 ms.1.1)/\W.cell? ⟨kx,5,none⟩=some (.int .i64 ms.1.2.1)/\W.cell? ⟨kx,6,none⟩=some (.string ms.1.2.2)/\W.cell? ⟨kx,7,none⟩=some (.slice ms.2.1.1 ms.2.2.length ms.2.1.2))/\W.cell? ⟨qb,6,none⟩=some (.slice (some ⟨mb,mo,none⟩) L mc)/\W.cell? ⟨mb,mo+i*4,none⟩=some (.int .i64 y.1.1)/\W.cell? ⟨mb,mo+i*4+1,none⟩=some (.int .i64 y.1.2.1)/\W.cell? ⟨mb,mo+i*4+2,none⟩=some (.string y.1.2.2)/\W.cell? ⟨mb,mo+i*4+3,none⟩=some (.slice y.2.1.1 y.2.2.length y.2.1.2))
  (first|exact HS4.out _ HD4.out|exact HS4.out _ HB5.out) ((first
   | (go_at_call 34;refine(HF2.out _ HD4.out).mono ?_;rintro e w5 ⟨a2,l2,c2,r2,rfl,H5⟩;have HB5:=hide (HD4.out.trans (H5.out.1.mono HD4.out.size)))))
 clear s0 s1 s2 s3 s4 s5 s6 s7 s8 HF2
 have HW5:=hide (HW4.out.trans (HB5.out.mono HW4.out.size))
 cases ho:fit (n+1) ms 13 y b with
 | none=>
  obtain⟨rfl,rfl⟩:=H5.out.2.1 ho
  have HN2:Hid (ji (cn 13 x) (cn 13 y) cls=ji (cn 13 x) (cn 13 y) (cls.drop (j+1))):=by
   have h1:jr (((st,ms,nt),(aa,ac),acts):Cl (n+1)) (cn 13 x) (cn 13 y)=none:=by
    have:=HFC.out
    rw[HO1.out,Option.bind_some,ho]at this
    exact this
   have h:=HCJ.out
   rw[h1]at h
   exact h
  clear H5 HFC HCJ ho
  go_wp2_with fail
  go_roundw
  case rel=>exact⟨j+1,by omega,by go_num,HW5.out,HN2.out⟩
  case measure=>simp[intOf];omega
 | some b2=>
 obtain⟨rfl,g2,base2,rfl,hHas,hl2,hBnd,hg2⟩:=H5.out.2.2 b2 ho
 obtain rfl:l2=4:=hl2.trans hBnd.1
 have HOB2:=hide (iX (fun a=>xZ a/\Off (fun b=>Dq b/\b<w.heap.size) a.1 a.2) (ou lq (rD _)) (n+1) ms 13 y ⟨BR HYO.out.1 HYO.out.2,HYH.out.2.2⟩ b b2 HOB.out ho)
 have HHB2:=hide (⟨hHas,hBnd,hg2⟩:_/\_/\_)
 have HSO:Hid (gH room l name self next (cn 13 x) (ys.map (cn 13))=some (cO room self next (cn 13 x) (cn 13 y) ((ys.map (cn 13)).eraseIdx i) (((st,ms,nt),(aa,ac),acts):Cl (n+1)) (b2.map Cz))):=by
  have h1:jr (((st,ms,nt),(aa,ac),acts):Cl (n+1)) (cn 13 x) (cn 13 y)=some (b2.map Cz):=by
   have:=HFC.out
   rw[HO1.out,Option.bind_some,ho]at this
   exact this
  have h:=HCJ.out
  rw[h1]at h
  have h2:=HCD.out
  rw[h]at h2
  refine Gx ?_ ?_
  ·rw[HCLO.out.1]
   exact h2
  ·simp[HYI.out]
 clear H5 ho hHas hBnd hl2 HFC HCJ HCD
 go_upto_region 17 with fail
 generalize hw6:w5.alloc _=w6
 have HB6a:Hid (Below w5.heap.size w5 w6):=by rw[<-hw6];exact(Below.refl _ _).alloc (Nat.le_refl _) _
 have HX6:Hid (w6.heap[w5.heap.size]? =some (.cells #[.int .i64 y.1.1,.int .i64 y.1.2.1,.string y.1.2.2,.slice y.2.1.1 y.2.2.length y.2.1.2] 25)):=by rw[<-hw6];exact heap_alloc_new _ _
 clear hw6
 obtain⟨yb,hyb⟩:∃yb,yb=w5.heap.size:=⟨_,rfl⟩
 rw[<-hyb]
 rw[<-hyb]at HX6
 have HYB:=hide hyb
 clear hyb
 have HB6:=hide (HW5.out.trans (HB6a.out.mono HW5.out.size))
 have HQ6:=hide (HQ.out.later (HW2.out _ HB6.out).1)
 have HLE:=hide HLL.out.2.2.2
 have hmc:L<=mc/\mc≠0/\mc<=maxLen:=by
  have h1:=HQ.out.cap
  have h2:=HLE.out
  refine⟨by omega,by omega,h1.2⟩
 have HMC:=hide hmc
 obtain⟨zo,hzo⟩:∃zo,zo=if mc=i+1 then mo else mo+(i+1)*4:=⟨_,rfl⟩
 have HZO:=hide hzo
 clear hmc hzo
 have HHM:Hid (∀W,Below w6.heap.size w6 W->∀(k:Nat) (z:Tc),ys[k]? =some z->Held W mb (mo+k*4) 13 z):=fun W hW k z hz=>(HMY.out.2.2 k z hz).1.below (HW2.out _ (HB6.out.trans (hW.mono HB6.out.size))).1 HMY.out.1
 have HAP:Hid (∀W,Below w6.heap.size w6 W->∃v' w',(Builtin.append_ #[23,23] 23 #[.slice none 0 0,.slice (some ⟨mb,mo,none⟩) i mc]).run Tryz.prog W=.ok v' w'/\w'.ownsRow W.heap.size 25 4 v' i (aD ((ys.take i).map (dF 13)))/\Below W.heap.size W w'):=fun W hW=>by
  have hl:(ys.take i).length=i:=by rw[List.length_take];have:=HLE.out;omega
  have k:=xk (ys:=ys.take i) (ma:=some ⟨mb,mo,none⟩) (mc:=mc) (W:=W) (by omega) (Or.inr ⟨mb,mo,rfl,fun k z hz=>HHM.out W hW k z (by rw[List.getElem?_take]at hz;split at hz;exact hz;cases hz)⟩) 23
  rwa [hl]at k
 have HAM:Hid (∀(W:World) (v:Value) (B':Nat),Below w6.heap.size w6 W->W.ownsRow B' 25 4 v i (aD ((ys.take i).map (dF 13)))->B'<=W.heap.size->∃v' w',(Builtin.append_ #[23,23] 23 #[v,.slice (some ⟨mb,zo,none⟩) (L-(i+1)) (mc-(i+1))]).run Tryz.prog W=.ok v' w'/\w'.ownsRow B' 25 4 v' (L-1) (aD ((ys.eraseIdx i).map (dF 13)))/\Below B' W w'):=fun W v B' hW ho hB'=>by
  have hl:(ys.drop (i+1)).length=L-(i+1):=by rw[List.length_drop];have:=HLE.out;omega
  have k:=Ii (zs:=ys.drop (i+1)) (b:=mb) (o:=zo) (mc:=mc-(i+1)) ho hB' (by rw[hl];omega) (fun k z hz=> ?_) 23
  ·rw[hl]at k
   have e1:i+(L-(i+1))=L-1:=by omega
   have e2:aD ((ys.take i).map (dF 13))++aD ((ys.drop (i+1)).map (dF 13))=aD ((ys.eraseIdx i).map (dF 13)):=by
    rw[List.eraseIdx_eq_take_drop_succ,List.map_append]
    simp[aD]
   rw[e1,e2]at k
   exact k
  ·rw[List.getElem?_drop]at hz
   have h1:=HHM.out W hW _ z hz
   have hzo:=HZO.out
   have hne:¬mc=i+1:=fun e=>by
    have h2:=(List.getElem?_eq_some_iff.1 hz).1
    have h3:=HLE.out
    have h4:=HMC.out.1
    omega
   rw[if_neg hne]at hzo
   have e:mo+(i+1+k)*4=zo+k*4:=by rw[hzo];omega
   rw[<-e]
   exact h1
 have HS6:Hid (Below w6.heap.size w6 w6.drew):=(Below.refl _ _).drew
 have HSC:Hid (∀W,Below w6.heap.size w6 W->W.cell? ⟨qb,6,none⟩=some (.slice (some ⟨mb,mo,none⟩) L mc)/\W.frozen? ⟨qb,6,none⟩=false):=fun W hW=>by
  have h2:=(HW2.out _ (HB6.out.trans (hW.mono HB6.out.size))).1
  have hb:=(HQ.out.later h2).box
  exact⟨(HQC.out W h2).2.2.2,by simp[World.frozen?,hb]⟩
 refine wp_region_noPanic ?_
 refine fD (fun W=>Below w6.heap.size w6 W) 18 (by kernel_rfl) ?_
 try simp only[List.size_toArray]
 refine ah (i:=0) (v:=.pointer (some ⟨qb,0,none⟩)) rfl (by kernel_rfl) (by kernel_rfl) (by kernel_rfl) (by kernel_rfl) (fun _ _ _ h=>h) rfl (fun w' hS'=> ?_) HS6.out ?_
 ·go_simp
  try with_reducible rfl
 simp only[Act.put,List.getElem_toArray,List.getElem_cons_zero,List.setIfInBounds_toArray,List.set_cons_zero,List.set_cons_succ]
 refine ah (i:=1) (v:=.pointer (some ⟨qb,0,none⟩)) rfl (by kernel_rfl) (by kernel_rfl) (by kernel_rfl) (by kernel_rfl) (fun _ _ _ h=>h) rfl (fun w' hS'=> ?_) HS6.out ?_
 ·go_simp
  try with_reducible rfl
 simp only[Act.put,List.getElem_toArray,List.getElem_cons_zero,List.getElem_cons_succ,List.setIfInBounds_toArray,List.set_cons_zero,List.set_cons_succ]
 refine ah (i:=2) (v:=.pointer (some ⟨qb,0,none⟩)) rfl (by kernel_rfl) (by kernel_rfl) (by kernel_rfl) (by kernel_rfl) (fun _ _ _ h=>h) rfl (fun w' hS'=> ?_) HS6.out ?_
 ·go_simp
  try with_reducible rfl
 simp only[Act.put,List.getElem_toArray,List.getElem_cons_zero,List.getElem_cons_succ,List.setIfInBounds_toArray,List.set_cons_zero,List.set_cons_succ]
 refine ah (i:=3) (v:=.pointer (some ⟨qb,6,none⟩)) rfl (by kernel_rfl) (by kernel_rfl) (by kernel_rfl) (by kernel_rfl) (fun _ _ _ h=>h) rfl (fun w' hS'=> ?_) HS6.out ?_
 ·go_simp
  try with_reducible rfl
 simp only[Act.put,List.getElem_toArray,List.getElem_cons_zero,List.getElem_cons_succ,List.setIfInBounds_toArray,List.set_cons_zero,List.set_cons_succ]
 refine ah (i:=4) (v:=.slice (some ⟨mb,mo,none⟩) L mc) rfl (by kernel_rfl) (by kernel_rfl) (by kernel_rfl) (by kernel_rfl) (fun _ _ _ h=>h) rfl (fun w' hS'=> ?_) HS6.out ?_
 ·obtain⟨f6,_⟩:=HSC.out w' hS'
  go_simp
  try with_reducible rfl
 simp only[Act.put,List.getElem_toArray,List.getElem_cons_zero,List.getElem_cons_succ,List.setIfInBounds_toArray,List.set_cons_zero,List.set_cons_succ]
 refine ah (i:=5) (v:=.int .i64 i) rfl (by kernel_rfl) (by kernel_rfl) (by kernel_rfl) (by kernel_rfl) (fun _ _ _ h=>h) rfl (fun w' hS'=> ?_) HS6.out ?_
 ·go_simp
  try with_reducible rfl
 simp only[Act.put,List.getElem_toArray,List.getElem_cons_zero,List.getElem_cons_succ,List.setIfInBounds_toArray,List.set_cons_zero,List.set_cons_succ]
 refine ah (i:=6) (v:=.slice (some ⟨mb,mo,none⟩) i mc) rfl (by kernel_rfl) (by kernel_rfl) (by kernel_rfl) (by kernel_rfl) (fun _ _ _ h=>h) rfl (fun w' hS'=> ?_) HS6.out ?_
 ·have hmc:=HMC.out
  have hm1:((i:Int))<=(mc:Int):=by omega
  have hm2:mc≠0:=by omega
  go_simp
  try with_reducible rfl
 simp only[Act.put,List.getElem_toArray,List.getElem_cons_zero,List.getElem_cons_succ,List.setIfInBounds_toArray,List.set_cons_zero,List.set_cons_succ]
 refine ah (i:=8) (v:=.pointer (some ⟨qb,0,none⟩)) rfl (by kernel_rfl) (by kernel_rfl) (by kernel_rfl) (by kernel_rfl) (fun _ _ _ h=>h) rfl (fun w' hS'=> ?_) HS6.out ?_
 ·go_simp
  try with_reducible rfl
 simp only[Act.put,List.getElem_toArray,List.getElem_cons_zero,List.getElem_cons_succ,List.setIfInBounds_toArray,List.set_cons_zero,List.set_cons_succ]
 refine ah (i:=9) (v:=.pointer (some ⟨qb,0,none⟩)) rfl (by kernel_rfl) (by kernel_rfl) (by kernel_rfl) (by kernel_rfl) (fun _ _ _ h=>h) rfl (fun w' hS'=> ?_) HS6.out ?_
 ·go_simp
  try with_reducible rfl
 simp only[Act.put,List.getElem_toArray,List.getElem_cons_zero,List.getElem_cons_succ,List.setIfInBounds_toArray,List.set_cons_zero,List.set_cons_succ]
 refine ah (i:=10) (v:=.pointer (some ⟨qb,6,none⟩)) rfl (by kernel_rfl) (by kernel_rfl) (by kernel_rfl) (by kernel_rfl) (fun _ _ _ h=>h) rfl (fun w' hS'=> ?_) HS6.out ?_
 ·go_simp
  try with_reducible rfl
 simp only[Act.put,List.getElem_toArray,List.getElem_cons_zero,List.getElem_cons_succ,List.setIfInBounds_toArray,List.set_cons_zero,List.set_cons_succ]
 refine ah (i:=11) (v:=.slice (some ⟨mb,mo,none⟩) L mc) rfl (by kernel_rfl) (by kernel_rfl) (by kernel_rfl) (by kernel_rfl) (fun _ _ _ h=>h) rfl (fun w' hS'=> ?_) HS6.out ?_
 ·obtain⟨f6,_⟩:=HSC.out w' hS'
  go_simp
  try with_reducible rfl
 simp only[Act.put,List.getElem_toArray,List.getElem_cons_zero,List.getElem_cons_succ,List.setIfInBounds_toArray,List.set_cons_zero,List.set_cons_succ]
 refine ah (i:=12) (v:=.int .i64 i) rfl (by kernel_rfl) (by kernel_rfl) (by kernel_rfl) (by kernel_rfl) (fun _ _ _ h=>h) rfl (fun w' hS'=> ?_) HS6.out ?_
 ·go_simp
  try with_reducible rfl
 simp only[Act.put,List.getElem_toArray,List.getElem_cons_zero,List.getElem_cons_succ,List.setIfInBounds_toArray,List.set_cons_zero,List.set_cons_succ]
 refine ah (i:=13) (v:=.int .i64 ((i+1:Nat):Int)) rfl (by kernel_rfl) (by kernel_rfl) (by kernel_rfl) (by kernel_rfl) (fun _ _ _ h=>h) rfl (fun w' hS'=> ?_) HS6.out ?_
 ·go_simp
  rw[IntKind.wrap]
  simp[IntKind.bits,IntKind.signed]
  omega
 simp only[Act.put,List.getElem_toArray,List.getElem_cons_zero,List.getElem_cons_succ,List.setIfInBounds_toArray,List.set_cons_zero,List.set_cons_succ]
 refine ah (i:=14) (v:=.slice (some ⟨mb,zo,none⟩) (L-(i+1)) (mc-(i+1))) rfl (by kernel_rfl) (by kernel_rfl) (by kernel_rfl) (by kernel_rfl) (fun _ _ _ h=>h) rfl (fun w' hS'=> ?_) HS6.out ?_
 ·have hmc:=HMC.out
  have hm1:((i+1:Nat):Int)<=(L:Int):=by omega
  have e:(if mc=i+1 then some (⟨mb,mo,none⟩:Addr)else some ⟨mb,mo+(i+1)*4,none⟩)=some ⟨mb,zo,none⟩:=by
   rw[HZO.out]
   split<;>rfl
  go_simp
  intro hh
  exact absurd (hh (by omega)) (by omega)
 simp only[Act.put,List.getElem_toArray,List.getElem_cons_zero,List.getElem_cons_succ,List.setIfInBounds_toArray,List.set_cons_zero,List.set_cons_succ]
 refine aV (i:=7) (by kernel_rfl) rfl rfl (fun K hK=> ?_) (by decide)
 obtain⟨v7,w7,r7,ho7,hb7⟩:=HAP.out _ HS6.out
 have HB7:Hid (Below w6.heap.size w6 w7):=HS6.out.trans hb7
 refine dC (.const (.slice none 0 0)) (.tmp 100) rfl rfl rfl r7 ?_
 refine hK.out _ _ (fun _=>HB7.out) fun _=> ?_
 have HO7:=hide ho7
 have HL7:Hid (w6.heap.size<=w6.drew.heap.size/\w6.drew.heap.size<=w7.heap.size):=⟨Nat.le_refl _,hb7.size⟩
 clear hK r7 ho7 hb7
 simp only[Act.put,List.getElem_toArray,List.getElem_cons_zero,List.getElem_cons_succ,List.setIfInBounds_toArray,List.set_cons_zero,List.set_cons_succ]
 refine aV (i:=15) (by kernel_rfl) rfl rfl (fun K hK=> ?_) (by decide)
 obtain⟨v8,w8,r8,ho8,hb8⟩:=HAM.out w7 v7 _ HB7.out HO7.out HL7.out.2
 have HB8:Hid (Below w6.heap.size w6 w8):=HB7.out.trans (hb8.mono HL7.out.1)
 obtain⟨a8,c8,rfl⟩:=jX ho8
 have HO8:=hide ho8
 refine dC (.tmp 101) (.tmp 108) rfl rfl rfl r8 ?_
 refine hK.out _ _ (fun _=>HB8.out) fun _=> ?_
 clear hK r8 ho8 hb8
 simp only[Act.put,List.getElem_toArray,List.getElem_cons_zero,List.getElem_cons_succ,List.setIfInBounds_toArray,List.set_cons_zero,List.set_cons_succ]
 refine aV (i:=16) (by kernel_rfl) rfl rfl (fun K hK=> ?_) (by decide)
 go_simp
 refine hK.out _ _ (fun _=>HB8.out) fun _=> ?_
 clear hK
 try simp only[Act.put,List.getElem_toArray,List.getElem_cons_zero,List.getElem_cons_succ,List.setIfInBounds_toArray,List.set_cons_zero,List.set_cons_succ]
 refine aV (i:=17) (by kernel_rfl) rfl rfl (fun K hK=> ?_) (by decide)
 go_simp
 refine hK.out _ _ (fun _=>HB8.out) fun _=> ?_
 clear hK
 try simp only[Act.put,List.getElem_toArray,List.getElem_cons_zero,List.getElem_cons_succ,List.setIfInBounds_toArray,List.set_cons_zero,List.set_cons_succ]
 refine dU (by kernel_rfl) rfl rfl (by kernel_rfl) fun K hK=> ?_
 obtain⟨f6,cf⟩:=HSC.out _ HB8.out
 go_simp
 refine hK.out _ _ (NoPanic.normal ?_)
 clear hK f6 cf
 try simp only[Act.put,List.setIfInBounds_toArray,List.set_cons_zero,List.set_cons_succ]
 obtain⟨tk,htk⟩:∃tk,tk=cO room self next (cn 13 x) (cn 13 y) ((ys.map (cn 13)).eraseIdx i) (((st,ms,nt),(aa,ac),acts):Cl (n+1)) (b2.map Cz):=⟨_,rfl⟩
 have HACT:=hide (JA (y:=y) (w:=w) (w5:=w5) HQ6.out HB8.out hiL HLE.out HO8.out (Nat.le_refl _) HCI.out.2 HCO.out HAA.out HLL.out.2.1 (HW2.out _ HB6.out).1 HDB.out HHB2.out.1 HHB2.out.2.1 HHB2.out.2.2 (HW2.out _ HW4.out).1.size HB6a.out HB5.out.size HOB2.out hs hn HQL.out tk htk)
 have HTK:=hide htk
 clear htk
 generalize hw9:w8.setCell ⟨qb,6,none⟩ (.slice a8 (L-1) c8)=w9
 rw[hw9]at HACT
 have HK8:Hid (Kee (fun b=>b=qb) w8 w9):=by rw[<-hw9];exact aW _ _ _ _
 clear hw9
 have HK9:=hide HACT.out.1
 have HS9:=hide HACT.out.2.1
 have HAC:=hide HACT.out.2.2
 clear HACT
 have HX9:Hid (w9.heap[kx]? =some (.cells #[.int .i64 st.1.1,.int .i64 st.1.2.1,.string st.1.2.2,.slice st.2.1.1 st.2.2.length st.2.1.2,.int .i64 ms.1.1,.int .i64 ms.1.2.1,.string ms.1.2.2,.slice ms.2.1.1 ms.2.2.length ms.2.1.2,.slice aa A ac,.int .i64 nt.1.1,.int .i64 nt.1.2.1,.string nt.1.2.2,.slice nt.2.1.1 nt.2.2.length nt.2.1.2] 90)/\w9.heap[yb]? =some (.cells #[.int .i64 y.1.1,.int .i64 y.1.2.1,.string y.1.2.2,.slice y.2.1.1 y.2.2.length y.2.1.2] 25)):=by
  have hq:=HQL.out
  have h4:=bC HB8.out (bC HB6a.out (bC HB5.out (bC HB4.out HX3.out)))
  have h5:=bC HB8.out HX6.out
  have s1:=(HW2.out _ HIB.out).1.size
  have s2:=(HW2.out _ HW5.out).1.size
  have e1:=HKX.out
  have e2:=HYB.out
  exact⟨(HK8.out.block kx (Array.getElem?_eq_some_iff.1 h4).1 fun e=>by omega).trans h4,(HK8.out.block yb (Array.getElem?_eq_some_iff.1 h5).1 fun e=>by omega).trans h5⟩
 obtain⟨z0,z1,z2,z3,z4,z5,z6,z7,z8,z9,z10,z11,z12⟩:=KG HX9.out.1
 obtain⟨u0,u1,u2,u3⟩:=KM HX9.out.2
 go_wp2_with fail
 refine HAC.out.mono ?_
 rintro e w10 ⟨sv,pv,lv,rfl,HF⟩
 obtain⟨⟨sA,sL,sC,rfl⟩,⟨pA,pL,pC,rfl⟩,kA,kL,kC,rfl⟩:(∃a n c,sv=Value.slice a n c)/\(∃a n c,pv=Value.slice a n c)/\∃a n c,lv=Value.slice a n c:=by
  obtain⟨N,sd,sp,r1,r2,r3,_⟩:=HF.out.2.2
  obtain⟨a1,c1,e1⟩:=jX r1
  obtain⟨a2,c2,e2⟩:=jX r2
  obtain⟨a3,c3,e3⟩:=jX r3
  exact⟨⟨a1,_,c1,e1⟩,⟨a2,_,c2,e2⟩,a3,_,c3,e3⟩
 clear z0 z1 z2 z3 z4 z5 z6 z7 z8 z9 z10 z11 z12 u0 u1 u2 u3 HAC
 have HXR:Hid (w10.heap[rb]? =some (.cells #[.int .i64 0,.int .i64 0,.string ⟨#[]⟩,.slice none 0 0,.int .i64 0,.slice none 0 0,.slice none 0 0,.slice none 0 0] 43)/\rb<w6.heap.size):=by
  have h8:=bC HB6.out (bC HB12.out (bC HB01.out HX0.out))
  have l8:=(Array.getElem?_eq_some_iff.1 h8).1
  have h9:=(HK8.out.block rb (Nat.lt_of_lt_of_le l8 HB8.out.size) fun e=>by have:=HQL.out;have:=HRN.out;omega).trans (bC HB8.out h8)
  refine⟨(HF.out.1.block rb (Array.getElem?_eq_some_iff.1 h9).1 fun e=> ?_).trans h9,l8⟩
  have a1:=HQL.out
  have a2:=HRN.out
  have a3:rb<w4.heap.size:=by
   have a4:=(Array.getElem?_eq_some_iff.1 (bC HB12.out (bC HB01.out HX0.out))).1
   have a5:=HW4.out.size
   omega
  have a6:w4.heap.size<=g2:=HHB2.out.2.2
  rcases e with e|e
  ·omega
  ·omega
 have HQ0:Hid (QA qb name room x ys (some ⟨mb,mo,none⟩) mc Dq w):=HQ.out.kept (Nat.le_refl _) rfl (fun _ _ _=>rfl) (fun b q _=>q.1) fun e=>HQ.out.out ⟨e,HQL.out⟩
 have HEND:Hid (QsOut qb name room x ys Dq l self next w (.returned (.tuple #[.agg (fU y tk.fate (.slice sA sL sC) (.slice pA pL pC) (.slice kA kL kC)),.int .i64 0])) (w10.setCells rb 0 (fU y tk.fate (.slice sA sL sC) (.slice pA pL pC) (.slice kA kL kC)).toList)):=by
  have hf:=CZ (room:=room) (self:=self) (next:=next) (s:=cn 13 x) (m:=cn 13 y) (ms:=(ys.map (cn 13)).eraseIdx i) (((st,ms,nt),(aa,ac),acts):Cl (n+1)) (b2.map Cz)
  rw[<-HTK.out]at hf
  refine JQ HQ0.out (by rw[HTK.out];exact HSO.out) ⟨hf.2.symm,HYO.out.1,HYH.out.2.1,HYH.out.2.2.mono fun _ q=>q.1⟩ (by rw[hf.1,uQ]) HK9.out ⟨by rw[HRN.out];exact Nat.le_refl _,HXR.out.2,HS9.out⟩ ?_ HF.out ⟨_,HXR.out.1⟩
  have a6:w4.heap.size<=g2:=HHB2.out.2.2
  have a7:w.heap.size<=w4.heap.size:=(HW2.out _ HW4.out).1.size
  exact⟨by omega,a7⟩
 have HTH:Hid (w10.there rb 0 8):=bq HXR.out.1
 obtain⟨rc0,rc1,rc2,rc3,rc4,rc5,rc6,rc7⟩:=uf HXR.out.1
 obtain⟨rf0,rf1,rf2,rf3,rf4,rf5,rf6,rf7⟩:=KA HXR.out.1
 clear HF
 obtain⟨fa,hfa⟩:∃fa,fa=tk.fate:=⟨_,rfl⟩
 rw[<-hfa]at HEND ⊢
 clear hfa
 simp only[fU]at HEND ⊢
 go_wp2_with fail
 rw[iG]
 refine bodyPost_ret (v:=.tuple #[.agg #[.int .i64 y.1.1,.int .i64 y.1.2.1,.string y.1.2.2,.slice y.2.1.1 y.2.2.length y.2.1.2,.int .i64 fa,.slice sA sL sC,.slice pA pL pC,.slice kA kL kC],.int .i64 0]) (mQ Tryz.results10 rfl rfl (dB _ rfl HTH.out)) rfl ?_
 rw[HQQ.out]
 exact HEND.out
end Go.Proofs.YtbknffhilfoakaaGreat
