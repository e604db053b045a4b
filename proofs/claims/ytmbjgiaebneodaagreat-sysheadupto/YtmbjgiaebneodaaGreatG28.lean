/- What is proved here: the walk of proc's Step, over what its calls leave. No condition but that all lies in memory. -/
import Derived.Test.YtmbjgiaebneodaaGreatG27
namespace Go.Proofs.YtmbjgiaebneodaaGreat
open Go.RowKit
set_option maxRecDepth 100000
set_option maxHeartbeats 8000000
def Py (y0 y1:Int) (y2:ByteArray) (ya:Option Addr) (yl yc:Nat) (f:Int) (sa:Option Addr) (sl sc:Nat) (pa:Option Addr) (pl pc:Nat) (ka:Option Addr) (kl kc:Nat):Value:=.agg #[.int .i64 y0,.int .i64 y1,.string y2,.slice ya yl yc,.int .i64 f,.slice sa sl sc,.slice pa pl pc,.slice ka kl kc]
def M3:Value:=.agg #[.int .i64 0,.int .i64 0,.string ⟨#[]⟩,.slice none 0 0,.int .i64 0,.slice none 0 0,.slice none 0 0,.slice none 0 0]
def QZ {n:Nat} (e0:Int) (rng:Bool) (Nn:Prop) (T:Nat->Tc->Cl (n+1)->Int->Option Addr->Nat->Nat->Option Addr->Nat->Nat->Option Addr->Nat->Nat->World->Prop) (w:World) (e:Ending) (w':World):Prop:=
 (∃u,e=.returned (.tuple #[M3,.int .i64 u])/\Hid (Below w.heap.size w w'/\((u=e0/\e0≠0)∨(u=1/\e0=0/\rng=false)∨(u=4/\e0=0/\rng=true/\Nn))))∨
  ∃(i:Nat) (y:Tc) (c:Cl (n+1)) (f:Int) (sa:Option Addr) (sl sc:Nat) (pa:Option Addr) (pl pc:Nat) (ka:Option Addr) (kl kc:Nat),e=.returned (.tuple #[Py y.1.1 y.1.2.1 y.1.2.2 y.2.1.1 y.2.2.length y.2.1.2 f sa sl sc pa pl pc ka kl kc,.int .i64 0])/\Hid (e0=0/\rng=true/\∃W1 W2,T i y c f sa sl sc pa pl pc ka kl kc W1/\Below W1.heap.size W1 W2/\Kee (fun b=>b=w.heap.size) W2 w')
theorem zG (w:World) (q:Nat) (v0 v1 v2 v3 v4 v5 v6 v7:Value):(((((((w.setCell ⟨q,0,none⟩ v0).setCell ⟨q,1,none⟩ v1).setCell ⟨q,2,none⟩ v2).setCell ⟨q,3,none⟩ v3).setCell ⟨q,4,none⟩ v4).setCell ⟨q,5,none⟩ v5).setCell ⟨q,6,none⟩ v6).setCell ⟨q,7,none⟩ v7=w.setCells q 0 [v0,v1,v2,v3,v4,v5,v6,v7]:=rfl
theorem zH {w:World} {q:Nat} {u0 u1 u2 u3 v4 v5 v6 v7:Value} {t:TypeId} (h:w.heap[q]? =some (.cells #[u0,u1,u2,u3,v4,v5,v6,v7] t)) (v0 v1 v2 v3:Value):((((w.setCell ⟨q,0,none⟩ v0).setCell ⟨q,1,none⟩ v1).setCell ⟨q,2,none⟩ v2).setCell ⟨q,3,none⟩ v3).heap[q]? =some (.cells #[v0,v1,v2,v3,v4,v5,v6,v7] t):=by
 unfold World.setCell
 simp[Array.getElem?_modify,h]
theorem xJ {w:World} {q:Nat} {v0 v1 v2 v3 v4 u5 u6 u7:Value} {t:TypeId} (h:w.heap[q]? =some (.cells #[v0,v1,v2,v3,v4,u5,u6,u7] t)) (v5 v6 v7:Value):(((w.setCell ⟨q,5,none⟩ v5).setCell ⟨q,6,none⟩ v6).setCell ⟨q,7,none⟩ v7).heap[q]? =some (.cells #[v0,v1,v2,v3,v4,v5,v6,v7] t):=by
 unfold World.setCell
 simp[Array.getElem?_modify,h]
theorem xH:(Tryz.prog.info? 96).map (·.size)=some 8:=by kernel_rfl
theorem fw {W:World} {q:Nat} (vs:List Value) (h8:vs.length=8) (ht:W.there q 0 8):(loadVar 96 ⟨q,0,none⟩).run Tryz.prog (W.setCells q 0 vs)=.ok (.agg vs.toArray) (W.setCells q 0 vs):=
 run_loadVar_mid (P:=Tryz.prog) (W.setCells q 0 vs) q 0 96 vs _ (World.rangeAt_setCells_same W q 0 vs (by rw[h8];exact ht)) Tryz.underlying96 rfl (by rw[h8];exact xH)
theorem r9 {W:World} {q:Nat} (vs:List Value) (h8:vs.length=8) (ht:W.there q 0 8):(loadVar 96 ⟨q,0,none⟩).run Tryz.prog (W.setCells q 0 vs).drew=.ok (.agg vs.toArray) (W.setCells q 0 vs).drew:=
 run_loadVar_mid (P:=Tryz.prog) (W.setCells q 0 vs).drew q 0 96 vs _ ((World.rangeAt_drew _ _ _ _).2 (World.rangeAt_setCells_same W q 0 vs (by rw[h8];exact ht))) Tryz.underlying96 rfl (by rw[h8];exact xH)
theorem jg {w W:World} {q:Nat} (vs:List Value) (hb:Below w.heap.size w W) (hq:q=w.heap.size):Below w.heap.size w (W.setCells q 0 vs):=hb.trans ((cu q vs 0 W).1.below hb.size fun b hb' e=>by omega)
theorem IP {n:Nat} (pb:Nat) (name:ByteArray) (la:Option Addr) (L lc:Nat) (self next:Int) (e0:Int) (ca:Option Addr) (cL cc0:Nat) (w:World) (Nn:Prop) (K K2:Nat->Tc->Cl (n+1)->Nat->Nat->World->Prop) (T:Nat->Tc->Cl (n+1)->Int->Option Addr->Nat->Nat->Option Addr->Nat->Nat->Option Addr->Nat->Nat->World->Prop) (rng:Bool) (pM:Nat->Prop) (hpb:pb<w.heap.size) (HPM:Hid (∀b,pM b->b<w.heap.size)) (HPB:Hid (pM pb))
    (hrng:Hid (rng=(decide (1<=self) && decide (self<=99) && decide (1<=next) && decide (next<=92))))
    (HT:Hid (∀W,Below w.heap.size w W->Calls Tryz.prog 23 #[.slice la L lc] W fun e w'=>∃y0 y1 y2 ya yl yc,e=.returned (.tuple #[.agg #[.int .i64 y0,.int .i64 y1,.string y2,.slice ya yl yc],.int .i64 e0])/\Hid (Below W.heap.size W w')))
    (HNm:Hid (w.cell? ⟨pb,0,none⟩=some (.string name)))
    (HCl:Hid (∀W,e0=0->Below w.heap.size w W->Calls Tryz.prog 56 #[.slice la L lc,.string name] W fun e w'=>e=.returned (.slice ca cL cc0)/\Hid (Below W.heap.size W w')))
    (HCh:Hid (∀W,e0=0->rng=true->Below w.heap.size w W->Calls Tryz.prog 55 #[.pointer (some ⟨pb,0,none⟩),.slice ca cL cc0] W fun e w'=>(e=.returned (.tuple #[.agg GR.toArray,.bool false])/\Hid (Below W.heap.size W w'/\Nn))∨∃(i:Nat) (y:Tc) (c:Cl (n+1)) (bg cc:Nat),e=.returned (.tuple #[.agg (Dp i y c (some ⟨bg,0,none⟩) 4 cc).toArray,.bool true])/\Hid (Below W.heap.size W w'/\W.heap.size<=bg/\bg<w'.heap.size/\i<=1000000/\K i y c bg cc w')))
    (HM:Hid (∀i y c bg cc W0 W,K i y c bg cc W0->Below W0.heap.size W0 W->∃ma ml mc,(W.cell? ⟨pb,7,none⟩=some (.slice ma ml mc)/\W.frozen? ⟨pb,7,none⟩=false)/\Hid (∀W2,Below W.heap.size W W2->Calls Tryz.prog 57 #[.slice ma ml mc,.int .i64 i,.int .i64 ((i:Int)+1)] W2 fun e w'=>∃ma' ml' mc',e=.returned (.slice ma' ml' mc')/\Hid (Kee pM W2 w'/\w'.cell? ⟨pb,7,none⟩=some (.slice ma ml mc)/\w'.frozen? ⟨pb,7,none⟩=false/\K2 i y c bg cc (w'.setCell ⟨pb,7,none⟩ (.slice ma' ml' mc'))))))
    (HFo:Hid (∀i y c bg cc W0 W db,K2 i y c bg cc W0->Below W0.heap.size W0 W->W0.heap.size<=db->W.heap[db]? =some (.cells #[.slice (some ⟨bg,0,none⟩) 4 cc,.int .i64 self,.int .i64 next,.slice none 0 0,.slice none 0 0,.slice none 0 0,.bool false] 142)->Calls Tryz.prog 58 #[.pointer (some ⟨pb,0,none⟩),QF c,.pointer (some ⟨db,0,none⟩)] W fun e w'=>∃f,e=.returned (.int .i64 f)/\Hid (Kee (fun b=>pM b∨b=db∨b=bg) W w'/\(f=0∨f=1->∃v0 v1 v2 v6 sa sl sc pa pl pc ka kl kc,w'.heap[db]? =some (.cells #[v0,v1,v2,.slice sa sl sc,.slice pa pl pc,.slice ka kl kc,v6] 142)/\T i y c f sa sl sc pa pl pc ka kl kc w')/\(¬(f=0∨f=1)->T i y c f none 0 0 none 0 0 none 0 0 w')))):
    Calls Tryz.prog 34 #[.pointer (some ⟨pb,0,none⟩),.slice la L lc,.int .i64 self,.int .i64 next] w (QZ e0 rng Nn T w):=by
 have HW:Hid (∃w0 q ob,(w0=w.alloc ob/\q=w.heap.size/\ob=.cells #[.int .i64 0,.int .i64 0,.string ⟨#[]⟩,.slice none 0 0,.int .i64 0,.slice none 0 0,.slice none 0 0,.slice none 0 0] 96)/\Below w.heap.size w w0/\w0.heap[q]? =some ob/\w.heap.size<w0.heap.size/\Hid (q=w.heap.size)):=⟨_,_,_,⟨rfl,rfl,rfl⟩,(Below.refl _ _).alloc (Nat.le_refl _) _,heap_alloc_new _ _,by simp,rfl⟩
 go_enter Tryz.func34,Tryz.ntmps34
 go_upto_region 1 with fail
 obtain⟨w0,q0,ob,⟨hw0,hq0,hob⟩,hb0,hh0,hlt0,HQW⟩:=HW.out
 rw[hob]at hw0 hh0
 rw[<-hw0,<-hq0]
 have HB0:=hide hb0
 have HQ0:=hide hh0
 have HLT:=hide hlt0
 clear hw0 hq0 hob hb0 hh0 hlt0 HW
 go_wp2_with fail
 refine(HT.out _ HB0.out).mono ?_
 rintro e w1 ⟨y0,y1,y2,ya,yl,yc,rfl,H1⟩
 have HB1:=hide (HB0.out.trans (H1.out.mono HB0.out.size))
 have HQ1:Hid (w1.heap[q0]? =_):=(H1.out.block q0 (Array.getElem?_eq_some_iff.1 HQ0.out).1).trans HQ0.out
 have HLT1:=hide (Nat.lt_of_lt_of_le HLT.out H1.out.size)
 clear H1 HQ0 HB0 HLT HT
 have HWA:Hid (∃w2,w2=w1.alloc (.cells #[.int .i64 y0,.int .i64 y1,.string y2,.slice ya yl yc] 30)/\Below w1.heap.size w1 w2):=⟨_,rfl,(Below.refl _ _).alloc (Nat.le_refl _) _⟩
 go_upto_region 2 with fail
 obtain⟨w2,hw2,hb2⟩:=HWA.out
 rw[<-hw2]
 have HB2:=hide (HB1.out.trans (hb2.mono HB1.out.size))
 have HQ2:Hid (w2.heap[q0]? =_):=(hb2.block q0 (Array.getElem?_eq_some_iff.1 HQ1.out).1).trans HQ1.out
 have HLT2:=hide (Nat.lt_of_lt_of_le HLT1.out hb2.size)
 clear hw2 hb2 HWA HQ1 HB1 HLT1
 by_cases h0:e0=0
 rotate_left
 ·have HE:=hide h0
  have z0:=ae HQ2.out 0
  have z1:=ae HQ2.out 1
  have z2:=ae HQ2.out 2
  have z3:=ae HQ2.out 3
  have z4:=ae HQ2.out 4
  have z5:=ae HQ2.out 5
  have z6:=ae HQ2.out 6
  have z7:=ae HQ2.out 7
  simp only[List.getElem?_cons_zero,List.getElem?_cons_succ]at z0 z1 z2 z3 z4 z5 z6 z7
  have zf:∀j,w2.frozen? ⟨q0,j,none⟩=false:=fun j=>by simp[World.frozen?,HQ2.out]
  go_wp2_with fail
  rw[zG]
  refine bodyPost_ret (v:=.tuple #[M3,.int .i64 e0]) (results_cell_tmp Tryz.results34 rfl (fw _ rfl (bP HQ2.out)) rfl) rfl ?_
  exact Or.inl ⟨e0,rfl,jg _ HB2.out HQW.out,Or.inl ⟨rfl,HE.out⟩⟩
 ·have HCl2:=hide fun W=>HCl.out W h0
  have HCh2:=hide fun W=>HCh.out W h0
  clear HCl HCh
  subst h0
  cases hr:rng
  ·rw[hr]at hrng
   have HRF:=hide hrng.out
   clear hrng
   by_cases r0:self<1
   ·have z0:=ae HQ2.out 0
    have z1:=ae HQ2.out 1
    have z2:=ae HQ2.out 2
    have z3:=ae HQ2.out 3
    have z4:=ae HQ2.out 4
    have z5:=ae HQ2.out 5
    have z6:=ae HQ2.out 6
    have z7:=ae HQ2.out 7
    simp only[List.getElem?_cons_zero,List.getElem?_cons_succ]at z0 z1 z2 z3 z4 z5 z6 z7
    have zf:∀j,w2.frozen? ⟨q0,j,none⟩=false:=fun j=>by simp[World.frozen?,HQ2.out]
    go_wp2_with fail
    rw[zG]
    refine bodyPost_ret (v:=.tuple #[M3,.int .i64 1]) (results_cell_tmp Tryz.results34 rfl (fw _ rfl (bP HQ2.out)) rfl) rfl ?_
    exact Or.inl ⟨1,rfl,jg _ HB2.out HQW.out,Or.inr (Or.inl ⟨rfl,rfl,by first|rfl|exact hr⟩)⟩
   ·by_cases r1:99<self
    ·have z0:=ae HQ2.out 0
     have z1:=ae HQ2.out 1
     have z2:=ae HQ2.out 2
     have z3:=ae HQ2.out 3
     have z4:=ae HQ2.out 4
     have z5:=ae HQ2.out 5
     have z6:=ae HQ2.out 6
     have z7:=ae HQ2.out 7
     simp only[List.getElem?_cons_zero,List.getElem?_cons_succ]at z0 z1 z2 z3 z4 z5 z6 z7
     have zf:∀j,w2.frozen? ⟨q0,j,none⟩=false:=fun j=>by simp[World.frozen?,HQ2.out]
     go_wp2_with fail
     rw[zG]
     refine bodyPost_ret (v:=.tuple #[M3,.int .i64 1]) (results_cell_tmp Tryz.results34 rfl (fw _ rfl (bP HQ2.out)) rfl) rfl ?_
     exact Or.inl ⟨1,rfl,jg _ HB2.out HQW.out,Or.inr (Or.inl ⟨rfl,rfl,by first|rfl|exact hr⟩)⟩
    ·by_cases r2:next<1
     ·have z0:=ae HQ2.out 0
      have z1:=ae HQ2.out 1
      have z2:=ae HQ2.out 2
      have z3:=ae HQ2.out 3
      have z4:=ae HQ2.out 4
      have z5:=ae HQ2.out 5
      have z6:=ae HQ2.out 6
      have z7:=ae HQ2.out 7
      simp only[List.getElem?_cons_zero,List.getElem?_cons_succ]at z0 z1 z2 z3 z4 z5 z6 z7
      have zf:∀j,w2.frozen? ⟨q0,j,none⟩=false:=fun j=>by simp[World.frozen?,HQ2.out]
      go_wp2_with fail
      rw[zG]
      refine bodyPost_ret (v:=.tuple #[M3,.int .i64 1]) (results_cell_tmp Tryz.results34 rfl (fw _ rfl (bP HQ2.out)) rfl) rfl ?_
      exact Or.inl ⟨1,rfl,jg _ HB2.out HQW.out,Or.inr (Or.inl ⟨rfl,rfl,by first|rfl|exact hr⟩)⟩
     ·by_cases r3:92<next
      ·have z0:=ae HQ2.out 0
       have z1:=ae HQ2.out 1
       have z2:=ae HQ2.out 2
       have z3:=ae HQ2.out 3
       have z4:=ae HQ2.out 4
       have z5:=ae HQ2.out 5
       have z6:=ae HQ2.out 6
       have z7:=ae HQ2.out 7
       simp only[List.getElem?_cons_zero,List.getElem?_cons_succ]at z0 z1 z2 z3 z4 z5 z6 z7
       have zf:∀j,w2.frozen? ⟨q0,j,none⟩=false:=fun j=>by simp[World.frozen?,HQ2.out]
       go_wp2_with fail
       rw[zG]
       refine bodyPost_ret (v:=.tuple #[M3,.int .i64 1]) (results_cell_tmp Tryz.results34 rfl (fw _ rfl (bP HQ2.out)) rfl) rfl ?_
       exact Or.inl ⟨1,rfl,jg _ HB2.out HQW.out,Or.inr (Or.inl ⟨rfl,rfl,by first|rfl|exact hr⟩)⟩
      ·exfalso
       have h:=HRF.out
       have a1:1<=self:=by omega
       have a2:self<=99:=by omega
       have a3:1<=next:=by omega
       have a4:next<=92:=by omega
       simp[a1,a2,a3,a4]at h
  ·rw[hr]at hrng
   have HRT:=hide hrng.out
   have ⟨a1,a2,a3,a4⟩:1<=self/\self<=99/\1<=next/\next<=92:=by
    have h:=HRT.out
    simp only[Bool.true_eq,Bool.and_eq_true,decide_eq_true_eq]at h
    exact⟨h.1.1.1,h.1.1.2,h.1.2,h.2⟩
   have r0:¬self<1:=by omega
   have r1:¬99<self:=by omega
   have r2:¬next<1:=by omega
   have r3:¬92<next:=by omega
   have hnm:w2.cell? ⟨pb,0,none⟩=some (.string name):=(HB2.out.cell (p:=⟨pb,0,none⟩) hpb).trans HNm.out
   have HCh3:=hide fun W=>HCh2.out W hr
   clear a1 a2 a3 a4 hrng HCh2
   go_wp2_with fail
   refine(HCl2.out w2 HB2.out).mono ?_
   rintro e w3 ⟨rfl,H3⟩
   have HB3:=hide (HB2.out.trans (H3.out.mono HB2.out.size))
   have HQ3:=hide ((H3.out.block q0 (Array.getElem?_eq_some_iff.1 HQ2.out).1).trans HQ2.out)
   have HLT3:=hide (Nat.lt_of_lt_of_le HLT2.out H3.out.size)
   clear H3 HCl2 HQ2 HB2 HLT2 hnm
   go_wp2_with fail
   refine(HCh3.out w3 HB3.out).mono ?_
   rintro e w4 (⟨rfl,H4⟩|⟨i,y,c,bg,cc,rfl,H4⟩)
   ·have HB4:=hide (HB3.out.trans (H4.out.1.mono HB3.out.size))
    have HQ4:=hide ((H4.out.1.block q0 (Array.getElem?_eq_some_iff.1 HQ3.out).1).trans HQ3.out)
    have HWD:Hid (∃w5 q1,(w5=w4.alloc (.cells #[.int .i64 0,.int .i64 0,.int .i64 0,.string ⟨#[]⟩,.slice none 0 0,.int .i64 0,.int .i64 0,.string ⟨#[]⟩,.slice none 0 0,.int .i64 0,.int .i64 0,.string ⟨#[]⟩,.slice none 0 0,.slice none 0 0,.int .i64 0,.int .i64 0,.string ⟨#[]⟩,.slice none 0 0,.slice none 0 0] 136)/\q1=w4.heap.size)/\Hid (Below w4.heap.size w4 w5/\w5.heap[q1]? =some (.cells #[.int .i64 0,.int .i64 0,.int .i64 0,.string ⟨#[]⟩,.slice none 0 0,.int .i64 0,.int .i64 0,.string ⟨#[]⟩,.slice none 0 0,.int .i64 0,.int .i64 0,.string ⟨#[]⟩,.slice none 0 0,.slice none 0 0,.int .i64 0,.int .i64 0,.string ⟨#[]⟩,.slice none 0 0,.slice none 0 0] 136)/\w4.heap.size<=q1)):=⟨_,_,⟨rfl,rfl⟩,(Below.refl _ _).alloc (Nat.le_refl _) _,heap_alloc_new _ _,Nat.le_refl _⟩
    dsimp only
    iterate 13 go_step
    obtain⟨w5,q1,⟨hw5,hq1⟩,H5⟩:=HWD.out
    rw[<-hw5,<-hq1]
    clear hw5 hq1
    have HTH:Hid (w5.there q1 0 19):=bP H5.out.2.1
    have HQL:=hide (Array.getElem?_eq_some_iff.1 HQ4.out).1
    have HWF:Hid (∃wf,wf=w5.setCells q1 0 GR.toArray.toList/\Hid (Kee (fun q=>q=q1) w5 wf)):=⟨_,rfl,(cu q1 _ 0 w5).1⟩
    refine wpList_store_mid rfl 136 (.tmp 12) (.tmp 49) rfl q1 0 GR.toArray rfl rfl HTH.out gF FO ?_
    obtain⟨wf,hwf,HKF⟩:=HWF.out
    rw[<-hwf]
    clear hwf HTH HWF HWD
    have HB5:=hide ((HB4.out.trans (H5.out.1.mono HB4.out.size)).trans (HKF.out.below (by have:=HB4.out.size;have:=H5.out.1.size;omega) fun b hb e=>by have:=HB4.out.size;have:=H5.out.2.2;omega))
    have HQ5:=hide ((HKF.out.block q0 (Nat.lt_of_lt_of_le HQL.out H5.out.1.size) (fun e=>by have:=HQL.out;have:=H5.out.2.2;omega)).trans ((H5.out.1.block q0 HQL.out).trans HQ4.out))
    have HNN:=hide H4.out.2
    clear HKF HQ4 HB4 H4 H5
    have z0:=ae HQ5.out 0
    have z1:=ae HQ5.out 1
    have z2:=ae HQ5.out 2
    have z3:=ae HQ5.out 3
    have z4:=ae HQ5.out 4
    have z5:=ae HQ5.out 5
    have z6:=ae HQ5.out 6
    have z7:=ae HQ5.out 7
    simp only[List.getElem?_cons_zero,List.getElem?_cons_succ]at z0 z1 z2 z3 z4 z5 z6 z7
    have zf:∀j,wf.frozen? ⟨q0,j,none⟩=false:=fun j=>by simp[World.frozen?,HQ5.out]
    go_wp2_with fail
    rw[zG]
    refine bodyPost_ret (v:=.tuple #[M3,.int .i64 4]) (results_cell_tmp Tryz.results34 rfl (fw _ rfl (bP HQ5.out)) rfl) rfl ?_
    exact Or.inl ⟨4,rfl,jg _ HB5.out HQW.out,Or.inr (Or.inr ⟨rfl,rfl,hr,HNN.out⟩)⟩
   ·have HB4:=hide (HB3.out.trans (H4.out.1.mono HB3.out.size))
    have HQ4:=hide ((H4.out.1.block q0 (Array.getElem?_eq_some_iff.1 HQ3.out).1).trans HQ3.out)
    have HWD:Hid (∃w5 q1,(w5=w4.alloc (.cells #[.int .i64 0,.int .i64 0,.int .i64 0,.string ⟨#[]⟩,.slice none 0 0,.int .i64 0,.int .i64 0,.string ⟨#[]⟩,.slice none 0 0,.int .i64 0,.int .i64 0,.string ⟨#[]⟩,.slice none 0 0,.slice none 0 0,.int .i64 0,.int .i64 0,.string ⟨#[]⟩,.slice none 0 0,.slice none 0 0] 136)/\q1=w4.heap.size)/\Hid (Below w4.heap.size w4 w5/\w5.heap[q1]? =some (.cells #[.int .i64 0,.int .i64 0,.int .i64 0,.string ⟨#[]⟩,.slice none 0 0,.int .i64 0,.int .i64 0,.string ⟨#[]⟩,.slice none 0 0,.int .i64 0,.int .i64 0,.string ⟨#[]⟩,.slice none 0 0,.slice none 0 0,.int .i64 0,.int .i64 0,.string ⟨#[]⟩,.slice none 0 0,.slice none 0 0] 136)/\w4.heap.size<=q1)):=⟨_,_,⟨rfl,rfl⟩,(Below.refl _ _).alloc (Nat.le_refl _) _,heap_alloc_new _ _,Nat.le_refl _⟩
    dsimp only
    iterate 13 go_step
    obtain⟨w5,q1,⟨hw5,hq1⟩,H5⟩:=HWD.out
    rw[<-hw5,<-hq1]
    clear hw5 hq1
    have HTH:Hid (w5.there q1 0 19):=bP H5.out.2.1
    have HQL:=hide (Array.getElem?_eq_some_iff.1 HQ4.out).1
    have HWF:Hid (∃wf,wf=w5.setCells q1 0 (Dp i y c (some ⟨bg,0,none⟩) 4 cc).toArray.toList/\Hid (wf.rangeAt q1 0 (Dp i y c (some ⟨bg,0,none⟩) 4 cc)/\Kee (fun q=>q=q1) w5 wf)):=⟨_,rfl,World.rangeAt_setCells_same w5 q1 0 _ HTH.out,(cu q1 _ 0 w5).1⟩
    refine wpList_store_mid rfl 136 (.tmp 12) (.tmp 49) rfl q1 0 (Dp i y c (some ⟨bg,0,none⟩) 4 cc).toArray rfl rfl HTH.out gF (Gh i y c _ 4 cc) ?_
    obtain⟨wf,hwf,HKF⟩:=HWF.out
    rw[<-hwf]
    clear hwf HTH HWF HWD
    have HBF:Hid (Below w4.heap.size w4 wf):=H5.out.1.trans (HKF.out.2.below H5.out.1.size fun b hb e=>by have:=H5.out.2.2;omega)
    have HC0:Hid (∀W:World,wf.heap[q1]? =W.heap[q1]? ->W.rangeAt q1 0 (Dp i y c (some ⟨bg,0,none⟩) 4 cc)):=fun W hW j v hj=>by
     have:=HKF.out.1 j v hj
     simp only[World.cell?,<-hW]at this ⊢
     exact this
    have HQN:=hide H5.out.2.2
    have HQ1L:Hid (q1<wf.heap.size):=Nat.lt_of_lt_of_le (Array.getElem?_eq_some_iff.1 H5.out.2.1).1 HKF.out.2.size
    have x0:wf.cell? ⟨q1,0,none⟩=some (.int .i64 i):=HKF.out.1 0 _ rfl
    clear H5 HKF
    obtain⟨ma,ml,mc,⟨c7,f7⟩,HDEL⟩:=HM.out i y c bg cc w4 wf H4.out.2.2.2.2 HBF.out
    have HBG:=hide (⟨H4.out.2.1,H4.out.2.2.1⟩:_/\_)
    have hi6:(i:Int)<=1000000:=by have:=H4.out.2.2.2.1;omega
    have hi0:(0:Int)<=(i:Int):=by omega
    have hwr:IntKind.i64.wrap ((i:Int)+1)=(i:Int)+1:=by
     rw[IntKind.wrap_i64]
     omega
    clear H4 HM
    go_upto_region 9 with fail
    have HBD:Hid (Below wf.heap.size wf wf.drew):=(Below.refl _ _).drew
    have hS0:wf.drew.cell? ⟨pb,7,none⟩=some (.slice ma ml mc)/\wf.drew.cell? ⟨q1,0,none⟩=some (.int .i64 i):=⟨c7,x0⟩
    clear c7 x0 f7
    refine wp_region_noPanic ?_
    refine iF (fun w'=>w'.cell? ⟨pb,7,none⟩=some (.slice ma ml mc)/\w'.cell? ⟨q1,0,none⟩=some (.int .i64 i)) 13 (by kernel_rfl) ?_
    try simp only[List.size_toArray]
    refine ay (i:=0) (v:= ?_) rfl (by kernel_rfl) (by kernel_rfl) (by kernel_rfl) (by kernel_rfl) (fun _ _ _ h=>h) rfl ?_ hS0 ?_
    rotate_left
    ·intro w' hw'
     try dsimp only at hw'
     go_simp
     try with_reducible rfl
    try simp only[Act.put]
    refine ay (i:=1) (v:= ?_) rfl (by kernel_rfl) (by kernel_rfl) (by kernel_rfl) (by kernel_rfl) (fun _ _ _ h=>h) rfl ?_ hS0 ?_
    rotate_left
    ·intro w' hw'
     try dsimp only at hw'
     go_simp
     try with_reducible rfl
    try simp only[Act.put]
    refine ay (i:=2) (v:= ?_) rfl (by kernel_rfl) (by kernel_rfl) (by kernel_rfl) (by kernel_rfl) (fun _ _ _ h=>h) rfl ?_ hS0 ?_
    rotate_left
    ·intro w' hw'
     try dsimp only at hw'
     go_simp
     try with_reducible rfl
    try simp only[Act.put]
    refine ay (i:=3) (v:= ?_) rfl (by kernel_rfl) (by kernel_rfl) (by kernel_rfl) (by kernel_rfl) (fun _ _ _ h=>h) rfl ?_ hS0 ?_
    rotate_left
    ·intro w' hw'
     try dsimp only at hw'
     go_simp
     try with_reducible rfl
    try simp only[Act.put]
    refine ay (i:=4) (v:= ?_) rfl (by kernel_rfl) (by kernel_rfl) (by kernel_rfl) (by kernel_rfl) (fun _ _ _ h=>h) rfl ?_ hS0 ?_
    rotate_left
    ·intro w' hw'
     try dsimp only at hw'
     go_simp
     try with_reducible rfl
    try simp only[Act.put]
    refine ay (i:=5) (v:= ?_) rfl (by kernel_rfl) (by kernel_rfl) (by kernel_rfl) (by kernel_rfl) (fun _ _ _ h=>h) rfl ?_ hS0 ?_
    rotate_left
    ·intro w' hw'
     try dsimp only at hw'
     go_simp
     try with_reducible rfl
    try simp only[Act.put]
    refine ay (i:=6) (v:= ?_) rfl (by kernel_rfl) (by kernel_rfl) (by kernel_rfl) (by kernel_rfl) (fun _ _ _ h=>h) rfl ?_ hS0 ?_
    rotate_left
    ·intro w' hw'
     try dsimp only at hw'
     go_simp
     try with_reducible rfl
    try simp only[Act.put]
    refine ay (i:=7) (v:= ?_) rfl (by kernel_rfl) (by kernel_rfl) (by kernel_rfl) (by kernel_rfl) (fun _ _ _ h=>h) rfl ?_ hS0 ?_
    rotate_left
    ·intro w' hw'
     try dsimp only at hw'
     go_simp
     try with_reducible rfl
    try simp only[Act.put]
    refine ay (i:=8) (v:= ?_) rfl (by kernel_rfl) (by kernel_rfl) (by kernel_rfl) (by kernel_rfl) (fun _ _ _ h=>h) rfl ?_ hS0 ?_
    rotate_left
    ·intro w' hw'
     try dsimp only at hw'
     go_simp
     try with_reducible rfl
    try simp only[Act.put]
    refine ay (i:=9) (v:= ?_) rfl (by kernel_rfl) (by kernel_rfl) (by kernel_rfl) (by kernel_rfl) (fun _ _ _ h=>h) rfl ?_ hS0 ?_
    rotate_left
    ·intro w' hw'
     try dsimp only at hw'
     go_simp
     try with_reducible rfl
    try simp only[Act.put]
    refine bG (i:=10) (by kernel_rfl) rfl rfl (fun K hK=> ?_) (by decide)
    go_simp
    refine(HDEL.out _ HBD.out).mono ?_
    rintro e w6 ⟨ma',ml',mc',rfl,H6⟩
    have HK6:Hid (Kee pM wf w6):=(aj HBD.out pM).trans H6.out.1 fun _ _ e=>e
    have hS6:w6.cell? ⟨pb,7,none⟩=some (.slice ma ml mc)/\w6.cell? ⟨q1,0,none⟩=some (.int .i64 i):=⟨H6.out.2.1,(HK6.out.cell 0 HQ1L.out (fun e=>by have:=HPM.out q1 e;have:=HB4.out.size;have:=HQN.out;omega)).trans hS0.2⟩
    have f7:=H6.out.2.2.1
    have HP6:=hide H6.out.2.2.2
    have HK7:Hid (Kee pM wf (w6.setCell ⟨pb,7,none⟩ (.slice ma' ml' mc'))):=HK6.out.trans (aP _ _ _ _) fun b _ e=>by rw[e];exact HPB.out
    refine hK.out _ _ (fun _=>hS6) (fun _=> ?_)
    clear hK K H6 hS0
    try simp only[Act.put,List.setIfInBounds_toArray,List.set_cons_zero,List.set_cons_succ]
    refine bG (i:=11) (by kernel_rfl) rfl rfl (fun K hK=> ?_) (by decide)
    go_simp
    refine hK.out _ _ (fun _=>hS6) (fun _=> ?_)
    clear hK K
    try simp only[Act.put,List.setIfInBounds_toArray,List.set_cons_zero,List.set_cons_succ]
    refine ay (i:=12) (v:= ?_) rfl (by kernel_rfl) (by kernel_rfl) (by kernel_rfl) (by kernel_rfl) (fun _ _ _ h=>h) rfl ?_ hS6 ?_
    rotate_left
    ·intro w' hw'
     try dsimp only at hw'
     go_simp
     try with_reducible rfl
    try simp only[Act.put,List.setIfInBounds_toArray]
    have c7:=hS6.1
    refine iE (by kernel_rfl) rfl rfl (by kernel_rfl) (fun K hK=> ?_)
    go_simp
    refine hK.out _ _ (NoPanic.normal ?_)
    clear hK K c7 f7 hS6
    try simp only[Act.put,List.setIfInBounds_toArray,List.set_cons_zero,List.set_cons_succ]
    have HW7:Hid (∃w7,w7=w6.setCell ⟨pb,7,none⟩ (.slice ma' ml' mc')/\Hid (K2 i y c bg cc w7/\Kee pM wf w7)):=⟨_,rfl,HP6.out,HK7.out⟩
    obtain⟨w7,hw7,H7⟩:=HW7.out
    rw[<-hw7]
    clear hw7 HW7 HP6 HK6 HK7
    have HS7:=hide H7.out.2.size
    have HNQ:Hid (∀b,w.heap.size<=b->¬pM b):=fun b hb e=>by have:=HPM.out b e;omega
    have HW4:=hide HB4.out.size
    have HQ7:=hide ((H7.out.2.block q0 (Nat.lt_of_lt_of_le HQL.out HBF.out.size) (HNQ.out q0 (by rw[HQW.out];exact Nat.le_refl _))).trans ((HBF.out.block q0 HQL.out).trans HQ4.out))
    have HQ7B:=hide (H7.out.2.block q1 HQ1L.out (HNQ.out q1 (by have:=HQN.out;have:=HW4.out;omega)))
    have HC7:=hide (HC0.out w7 HQ7B.out.symm)
    have x18:w7.cell? ⟨q1,18,none⟩=some (.slice (some ⟨bg,0,none⟩) 4 cc):=HC7.out 18 _ rfl
    have HWB:Hid (∃w8 db,(w8=w7.alloc (.cells #[.slice (some ⟨bg,0,none⟩) 4 cc,.int .i64 self,.int .i64 next,.slice none 0 0,.slice none 0 0,.slice none 0 0,.bool false] 142)/\db=w7.heap.size)/\Hid (Below w7.heap.size w7 w8/\w8.heap[db]? =some (.cells #[.slice (some ⟨bg,0,none⟩) 4 cc,.int .i64 self,.int .i64 next,.slice none 0 0,.slice none 0 0,.slice none 0 0,.bool false] 142)/\w7.heap.size<=db)):=⟨_,_,⟨rfl,rfl⟩,(Below.refl _ _).alloc (Nat.le_refl _) _,heap_alloc_new _ _,Nat.le_refl _⟩
    go_upto_region 11 with fail
    obtain⟨w8,db,⟨hw8,hdb⟩,H8⟩:=HWB.out
    rw[<-hw8,<-hdb]
    clear hw8 hdb HWB x18
    have HC8:=hide (HC0.out w8 (((H8.out.1.block q1 (Nat.lt_of_lt_of_le HQ1L.out HS7.out)).trans HQ7B.out).symm))
    have u0:w8.cell? ⟨q1,5,none⟩=some (.int .i64 c.1.1.1.1):=HC8.out 5 _ rfl
    have u1:w8.cell? ⟨q1,6,none⟩=some (.int .i64 c.1.1.1.2.1):=HC8.out 6 _ rfl
    have u2:w8.cell? ⟨q1,7,none⟩=some (.string c.1.1.1.2.2):=HC8.out 7 _ rfl
    have u3:w8.cell? ⟨q1,8,none⟩=some (.slice c.1.1.2.1.1 c.1.1.2.2.length c.1.1.2.1.2):=HC8.out 8 _ rfl
    have u4:w8.cell? ⟨q1,9,none⟩=some (.int .i64 c.1.2.1.1.1):=HC8.out 9 _ rfl
    have u5:w8.cell? ⟨q1,10,none⟩=some (.int .i64 c.1.2.1.1.2.1):=HC8.out 10 _ rfl
    have u6:w8.cell? ⟨q1,11,none⟩=some (.string c.1.2.1.1.2.2):=HC8.out 11 _ rfl
    have u7:w8.cell? ⟨q1,12,none⟩=some (.slice c.1.2.1.2.1.1 c.1.2.1.2.2.length c.1.2.1.2.1.2):=HC8.out 12 _ rfl
    have u8:w8.cell? ⟨q1,13,none⟩=some (.slice c.2.1.1 c.2.2.length c.2.1.2):=HC8.out 13 _ rfl
    have u9:w8.cell? ⟨q1,14,none⟩=some (.int .i64 c.1.2.2.1.1):=HC8.out 14 _ rfl
    have u10:w8.cell? ⟨q1,15,none⟩=some (.int .i64 c.1.2.2.1.2.1):=HC8.out 15 _ rfl
    have u11:w8.cell? ⟨q1,16,none⟩=some (.string c.1.2.2.1.2.2):=HC8.out 16 _ rfl
    have u12:w8.cell? ⟨q1,17,none⟩=some (.slice c.1.2.2.2.1.1 c.1.2.2.2.2.length c.1.2.2.2.1.2):=HC8.out 17 _ rfl
    have HFF:=hide (HFo.out i y c bg cc w7 w8 db H7.out.1 H8.out.1 H8.out.2.2 H8.out.2.1)
    go_wp2_with fail
    refine HFF.out.mono ?_
    rintro e w9 ⟨f,rfl,H9⟩
    clear u0 u1 u2 u3 u4 u5 u6 u7 u8 u9 u10 u11 u12 HFF
    have HS9:=hide H9.out.1.size
    have HS8:=hide H8.out.1.size
    have HNE:Hid (q0≠db/\q0≠bg/\q1≠db/\q1≠bg/\q0<w8.heap.size/\q1<w8.heap.size/\w.heap.size<=q0/\w.heap.size<=q1):=by
     have h1:=HQW.out
     have h2:=HLT3.out
     have h3:=HBG.out
     have h4:=HQN.out
     have h5:=HQ1L.out
     have h6:=HS7.out
     have h7:=H8.out.2.2
     have h8:=HS8.out
     have h9:=HQL.out
     have h10:=HBF.out.size
     have h11:=HW4.out
     exact⟨by omega,by omega,by omega,by omega,by omega,by omega,by omega,by omega⟩
    have HQ9:=hide ((H9.out.1.block q0 HNE.out.2.2.2.2.1 (fun e=>by
     rcases e with e|e|e
     ·exact HNQ.out q0 HNE.out.2.2.2.2.2.2.1 e
     ·exact HNE.out.1 e
     ·exact HNE.out.2.1 e)).trans ((H8.out.1.block q0 (Array.getElem?_eq_some_iff.1 HQ7.out).1).trans HQ7.out))
    have HC9:=hide (HC0.out w9 (((H9.out.1.block q1 HNE.out.2.2.2.2.2.1 (fun e=>by
     rcases e with e|e|e
     ·exact HNQ.out q1 HNE.out.2.2.2.2.2.2.2 e
     ·exact HNE.out.2.2.1 e
     ·exact HNE.out.2.2.2.1 e)).trans ((H8.out.1.block q1 (Nat.lt_of_lt_of_le HQ1L.out HS7.out)).trans HQ7B.out)).symm))
    have HTT:=hide H9.out.2
    clear H9 HC8 HC7 HQ7 HQ7B H7 H8 HC0 HFo
    have HWT:Hid (∃w10 q5,(w10=w9.alloc (.cells #[.int .i64 0,.int .i64 0,.string ⟨#[]⟩,.slice none 0 0,.int .i64 f,.slice none 0 0,.slice none 0 0,.slice none 0 0] 96)/\q5=w9.heap.size)/\Hid (Below w9.heap.size w9 w10/\w10.heap[q5]? =some (.cells #[.int .i64 0,.int .i64 0,.string ⟨#[]⟩,.slice none 0 0,.int .i64 f,.slice none 0 0,.slice none 0 0,.slice none 0 0] 96)/\w9.heap.size<=q5)):=⟨_,_,⟨rfl,rfl⟩,(Below.refl _ _).alloc (Nat.le_refl _) _,heap_alloc_new _ _,Nat.le_refl _⟩
    go_upto_region 12 with fail
    obtain⟨w10,q5,⟨hw10,hq5⟩,H10⟩:=HWT.out
    rw[<-hw10,<-hq5]
    clear hw10 hq5 HWT
    have t4:w10.cell? ⟨q5,4,none⟩=some (.int .i64 f):=ae H10.out.2.1 4
    have HQ10:=hide ((H10.out.1.block q0 (Array.getElem?_eq_some_iff.1 HQ9.out).1).trans HQ9.out)
    have HNE5:Hid (q0≠q5/\q1≠q5/\q1<w9.heap.size):=by
     have h1:=HNE.out
     have h2:=HS9.out
     have h3:=H10.out.2.2
     exact⟨by omega,by omega,by omega⟩
    by_cases hf:f=0∨f=1
    ·by_cases h00:f=0
     ·have hf0:(f==0)=true:=beq_iff_eq.2 h00
      have HQW10:=hide HQ10.out
      have HQT:=hide H10.out.2.1
      obtain⟨v0,v1,v2,v6,sa,sl,sc,pa,pl,pc,ka,kl,kc,hdb,ht2⟩:=HTT.out.1 hf
      have HT2:=hide ht2
      have HDB:=hide ((H10.out.1.block db (Array.getElem?_eq_some_iff.1 hdb).1).trans hdb)
      have hne:db≠q5:=by
       have h1:=(Array.getElem?_eq_some_iff.1 hdb).1
       have h2:=H10.out.2.2
       omega
      have hne2:q5≠db:=fun e=>hne e.symm
      clear hdb ht2 HQ10 hf h00
      have d3:w10.cell? ⟨db,3,none⟩=some (.slice sa sl sc):=ae HDB.out 3
      have d4:w10.cell? ⟨db,4,none⟩=some (.slice pa pl pc):=ae HDB.out 4
      have d5:w10.cell? ⟨db,5,none⟩=some (.slice ka kl kc):=ae HDB.out 5
      have e5:=ae HQT.out 5
      have e6:=ae HQT.out 6
      have e7:=ae HQT.out 7
      simp only[List.getElem?_cons_zero,List.getElem?_cons_succ]at e5 e6 e7
      have ef:∀j,w10.frozen? ⟨q5,j,none⟩=false:=fun j=>by simp[World.frozen?,HQT.out]
      go_upto_region 13 with fail
      go_region_held3 (fun W=>W.cell? ⟨db,3,none⟩=some (.slice sa sl sc)/\W.cell? ⟨db,4,none⟩=some (.slice pa pl pc)/\W.cell? ⟨db,5,none⟩=some (.slice ka kl kc)) (first|(go_keep;done)|exact⟨d3,d4,d5⟩) ((fail))
      have HWV:Hid (∃w11,w11=((w10.setCell ⟨q5,5,none⟩ (.slice sa sl sc)).setCell ⟨q5,6,none⟩ (.slice pa pl pc)).setCell ⟨q5,7,none⟩ (.slice ka kl kc)/\Hid (Kee (fun b=>b=q5) w10 w11/\w11.heap[q5]? =some (.cells #[.int .i64 0,.int .i64 0,.string ⟨#[]⟩,.slice none 0 0,.int .i64 f,.slice sa sl sc,.slice pa pl pc,.slice ka kl kc] 96))):=⟨_,rfl,Kee.trans (Kee.trans (aP w10 q5 5 _) (aP _ q5 6 _) fun _ _ e=>e) (aP _ q5 7 _) fun _ _ e=>e,xJ HQT.out _ _ _⟩
      obtain⟨w11,hw11,H11⟩:=HWV.out
      rw[<-hw11]
      clear hw11 HWV d3 d4 d5 e5 e6 e7 ef t4
      have HQW11:=hide ((H11.out.1.block q0 (Array.getElem?_eq_some_iff.1 HQW10.out).1 HNE5.out.1).trans HQW10.out)
      go_upto_region 14 with fail
      have HM1:=hide (fun(j:Nat) (v:Value) (hj:(Dp i y c (some ⟨bg,0,none⟩) 4 cc)[j]? =some v)=>(H11.out.1.cell (0+j) (Nat.lt_of_lt_of_le HNE5.out.2.2 H10.out.1.size) HNE5.out.2.1).trans ((H10.out.1.cell (p:=⟨q1,0+j,none⟩) HNE5.out.2.2).trans (HC9.out j v hj)))
      have m0:w11.cell? ⟨q1,1,none⟩=some (.int .i64 y.1.1):=HM1.out 1 _ rfl
      have m1:w11.cell? ⟨q1,2,none⟩=some (.int .i64 y.1.2.1):=HM1.out 2 _ rfl
      have m2:w11.cell? ⟨q1,3,none⟩=some (.string y.1.2.2):=HM1.out 3 _ rfl
      have m3:w11.cell? ⟨q1,4,none⟩=some (.slice y.2.1.1 y.2.2.length y.2.1.2):=HM1.out 4 _ rfl
      have n0:=ae H11.out.2 0
      have n1:=ae H11.out.2 1
      have n2:=ae H11.out.2 2
      have n3:=ae H11.out.2 3
      simp only[List.getElem?_cons_zero,List.getElem?_cons_succ]at n0 n1 n2 n3
      have nf:∀j,w11.frozen? ⟨q5,j,none⟩=false:=fun j=>by simp[World.frozen?,H11.out.2]
      have HWU:Hid (∃w12,w12=(((w11.setCell ⟨q5,0,none⟩ (.int .i64 y.1.1)).setCell ⟨q5,1,none⟩ (.int .i64 y.1.2.1)).setCell ⟨q5,2,none⟩ (.string y.1.2.2)).setCell ⟨q5,3,none⟩ (.slice y.2.1.1 y.2.2.length y.2.1.2)/\Hid (Kee (fun b=>b=q5) w11 w12/\w12.heap[q5]? =some (.cells #[.int .i64 y.1.1,.int .i64 y.1.2.1,.string y.1.2.2,.slice y.2.1.1 y.2.2.length y.2.1.2,.int .i64 f,.slice sa sl sc,.slice pa pl pc,.slice ka kl kc] 96))):=⟨_,rfl,kM w11 q5 0 _ _ _ _,zH H11.out.2 _ _ _ _⟩
      go_upto_region 15 with fail
      obtain⟨w12,hw12,H12⟩:=HWU.out
      rw[<-hw12]
      clear hw12 HWU m0 m1 m2 m3 n0 n1 n2 n3 nf HM1
      have HQ12:=hide ((H12.out.1.block q0 (Array.getElem?_eq_some_iff.1 HQW11.out).1 HNE5.out.1).trans HQW11.out)
      have n0:=ae H12.out.2 0
      have n1:=ae H12.out.2 1
      have n2:=ae H12.out.2 2
      have n3:=ae H12.out.2 3
      have n4:=ae H12.out.2 4
      have n5:=ae H12.out.2 5
      have n6:=ae H12.out.2 6
      have n7:=ae H12.out.2 7
      have z0:=ae HQ12.out 0
      have z1:=ae HQ12.out 1
      have z2:=ae HQ12.out 2
      have z3:=ae HQ12.out 3
      have z4:=ae HQ12.out 4
      have z5:=ae HQ12.out 5
      have z6:=ae HQ12.out 6
      have z7:=ae HQ12.out 7
      simp only[List.getElem?_cons_zero,List.getElem?_cons_succ]at n0 n1 n2 n3 n4 n5 n6 n7 z0 z1 z2 z3 z4 z5 z6 z7
      have zf:∀j,w12.frozen? ⟨q0,j,none⟩=false:=fun j=>by simp[World.frozen?,HQ12.out]
      go_wp2_with fail
      rw[zG]
      refine bodyPost_ret (v:=.tuple #[Py y.1.1 y.1.2.1 y.1.2.2 y.2.1.1 y.2.2.length y.2.1.2 f sa sl sc pa pl pc ka kl kc,.int .i64 0]) (results_cell_tmp Tryz.results34 rfl (r9 _ rfl (bP HQ12.out)) rfl) rfl ?_
      refine Or.inr ⟨i,y,c,f,sa,sl,sc,pa,pl,pc,ka,kl,kc,rfl,rfl,by first|rfl|exact hr,w9,w12,HT2.out,((H10.out.1.trans (H11.out.1.below H10.out.1.size fun b hb e=>by have:=H10.out.2.2;omega)).trans (H12.out.1.below (Nat.le_trans H10.out.1.size H11.out.1.size) fun b hb e=>by have:=H10.out.2.2;omega)), ?_⟩
      rw[<-HQW.out]
      exact(cu q0 _ 0 w12).1.trans (aj ((Below.refl _ _).drew) _) fun _ _ e=>e
     ·have hf0:(f==0)=false:=beq_eq_false_iff_ne.2 h00
      have hf1:(f==1)=true:=beq_iff_eq.2 (hf.resolve_left h00)
      have HQW10:=hide HQ10.out
      have HQT:=hide H10.out.2.1
      obtain⟨v0,v1,v2,v6,sa,sl,sc,pa,pl,pc,ka,kl,kc,hdb,ht2⟩:=HTT.out.1 hf
      have HT2:=hide ht2
      have HDB:=hide ((H10.out.1.block db (Array.getElem?_eq_some_iff.1 hdb).1).trans hdb)
      have hne:db≠q5:=by
       have h1:=(Array.getElem?_eq_some_iff.1 hdb).1
       have h2:=H10.out.2.2
       omega
      have hne2:q5≠db:=fun e=>hne e.symm
      clear hdb ht2 HQ10 hf h00
      have d3:w10.cell? ⟨db,3,none⟩=some (.slice sa sl sc):=ae HDB.out 3
      have d4:w10.cell? ⟨db,4,none⟩=some (.slice pa pl pc):=ae HDB.out 4
      have d5:w10.cell? ⟨db,5,none⟩=some (.slice ka kl kc):=ae HDB.out 5
      have e5:=ae HQT.out 5
      have e6:=ae HQT.out 6
      have e7:=ae HQT.out 7
      simp only[List.getElem?_cons_zero,List.getElem?_cons_succ]at e5 e6 e7
      have ef:∀j,w10.frozen? ⟨q5,j,none⟩=false:=fun j=>by simp[World.frozen?,HQT.out]
      go_upto_region 13 with fail
      go_region_held3 (fun W=>W.cell? ⟨db,3,none⟩=some (.slice sa sl sc)/\W.cell? ⟨db,4,none⟩=some (.slice pa pl pc)/\W.cell? ⟨db,5,none⟩=some (.slice ka kl kc)) (first|(go_keep;done)|exact⟨d3,d4,d5⟩) ((fail))
      have HWV:Hid (∃w11,w11=((w10.setCell ⟨q5,5,none⟩ (.slice sa sl sc)).setCell ⟨q5,6,none⟩ (.slice pa pl pc)).setCell ⟨q5,7,none⟩ (.slice ka kl kc)/\Hid (Kee (fun b=>b=q5) w10 w11/\w11.heap[q5]? =some (.cells #[.int .i64 0,.int .i64 0,.string ⟨#[]⟩,.slice none 0 0,.int .i64 f,.slice sa sl sc,.slice pa pl pc,.slice ka kl kc] 96))):=⟨_,rfl,Kee.trans (Kee.trans (aP w10 q5 5 _) (aP _ q5 6 _) fun _ _ e=>e) (aP _ q5 7 _) fun _ _ e=>e,xJ HQT.out _ _ _⟩
      obtain⟨w11,hw11,H11⟩:=HWV.out
      rw[<-hw11]
      clear hw11 HWV d3 d4 d5 e5 e6 e7 ef t4
      have HQW11:=hide ((H11.out.1.block q0 (Array.getElem?_eq_some_iff.1 HQW10.out).1 HNE5.out.1).trans HQW10.out)
      go_upto_region 14 with fail
      have HM1:=hide (fun(j:Nat) (v:Value) (hj:(Dp i y c (some ⟨bg,0,none⟩) 4 cc)[j]? =some v)=>(H11.out.1.cell (0+j) (Nat.lt_of_lt_of_le HNE5.out.2.2 H10.out.1.size) HNE5.out.2.1).trans ((H10.out.1.cell (p:=⟨q1,0+j,none⟩) HNE5.out.2.2).trans (HC9.out j v hj)))
      have m0:w11.cell? ⟨q1,1,none⟩=some (.int .i64 y.1.1):=HM1.out 1 _ rfl
      have m1:w11.cell? ⟨q1,2,none⟩=some (.int .i64 y.1.2.1):=HM1.out 2 _ rfl
      have m2:w11.cell? ⟨q1,3,none⟩=some (.string y.1.2.2):=HM1.out 3 _ rfl
      have m3:w11.cell? ⟨q1,4,none⟩=some (.slice y.2.1.1 y.2.2.length y.2.1.2):=HM1.out 4 _ rfl
      have n0:=ae H11.out.2 0
      have n1:=ae H11.out.2 1
      have n2:=ae H11.out.2 2
      have n3:=ae H11.out.2 3
      simp only[List.getElem?_cons_zero,List.getElem?_cons_succ]at n0 n1 n2 n3
      have nf:∀j,w11.frozen? ⟨q5,j,none⟩=false:=fun j=>by simp[World.frozen?,H11.out.2]
      have HWU:Hid (∃w12,w12=(((w11.setCell ⟨q5,0,none⟩ (.int .i64 y.1.1)).setCell ⟨q5,1,none⟩ (.int .i64 y.1.2.1)).setCell ⟨q5,2,none⟩ (.string y.1.2.2)).setCell ⟨q5,3,none⟩ (.slice y.2.1.1 y.2.2.length y.2.1.2)/\Hid (Kee (fun b=>b=q5) w11 w12/\w12.heap[q5]? =some (.cells #[.int .i64 y.1.1,.int .i64 y.1.2.1,.string y.1.2.2,.slice y.2.1.1 y.2.2.length y.2.1.2,.int .i64 f,.slice sa sl sc,.slice pa pl pc,.slice ka kl kc] 96))):=⟨_,rfl,kM w11 q5 0 _ _ _ _,zH H11.out.2 _ _ _ _⟩
      go_upto_region 15 with fail
      obtain⟨w12,hw12,H12⟩:=HWU.out
      rw[<-hw12]
      clear hw12 HWU m0 m1 m2 m3 n0 n1 n2 n3 nf HM1
      have HQ12:=hide ((H12.out.1.block q0 (Array.getElem?_eq_some_iff.1 HQW11.out).1 HNE5.out.1).trans HQW11.out)
      have n0:=ae H12.out.2 0
      have n1:=ae H12.out.2 1
      have n2:=ae H12.out.2 2
      have n3:=ae H12.out.2 3
      have n4:=ae H12.out.2 4
      have n5:=ae H12.out.2 5
      have n6:=ae H12.out.2 6
      have n7:=ae H12.out.2 7
      have z0:=ae HQ12.out 0
      have z1:=ae HQ12.out 1
      have z2:=ae HQ12.out 2
      have z3:=ae HQ12.out 3
      have z4:=ae HQ12.out 4
      have z5:=ae HQ12.out 5
      have z6:=ae HQ12.out 6
      have z7:=ae HQ12.out 7
      simp only[List.getElem?_cons_zero,List.getElem?_cons_succ]at n0 n1 n2 n3 n4 n5 n6 n7 z0 z1 z2 z3 z4 z5 z6 z7
      have zf:∀j,w12.frozen? ⟨q0,j,none⟩=false:=fun j=>by simp[World.frozen?,HQ12.out]
      go_wp2_with fail
      rw[zG]
      refine bodyPost_ret (v:=.tuple #[Py y.1.1 y.1.2.1 y.1.2.2 y.2.1.1 y.2.2.length y.2.1.2 f sa sl sc pa pl pc ka kl kc,.int .i64 0]) (results_cell_tmp Tryz.results34 rfl (r9 _ rfl (bP HQ12.out)) rfl) rfl ?_
      refine Or.inr ⟨i,y,c,f,sa,sl,sc,pa,pl,pc,ka,kl,kc,rfl,rfl,by first|rfl|exact hr,w9,w12,HT2.out,((H10.out.1.trans (H11.out.1.below H10.out.1.size fun b hb e=>by have:=H10.out.2.2;omega)).trans (H12.out.1.below (Nat.le_trans H10.out.1.size H11.out.1.size) fun b hb e=>by have:=H10.out.2.2;omega)), ?_⟩
      rw[<-HQW.out]
      exact(cu q0 _ 0 w12).1.trans (aj ((Below.refl _ _).drew) _) fun _ _ e=>e
    ·have HT2:=hide (HTT.out.2 hf)
     have hf0:(f==0)=false:=beq_eq_false_iff_ne.2 fun e=>hf (Or.inl e)
     have hf1:(f==1)=false:=beq_eq_false_iff_ne.2 fun e=>hf (Or.inr e)
     have HQW10:=hide HQ10.out
     have HQT:=hide H10.out.2.1
     clear hf t4 HQ10
     have t4:w10.cell? ⟨q5,4,none⟩=some (.int .i64 f):=ae HQT.out 4
     go_upto_region 14 with fail
     clear t4
     have HM1:=hide (fun j v hj=>(H10.out.1.cell (p:=⟨q1,0+j,none⟩) HNE5.out.2.2).trans (HC9.out j v hj))
     have m0:w10.cell? ⟨q1,1,none⟩=some (.int .i64 y.1.1):=HM1.out 1 _ rfl
     have m1:w10.cell? ⟨q1,2,none⟩=some (.int .i64 y.1.2.1):=HM1.out 2 _ rfl
     have m2:w10.cell? ⟨q1,3,none⟩=some (.string y.1.2.2):=HM1.out 3 _ rfl
     have m3:w10.cell? ⟨q1,4,none⟩=some (.slice y.2.1.1 y.2.2.length y.2.1.2):=HM1.out 4 _ rfl
     have n0:=ae HQT.out 0
     have n1:=ae HQT.out 1
     have n2:=ae HQT.out 2
     have n3:=ae HQT.out 3
     simp only[List.getElem?_cons_zero,List.getElem?_cons_succ]at n0 n1 n2 n3
     have nf:∀j,w10.frozen? ⟨q5,j,none⟩=false:=fun j=>by simp[World.frozen?,HQT.out]
     have HWU:Hid (∃w12,w12=(((w10.setCell ⟨q5,0,none⟩ (.int .i64 y.1.1)).setCell ⟨q5,1,none⟩ (.int .i64 y.1.2.1)).setCell ⟨q5,2,none⟩ (.string y.1.2.2)).setCell ⟨q5,3,none⟩ (.slice y.2.1.1 y.2.2.length y.2.1.2)/\Hid (Kee (fun b=>b=q5) w10 w12/\w12.heap[q5]? =some (.cells #[.int .i64 y.1.1,.int .i64 y.1.2.1,.string y.1.2.2,.slice y.2.1.1 y.2.2.length y.2.1.2,.int .i64 f,.slice none 0 0,.slice none 0 0,.slice none 0 0] 96))):=⟨_,rfl,kM w10 q5 0 _ _ _ _,zH HQT.out _ _ _ _⟩
     go_upto_region 15 with fail
     obtain⟨w12,hw12,H12⟩:=HWU.out
     rw[<-hw12]
     clear hw12 HWU m0 m1 m2 m3 n0 n1 n2 n3 nf HM1
     have HQ12:=hide ((H12.out.1.block q0 (Array.getElem?_eq_some_iff.1 HQW10.out).1 HNE5.out.1).trans HQW10.out)
     have n0:=ae H12.out.2 0
     have n1:=ae H12.out.2 1
     have n2:=ae H12.out.2 2
     have n3:=ae H12.out.2 3
     have n4:=ae H12.out.2 4
     have n5:=ae H12.out.2 5
     have n6:=ae H12.out.2 6
     have n7:=ae H12.out.2 7
     have z0:=ae HQ12.out 0
     have z1:=ae HQ12.out 1
     have z2:=ae HQ12.out 2
     have z3:=ae HQ12.out 3
     have z4:=ae HQ12.out 4
     have z5:=ae HQ12.out 5
     have z6:=ae HQ12.out 6
     have z7:=ae HQ12.out 7
     simp only[List.getElem?_cons_zero,List.getElem?_cons_succ]at n0 n1 n2 n3 n4 n5 n6 n7 z0 z1 z2 z3 z4 z5 z6 z7
     have zf:∀j,w12.frozen? ⟨q0,j,none⟩=false:=fun j=>by simp[World.frozen?,HQ12.out]
     go_wp2_with fail
     rw[zG]
     refine bodyPost_ret (v:=.tuple #[Py y.1.1 y.1.2.1 y.1.2.2 y.2.1.1 y.2.2.length y.2.1.2 f none 0 0 none 0 0 none 0 0,.int .i64 0]) (results_cell_tmp Tryz.results34 rfl (fw _ rfl (bP HQ12.out)) rfl) rfl ?_
     refine Or.inr ⟨i,y,c,f,none,0,0,none,0,0,none,0,0,rfl,rfl,by first|rfl|exact hr,w9,w12,HT2.out,(H10.out.1.trans (H12.out.1.below H10.out.1.size fun b hb e=>by have:=H10.out.2.2;omega)), ?_⟩
     rw[<-HQW.out]
     exact(cu q0 _ 0 w12).1
end Go.Proofs.YtmbjgiaebneodaaGreat
