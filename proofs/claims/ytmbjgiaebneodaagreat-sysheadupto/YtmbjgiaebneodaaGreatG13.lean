/- What is proved here: plain facts and contracts that the claimed theorem stands on. No condition but those that each names. -/
import Derived.Test.YtmbjgiaebneodaaGreatG12
import Derived.OrdersHeld
namespace Go.Proofs.YtmbjgiaebneodaaGreat
open Go.RowKit
set_option maxRecDepth 100000
set_option maxHeartbeats 4000000
def xQ (N:Nat) (o:Option (Tm (N+1))) (w:World) (e:Ending) (w':World):Prop:=
 ∃y:Tm (N+1),e=.returned (.tuple #[.agg #[.int .i64 y.1.1,.int .i64 y.1.2.1,.string y.1.2.2,.slice y.2.1.1 y.2.2.length y.2.1.2],.bool o.isSome])/\Hid (Below w.heap.size w w'/\In w'.heap.size w' (N+1) y/\Off (fun q=>w.heap.size<=q) (N+1) y/\same (N+1) y (N+1) (o.getD (zeroV N))=true)
theorem LM {N:Nat} {E:Int} {o:Option (Tm N)}:(Gd E (lS E o)==0)=(lS E o).isSome:=by
 unfold Gd
 by_cases hE:E=0
 ·rw[if_pos hE]
  cases (lS E o).isSome<;>simp
 ·rw[if_neg hE]
  have:lS E o=none:=by unfold lS;rw[if_neg hE]
  rw[this]
  simp[hE]
theorem Bq {N:Nat} (y:Tm (N+1)):val (N+1) y=.agg #[.int .i64 y.1.1,.int .i64 y.1.2.1,.string y.1.2.2,.slice y.2.1.1 y.2.2.length y.2.1.2]:=rfl
theorem Li {w w':World} {t:TypeId} {v0 v1 v2 v3:Value} (h:Below (w.alloc (.cells #[v0,v1,v2,v3] t)).drew.heap.size (w.alloc (.cells #[v0,v1,v2,v3] t)).drew w'):
    w'.cell? ⟨w.heap.size,0,none⟩=some v0/\w'.cell? ⟨w.heap.size,1,none⟩=some v1/\w'.cell? ⟨w.heap.size,2,none⟩=some v2/\w'.cell? ⟨w.heap.size,3,none⟩=some v3/\w'.frozen? ⟨w.heap.size,0,none⟩=false/\w'.frozen? ⟨w.heap.size,1,none⟩=false/\w'.frozen? ⟨w.heap.size,2,none⟩=false/\w'.frozen? ⟨w.heap.size,3,none⟩=false:=by
 have hz:=(h.block w.heap.size (by simp[World.drew])).trans (heap_alloc_new w (.cells #[v0,v1,v2,v3] t))
 exact⟨ae hz 0,ae hz 1,ae hz 2,ae hz 3,by simp[World.frozen?,hz],by simp[World.frozen?,hz],by simp[World.frozen?,hz],by simp[World.frozen?,hz]⟩
theorem PI {w w':World} {t:TypeId} {v0 v1 v2 v3:Value} (h:Below (w.alloc (.cells #[v0,v1,v2,v3] t)).drew.heap.size (w.alloc (.cells #[v0,v1,v2,v3] t)).drew w'):w'.heap[w.heap.size]? =some (.cells #[v0,v1,v2,v3] t):=
 (h.block w.heap.size (by simp[World.drew])).trans (heap_alloc_new w (.cells #[v0,v1,v2,v3] t))
theorem xL {w:World} {g:Nat} {t:TypeId} {u0 u1 u2 u3:Value} (h:w.heap[g]? =some (.cells #[u0,u1,u2,u3] t)) (v0 v1 v2 v3:Value):(bK w g 0 v0 v1 v2 v3).heap[g]? =some (.cells #[v0,v1,v2,v3] t):=by
 simp[bK,World.setCell,Array.getElem?_modify,h]
def DvBox (N:Nat) (y:Tm (N+1)) (w0:World) (q p:Nat) (w2 wz:World):Prop:=
 Below w0.heap.size w0 wz/\wz.heap[p]? =some (.cells #[.int .i64 y.1.1,.int .i64 y.1.2.1,.string y.1.2.2,.slice y.2.1.1 y.2.2.length y.2.1.2] 30)/\p≠q/\(∀r,r<w2.heap.size->r≠p->wz.heap[r]? =w2.heap[r]?)/\Off (fun r=>w0.heap.size<=r/\r<w2.heap.size/\r≠p) (N+1) y
theorem DvBox.cells {N:Nat} {y:Tm (N+1)} {w0 w2 wz:World} {q p:Nat} (h:DvBox N y w0 q p w2 wz) (hq:q<w0.heap.size) {t:TypeId} {v0 v1 v2 v3:Value} (hz:w0.heap[q]? =some (.cells #[v0,v1,v2,v3] t)):
    (wz.cell? ⟨p,0,none⟩=some (.int .i64 y.1.1)/\wz.cell? ⟨p,1,none⟩=some (.int .i64 y.1.2.1)/\wz.cell? ⟨p,2,none⟩=some (.string y.1.2.2)/\wz.cell? ⟨p,3,none⟩=some (.slice y.2.1.1 y.2.2.length y.2.1.2))/\
    (wz.cell? ⟨q,0,none⟩=some v0/\wz.cell? ⟨q,1,none⟩=some v1/\wz.cell? ⟨q,2,none⟩=some v2/\wz.cell? ⟨q,3,none⟩=some v3)/\wz.frozen? ⟨q,0,none⟩=false/\wz.frozen? ⟨q,1,none⟩=false/\wz.frozen? ⟨q,2,none⟩=false/\wz.frozen? ⟨q,3,none⟩=false/\p≠q:=by
 have e:=(h.1.block q hq).trans hz
 exact⟨⟨ae h.2.1 0,ae h.2.1 1,ae h.2.1 2,ae h.2.1 3⟩,⟨ae e 0,ae e 1,ae e 2,ae e 3⟩,by simp[World.frozen?,e],by simp[World.frozen?,e],by simp[World.frozen?,e],by simp[World.frozen?,e],h.2.2.1⟩
theorem DvBox.close {N:Nat} {y:Tm (N+1)} {E:Int} {o:Option (Tm (N+1))} {w w0 w2 wz:World} {q p:Nat} (h:DvBox N y w0 q p w2 wz) (hb:Below w.heap.size w w0) (hqw:w.heap.size<=q) (hq:q<w0.heap.size) (hin:In w2.heap.size w2 (N+1) y) (hs:same (N+1) y (N+1) ((lS E o).getD (zeroV N))=true) {v0 v1 v2 v3:Value} (hsz:w2.heap.size<=wz.heap.size):
    xQ N (lS E o) w (.returned (.tuple #[.agg #[.int .i64 y.1.1,.int .i64 y.1.2.1,.string y.1.2.2,.slice y.2.1.1 y.2.2.length y.2.1.2],.bool (Gd E (lS E o)==0)])) (bK wz q 0 v0 v1 v2 v3):=by
 obtain⟨h1,h2,h3,h4,h5⟩:=h
 have hbz:=hb.trans (h1.mono hb.size)
 have hb0:=hb.size
 refine⟨y,by rw[LM],bL hbz hqw _ _ _ _, ?_,h5.mono fun r hr=>by omega,hs⟩
 rw[aJ]
 exact(In.off (P:=fun r=>w0.heap.size<=r/\r<w2.heap.size/\r≠p) (fun r hr=>(aA (by omega) _ _ _ _).trans (h4 r hr.2.1 hr.2.2)) h5 hin).mono hsz
theorem zZ (N:Nat) (E:Int) (o:Option (Tm (N+1))) (x0 x1:Int) (x2:ByteArray) (xa:Option Addr) (xl xc:Nat) (a:Option Addr) (c:Nat) (self:Int) (db:Nat) (w:World) (hdb:db<w.heap.size)
    (d0:w.cell? ⟨db,0,none⟩=some (.slice a 4 c)) (d1:w.cell? ⟨db,1,none⟩=some (.int .i64 self))
    (HV:Hid (∀W,Below w.heap.size w W->Calls Tryz.prog 103 #[.agg #[.int .i64 x0,.int .i64 x1,.string x2,.slice xa xl xc],.slice a 4 c,.int .i64 self] W (A9 N E o W))):
    Calls Tryz.prog 83 #[.pointer (some ⟨db,0,none⟩),.agg #[.int .i64 x0,.int .i64 x1,.string x2,.slice xa xl xc]] w (xQ N (lS E o) w):=by
 have HW:Hid (∃w0 g q,(w0=(w.alloc (.cells #[.int .i64 x0,.int .i64 x1,.string x2,.slice xa xl xc] 30)).alloc (.cells #[.int .i64 0,.int .i64 0,.string ⟨#[]⟩,.slice none 0 0] 30)/\g=w.heap.size/\q=w.heap.size+1)/\(g<w0.heap.size/\db<w0.heap.size/\q<w0.heap.size/\w.heap.size<=q)/\Below w.heap.size w w0/\w0.heap[q]? =some (.cells #[.int .i64 0,.int .i64 0,.string ⟨#[]⟩,.slice none 0 0] 30)/\∀W,Below w0.heap.size w0 W->(W.cell? ⟨g,0,none⟩=some (.int .i64 x0)/\W.cell? ⟨g,1,none⟩=some (.int .i64 x1)/\W.cell? ⟨g,2,none⟩=some (.string x2)/\W.cell? ⟨g,3,none⟩=some (.slice xa xl xc))/\W.cell? ⟨db,0,none⟩=some (.slice a 4 c)/\W.cell? ⟨db,1,none⟩=some (.int .i64 self)):=by
  have hb0:Below w.heap.size w ((w.alloc (.cells #[.int .i64 x0,.int .i64 x1,.string x2,.slice xa xl xc] 30)).alloc (.cells #[.int .i64 0,.int .i64 0,.string ⟨#[]⟩,.slice none 0 0] 30)):=((Below.refl _ _).alloc (Nat.le_refl _) _).alloc (by simp) _
  have n1:=heap_alloc_new (w.alloc (.cells #[.int .i64 x0,.int .i64 x1,.string x2,.slice xa xl xc] 30)) (.cells #[.int .i64 0,.int .i64 0,.string ⟨#[]⟩,.slice none 0 0] 30)
  rw[World.size_alloc]at n1
  refine⟨_,_,_,⟨rfl,rfl,rfl⟩,⟨by simp;omega,by simp;omega,by simp,by omega⟩,hb0,n1,fun W hW=> ?_⟩
  have e0:=(hW.block w.heap.size (by simp;omega)).trans ((((Below.refl _ _).alloc (Nat.le_refl _) _).block w.heap.size (by simp)).trans (heap_alloc_new w (.cells #[.int .i64 x0,.int .i64 x1,.string x2,.slice xa xl xc] 30)))
  have hb:Below w.heap.size w W:=hb0.trans (hW.mono (by simp;omega))
  exact⟨⟨ae e0 0,ae e0 1,ae e0 2,ae e0 3⟩,(hb.cell (p:=⟨db,0,none⟩) hdb).trans d0,(hb.cell (p:=⟨db,1,none⟩) hdb).trans d1⟩
 go_enter Tryz.func83,Tryz.ntmps83
 go_wp2_with fail
 obtain⟨w0,g,q,⟨hw0,hg,hq⟩,HGL,HB0,HQ0,HC⟩:=HW.out
 rw[<-hw0,<-hq,<-hg]
 replace HGL:=hide HGL
 replace HB0:=hide HB0
 replace HQ0:=hide HQ0
 replace HC:=hide HC
 clear hw0 hg hq HW d0 d1
 obtain⟨⟨c0,c1,c2,c3⟩,d0,d1⟩:=HC.out w0 (Below.refl _ _)
 have HD0:Hid (Below w0.heap.size w0 w0.drew):=(Below.refl _ _).drew
 have HDA:Hid (∀o:Obj,Below w0.heap.size w0 (w0.alloc o).drew):=fun o=>((Below.refl _ _).alloc (Nat.le_refl _) o).drew
 have HBA:Hid (∀o:Obj,Below w.heap.size w (w0.alloc o).drew):=fun o=>HB0.out.trans ((HDA.out o).mono HB0.out.size)
 have HBD:=hide (HB0.out.trans (HD0.out.mono HB0.out.size))
 go_region_held3 (fun W=>(W.cell? ⟨g,0,none⟩=some (.int .i64 x0)/\W.cell? ⟨g,1,none⟩=some (.int .i64 x1)/\W.cell? ⟨g,2,none⟩=some (.string x2)/\W.cell? ⟨g,3,none⟩=some (.slice xa xl xc))/\W.cell? ⟨db,0,none⟩=some (.slice a 4 c)/\W.cell? ⟨db,1,none⟩=some (.int .i64 self))
  (first|(go_keep;done)|exact HC.out _ HD0.out|exact HC.out _ (HDA.out _)|exact HC.out _ (HB2.out.alloc HB2.out.size _)|exact HC.out _ ((((HB2.out.setCell (Nat.le_refl _) _).setCell (Nat.le_refl _) _).setCell (Nat.le_refl _) _).setCell (Nat.le_refl _) _)|exact HC.out _ HB2.out) ((first
   | (go_at_call 103;refine(HV.out _ HBD.out).mono ?_;rintro e w2 ⟨y,rfl,HY⟩;rw[Bq];have HB2:=hide (HD0.out.trans (HY.out.1.mono HD0.out.size)))
   | (go_at_call 103;refine(HV.out _ (HBA.out _)).mono ?_;rintro e w2 ⟨y,rfl,HY⟩;rw[Bq];have HB2:=hide ((HDA.out _).trans (HY.out.1.mono (HDA.out _).size));have HBK:=hide (PI HY.out.1);obtain⟨z0,z1,z2,z3,f0,f1,f2,f3⟩:=Li HY.out.1)))
 ·have HZ:Hid (∃wz p,(wz=w2.alloc (.cells #[.int .i64 y.1.1,.int .i64 y.1.2.1,.string y.1.2.2,.slice y.2.1.1 y.2.2.length y.2.1.2] 30)/\p=w2.heap.size)/\DvBox N y w0 q p w2 wz):=by
    refine⟨_,_,⟨rfl,rfl⟩,HB2.out.alloc HB2.out.size _,heap_alloc_new _ _, ?_,fun r hr _=>((Below.refl _ _).alloc (Nat.le_refl _) _).block r hr, ?_⟩
    ·have:=HGL.out.2.2.1
     have:=HB2.out.size
     omega
    ·exact(In.offB HY.out.2.2.1 HY.out.2.1).mono fun r hr=>by have:=HD0.out.size;omega
  obtain⟨wz,p,⟨hwz,hp⟩,HX⟩:=HZ.out
  rw[<-hwz,<-hp]
  replace HX:=hide HX
  have HIN:=hide HY.out.2.1
  have HSM:=hide HY.out.2.2.2
  have HSZ:Hid (w2.heap.size<=wz.heap.size):=by
   rw[hwz]
   simp[Hid]
  clear hwz hp HZ HY HV HC HDA HBA HBD HD0 c0 c1 c2 c3 d0 d1
  obtain⟨⟨b0,b1,b2,b3⟩,⟨z0,z1,z2,z3⟩,f0,f1,f2,f3,hpq⟩:=HX.out.cells HGL.out.2.2.1 HQ0.out
  go_wp2_with fail
  exact bodyPost_ret (v:=.tuple #[.agg #[.int .i64 y.1.1,.int .i64 y.1.2.1,.string y.1.2.2,.slice y.2.1.1 y.2.2.length y.2.1.2],.bool (Gd E (lS E o)==0)]) (by simp[results,Tryz.results83,go_sem,z0,z1,z2,z3]) rfl (HX.out.close HB0.out HGL.out.2.2.2 HGL.out.2.2.1 HIN.out HSM.out HSZ.out)
 ·have HZ:Hid (∃wz p,(wz=bK w2 w0.heap.size 0 (.int .i64 y.1.1) (.int .i64 y.1.2.1) (.string y.1.2.2) (.slice y.2.1.1 y.2.2.length y.2.1.2)/\p=w0.heap.size)/\DvBox N y w0 q p w2 wz):=by
    refine⟨_,_,⟨rfl,rfl⟩,((((HB2.out.setCell (Nat.le_refl _) _).setCell (Nat.le_refl _) _).setCell (Nat.le_refl _) _).setCell (Nat.le_refl _) _), ?_, ?_,fun r _ hr=>aA hr _ _ _ _, ?_⟩
    ·exact xL HBK.out _ _ _ _
    ·have:=HGL.out.2.2.1
     omega
    ·exact(In.offB HY.out.2.2.1 HY.out.2.1).mono fun r hr=>by
       have:=hr.1
       simp[World.drew]at this
       omega
  obtain⟨wz,p,⟨hwz,hp⟩,HX⟩:=HZ.out
  replace HX:=hide HX
  have HIN:=hide HY.out.2.1
  have HSM:=hide HY.out.2.2.2
  have HSZ:Hid (w2.heap.size<=wz.heap.size):=by
   rw[hwz,aJ]
   exact Nat.le_refl _
  unfold bK at hwz
  simp only[Nat.zero_add]at hwz
  rw[<-hwz,<-hp]
  clear hwz hp HZ HY HV HC HDA HBA HBD HD0 c0 c1 c2 c3 d0 d1 z0 z1 z2 z3 f0 f1 f2 f3
  obtain⟨⟨b0,b1,b2,b3⟩,⟨z0,z1,z2,z3⟩,f0,f1,f2,f3,hpq⟩:=HX.out.cells HGL.out.2.2.1 HQ0.out
  go_wp2_with fail
  exact bodyPost_ret (v:=.tuple #[.agg #[.int .i64 y.1.1,.int .i64 y.1.2.1,.string y.1.2.2,.slice y.2.1.1 y.2.2.length y.2.1.2],.bool (Gd E (lS E o)==0)]) (by simp[results,Tryz.results83,go_sem,z0,z1,z2,z3]) rfl (HX.out.close HB0.out HGL.out.2.2.2 HGL.out.2.2.1 HIN.out HSM.out HSZ.out)
def Gl {N:Nat}:Option (Tm (N+1))->Bool
 | some z=>z.1.1==3
 | none=>false
theorem Cf (N:Nat) (o:Option (Tm (N+1))) (x0 x1:Int) (x2:ByteArray) (xa:Option Addr) (xl xc:Nat) (db:Nat) (w:World)
    (HV:Hid (∀W,Below w.heap.size w W->Calls Tryz.prog 83 #[.pointer (some ⟨db,0,none⟩),.agg #[.int .i64 x0,.int .i64 x1,.string x2,.slice xa xl xc]] W (xQ N o W))):
    Calls Tryz.prog 136 #[.pointer (some ⟨db,0,none⟩),.agg #[.int .i64 x0,.int .i64 x1,.string x2,.slice xa xl xc]] w fun e w'=>∃u,e=.returned (.tuple #[.int .i64 u,.bool (Gl o)])/\Hid (Below w.heap.size w w'/\∀z,o=some z->u=z.1.2.1):=by
 have HA:Hid (∀o:Obj,Below w.heap.size w (w.alloc o)):=fun o=>(Below.refl _ _).alloc (Nat.le_refl _) o
 have HC0:(w.alloc (.cells #[.int .i64 x0,.int .i64 x1,.string x2,.slice xa xl xc] 30)).cell? ⟨w.heap.size,0,none⟩=some (.int .i64 x0):=ae (heap_alloc_new w _) 0
 go_enter Tryz.func136,Tryz.ntmps136
 go_wp2_with fail
 refine(HV.out _ (HA.out _)).mono ?_
 rintro e w2 ⟨y,rfl,HY⟩
 have HB2:=hide ((HA.out (.cells #[.int .i64 x0,.int .i64 x1,.string x2,.slice xa xl xc] 30)).trans (HY.out.1.mono (HA.out _).size))
 have HS:=hide HY.out.2.2.2
 have HB3:Hid (∀ob:Obj,Below w.heap.size w (w2.alloc ob).drew):=fun ob=>(HB2.out.alloc HB2.out.size ob).drew
 clear HY HV HC0
 cases o with
 | none=>
  simp only[Option.isSome_none]
  go_wp2_with fail
  go_region
  all_goals
   go_wp2_with fail
   go_ret2
   exact⟨_,rfl,HB3.out _,fun z hz=>by cases hz⟩
 | some z=>
  simp only[Option.isSome_some]
  have h:=HS.out
  simp only[Option.getD_some,same,Bool.and_eq_true,beq_iff_eq]at h
  have HK:Hid (Gl (some z)=(y.1.1==3)):=by
   show _=_
   rw[h.1.1.1]
   rfl
  have HU:=hide h.1.1.2
  clear h HS
  go_wp2_with fail
  go_region
  all_goals
   go_wp2_with fail
   go_ret2
   rw[HK.out]
   exact⟨_,rfl,HB3.out _,fun z' hz=>by cases hz;exact HU.out⟩
theorem NB:(Tryz.prog.info? 3).map (fun i=>(i.zero,i.size,i.bytes))=some (some (.int .i64 0),1,8):=by kernel_rfl
def PW (base db:Nat) (va:Option Addr) (L vc:Nat) (xs:List Value) (t:Bool) (F:Int->Prop) (w:World) (e:Ending) (w':World):Prop:=
 e=.returned (.bool t)/\(t=false->Below w.heap.size w w')/\
  (t=true->∃u g c w3,F u/\w3.ownsRow base 3 1 (.slice (some ⟨g,0,none⟩) (L+1) c) (L+1) (xs++ [.int .i64 u])/\Kee (fun q=>(Value.slice va L vc).ownBlock=some q) w w3/\((Value.slice va L vc).ownBlock=some g∨w.heap.size<=g)/\w'=w3.setCell ⟨db,5,none⟩ (.slice (some ⟨g,0,none⟩) (L+1) c))
theorem IU (k x0 x1:Int) (x2:ByteArray) (xa:Option Addr) (xl xc:Nat) (y0 y1:Int) (y2:ByteArray) (ya:Option Addr) (yl yc:Nat) (nm:ByteArray) (vr:Int) (base db:Nat) (va:Option Addr) (L vc:Nat) (xs:List Value) (w:World) (t:Bool) (F:Int->Prop) (hL:L<=10000) (hdb:db<w.heap.size) (hbase:base<=w.heap.size)
    (HC:Hid (w.cell? ⟨db,5,none⟩=some (.slice va L vc)/\w.frozen? ⟨db,5,none⟩=false)) (HR:Hid (w.ownsRow base 3 1 (.slice va L vc) L xs)) (HN:Hid ((Value.slice va L vc).ownBlock≠some db))
    (HP:Hid (∀W,Below w.heap.size w W->Calls Tryz.prog 136 #[.pointer (some ⟨db,0,none⟩),.agg #[.int .i64 x0,.int .i64 x1,.string x2,.slice xa xl xc]] W fun e w'=>∃u,e=.returned (.tuple #[.int .i64 u,.bool t])/\Hid (Below W.heap.size W w'/\F u))):
    Calls Tryz.prog 126 #[.pointer (some ⟨db,0,none⟩),.agg #[.int .i64 k,.int .i64 x0,.int .i64 x1,.string x2,.slice xa xl xc,.int .i64 y0,.int .i64 y1,.string y2,.slice ya yl yc,.string nm,.int .i64 vr]] w (PW base db va L vc xs t F w):=by
 obtain⟨it,hit,htz0,htz1,htz2⟩:=info_parts NB
 have HIT:Hid (Tryz.prog.info? 3=some it/\it.zero=some (.int .i64 0)/\it.size=1/\it.bytes=8):=⟨hit,htz0,htz1,htz2⟩
 clear hit htz0 htz1 htz2
 have HW:Hid (∃w0,w0=w.alloc (.cells #[.int .i64 k,.int .i64 x0,.int .i64 x1,.string x2,.slice xa xl xc,.int .i64 y0,.int .i64 y1,.string y2,.slice ya yl yc,.string nm,.int .i64 vr] 74)/\Below w.heap.size w w0):=⟨_,rfl,(Below.refl _ _).alloc (Nat.le_refl _) _⟩
 go_enter Tryz.func126,Tryz.ntmps126
 go_wp2_with fail
 obtain⟨w0,hw0,hb0⟩:=HW.out
 rw[<-hw0]
 have HB0:=hide hb0
 clear hw0 hb0 HW
 refine(HP.out _ HB0.out).mono ?_
 rintro e w2 ⟨u,rfl,H2⟩
 have HB2:=hide (HB0.out.trans (H2.out.1.mono HB0.out.size))
 have HF:=hide H2.out.2
 clear H2 HP HB0
 cases t
 ·go_wp2_with fail
  go_ret
  exact⟨rfl,fun _=>HB2.out,fun h=>(by cases h)⟩
 ·have c5:w2.cell? ⟨db,5,none⟩=some (.slice va L vc):=(HB2.out.cell (p:=⟨db,5,none⟩) hdb).trans HC.out.1
  have HO:Hid (w2.ownsRow base 3 1 (.slice va L vc) L xs):=aG HR.out (aj HB2.out fun _=>False) fun _ _ h=>h
  have HSZ:=hide HB2.out.size
  have HFZ:Hid (w2.frozen? ⟨db,5,none⟩=false):=by
   have hf:=HC.out.2
   unfold World.frozen? at hf ⊢
   rw[HB2.out.block db hdb]
   exact hf
  go_wp2_with (first
   | (at_builtin;refine wpList_append_lies _ rfl _ _ 94 rfl base 3 it _ 1 8 Tryz.underlying94 HIT.out.1 HIT.out.2.1 HIT.out.2.2.1 HIT.out.2.2.2 rfl (by decide) (.slice va L vc) L xs rfl (HO.out.alloc _) ⟨w2.heap.size,0,none⟩ 1 1 [.int .i64 u] rfl rfl (World.news_of_block (cs:= #[.int .i64 u]) (t:=3) (fr:=(0,0)) (heap_alloc_new w2 _)) (by simp[Value.oneCell']) (by decide) (by unfold maxLen;omega) (by omega) (by have:=HSZ.out;simp;omega) _ rfl ?_;intro g5 c5' w5 hown5 hgrow5 hat5 hlt5;have HO5:=hide hown5;have HG5:=hide hgrow5;have HA5:=hide hat5;have e5:w5.cell? ⟨db,5,none⟩=some (.slice va L vc):=(hgrow5.cell_far ⟨db,5,none⟩ (by show db<_;have:=HSZ.out;simp;omega) (fun e=>HN.out e.symm)).trans (((Below.refl _ _).alloc (Nat.le_refl _) _ |>.cell (p:=⟨db,5,none⟩) (by show db<_;have:=HSZ.out;omega)).trans c5);have f5:w5.frozen? ⟨db,5,none⟩=false:=(hgrow5.frozen_far ⟨db,5,none⟩ (by show db<_;have:=HSZ.out;simp;omega) (fun e=>HN.out e.symm)).trans (by have hf:=HFZ.out;unfold World.frozen? at hf ⊢;rw[((Below.refl _ _).alloc (Nat.le_refl _) (.cells #[.int .i64 u] 3)).block db (by have:=HSZ.out;omega)];exact hf);clear hown5 hgrow5 hat5 hlt5))
  go_ret
  refine⟨rfl,fun h=>(by cases h),fun _=>⟨u,g5,c5',w5,HF.out,HO5.out, ?_, ?_,rfl⟩⟩
  ·exact Kee.trans (aj (HB2.out.alloc HB2.out.size _) _) (cO HG5.out) fun _ _ e=>e
  ·rcases HA5.out with e|e
   ·exact Or.inl e
   ·have:=HSZ.out
    simp at e
    exact Or.inr (by omega)
section
variable {P:Program} {ops:Array Oper} {Q:Exit->Act->World->Prop} {md:Region.Mode} {S:World->Prop} {X:Nat}
def iP (P:Program) (md:Region.Mode) (ops:Array Oper) (Q:Exit->Act->World->Prop) (S:World->Prop) (X:Nat):Nat->Array Bool->Act->World->Prop
 | 0,listed,a,w=>Region.ready md ops listed=[]/\Q .normal a w
 | fuel+1,listed,a,w=>
  (Region.ready md ops listed=[]->Q .normal a w)/\
  ∀i∈Region.ready md ops listed,wpOp P ops Q i (fun a' w'=>(i≠X->S w')/\iP P md ops Q S X fuel (listed.setIfInBounds i true) a' w') a w
theorem wK:∀(fuel:Nat) (listed:Array Bool) (a:Act) (w:World),iP P md ops Q S X fuel listed a w->wpAny P md ops Q fuel listed a w
 | 0,_,_,_,h=>h
 | fuel+1,_,_,_,h=>⟨h.1,fun i hi=>wpOp_mono (fun a' w' h'=>wK fuel _ a' w' h'.2) (h.2 i hi)⟩
theorem zx {i:Nat} {oi:Oper} {v:Value} (hi:ops[i]? =some oi) (hsel:∀(j:Nat) (o:Oper) cs b,ops[j]? =some o->o.op≠.select cs b)
    (hQ:∀c a w,Q (.panic c) (a.put oi.dst v) w->Q (.panic c) a w) (hX:∀oj,ops[X]? =some oj->∃e∈oj.after,Region.binds md e=true/\e.on=i):
    ∀(fuel:Nat) (listed:Array Bool) (a:Act) (w:World),
     (∀j oj,ops[j]? =some oj->j≠i->listed.getD j true=false->(∀e∈oj.after,Region.binds md e=true->e.on≠i)->oi.apart ops oj=true)->
     i∈Region.ready md ops listed->YieldsIf P ops S oi v a->S w->
     iP P md ops Q S X fuel (listed.setIfInBounds i true) (a.put oi.dst v) w->iP P md ops Q S X (fuel+1) listed a w:=by
 intro fuel
 induction fuel with
 | zero=>
  intro listed a w _ hr hy hS H
  refine⟨fun h=>(by rw[h]at hr;cases hr),fun j hj=> ?_⟩
  by_cases hji:j=i
  ·subst hji;exact hy.wpOp hi hS ⟨fun _=>hS,H⟩
  ·have:=ready_mono hj hji
   rw[H.1]at this
   cases this
 | succ fuel ih=>
  intro listed a w hfree hr hy hS H
  refine⟨fun h=>(by rw[h]at hr;cases hr),fun j hj=> ?_⟩
  by_cases hji:j=i
  ·subst hji;exact hy.wpOp hi hS ⟨fun _=>hS,H⟩
  ·have h1:=H.2 j (ready_mono hj hji)
   obtain⟨hjun,oj,hoj,hall⟩:=mem_ready.1 hj
   have hnot:∀e∈oj.after,Region.binds md e=true->e.on≠i:=fun e he hb heq=>by
    have h1:=hall e he hb
    have h0:=(mem_ready.1 hr).1
    rw[heq]at h1
    rcases Nat.lt_or_ge i listed.size with h'|h'
    ·simp[h']at h0 h1;rw[h0]at h1;cases h1
    ·simp[Array.getElem?_eq_none h']at h1
   have hne:j≠X:=fun e=>by
    obtain⟨e1,he1,hb1,ho1⟩:=hX oj (by rw[<-e];exact hoj)
    exact hnot e1 he1 hb1 ho1
   have h2:=wpOp_putIf hoj (hfree j oj hoj hji hjun hnot) (fun cs b=>hsel i oi cs b hi) (fun cs b=>hsel j oj cs b hoj) hQ hy h1
   have hfree':∀k ok,ops[k]? =some ok->k≠i->(listed.setIfInBounds j true).getD k true=false->
     (∀e∈ok.after,Region.binds md e=true->e.on≠i)->oi.apart ops ok=true:=fun k ok hk hki hun hno=>by
    refine hfree k ok hk hki ?_ hno
    by_cases hjk:j=k
    ·subst hjk;exact hjun
    ·rw[getD_set_ne true hjk]at hun;exact hun
   refine wpOp_mono (fun a' w' h3=>⟨fun _=>h3.2.1 hne,ih (listed.setIfInBounds j true) a' w' hfree' (ready_mono hr (Ne.symm hji)) h3.1 (h3.2.1 hne) ?_⟩) h2
   rw[Array.setIfInBounds_comm _ _ hji]
   exact h3.2.2
def yO (md:Region.Mode) (ops:Array Oper) (X i:Nat):Bool:=((ops[X]?).map fun o=>o.after.any fun e=>Region.binds md e && e.on==i).getD false
theorem Ef {i:Nat} (h:yO md ops X i=true):∀oj,ops[X]? =some oj->∃e∈oj.after,Region.binds md e=true/\e.on=i:=fun oj hj=>by
 unfold yO at h
 rw[hj]at h
 simp only[Option.map_some,Option.getD_some,Array.any_eq_true]at h
 obtain⟨k,hk,h⟩:=h
 simp only[Bool.and_eq_true,beq_iff_eq]at h
 exact⟨_,Array.getElem_mem hk,h.1,h.2⟩
theorem ay {i:Nat} {oi:Oper} {v:Value} {fuel:Nat} {listed:Array Bool} {a:Act} {w:World} (hi:ops[i]? =some oi)
    (hs:Region.noSelect ops=true) (hf:Region.free md ops listed i=true) (hr:(Region.ready md ops listed).contains i=true) (hx:yO md ops X i=true)
    (hQ:∀c a w,Q (.panic c) (a.put oi.dst v) w->Q (.panic c) a w) (hg:oi.guard=none) (hy:∀w,S w->(execOp a.eval oi).run P w=.ok (.value v) w) (hS:S w)
    (h:iP P md ops Q S X fuel (listed.setIfInBounds i true) (a.put oi.dst v) w):iP P md ops Q S X (fuel+1) listed a w:=
 zx hi (Region.noSelect_spec hs) hQ (Ef hx) fuel listed a w (Region.free_spec hi hf) (by simpa using hr) (Or.inl ⟨by simp[Region.wanted,hg],hy⟩) hS h
theorem bG {i:Nat} {o:Oper} {fuel:Nat} {listed:Array Bool} {a:Act} {w:World} (hr:Region.ready md ops listed=[i]) (ho:ops[i]? =some o) (hg:o.guard=none)
    (h:∀K:Act->World->Prop,Hid (∀a' w',(i≠X->S w')->(S w'->iP P md ops Q S X fuel (listed.setIfInBounds i true) a' w')->K a' w')->o.wp P a w K Q) (hne:i≠X):iP P md ops Q S X (fuel+1) listed a w:=by
 refine⟨fun h0=>(by rw[hr]at h0;cases h0),fun j hj=> ?_⟩
 rw[hr]at hj
 obtain rfl:j=i:=by simpa using hj
 unfold wpOp
 simp only[ho]
 have hw:Region.wanted o (yielded ops a.tmps)=true:=by simp[Region.wanted,hg]
 simp only[hw,if_true]
 exact Or.inl (h _ fun a' w' h1 h2=>⟨h1,h2 (h1 hne)⟩)
theorem iE {o:Oper} {fuel:Nat} {listed:Array Bool} {a:Act} {w:World} (hr:Region.ready md ops listed=[X]) (ho:ops[X]? =some o) (hg:o.guard=none) (hd:Region.ready md ops (listed.setIfInBounds X true)=[])
    (h:∀K:Act->World->Prop,Hid (∀a' w',Q .normal a' w'->K a' w')->o.wp P a w K Q):iP P md ops Q S X (fuel+1) listed a w:=by
 refine⟨fun h0=>(by rw[hr]at h0;cases h0),fun j hj=> ?_⟩
 rw[hr]at hj
 obtain rfl:j=X:=by simpa using hj
 unfold wpOp
 simp only[ho]
 have hw:Region.wanted o (yielded ops a.tmps)=true:=by simp[Region.wanted,hg]
 simp only[hw,if_true]
 refine Or.inl (h _ fun a' w' h1=>⟨fun h2=>absurd rfl h2, ?_⟩)
 cases fuel with
 | zero=>exact⟨hd,h1⟩
 | succ fuel=>exact⟨fun _=>h1,by rw[hd];simp⟩
theorem iF (S:World->Prop) (X:Nat) {id:Nat} {a:Act} {w:World} (hm:P.follows .mixedOrders=true)
    (h:iP P .any ops Q S X ops.size (Array.replicate ops.size false) a w.drew):(Code.region id ops true).wp P Q a w:=
 wp_region_any hm (wK _ _ _ _ h)
end
theorem Kj:(Tryz.prog.info? 149).map (fun i=>(i.zero,i.size,i.bytes))=some (some (.agg #[.int .i64 0,.int .i64 0,.int .i64 0,.string ⟨#[]⟩,.slice none 0 0]),5,64):=by kernel_rfl
def OE {N:Nat} (u:Int) (z:Tm (N+1)):List Value:=[.int .i64 u,.int .i64 z.1.1,.int .i64 z.1.2.1,.string z.1.2.2,.slice z.2.1.1 z.2.2.length z.2.1.2]
def Qs (N base db:Nat) (va:Option Addr) (L vc:Nat) (xs:List Value) (t:Bool) (F:Int->Prop) (o:Option (Tm (N+1))) (w:World) (e:Ending) (w':World):Prop:=
 e=.returned (.bool (t && o.isSome))/\((t && o.isSome)=false->Below w.heap.size w w')/\
  ((t && o.isSome)=true->∃(u:Int) (z:Tm (N+1)) (g c:Nat) (w3:World),F u/\same (N+1) z (N+1) (o.getD (zeroV N))=true/\In w3.heap.size w3 (N+1) z/\Off (fun q=>w.heap.size<=q/\q≠g) (N+1) z/\w3.ownsRow base 149 5 (.slice (some ⟨g,0,none⟩) (L+1) c) (L+1) (xs++OE u z)/\Kee (fun q=>(Value.slice va L vc).ownBlock=some q) w w3/\((Value.slice va L vc).ownBlock=some g∨w.heap.size<=g)/\w'=w3.setCell ⟨db,3,none⟩ (.slice (some ⟨g,0,none⟩) (L+1) c))
theorem GZ (N:Nat) (k x0 x1:Int) (x2:ByteArray) (xa:Option Addr) (xl xc:Nat) (y0 y1:Int) (y2:ByteArray) (ya:Option Addr) (yl yc:Nat) (nm:ByteArray) (vr:Int) (base db:Nat) (va:Option Addr) (L vc:Nat) (xs:List Value) (w:World) (t:Bool) (F:Int->Prop) (o:Option (Tm (N+1))) (hL:L<=10000) (hdb:db<w.heap.size) (hbase:base<=w.heap.size)
    (HC:Hid (w.cell? ⟨db,3,none⟩=some (.slice va L vc)/\w.frozen? ⟨db,3,none⟩=false)) (HR:Hid (w.ownsRow base 149 5 (.slice va L vc) L xs)) (HN:Hid ((Value.slice va L vc).ownBlock≠some db))
    (HP:Hid (∀W,Below w.heap.size w W->Calls Tryz.prog 136 #[.pointer (some ⟨db,0,none⟩),.agg #[.int .i64 x0,.int .i64 x1,.string x2,.slice xa xl xc]] W fun e w'=>∃u,e=.returned (.tuple #[.int .i64 u,.bool t])/\Hid (Below W.heap.size W w'/\F u)))
    (HV:Hid (∀W,Below w.heap.size w W->Calls Tryz.prog 83 #[.pointer (some ⟨db,0,none⟩),.agg #[.int .i64 y0,.int .i64 y1,.string y2,.slice ya yl yc]] W (xQ N o W))):
    Calls Tryz.prog 124 #[.pointer (some ⟨db,0,none⟩),.agg #[.int .i64 k,.int .i64 x0,.int .i64 x1,.string x2,.slice xa xl xc,.int .i64 y0,.int .i64 y1,.string y2,.slice ya yl yc,.string nm,.int .i64 vr]] w (Qs N base db va L vc xs t F o w):=by
 obtain⟨it,hit,htz0,htz1,htz2⟩:=info_parts Kj
 have HIT:Hid (Tryz.prog.info? 149=some it/\it.zero=some (.agg #[.int .i64 0,.int .i64 0,.int .i64 0,.string ⟨#[]⟩,.slice none 0 0])/\it.size=5/\it.bytes=64):=⟨hit,htz0,htz1,htz2⟩
 clear hit htz0 htz1 htz2
 have HW:Hid (∃w0 q,(w0=w.alloc (.cells #[.int .i64 k,.int .i64 x0,.int .i64 x1,.string x2,.slice xa xl xc,.int .i64 y0,.int .i64 y1,.string y2,.slice ya yl yc,.string nm,.int .i64 vr] 74)/\q=w.heap.size)/\Below w.heap.size w w0/\∀W,Below w0.heap.size w0 W->W.cell? ⟨q,5,none⟩=some (.int .i64 y0)/\W.cell? ⟨q,6,none⟩=some (.int .i64 y1)/\W.cell? ⟨q,7,none⟩=some (.string y2)/\W.cell? ⟨q,8,none⟩=some (.slice ya yl yc)):=by
  refine⟨_,_,⟨rfl,rfl⟩,(Below.refl _ _).alloc (Nat.le_refl _) _,fun W hW=> ?_⟩
  have h:=(hW.block w.heap.size (by simp)).trans (heap_alloc_new w _)
  exact⟨ae h 5,ae h 6,ae h 7,ae h 8⟩
 go_enter Tryz.func124,Tryz.ntmps124
 go_wp2_with fail
 obtain⟨w0,q,⟨hw0,hq⟩,hb0,hc0⟩:=HW.out
 rw[<-hw0,<-hq]
 have HB0:=hide hb0
 have HC0:=hide hc0
 clear hw0 hq hb0 hc0 HW
 refine(HP.out _ HB0.out).mono ?_
 rintro e w2 ⟨u,rfl,H2⟩
 have HB2:=hide (HB0.out.trans (H2.out.1.mono HB0.out.size))
 have HF:=hide H2.out.2
 obtain⟨e5,e6,e7,e8⟩:=HC0.out _ H2.out.1
 clear H2 HP
 cases t
 ·go_wp2_with fail
  go_ret
  exact⟨rfl,fun _=>HB2.out,fun h=>(by cases h)⟩
 ·go_wp2_with fail
  refine(HV.out _ HB2.out).mono ?_
  rintro e w3 ⟨z,rfl,H3⟩
  have HB3:=hide (HB2.out.trans (H3.out.1.mono HB2.out.size))
  cases o with
  | none=>
   simp only[Option.isSome_none]
   go_wp2_with fail
   go_ret
   exact⟨rfl,fun _=>HB3.out.alloc HB3.out.size _,fun h=>(by cases h)⟩
  | some y=>
   simp only[Option.isSome_some]
   have HZI:=hide H3.out.2.1
   have HZO:=hide H3.out.2.2.1
   have HZS:=hide H3.out.2.2.2
   have HZB:=hide HB2.out.size
   have HW4:Hid (∃w4 p,(w4=w3.alloc (.cells #[.int .i64 z.1.1,.int .i64 z.1.2.1,.string z.1.2.2,.slice z.2.1.1 z.2.2.length z.2.1.2] 30)/\p=w3.heap.size)/\Below w3.heap.size w3 w4/\w4.heap[p]? =some (.cells #[.int .i64 z.1.1,.int .i64 z.1.2.1,.string z.1.2.2,.slice z.2.1.1 z.2.2.length z.2.1.2] 30)/\w4.heap.size=w3.heap.size+1):=⟨_,_,⟨rfl,rfl⟩,(Below.refl _ _).alloc (Nat.le_refl _) _,heap_alloc_new _ _,by simp⟩
   clear H3 HV
   go_wp2_with fail
   obtain⟨w4,p,⟨hw4,hp⟩,HS⟩:=HW4.out
   rw[<-hw4,<-hp]
   have HQW:Hid (p=w3.heap.size):=hp
   replace HS:=hide HS
   clear hw4 hp HW4
   have HB4:=hide (HB3.out.trans (HS.out.1.mono HB3.out.size))
   obtain⟨ob,hob⟩:∃ob:Obj,ob=.cells #[.int .i64 u,.int .i64 z.1.1,.int .i64 z.1.2.1,.string z.1.2.2,.slice z.2.1.1 z.2.2.length z.2.1.2] 149:=⟨_,rfl⟩
   have HK:Hid (∀W:World,Below w4.heap.size w4 W->W.cell? ⟨db,3,none⟩=some (.slice va L vc)/\W.cell? ⟨p,0,none⟩=some (.int .i64 z.1.1)/\W.cell? ⟨p,1,none⟩=some (.int .i64 z.1.2.1)/\W.cell? ⟨p,2,none⟩=some (.string z.1.2.2)/\W.cell? ⟨p,3,none⟩=some (.slice z.2.1.1 z.2.2.length z.2.1.2)):=fun W h=>by
    have h1:=(h.block p (Array.getElem?_eq_some_iff.1 HS.out.2.1).1).trans HS.out.2.1
    have hb:=HB4.out.trans (h.mono HB4.out.size)
    exact⟨(hb.cell (p:=⟨db,3,none⟩) hdb).trans HC.out.1,ae h1 0,ae h1 1,ae h1 2,ae h1 3⟩
   have HD1:Hid (Below w4.heap.size w4 (w4.alloc ob).drew):=((Below.refl _ _).alloc (Nat.le_refl _) ob).drew
   have hS0:=HK.out w4.drew (Below.refl _ _).drew
   have HS1:=hide (HK.out _ HD1.out)
   have HB1:=hide (HB4.out.trans (HD1.out.mono HB4.out.size))
   have HO1:Hid ((w4.alloc ob).drew.ownsRow base 149 5 (.slice va L vc) L xs):=aG HR.out (aj HB1.out fun _=>False) fun _ _ h=>h
   have HNB:Hid ((w4.alloc ob).drew.heap[w4.heap.size]? =some ob):=heap_alloc_new w4 ob
   have HZ1:Hid ((w4.alloc ob).drew.heap.size=w4.heap.size+1):=(show _=_ by simp[World.drew])
   have HZ2:Hid (w4.heap.size=w3.heap.size+1/\w.heap.size<=w3.heap.size):=⟨HS.out.2.2,HB3.out.size⟩
   have HZI1:Hid (In (w4.alloc ob).drew.heap.size (w4.alloc ob).drew (N+1) z):=(HZI.out.below (HS.out.1.trans (HD1.out.mono HS.out.1.size))).mono (by have:=HS.out.1.size;have:=HD1.out.size;omega)
   rw[hob]at HD1 HS1 HB1 HO1 HNB HZ1 HZI1
   clear hob ob
   obtain⟨c3,e0,e1,e2,e3⟩:=HK.out w4 (Below.refl _ _)
   refine wp_region_noPanic ?_
   refine iF (fun W=>W.cell? ⟨db,3,none⟩=some (.slice va L vc)/\W.cell? ⟨p,0,none⟩=some (.int .i64 z.1.1)/\W.cell? ⟨p,1,none⟩=some (.int .i64 z.1.2.1)/\W.cell? ⟨p,2,none⟩=some (.string z.1.2.2)/\W.cell? ⟨p,3,none⟩=some (.slice z.2.1.1 z.2.2.length z.2.1.2)) 12 (by kernel_rfl) ?_
   try simp only[List.size_toArray]
   refine ay (i:=0) (v:= ?_) rfl (by kernel_rfl) (by kernel_rfl) (by kernel_rfl) (by kernel_rfl) (fun _ _ _ h=>h) rfl ?_ hS0 ?_
   rotate_left
   ·intro w' hw'
    try dsimp only at hw'
    go_simp
    try with_reducible rfl
   try simp only[Act.put,List.setIfInBounds_toArray]
   refine ay (i:=1) (v:= ?_) rfl (by kernel_rfl) (by kernel_rfl) (by kernel_rfl) (by kernel_rfl) (fun _ _ _ h=>h) rfl ?_ hS0 ?_
   rotate_left
   ·intro w' hw'
    try dsimp only at hw'
    go_simp
    try with_reducible rfl
   try simp only[Act.put]
   refine ay (i:=2) (v:= ?_) rfl (by kernel_rfl) (by kernel_rfl) (by kernel_rfl) (by kernel_rfl) (fun _ _ _ h=>h) rfl ?_ hS0 ?_
   rotate_left
   ·intro w' hw'
    try dsimp only at hw'
    go_simp
    try with_reducible rfl
   try simp only[Act.put]
   refine ay (i:=3) (v:= ?_) rfl (by kernel_rfl) (by kernel_rfl) (by kernel_rfl) (by kernel_rfl) (fun _ _ _ h=>h) rfl ?_ hS0 ?_
   rotate_left
   ·intro w' hw'
    try dsimp only at hw'
    go_simp
    try with_reducible rfl
   try simp only[Act.put]
   refine ay (i:=4) (v:= ?_) rfl (by kernel_rfl) (by kernel_rfl) (by kernel_rfl) (by kernel_rfl) (fun _ _ _ h=>h) rfl ?_ hS0 ?_
   rotate_left
   ·intro w' hw'
    try dsimp only at hw'
    go_simp
    try with_reducible rfl
   try simp only[Act.put]
   refine ay (i:=5) (v:= ?_) rfl (by kernel_rfl) (by kernel_rfl) (by kernel_rfl) (by kernel_rfl) (fun _ _ _ h=>h) rfl ?_ hS0 ?_
   rotate_left
   ·intro w' hw'
    try dsimp only at hw'
    go_simp
    try with_reducible rfl
   try simp only[Act.put]
   refine ay (i:=6) (v:= ?_) rfl (by kernel_rfl) (by kernel_rfl) (by kernel_rfl) (by kernel_rfl) (fun _ _ _ h=>h) rfl ?_ hS0 ?_
   rotate_left
   ·intro w' hw'
    try dsimp only at hw'
    go_simp
    try with_reducible rfl
   try simp only[Act.put]
   refine ay (i:=7) (v:= ?_) rfl (by kernel_rfl) (by kernel_rfl) (by kernel_rfl) (by kernel_rfl) (fun _ _ _ h=>h) rfl ?_ hS0 ?_
   rotate_left
   ·intro w' hw'
    try dsimp only at hw'
    go_simp
    try with_reducible rfl
   try simp only[Act.put]
   refine bG (i:=8) (by kernel_rfl) rfl rfl (fun K hK=> ?_) (by decide)
   go_simp
   refine hK.out _ _ (fun _=>HS1.out) (fun hS1=> ?_)
   clear hK K
   try simp only[Act.put,List.setIfInBounds_toArray,List.set_cons_zero,List.set_cons_succ]
   refine bG (i:=9) (by kernel_rfl) rfl rfl (fun K hK=> ?_) (by decide)
   refine wp_append_lies _ _ _ 92 rfl base 149 it _ 5 64 Tryz.underlying92 HIT.out.1 HIT.out.2.1 HIT.out.2.2.1 HIT.out.2.2.2 rfl (by decide) (.slice va L vc) L xs rfl HO1.out ⟨w4.heap.size,0,none⟩ 1 1 (OE u z) rfl rfl (World.news_of_block (cs:= #[.int .i64 u,.int .i64 z.1.1,.int .i64 z.1.2.1,.string z.1.2.2,.slice z.2.1.1 z.2.2.length z.2.1.2]) (t:=149) (fr:=(0,0)) HNB.out) (by simp[OE,Value.oneCell']) (by decide) (by unfold maxLen;omega) (by omega) (by have:=HZ1.out;have:=HZ2.out;omega) _ rfl ?_
   intro g5 c5 w5 hown5 hgrow5 hat5 hlt5
   have HK5:Hid (Kee (fun r=>(Value.slice va L vc).ownBlock=some r) w w5):=Kee.trans (aj HB1.out _) (cO hgrow5) fun _ _ e=>e
   have HAT:Hid ((Value.slice va L vc).ownBlock=some g5∨w.heap.size<=g5):=by
    rcases hat5 with e|e
    ·exact Or.inl e
    ·exact Or.inr (by have:=HZ1.out;have:=HZ2.out;omega)
   have HO5:=hide hown5
   have HRL:Hid (∀b,(Value.slice va L vc).ownBlock=some b->b<w.heap.size):=fun b hb=>(HR.out.lt b hb).2
   have HZ5:Hid (In w5.heap.size w5 (N+1) z/\Off (fun r=>w.heap.size<=r/\r≠g5) (N+1) z):=by
    have hoff:Off (fun r=>w.heap.size<=r/\r<w3.heap.size) (N+1) z:=(In.offB HZO.out HZI.out).mono fun r hr=>⟨Nat.le_trans HZB.out hr.1,hr.2⟩
    refine⟨HZI1.out.kee (cO hgrow5) (hoff.mono fun r hr e=> ?_),hoff.mono fun r hr=>⟨hr.1,fun e=> ?_⟩⟩
    ·have:=HRL.out r e
     omega
    ·rcases hat5 with e'|e'
     ·have:=HRL.out g5 e'
      omega
     ·have:=HZ1.out
      have:=HZ2.out
      omega
   have HC5:Hid ((w5.cell? ⟨db,3,none⟩=some (.slice va L vc)/\w5.cell? ⟨p,0,none⟩=some (.int .i64 z.1.1)/\w5.cell? ⟨p,1,none⟩=some (.int .i64 z.1.2.1)/\w5.cell? ⟨p,2,none⟩=some (.string z.1.2.2)/\w5.cell? ⟨p,3,none⟩=some (.slice z.2.1.1 z.2.2.length z.2.1.2))/\w5.frozen? ⟨db,3,none⟩=false):=by
    have z1:=HZ1.out
    have z2:=HZ2.out
    have z3:=HQW.out
    have hq1:some p≠(Value.slice va L vc).ownBlock:=fun e=>by
     have:=HRL.out p e.symm
     omega
    have hq2:some db≠(Value.slice va L vc).ownBlock:=fun e=>HN.out e.symm
    have k:=fun j=>hgrow5.cell_far ⟨p,j,none⟩ (by show p<_;omega) hq1
    obtain⟨s0,s1,s2,s3,s4⟩:=HS1.out
    refine⟨⟨(hgrow5.cell_far ⟨db,3,none⟩ (by show db<_;omega) hq2).trans s0,(k 0).trans s1,(k 1).trans s2,(k 2).trans s3,(k 3).trans s4⟩, ?_⟩
    rw[hgrow5.frozen_far ⟨db,3,none⟩ (by show db<_;omega) hq2]
    have hf:=HC.out.2
    unfold World.frozen? at hf ⊢
    rw[HB1.out.block db hdb]
    exact hf
   clear hown5 hgrow5 hat5 hlt5
   refine hK.out _ _ (fun _=>HC5.out.1) (fun hS3=> ?_)
   clear hK K
   try simp only[Act.put,List.setIfInBounds_toArray]
   refine bG (i:=10) (by kernel_rfl) rfl rfl (fun K hK=> ?_) (by decide)
   go_simp
   refine hK.out _ _ (fun _=>hS3) (fun _=> ?_)
   clear hK K
   try simp only[Act.put,List.setIfInBounds_toArray,List.set_cons_zero,List.set_cons_succ]
   refine ay (i:=11) (v:= ?_) rfl (by kernel_rfl) (by kernel_rfl) (by kernel_rfl) (by kernel_rfl) (fun _ _ _ h=>h) rfl ?_ hS3 ?_
   rotate_left
   ·intro w' hw'
    try dsimp only at hw'
    go_simp
    try with_reducible rfl
   try simp only[Act.put,List.setIfInBounds_toArray]
   have cf3:=HC5.out.2
   have cc3:=HC5.out.1.1
   refine iE (by kernel_rfl) rfl rfl (by kernel_rfl) (fun K hK=> ?_)
   go_simp
   refine hK.out _ _ (NoPanic.normal ?_)
   clear hK K
   try simp only[Act.put,List.setIfInBounds_toArray,List.set_cons_zero,List.set_cons_succ]
   go_wp2_with fail
   go_ret
   exact⟨rfl,fun h=>(by cases h),fun _=>⟨u,z,g5,c5,w5,HF.out,HZS.out,HZ5.out.1,HZ5.out.2,HO5.out,HK5.out,HAT.out,rfl⟩⟩
end Go.Proofs.YtmbjgiaebneodaaGreat
