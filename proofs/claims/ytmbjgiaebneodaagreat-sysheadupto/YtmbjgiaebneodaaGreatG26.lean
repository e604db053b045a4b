/- What is proved here: proc's choose: the first message that fits a clause, and the first clause that it fits. No condition but that all lies in memory. -/
import Derived.Test.YtmbjgiaebneodaaGreatG25
import Derived.Deep.MidRow
namespace Go.Proofs.YtmbjgiaebneodaaGreat
open Go.RowKit
set_option maxRecDepth 100000
set_option maxHeartbeats 4000000
def QF {n:Nat} (c:Cl (n+1)):Value:=.agg #[.int .i64 c.1.1.1.1,.int .i64 c.1.1.1.2.1,.string c.1.1.1.2.2,.slice c.1.1.2.1.1 c.1.1.2.2.length c.1.1.2.1.2,.int .i64 c.1.2.1.1.1,.int .i64 c.1.2.1.1.2.1,.string c.1.2.1.1.2.2,.slice c.1.2.1.2.1.1 c.1.2.1.2.2.length c.1.2.1.2.1.2,.slice c.2.1.1 c.2.2.length c.2.1.2,.int .i64 c.1.2.2.1.1,.int .i64 c.1.2.2.1.2.1,.string c.1.2.2.1.2.2,.slice c.1.2.2.2.1.1 c.1.2.2.2.2.length c.1.2.2.2.1.2]
def QK {N:Nat} (x:Tm (N+1)):List Value:=[.int .i64 x.1.1,.int .i64 x.1.2.1,.string x.1.2.2,.slice x.2.1.1 x.2.2.length x.2.1.2]
def Qx {N:Nat} (x:Tm (N+1)):Value:=.agg #[.int .i64 x.1.1,.int .i64 x.1.2.1,.string x.1.2.2,.slice x.2.1.1 x.2.2.length x.2.1.2]
def Dp {n N:Nat} (i:Nat) (y:Tm (N+1)) (c:Cl (n+1)) (a:Option Addr) (len cc:Nat):List Value:=.int .i64 i::(QK y++dJ (n+1) c++ [.slice a len cc])
def GR:List Value:=[.int .i64 0,.int .i64 0,.int .i64 0,.string ⟨#[]⟩,.slice none 0 0,.int .i64 0,.int .i64 0,.string ⟨#[]⟩,.slice none 0 0,.int .i64 0,.int .i64 0,.string ⟨#[]⟩,.slice none 0 0,.slice none 0 0,.int .i64 0,.int .i64 0,.string ⟨#[]⟩,.slice none 0 0,.slice none 0 0]
def Q0 {n N:Nat} (l:List (Cl (n+1))) (M L:Nat) (G:Nat->Nat->Bool) (R:Tm (N+1)->List (Tm (N+1))->World->Prop) (Fo:Nat->Nat->Option Addr->Nat->Nat->World->World->Prop) (w:World) (e:Ending) (w':World):Prop:=
 (e=.returned (.tuple #[.agg GR.toArray,.bool false])/\Hid ((∀i j,i<M->j<L->G i j=false)/\Below w.heap.size w w'))∨
  ∃(i j:Nat) (y:Tm (N+1)) (c:Cl (n+1)) (a:Option Addr) (len cc:Nat),e=.returned (.tuple #[.agg (Dp i y c a len cc).toArray,.bool true])/\Hid (∃s ys w0 W1 W2,R s ys w0/\ys[i]? =some y/\l[j]? =some c/\G i j=true/\(∀i' j',i'<i->j'<L->G i' j'=false)/\(∀j',j'<j->G i j'=false)/\Below w.heap.size w w0/\Below w0.heap.size w0 W1/\Below W1.heap.size W1 W2/\Fo i j a len cc W1 W2/\Kee (fun b=>b=w.heap.size) W2 w'/\w.heap.size<w0.heap.size)
theorem results_cell_tmp {P:Program} {fn:Func} {tmps:Array Value} {w:World} {i j:Nat} {ty:TypeId} {p:Addr} {v x:Value} (h:fn.results= #[.cell i ty,.tmp j]) (ht:tmps.getD i undef=.pointer (some p)) (hl:(loadVar ty p).run P w=.ok v w) (hx:tmps.getD j undef=x):(results fn tmps).run P w=.ok (.tuple #[v,x]) w:=by
 simp only[results,h]
 rw[<-hx]
 rw[Array.getD_eq_getD_getElem?]at ht
 simp[ht,asAddr,hl]
theorem gF:(Tryz.prog.info? 136).map (·.size)=some 19:=by kernel_rfl
theorem FO:(GR.toArray.all (·.oneCell'))=true:=all_oneCell_toArray fun v hv=>by
 simp only[GR,List.mem_cons,List.not_mem_nil,or_false]at hv
 rcases hv with rfl|rfl|rfl|rfl|rfl|rfl|rfl|rfl|rfl|rfl|rfl|rfl|rfl|rfl|rfl|rfl|rfl|rfl|rfl<;>rfl
theorem Gh {n N:Nat} (i:Nat) (y:Tm (N+1)) (c:Cl (n+1)) (a:Option Addr) (len cc:Nat):((Dp i y c a len cc).toArray.all (·.oneCell'))=true:=all_oneCell_toArray fun v hv=>by
 have hv:v∈[Value.int .i64 i,.int .i64 y.1.1,.int .i64 y.1.2.1,.string y.1.2.2,.slice y.2.1.1 y.2.2.length y.2.1.2,.int .i64 c.1.1.1.1,.int .i64 c.1.1.1.2.1,.string c.1.1.1.2.2,.slice c.1.1.2.1.1 c.1.1.2.2.length c.1.1.2.1.2,.int .i64 c.1.2.1.1.1,.int .i64 c.1.2.1.1.2.1,.string c.1.2.1.1.2.2,.slice c.1.2.1.2.1.1 c.1.2.1.2.2.length c.1.2.1.2.1.2,.slice c.2.1.1 c.2.2.length c.2.1.2,.int .i64 c.1.2.2.1.1,.int .i64 c.1.2.2.1.2.1,.string c.1.2.2.1.2.2,.slice c.1.2.2.2.1.1 c.1.2.2.2.2.length c.1.2.2.2.1.2,.slice a len cc]:=hv
 simp only[List.mem_cons,List.not_mem_nil,or_false]at hv
 rcases hv with rfl|rfl|rfl|rfl|rfl|rfl|rfl|rfl|rfl|rfl|rfl|rfl|rfl|rfl|rfl|rfl|rfl|rfl|rfl<;>rfl
theorem bP {w:World} {b:Nat} {C:Array Value} {t:TypeId} (h:w.heap[b]? =some (.cells C t (0,0))):w.there b 0 C.size:=fun j hj=>by
 simp only[World.cell?,World.frozen?,h,Nat.zero_add]
 simp[hj]
theorem cu (b:Nat):(cs:List Value)->(o:Nat)->(w:World)->Kee (fun q=>q=b) w (w.setCells b o cs)/\(w.setCells b o cs).heap.size=w.heap.size
 | [],_,w=>⟨Kee.refl _ _,rfl⟩
 | v::cs,o,w=>by
  obtain⟨h1,h2⟩:=cu b cs (o+1) (w.setCell ⟨b,o,none⟩ v)
  rw[World.setCells]
  exact⟨(aP w b o v).trans h1 fun _ _ e=>e,h2.trans (by simp[World.setCell])⟩
theorem CX {n N:Nat} (pb:Nat) (l:List (Cl (n+1))) (la:Option Addr) (L lc M:Nat) (w:World) (G:Nat->Nat->Bool) (R:Tm (N+1)->List (Tm (N+1))->World->Prop) (Fo:Nat->Nat->Option Addr->Nat->Nat->World->World->Prop) (hL:L<=1000000) (hM:M<=1000000) (HLL:Hid (l.length=L))
    (HLC:Hid (∀(i:Nat) (c:Cl (n+1)),l[i]? =some c->∃b o,la=some ⟨b,o,none⟩/\b<w.heap.size/\∀(j:Nat) (u:Value),(dJ (n+1) c)[j]? =some u->w.cell? ⟨b,o+i*13+j,none⟩=some u))
    (HS:Hid (∀W,Below w.heap.size w W->w.heap.size<W.heap.size->Calls Tryz.prog 31 #[.pointer (some ⟨pb,0,none⟩)] W fun e w'=>∃s:Tm (N+1),e=.returned (Qx s)/\Hid (Below W.heap.size W w'/\
     ∀W1,Below w'.heap.size w' W1->Calls Tryz.prog 32 #[.pointer (some ⟨pb,0,none⟩)] W1 fun e w''=>∃ma mc ys,e=.returned (.slice ma M mc)/\Hid (ys.length=M/\Below W1.heap.size W1 w''/\(∀(i:Nat) (y:Tm (N+1)),ys[i]? =some y->∃g o,ma=some ⟨g,o,none⟩/\g<w''.heap.size/\∀(j:Nat) (u:Value),(QK y)[j]? =some u->w''.cell? ⟨g,o+i*4+j,none⟩=some u)/\R s ys w''))))
    (HF:Hid (∀s ys w0 W i j y c,R s ys w0->Below w0.heap.size w0 W->ys[i]? =some y->l[j]? =some c->Calls Tryz.prog 81 #[QF c,Qx s,Qx y] W fun e w'=>∃a len cc,e=.returned (.tuple #[.slice a len cc,.bool (G i j)])/\Hid (Below W.heap.size W w'/\(G i j=true->Fo i j a len cc W w')))):
    Calls Tryz.prog 55 #[.pointer (some ⟨pb,0,none⟩),.slice la L lc] w (Q0 l M L G R Fo w):=by
 have HW:Hid (∃w0 q ob,(w0=w.alloc ob/\q=w.heap.size/\ob=.cells #[.int .i64 0,.int .i64 0,.int .i64 0,.string ⟨#[]⟩,.slice none 0 0,.int .i64 0,.int .i64 0,.string ⟨#[]⟩,.slice none 0 0,.int .i64 0,.int .i64 0,.string ⟨#[]⟩,.slice none 0 0,.slice none 0 0,.int .i64 0,.int .i64 0,.string ⟨#[]⟩,.slice none 0 0,.slice none 0 0] 136)/\Below w.heap.size w w0/\w0.heap[q]? =some ob/\w.heap.size<w0.heap.size/\Hid (q=w.heap.size)):=⟨_,_,_,⟨rfl,rfl,rfl⟩,(Below.refl _ _).alloc (Nat.le_refl _) _,heap_alloc_new _ _,by simp,rfl⟩
 go_enter Tryz.func55,Tryz.ntmps55
 go_wp2_with fail
 obtain⟨w0,q0,ob,⟨hw0,hq0,hob⟩,hb0,hh0,hlt0,HQW⟩:=HW.out
 rw[hob]at hw0
 rw[<-hw0,<-hq0]
 have HB0:=hide hb0
 have HQ0:=hide hh0
 have HOB:=hide hob
 have HLT:=hide hlt0
 clear hw0 hq0 hob hb0 hh0 hlt0 HW
 refine(HS.out _ HB0.out HLT.out).mono ?_
 rintro e w1 ⟨s,rfl,H1⟩
 unfold Qx
 have HB1:=hide (HB0.out.trans (H1.out.1.mono HB0.out.size))
 have HS1:=hide (Nat.lt_of_lt_of_le HLT.out H1.out.1.size)
 have HMM:=hide H1.out.2
 have HWS:Hid (∃w2 q,(w2=w1.alloc (.cells #[.int .i64 s.1.1,.int .i64 s.1.2.1,.string s.1.2.2,.slice s.2.1.1 s.2.2.length s.2.1.2] 30)/\q=w1.heap.size)/\Below w1.heap.size w1 w2/\w2.heap[q]? =some (.cells #[.int .i64 s.1.1,.int .i64 s.1.2.1,.string s.1.2.2,.slice s.2.1.1 s.2.2.length s.2.1.2] 30)):=⟨_,_,⟨rfl,rfl⟩,(Below.refl _ _).alloc (Nat.le_refl _) _,heap_alloc_new _ _⟩
 have HQ1:Hid (w1.heap[q0]? =some ob):=(H1.out.1.block q0 (Array.getElem?_eq_some_iff.1 HQ0.out).1).trans HQ0.out
 clear H1 HS HQ0 HB0
 go_upto_region 2 with fail
 obtain⟨w2,q1,⟨hw2,hq1⟩,hb2,hh2⟩:=HWS.out
 rw[<-hw2,<-hq1]
 have HB2:=hide (HB1.out.trans (hb2.mono HB1.out.size))
 have HQ2:Hid (w2.heap[q0]? =some ob/\w2.heap[q1]? =some (.cells #[.int .i64 s.1.1,.int .i64 s.1.2.1,.string s.1.2.2,.slice s.2.1.1 s.2.2.length s.2.1.2] 30)):=⟨(hb2.block q0 (Array.getElem?_eq_some_iff.1 HQ1.out).1).trans HQ1.out,hh2⟩
 have HMC:=hide (HMM.out w2 hb2)
 have HS2:=hide (Nat.lt_of_lt_of_le HS1.out hb2.size)
 clear hw2 hq1 hb2 hh2 HWS HMM HQ1 HB1
 go_wp2_with fail
 refine HMC.out.mono ?_
 rintro e w3 ⟨ma,mc,ys,rfl,H3⟩
 have HB3:=hide (HB2.out.trans (H3.out.2.1.mono HB2.out.size))
 have HS3:=hide (Nat.lt_of_lt_of_le HS2.out H3.out.2.1.size)
 have HQ3:Hid (w3.heap[q0]? =some ob/\w3.heap[q1]? =some (.cells #[.int .i64 s.1.1,.int .i64 s.1.2.1,.string s.1.2.2,.slice s.2.1.1 s.2.2.length s.2.1.2] 30)):=⟨(H3.out.2.1.block q0 (Array.getElem?_eq_some_iff.1 HQ2.out.1).1).trans HQ2.out.1,(H3.out.2.1.block q1 (Array.getElem?_eq_some_iff.1 HQ2.out.2).1).trans HQ2.out.2⟩
 have HYL:=hide H3.out.1
 have HYC:=hide H3.out.2.2.1
 have HRR:=hide H3.out.2.2.2
 clear H3 HMC HQ2 HB2
 go_wp2_with fail
 go_loopw [18] (fun i wr=>∃i':Nat,i'<=M/\i=.int .i64 i'/\Hid (Below w3.heap.size w3 wr/\∀a b,a<i'->b<L->G a b=false)) (fun i _=>M-(intOf i).toNat)
 case atStart=>exact⟨0,Nat.zero_le _,rfl,Below.refl _ _,fun a b h=>by omega⟩
 case round=>
  obtain⟨i,hi,rfl,HI⟩:=hrel
  by_cases hiM:i<M
  rotate_left
  ·obtain rfl:i=M:=by omega
   have HTH:Hid (wr.there q0 0 19):=by
    have h1:wr.heap[q0]? =some ob:=(HI.out.1.block q0 (Array.getElem?_eq_some_iff.1 HQ3.out.1).1).trans HQ3.out.1
    rw[HOB.out]at h1
    exact bP h1
   go_upto_region 13 with fail
   go_step
   go_step
   go_step
   go_step
   have HWF:Hid (∃wf,wf=wr.setCells q0 0 GR.toArray.toList/\Hid (wf.rangeAt q0 0 GR/\Kee (fun q=>q=q0) wr wf)):=⟨_,rfl,World.rangeAt_setCells_same wr q0 0 GR HTH.out,(cu q0 _ 0 wr).1⟩
   refine wpList_store_mid rfl 136 (.tmp 4) (.tmp 44) rfl q0 0 GR.toArray rfl rfl HTH.out gF FO ?_
   obtain⟨wf,hwf,HWF⟩:=HWF.out
   rw[<-hwf]
   clear hwf HTH
   go_wp2_with fail
   have hload:=run_loadVar_mid (P:=Tryz.prog) wf q0 0 136 GR _ HWF.out.1 Tryz.underlying136 rfl gF
   refine bodyPost_ret (v:=.tuple #[.agg GR.toArray,.bool false]) (results_cell_tmp Tryz.results55 rfl hload rfl) rfl ?_
   exact Or.inl ⟨rfl,fun a b ha hb=>HI.out.2 a b ha hb,(HB3.out.trans (HI.out.1.mono HB3.out.size)).trans (HWF.out.2.below (by have:=HB3.out.size;have:=HI.out.1.size;omega) fun b hb e=>by have:=HQW.out;omega)⟩
  ·obtain⟨y,hy⟩:∃y,ys[i]? =some y:=⟨ys[i]'(by rw[HYL.out];exact hiM),List.getElem?_eq_getElem _⟩
   have HY:=hide hy
   obtain⟨g,o,rfl,hg,HC⟩:=HYC.out i y hy
   have hcell:∀(j:Nat) (u:Value),(QK y)[j]? =some u->wr.cell? ⟨g,o+i*4+j,none⟩=some u:=fun j u hj=>(HI.out.1.cell (p:=⟨g,o+i*4+j,none⟩) hg).trans (HC j u hj)
   have x0:wr.cell? ⟨g,o+i*4,none⟩=some (.int .i64 y.1.1):=hcell 0 _ rfl
   have x1:wr.cell? ⟨g,o+i*4+1,none⟩=some (.int .i64 y.1.2.1):=hcell 1 _ rfl
   have x2:wr.cell? ⟨g,o+i*4+2,none⟩=some (.string y.1.2.2):=hcell 2 _ rfl
   have x3:wr.cell? ⟨g,o+i*4+3,none⟩=some (.slice y.2.1.1 y.2.2.length y.2.1.2):=hcell 3 _ rfl
   have j1:(0:Int)<=(i:Int):=by omega
   have j2:(i:Int)<(M:Int):=by omega
   have HWM:Hid (∃w4 q,(w4=wr.alloc (.cells #[.int .i64 y.1.1,.int .i64 y.1.2.1,.string y.1.2.2,.slice y.2.1.1 y.2.2.length y.2.1.2] 30)/\q=wr.heap.size)/\Below wr.heap.size wr w4/\w4.heap[q]? =some (.cells #[.int .i64 y.1.1,.int .i64 y.1.2.1,.string y.1.2.2,.slice y.2.1.1 y.2.2.length y.2.1.2] 30)):=⟨_,_,⟨rfl,rfl⟩,(Below.refl _ _).alloc (Nat.le_refl _) _,heap_alloc_new _ _⟩
   clear hcell HC hy
   go_wp2_with fail
   obtain⟨w4,q2,⟨hw4,hq2⟩,hb4,hh4⟩:=HWM.out
   rw[<-hw4,<-hq2]
   have HB4:=hide (HI.out.1.trans (hb4.mono HI.out.1.size))
   have HQ4:=hide hh4
   have HZ:=hide HI.out.2
   clear hw4 hq2 hb4 hh4 HWM x0 x1 x2 x3 HI HYC
   go_loopw [25] (fun j wr=>∃j':Nat,j'<=L/\j=.int .i64 j'/\Hid (Below w4.heap.size w4 wr/\∀b,b<j'->G i b=false)) (fun j _=>L-(intOf j).toNat)
   case atStart=>exact⟨0,Nat.zero_le _,rfl,Below.refl _ _,fun b h=>by omega⟩
   case round=>
    obtain⟨j,hj,rfl,HJ⟩:=hrel
    by_cases hjL:j<L
    rotate_left
    ·obtain rfl:j=L:=by omega
     have HN:Hid (Below w3.heap.size w3 wr/\∀a b,a<i+1->b<j->G a b=false):=⟨HB4.out.trans (HJ.out.1.mono HB4.out.size),fun a b ha hb=>by
      by_cases e:a=i
      ·rw[e]
       exact HJ.out.2 b hb
      ·exact HZ.out a b (by omega) hb⟩
     go_wp2_with fail
     go_roundw
     case rel=>exact⟨i+1,by omega,by go_num,HN.out⟩
     case measure=>simp[intOf];omega
    ·obtain⟨c,hc⟩:∃c,l[j]? =some c:=⟨l[j]'(by rw[HLL.out];exact hjL),List.getElem?_eq_getElem _⟩
     obtain⟨lb,lo,rfl,hlb,HCC⟩:=HLC.out j c hc
     have HCL:=hide hc
     have HBW:=hide (HB3.out.trans (HB4.out.mono HB3.out.size))
     have HBR:=hide (HBW.out.trans (HJ.out.1.mono HBW.out.size))
     have hcell:∀(t:Nat) (u:Value),(dJ (n+1) c)[t]? =some u->wr.cell? ⟨lb,lo+j*13+t,none⟩=some u:=fun t u ht=>(HBR.out.cell (p:=⟨lb,lo+j*13+t,none⟩) hlb).trans (HCC t u ht)
     have y0:wr.cell? ⟨lb,lo+j*13,none⟩=some (.int .i64 c.1.1.1.1):=hcell 0 _ rfl
     have y1:wr.cell? ⟨lb,lo+j*13+1,none⟩=some (.int .i64 c.1.1.1.2.1):=hcell 1 _ rfl
     have y2:wr.cell? ⟨lb,lo+j*13+2,none⟩=some (.string c.1.1.1.2.2):=hcell 2 _ rfl
     have y3:wr.cell? ⟨lb,lo+j*13+3,none⟩=some (.slice c.1.1.2.1.1 c.1.1.2.2.length c.1.1.2.1.2):=hcell 3 _ rfl
     have y4:wr.cell? ⟨lb,lo+j*13+4,none⟩=some (.int .i64 c.1.2.1.1.1):=hcell 4 _ rfl
     have y5:wr.cell? ⟨lb,lo+j*13+5,none⟩=some (.int .i64 c.1.2.1.1.2.1):=hcell 5 _ rfl
     have y6:wr.cell? ⟨lb,lo+j*13+6,none⟩=some (.string c.1.2.1.1.2.2):=hcell 6 _ rfl
     have y7:wr.cell? ⟨lb,lo+j*13+7,none⟩=some (.slice c.1.2.1.2.1.1 c.1.2.1.2.2.length c.1.2.1.2.1.2):=hcell 7 _ rfl
     have y8:wr.cell? ⟨lb,lo+j*13+8,none⟩=some (.slice c.2.1.1 c.2.2.length c.2.1.2):=hcell 8 _ rfl
     have y9:wr.cell? ⟨lb,lo+j*13+9,none⟩=some (.int .i64 c.1.2.2.1.1):=hcell 9 _ rfl
     have y10:wr.cell? ⟨lb,lo+j*13+10,none⟩=some (.int .i64 c.1.2.2.1.2.1):=hcell 10 _ rfl
     have y11:wr.cell? ⟨lb,lo+j*13+11,none⟩=some (.string c.1.2.2.1.2.2):=hcell 11 _ rfl
     have y12:wr.cell? ⟨lb,lo+j*13+12,none⟩=some (.slice c.1.2.2.2.1.1 c.1.2.2.2.2.length c.1.2.2.2.1.2):=hcell 12 _ rfl
     have k1:(0:Int)<=(j:Int):=by omega
     have k2:(j:Int)<(L:Int):=by omega
     have HWC:Hid (∃w5 q,(w5=wr.alloc (.cells #[.int .i64 c.1.1.1.1,.int .i64 c.1.1.1.2.1,.string c.1.1.1.2.2,.slice c.1.1.2.1.1 c.1.1.2.2.length c.1.1.2.1.2,.int .i64 c.1.2.1.1.1,.int .i64 c.1.2.1.1.2.1,.string c.1.2.1.1.2.2,.slice c.1.2.1.2.1.1 c.1.2.1.2.2.length c.1.2.1.2.1.2,.slice c.2.1.1 c.2.2.length c.2.1.2,.int .i64 c.1.2.2.1.1,.int .i64 c.1.2.2.1.2.1,.string c.1.2.2.1.2.2,.slice c.1.2.2.2.1.1 c.1.2.2.2.2.length c.1.2.2.2.1.2] 77)/\q=wr.heap.size)/\Below wr.heap.size wr w5/\w5.heap[q]? =some (.cells #[.int .i64 c.1.1.1.1,.int .i64 c.1.1.1.2.1,.string c.1.1.1.2.2,.slice c.1.1.2.1.1 c.1.1.2.2.length c.1.1.2.1.2,.int .i64 c.1.2.1.1.1,.int .i64 c.1.2.1.1.2.1,.string c.1.2.1.1.2.2,.slice c.1.2.1.2.1.1 c.1.2.1.2.2.length c.1.2.1.2.1.2,.slice c.2.1.1 c.2.2.length c.2.1.2,.int .i64 c.1.2.2.1.1,.int .i64 c.1.2.2.1.2.1,.string c.1.2.2.1.2.2,.slice c.1.2.2.2.1.1 c.1.2.2.2.2.length c.1.2.2.2.1.2] 77)):=⟨_,_,⟨rfl,rfl⟩,(Below.refl _ _).alloc (Nat.le_refl _) _,heap_alloc_new _ _⟩
     clear hcell HCC hc
     go_upto_region 8 with fail
     obtain⟨w5,q3,⟨hw5,hq3⟩,hb5,hh5⟩:=HWC.out
     rw[<-hw5,<-hq3]
     have HB5:=hide (HJ.out.1.trans (hb5.mono HJ.out.1.size))
     have HB35:=hide (HB4.out.trans (HB5.out.mono HB4.out.size))
     have HQ5:=hide hh5
     have HZJ:=hide HJ.out.2
     have HQS:Hid (w5.heap[q0]? =some ob/\w5.heap[q1]? =some (.cells #[.int .i64 s.1.1,.int .i64 s.1.2.1,.string s.1.2.2,.slice s.2.1.1 s.2.2.length s.2.1.2] 30)/\w5.heap[q2]? =some (.cells #[.int .i64 y.1.1,.int .i64 y.1.2.1,.string y.1.2.2,.slice y.2.1.1 y.2.2.length y.2.1.2] 30)):=⟨(HB35.out.block q0 (Array.getElem?_eq_some_iff.1 HQ3.out.1).1).trans HQ3.out.1,(HB35.out.block q1 (Array.getElem?_eq_some_iff.1 HQ3.out.2).1).trans HQ3.out.2,(HB5.out.block q2 (Array.getElem?_eq_some_iff.1 HQ4.out).1).trans HQ4.out⟩
     clear hw5 hq3 hb5 hh5 HWC HJ y0 y1 y2 y3 y4 y5 y6 y7 y8 y9 y10 y11 y12
     have z0:=ae HQ5.out 0
     have z1:=ae HQ5.out 1
     have z2:=ae HQ5.out 2
     have z3:=ae HQ5.out 3
     have z4:=ae HQ5.out 4
     have z5:=ae HQ5.out 5
     have z6:=ae HQ5.out 6
     have z7:=ae HQ5.out 7
     have z8:=ae HQ5.out 8
     have z9:=ae HQ5.out 9
     have z10:=ae HQ5.out 10
     have z11:=ae HQ5.out 11
     have z12:=ae HQ5.out 12
     have a0:=ae HQS.out.2.1 0
     have b0:=ae HQS.out.2.2 0
     have a1:=ae HQS.out.2.1 1
     have b1:=ae HQS.out.2.2 1
     have a2:=ae HQS.out.2.1 2
     have b2:=ae HQS.out.2.2 2
     have a3:=ae HQS.out.2.1 3
     have b3:=ae HQS.out.2.2 3
     simp only[List.getElem?_cons_zero,List.getElem?_cons_succ]at z0 z1 z2 z3 z4 z5 z6 z7 z8 z9 z10 z11 z12 a0 a1 a2 a3 b0 b1 b2 b3
     have HFF:=hide (HF.out s ys w3 w5 i j y c HRR.out HB35.out HY.out HCL.out)
     go_wp2_with fail
     refine HFF.out.mono ?_
     rintro e w6 ⟨fa,flen,fc,rfl,H6⟩
     clear z0 z1 z2 z3 z4 z5 z6 z7 z8 z9 z10 z11 z12 a0 a1 a2 a3 b0 b1 b2 b3 HFF
     obtain⟨t,ht⟩:∃t,t=G i j:=⟨_,rfl⟩
     rw[<-ht]
     have HT:=hide ht
     clear ht
     cases t
     ·have HN:Hid (Below w4.heap.size w4 w6/\∀b,b<j+1->G i b=false):=⟨HB5.out.trans (H6.out.1.mono HB5.out.size),fun b hb=>by
        by_cases e:b=j
        ·rw[e]
         exact HT.out.symm
        ·exact HZJ.out b (by omega)⟩
      clear H6
      go_wp2_with fail
      go_roundw
      case rel=>exact⟨j+1,by omega,by go_num,HN.out⟩
      case measure=>simp[intOf];omega
     ·have HQ6:Hid (w6.heap[q0]? =some ob/\w6.heap[q2]? =some (.cells #[.int .i64 y.1.1,.int .i64 y.1.2.1,.string y.1.2.2,.slice y.2.1.1 y.2.2.length y.2.1.2] 30)/\w6.heap[q3]? =some (.cells #[.int .i64 c.1.1.1.1,.int .i64 c.1.1.1.2.1,.string c.1.1.1.2.2,.slice c.1.1.2.1.1 c.1.1.2.2.length c.1.1.2.1.2,.int .i64 c.1.2.1.1.1,.int .i64 c.1.2.1.1.2.1,.string c.1.2.1.1.2.2,.slice c.1.2.1.2.1.1 c.1.2.1.2.2.length c.1.2.1.2.1.2,.slice c.2.1.1 c.2.2.length c.2.1.2,.int .i64 c.1.2.2.1.1,.int .i64 c.1.2.2.1.2.1,.string c.1.2.2.1.2.2,.slice c.1.2.2.2.1.1 c.1.2.2.2.2.length c.1.2.2.2.1.2] 77)):=⟨(H6.out.1.block q0 (Array.getElem?_eq_some_iff.1 HQS.out.1).1).trans HQS.out.1,(H6.out.1.block q2 (Array.getElem?_eq_some_iff.1 HQS.out.2.2).1).trans HQS.out.2.2,(H6.out.1.block q3 (Array.getElem?_eq_some_iff.1 HQ5.out).1).trans HQ5.out⟩
      have HTH:Hid (w6.there q0 0 19):=by
       have h1:=HQ6.out.1
       rw[HOB.out]at h1
       exact bP h1
      have z0:=ae HQ6.out.2.2 0
      have z1:=ae HQ6.out.2.2 1
      have z2:=ae HQ6.out.2.2 2
      have z3:=ae HQ6.out.2.2 3
      have z4:=ae HQ6.out.2.2 4
      have z5:=ae HQ6.out.2.2 5
      have z6:=ae HQ6.out.2.2 6
      have z7:=ae HQ6.out.2.2 7
      have z8:=ae HQ6.out.2.2 8
      have z9:=ae HQ6.out.2.2 9
      have z10:=ae HQ6.out.2.2 10
      have z11:=ae HQ6.out.2.2 11
      have z12:=ae HQ6.out.2.2 12
      have b0:=ae HQ6.out.2.1 0
      have b1:=ae HQ6.out.2.1 1
      have b2:=ae HQ6.out.2.1 2
      have b3:=ae HQ6.out.2.1 3
      simp only[List.getElem?_cons_zero,List.getElem?_cons_succ]at z0 z1 z2 z3 z4 z5 z6 z7 z8 z9 z10 z11 z12 b0 b1 b2 b3
      go_upto_region 10 with fail
      iterate 16 go_step
      have HWF:Hid (∃wf,wf=w6.setCells q0 0 (Dp i y c fa flen fc).toArray.toList/\Hid (wf.rangeAt q0 0 (Dp i y c fa flen fc)/\Kee (fun q=>q=q0) w6 wf)):=⟨_,rfl,World.rangeAt_setCells_same w6 q0 0 (Dp i y c fa flen fc) HTH.out,(cu q0 _ 0 w6).1⟩
      refine wpList_store_mid rfl 136 (.tmp 4) (.tmp 41) rfl q0 0 (Dp i y c fa flen fc).toArray rfl rfl HTH.out gF (Gh i y c fa flen fc) ?_
      obtain⟨wf,hwf,HWF⟩:=HWF.out
      rw[<-hwf]
      have hload:=hide (run_loadVar_mid (P:=Tryz.prog) wf q0 0 136 (Dp i y c fa flen fc) _ HWF.out.1 Tryz.underlying136 rfl gF)
      clear hwf HTH z0 z1 z2 z3 z4 z5 z6 z7 z8 z9 z10 z11 z12 b0 b1 b2 b3
      go_wp2_with fail
      refine bodyPost_ret (v:=.tuple #[.agg (Dp i y c fa flen fc).toArray,.bool true]) (results_cell_tmp Tryz.results55 rfl hload.out rfl) rfl ?_
      refine Or.inr ⟨i,j,y,c,fa,flen,fc,rfl,s,ys,w3,w5,w6,HRR.out,HY.out,HCL.out,HT.out.symm,HZ.out,HZJ.out,HB3.out,HB35.out,H6.out.1,H6.out.2 HT.out.symm, ?_,HS3.out⟩
      have hk:=HWF.out.2
      rw[HQW.out]at hk
      exact hk
end Go.Proofs.YtmbjgiaebneodaaGreat
