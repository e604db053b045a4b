/- What is proved here: plain facts and contracts that the claimed theorem stands on. No condition but those that each names. -/
import Derived.Test.YtmbjgiaebneodaaGreatG29
namespace Go.Proofs.YtmbjgiaebneodaaGreat
open Go.RowKit Go.Maps
set_option maxRecDepth 100000
set_option maxHeartbeats 2000000
variable {base n N:Nat} {wp:BL} {mo:Option Nat} {f:Int×Int->List (Tm N)} {sl:Int×Int->Value} {w:World}
def Pd (base:Nat) (wp:BL) (mo:Option Nat) (n N:Nat) (f:Int×Int->List (Tm N)) (sl:Int×Int->Value) (k:Int×Int) (l:List (Tm N)) (w w':World):Prop:=
 ∃mo' sl',WyAt base wp mo' (n+1) N (upd f k l) sl' w'/\Kee (pW wp mo sl) w w'/\∀b,pW wp mo' sl' b->pW wp mo sl b∨w.heap.size<=b
theorem xO:(Tryz.prog.info? 30).map (fun i=>(i.zero,i.size,i.bytes))=some (some (.agg #[.int .i64 0,.int .i64 0,.string ⟨#[]⟩,.slice none 0 0]),4,56):=by kernel_rfl
theorem MF (mb:Nat) (W:World):(binOp .eql 65 (.map (some mb)) (.map none)).run Tryz.prog W=.ok (.bool false) W:=by kernel_rfl
theorem MR (W:World):(binOp .eql 65 (.map none) (.map none)).run Tryz.prog W=.ok (.bool true) W:=by kernel_rfl
theorem bA {S:Nat->Prop} {W W1:World} (h:Kee S W W1) {b:Nat} (hb:b<W.heap.size) (hS:¬S b):∀o v,W.cell? ⟨b,o,none⟩=some v->W1.cell? ⟨b,o,none⟩=some v:=fun o _ hv=>(h.cell o hb hS).trans hv
theorem Im (wp:BL) (mb:Nat) (k0 k1:Int) (y0 y1:Int) (ys:ByteArray) (ya:Option Addr) (yl yc L sc:Nat) (sa:Option Addr) (xs:List Value) (base:Nat) (w wr:World) (X:World->Nat->World->Prop) (G:World->Prop) (hL:L<1000) (hbw:base<=w.heap.size) (hwp:wp.b<w.heap.size) (hmb:mb<w.heap.size) (hne:wp.b≠mb)
    (hwr:wr=(w.alloc (.cells #[.int .i64 k0,.int .i64 k1] 151)).alloc (.cells #[.int .i64 y0,.int .i64 y1,.string ys,.slice ya yl yc] 30))
    (hrow:∀b,(Value.slice sa L sc).ownBlock=some b->b<w.heap.size/\b≠wp.b)
    (HC:Hid (w.cell? ⟨wp.b,wp.o,none⟩=some (.map (some mb))))
    (HR:Hid (∀W,Kee (fun b=>b=mb) wr W->W.ownsRow base 30 4 (.slice sa L sc) L xs))
    (HE:Hid (∀W,Below wr.heap.size wr W->∃(st:Nat) (W1:World),(Instr.mapEntry 65 (.map (some mb)) (pk (k0,k1))).run Tryz.prog W=.ok (.tuple #[.slice sa L sc,goInt st]) W1/\(Kee (fun b=>b=mb) W W1/\W1.heap.size=W.heap.size/\X W st W1)))
    (HS:Hid (∀W st W1 W2 w5 g c,X W st W1->Below wr.heap.size wr W->Kee (fun b=>b=mb) W W1->W1.heap.size=W.heap.size->Below W1.heap.size W1 W2->W2.grownBy w5 (Value.slice sa L sc).ownBlock->w5.ownsRow base 30 4 (.slice (some ⟨g,0,none⟩) (L+1) c) (L+1) (xs++ [.int .i64 y0,.int .i64 y1,.string ys,.slice ya yl yc])->((Value.slice sa L sc).ownBlock=some g∨g=W2.heap.size)->
     ∃w6,(Instr.entryStore 65 (.map (some mb)) (goInt st) (.slice (some ⟨g,0,none⟩) (L+1) c)).run Tryz.prog w5=.ok () w6/\(G w6/\Kee (fun b=>b=mb) w5 w6/\w6.heap.size=w5.heap.size)))
    :Calls Tryz.prog 109 #[.pointer (some ⟨wp.b,wp.o,none⟩),.agg #[.int .i64 k0,.int .i64 k1],.agg #[.int .i64 y0,.int .i64 y1,.string ys,.slice ya yl yc]] w fun e w'=>e=.returned (.tuple #[])/\G w':=by
 obtain⟨it,hit,htz0,htz1,htz2⟩:=info_parts xO
 have HIT:Hid (Tryz.prog.info? 30=some it/\it.zero=some (.agg #[.int .i64 0,.int .i64 0,.string ⟨#[]⟩,.slice none 0 0])/\it.size=4/\it.bytes=56):=⟨hit,htz0,htz1,htz2⟩
 clear hit htz0 htz1 htz2
 have c0:=HC.out
 have HEQ:=MF mb
 have HW:Hid (∃q1 q2,q1=w.heap.size/\q2=w.heap.size+1):=⟨_,_,rfl,rfl⟩
 go_enter Tryz.func109,Tryz.ntmps109
 go_wp2_with fail
 obtain⟨q1,q2,hq1,hq2⟩:=HW.out
 rw[<-hwr,<-hq2,<-hq1]
 have hsr:wr.heap.size=w.heap.size+2:=by rw[hwr];simp
 have HBL:Hid (Below w.heap.size w wr):=by
  rw[hwr]
  exact((Below.refl _ _).alloc (Nat.le_refl _) _).alloc (by simp) _
 have HQ1:Hid (wr.heap[q1]? =some (.cells #[.int .i64 k0,.int .i64 k1] 151)):=by
  rw[hwr,hq1]
  exact(((Below.refl _ _).alloc (Nat.le_refl _) _).block w.heap.size (by simp)).trans (heap_alloc_new w _)
 have HQ2:Hid (wr.heap[q2]? =some (.cells #[.int .i64 y0,.int .i64 y1,.string ys,.slice ya yl yc] 30)):=by
  rw[hwr,hq2]
  have h:=heap_alloc_new (w.alloc (.cells #[.int .i64 k0,.int .i64 k1] 151)) (.cells #[.int .i64 y0,.int .i64 y1,.string ys,.slice ya yl yc] 30)
  have e:(w.alloc (.cells #[.int .i64 k0,.int .i64 k1] 151)).heap.size=w.heap.size+1:=by simp
  rwa [e]at h
 have HP0:Hid (wr.cell? ⟨wp.b,wp.o,none⟩=some (.map (some mb))):=(HBL.out.cell (p:=⟨wp.b,wp.o,none⟩) hwp).trans c0
 have hl1:q1<wr.heap.size:=by omega
 have hl2:q2<wr.heap.size:=by omega
 have hlp:wp.b<wr.heap.size:=by omega
 have hlm:mb<wr.heap.size:=by omega
 have hbr:base<=wr.heap.size:=by omega
 have hn1:q1≠mb:=by omega
 have hn2:q2≠mb:=by omega
 have hrw:∀b,(Value.slice sa L sc).ownBlock=some b->b≠q1/\b≠q2/\b≠wp.b:=fun b hb=>⟨by have:=(hrow b hb).1;omega,by have:=(hrow b hb).1;omega,(hrow b hb).2⟩
 have HP:Hid (∀W,Below wr.heap.size wr W->W.cell? ⟨wp.b,wp.o,none⟩=some (.map (some mb))/\(W.cell? ⟨q1,0,none⟩=some (.int .i64 k0)/\W.cell? ⟨q1,1,none⟩=some (.int .i64 k1))/\(W.cell? ⟨q2,0,none⟩=some (.int .i64 y0)/\W.cell? ⟨q2,1,none⟩=some (.int .i64 y1)/\W.cell? ⟨q2,2,none⟩=some (.string ys)/\W.cell? ⟨q2,3,none⟩=some (.slice ya yl yc))):=by
  intro W hW
  have e1:=(hW.block q1 hl1).trans HQ1.out
  have e2:=(hW.block q2 hl2).trans HQ2.out
  exact⟨(hW.cell (p:=⟨wp.b,wp.o,none⟩) hlp).trans HP0.out,⟨by simp[World.cell?,e1],by simp[World.cell?,e1]⟩,by simp[World.cell?,e2],by simp[World.cell?,e2],by simp[World.cell?,e2],by simp[World.cell?,e2]⟩
 have HPC:Hid (∀S W W1,Kee S W W1->wr.heap.size<=W.heap.size->¬S wp.b->¬S q1->¬S q2->(W.cell? ⟨wp.b,wp.o,none⟩=some (.map (some mb))/\(W.cell? ⟨q1,0,none⟩=some (.int .i64 k0)/\W.cell? ⟨q1,1,none⟩=some (.int .i64 k1))/\(W.cell? ⟨q2,0,none⟩=some (.int .i64 y0)/\W.cell? ⟨q2,1,none⟩=some (.int .i64 y1)/\W.cell? ⟨q2,2,none⟩=some (.string ys)/\W.cell? ⟨q2,3,none⟩=some (.slice ya yl yc)))->
   W1.cell? ⟨wp.b,wp.o,none⟩=some (.map (some mb))/\(W1.cell? ⟨q1,0,none⟩=some (.int .i64 k0)/\W1.cell? ⟨q1,1,none⟩=some (.int .i64 k1))/\(W1.cell? ⟨q2,0,none⟩=some (.int .i64 y0)/\W1.cell? ⟨q2,1,none⟩=some (.int .i64 y1)/\W1.cell? ⟨q2,2,none⟩=some (.string ys)/\W1.cell? ⟨q2,3,none⟩=some (.slice ya yl yc))):=by
  rintro S W W1 hk hs s0 s1 s2 ⟨p0,⟨p1,p2⟩,p3,p4,p5,p6⟩
  have a0:=bA hk (b:=wp.b) (by omega) s0
  have a1:=bA hk (b:=q1) (by omega) s1
  have a2:=bA hk (b:=q2) (by omega) s2
  exact⟨a0 _ _ p0,⟨a1 _ _ p1,a1 _ _ p2⟩,a2 _ _ p3,a2 _ _ p4,a2 _ _ p5,a2 _ _ p6⟩
 have HPK:Hid (∀W W1,Below wr.heap.size wr W->Kee (fun b=>b=mb) W W1->W1.cell? ⟨wp.b,wp.o,none⟩=some (.map (some mb))/\(W1.cell? ⟨q1,0,none⟩=some (.int .i64 k0)/\W1.cell? ⟨q1,1,none⟩=some (.int .i64 k1))/\(W1.cell? ⟨q2,0,none⟩=some (.int .i64 y0)/\W1.cell? ⟨q2,1,none⟩=some (.int .i64 y1)/\W1.cell? ⟨q2,2,none⟩=some (.string ys)/\W1.cell? ⟨q2,3,none⟩=some (.slice ya yl yc))):=
  fun W W1 hW hk=>HPC.out _ W W1 hk hW.size hne hn1 hn2 (HP.out W hW)
 have HPG:Hid (∀W W1 w5,Below wr.heap.size wr W->Kee (fun b=>b=mb) W W1->W1.grownBy w5 (Value.slice sa L sc).ownBlock->w5.cell? ⟨wp.b,wp.o,none⟩=some (.map (some mb))/\(w5.cell? ⟨q1,0,none⟩=some (.int .i64 k0)/\w5.cell? ⟨q1,1,none⟩=some (.int .i64 k1))/\(w5.cell? ⟨q2,0,none⟩=some (.int .i64 y0)/\w5.cell? ⟨q2,1,none⟩=some (.int .i64 y1)/\w5.cell? ⟨q2,2,none⟩=some (.string ys)/\w5.cell? ⟨q2,3,none⟩=some (.slice ya yl yc))):=
  fun W W1 w5 hW hk hg=>HPC.out _ W1 w5 (cO hg) (Nat.le_trans hW.size hk.size) (fun e=>(hrw _ e).2.2 rfl) (fun e=>(hrw _ e).1 rfl) (fun e=>(hrw _ e).2.1 rfl) (HPK.out W W1 hW hk)
 have HBc:Hid (Below wr.heap.size wr (wr.alloc (.cells #[.int .i64 y0,.int .i64 y1,.string ys,.slice ya yl yc] 30)).drew):=(show Below _ _ _ by go_grown)
 have HZc:Hid ((wr.alloc (.cells #[.int .i64 y0,.int .i64 y1,.string ys,.slice ya yl yc] 30)).drew.heap.size=wr.heap.size+1):=(show _=_ by simp[World.drew])
 have HKB:Hid (∀W1,Kee (fun b=>b=mb) (wr.alloc (.cells #[.int .i64 y0,.int .i64 y1,.string ys,.slice ya yl yc] 30)).drew W1->Kee (fun b=>b=mb) wr W1):=fun W1 hk=>Kee.trans (aj HBc.out _) hk fun _ _ e=>e
 have HNB:Hid (∀W1,Kee (fun b=>b=mb) (wr.alloc (.cells #[.int .i64 y0,.int .i64 y1,.string ys,.slice ya yl yc] 30)).drew W1->W1.heap[wr.heap.size]? =some (.cells #[.int .i64 y0,.int .i64 y1,.string ys,.slice ya yl yc] 30)):=
  fun W1 hk=>(hk.block wr.heap.size (by rw[HZc.out];omega) (by omega)).trans (heap_alloc_new wr _)
 have HPE:Hid (∀w5 w6,(w5.cell? ⟨wp.b,wp.o,none⟩=some (.map (some mb))/\(w5.cell? ⟨q1,0,none⟩=some (.int .i64 k0)/\w5.cell? ⟨q1,1,none⟩=some (.int .i64 k1))/\(w5.cell? ⟨q2,0,none⟩=some (.int .i64 y0)/\w5.cell? ⟨q2,1,none⟩=some (.int .i64 y1)/\w5.cell? ⟨q2,2,none⟩=some (.string ys)/\w5.cell? ⟨q2,3,none⟩=some (.slice ya yl yc)))->Kee (fun b=>b=mb) w5 w6->(w6.cell? ⟨wp.b,wp.o,none⟩=some (.map (some mb))/\(w6.cell? ⟨q1,0,none⟩=some (.int .i64 k0)/\w6.cell? ⟨q1,1,none⟩=some (.int .i64 k1))/\(w6.cell? ⟨q2,0,none⟩=some (.int .i64 y0)/\w6.cell? ⟨q2,1,none⟩=some (.int .i64 y1)/\w6.cell? ⟨q2,2,none⟩=some (.string ys)/\w6.cell? ⟨q2,3,none⟩=some (.slice ya yl yc)))):=by
  rintro w5 w6 ⟨p0,⟨p1,p2⟩,p3,p4,p5,p6⟩ hk
  have lt:=fun(b o:Nat) (v:Value) (h:w5.cell? ⟨b,o,none⟩=some v)=>World.block_lt_of_cell? w5 ⟨b,o,none⟩ h
  exact⟨bA hk (lt _ _ _ p0) hne _ _ p0,⟨bA hk (lt _ _ _ p1) hn1 _ _ p1,bA hk (lt _ _ _ p2) hn1 _ _ p2⟩,bA hk (lt _ _ _ p3) hn2 _ _ p3,bA hk (lt _ _ _ p4) hn2 _ _ p4,bA hk (lt _ _ _ p5) hn2 _ _ p5,bA hk (lt _ _ _ p6) hn2 _ _ p6⟩
 obtain⟨p0,⟨p1,p2⟩,p3,p4,p5,p6⟩:=HP.out wr (Below.refl _ _)
 obtain⟨st,W1,hE1,hX1⟩:=HE.out _ HBc.out
 have HX1:=hide hX1
 have HP1:=hide (HPK.out _ _ HBc.out hX1.1)
 have HZ1:=hide (hX1.2.1.trans HZc.out)
 simp only[pk,goInt]at hE1
 clear hX1
 clear hq1 hq2 hwr HW hsr HP0 HQ1 HQ2 HPC c0 hl1 hl2 hlp hlm hn1 hn2 hrw HBL
 go_wp2_with fail
 go_region_held3 (fun W=>W.cell? ⟨wp.b,wp.o,none⟩=some (.map (some mb))/\(W.cell? ⟨q1,0,none⟩=some (.int .i64 k0)/\W.cell? ⟨q1,1,none⟩=some (.int .i64 k1))/\(W.cell? ⟨q2,0,none⟩=some (.int .i64 y0)/\W.cell? ⟨q2,1,none⟩=some (.int .i64 y1)/\W.cell? ⟨q2,2,none⟩=some (.string ys)/\W.cell? ⟨q2,3,none⟩=some (.slice ya yl yc)))
  (first|(go_keep;done)|exact HP.out _ (Below.refl _ _).drew|exact HP.out _ HBc.out|exact HP1.out|exact HP2.out|exact HP3.out) ((first
   | (refine step_append_lies _ rfl _ _ 28 rfl base 30 it _ 4 56 Tryz.underlying28 HIT.out.1 HIT.out.2.1 HIT.out.2.2.1 HIT.out.2.2.2 rfl (by decide) (.slice sa L sc) L xs (by simp[Act.eval]) (HR.out _ (HKB.out _ HX1.out.1)) ⟨wr.heap.size,0,none⟩ 1 1 [.int .i64 y0,.int .i64 y1,.string ys,.slice ya yl yc] (by simp[Act.eval]) rfl (World.news_of_block (cs:= #[.int .i64 y0,.int .i64 y1,.string ys,.slice ya yl yc]) (t:=30) (fr:=(0,0)) (HNB.out _ HX1.out.1)) (by simp[Value.oneCell']) (by decide) (by unfold maxLen;omega) (by omega) (by have:=HZ1.out;omega) _ rfl ?_;intro g5 c5 w5 hown5 hgrow5 hat5 hlt5;have HST:=HS.out _ _ _ _ _ g5 c5 HX1.out.2.2 HBc.out HX1.out.1 HX1.out.2.1 (Below.refl _ _) hgrow5 hown5 hat5;obtain⟨w6,hE6,hX6⟩:=HST;have HX6:=hide hX6;simp only[goInt]at hE6;have HP2:=hide (HPG.out _ _ _ HBc.out HX1.out.1 hgrow5);have HP3:=hide (HPE.out _ _ HP2.out HX6.out.2.1);clear hown5 hgrow5 hat5 hlt5 hX6)))
 exact bodyPost_end (v:=.tuple #[]) (by simp[results]) rfl ⟨rfl,HX6.out.1⟩
theorem D9 (wp:BL) (mb:Nat) (k0 k1:Int) (y0 y1:Int) (ys:ByteArray) (ya:Option Addr) (yl yc L sc:Nat) (sa:Option Addr) (xs:List Value) (base:Nat) (w wr:World) (X:World->Nat->World->Prop) (G:World->Prop) (hL:L<1000) (hbw:base<=w.heap.size) (hwp:wp.b<w.heap.size) (hmb:mb=w.heap.size+1+1)
    (hwr:wr=(((w.alloc (.cells #[.int .i64 k0,.int .i64 k1] 151)).alloc (.cells #[.int .i64 y0,.int .i64 y1,.string ys,.slice ya yl yc] 30)).alloc (.map #[] 0)).setCell ⟨wp.b,wp.o,none⟩ (.map (some mb)))
    (hrow:∀b,(Value.slice sa L sc).ownBlock=some b->b<w.heap.size/\b≠wp.b)
    (HC:Hid (BxM wp none w))
    (HR:Hid (∀W,Kee (fun b=>b=mb) wr W->W.ownsRow base 30 4 (.slice sa L sc) L xs))
    (HE:Hid (∀W,Below wr.heap.size wr W->∃(st:Nat) (W1:World),(Instr.mapEntry 65 (.map (some mb)) (pk (k0,k1))).run Tryz.prog W=.ok (.tuple #[.slice sa L sc,goInt st]) W1/\(Kee (fun b=>b=mb) W W1/\W1.heap.size=W.heap.size/\X W st W1)))
    (HS:Hid (∀W st W1 W2 w5 g c,X W st W1->Below wr.heap.size wr W->Kee (fun b=>b=mb) W W1->W1.heap.size=W.heap.size->Below W1.heap.size W1 W2->W2.grownBy w5 (Value.slice sa L sc).ownBlock->w5.ownsRow base 30 4 (.slice (some ⟨g,0,none⟩) (L+1) c) (L+1) (xs++ [.int .i64 y0,.int .i64 y1,.string ys,.slice ya yl yc])->((Value.slice sa L sc).ownBlock=some g∨g=W2.heap.size)->
     ∃w6,(Instr.entryStore 65 (.map (some mb)) (goInt st) (.slice (some ⟨g,0,none⟩) (L+1) c)).run Tryz.prog w5=.ok () w6/\(G w6/\Kee (fun b=>b=mb) w5 w6/\w6.heap.size=w5.heap.size)))
    :Calls Tryz.prog 109 #[.pointer (some ⟨wp.b,wp.o,none⟩),.agg #[.int .i64 k0,.int .i64 k1],.agg #[.int .i64 y0,.int .i64 y1,.string ys,.slice ya yl yc]] w fun e w'=>e=.returned (.tuple #[])/\G w':=by
 obtain⟨it,hit,htz0,htz1,htz2⟩:=info_parts xO
 have HIT:Hid (Tryz.prog.info? 30=some it/\it.zero=some (.agg #[.int .i64 0,.int .i64 0,.string ⟨#[]⟩,.slice none 0 0])/\it.size=4/\it.bytes=56):=⟨hit,htz0,htz1,htz2⟩
 clear hit htz0 htz1 htz2
 have c0:w.cell? ⟨wp.b,wp.o,none⟩=some (.map none):=HC.out.cell.1
 have cA:BxM wp none (((w.alloc (.cells #[.int .i64 k0,.int .i64 k1] 151)).alloc (.cells #[.int .i64 y0,.int .i64 y1,.string ys,.slice ya yl yc] 30)).alloc (.map #[] 0)):=HC.out.kept (((((Below.refl w.heap.size w).alloc (Nat.le_refl _) _).alloc (by simp) _).alloc (by simp;omega) _).block wp.b hwp)
 have c1:(((w.alloc (.cells #[.int .i64 k0,.int .i64 k1] 151)).alloc (.cells #[.int .i64 y0,.int .i64 y1,.string ys,.slice ya yl yc] 30)).alloc (.map #[] 0)).frozen? ⟨wp.b,wp.o,none⟩=false:=cA.cell.2 _
 have c2:(((w.alloc (.cells #[.int .i64 k0,.int .i64 k1] 151)).alloc (.cells #[.int .i64 y0,.int .i64 y1,.string ys,.slice ya yl yc] 30)).alloc (.map #[] 0)).cell? ⟨wp.b,wp.o,none⟩=some (.map none):=cA.cell.1
 clear cA
 have hne:wp.b≠mb:=by omega
 have HEQ:=MR
 have hmm:= @run_makeMap Tryz.prog
 have HW:Hid (∃q1 q2,q1=w.heap.size/\q2=w.heap.size+1):=⟨_,_,rfl,rfl⟩
 go_enter Tryz.func109,Tryz.ntmps109
 go_wp2_with fail
 obtain⟨q1,q2,hq1,hq2⟩:=HW.out
 rw[<-hmb,<-hwr,<-hq2,<-hq1]
 have hsr:wr.heap.size=w.heap.size+3:=by rw[hwr];simp[World.setCell]
 have hb0:∀b,b≠wp.b->wr.heap[b]? =(((w.alloc (.cells #[.int .i64 k0,.int .i64 k1] 151)).alloc (.cells #[.int .i64 y0,.int .i64 y1,.string ys,.slice ya yl yc] 30)).alloc (.map #[] 0)).heap[b]? :=fun b hb=>by
  rw[hwr]
  have:wp.b≠b:=fun e=>hb e.symm
  simp[World.setCell,Array.getElem?_modify,this]
 have HQ1:Hid (wr.heap[q1]? =some (.cells #[.int .i64 k0,.int .i64 k1] 151)):=by
  rw[hb0 q1 (by omega),hq1]
  exact((((Below.refl _ _).alloc (Nat.le_refl _) _).alloc (by simp) _).block w.heap.size (by simp)).trans (heap_alloc_new w _)
 have HQ2:Hid (wr.heap[q2]? =some (.cells #[.int .i64 y0,.int .i64 y1,.string ys,.slice ya yl yc] 30)):=by
  rw[hb0 q2 (by omega),hq2]
  have h:=heap_alloc_new (w.alloc (.cells #[.int .i64 k0,.int .i64 k1] 151)) (.cells #[.int .i64 y0,.int .i64 y1,.string ys,.slice ya yl yc] 30)
  have e:(w.alloc (.cells #[.int .i64 k0,.int .i64 k1] 151)).heap.size=w.heap.size+1:=by simp
  rw[e]at h
  exact(((Below.refl _ _).alloc (Nat.le_refl _) _).block (w.heap.size+1) (by simp)).trans h
 have HP0:Hid (wr.cell? ⟨wp.b,wp.o,none⟩=some (.map (some mb))):=by
  rw[hwr]
  exact(BxM.set (mo':=some mb) (HC.out.kept (((((Below.refl w.heap.size w).alloc (Nat.le_refl _) (.cells #[.int .i64 k0,.int .i64 k1] 151)).alloc (by simp) (.cells #[.int .i64 y0,.int .i64 y1,.string ys,.slice ya yl yc] 30)).alloc (by simp;omega) (.map #[] 0)).block wp.b hwp))).cell.1
 have hl1:q1<wr.heap.size:=by omega
 have hl2:q2<wr.heap.size:=by omega
 have hlp:wp.b<wr.heap.size:=by omega
 have hlm:mb<wr.heap.size:=by omega
 have hbr:base<=wr.heap.size:=by omega
 have hn1:q1≠mb:=by omega
 have hn2:q2≠mb:=by omega
 have hrw:∀b,(Value.slice sa L sc).ownBlock=some b->b≠q1/\b≠q2/\b≠wp.b:=fun b hb=>⟨by have:=(hrow b hb).1;omega,by have:=(hrow b hb).1;omega,(hrow b hb).2⟩
 have HP:Hid (∀W,Below wr.heap.size wr W->W.cell? ⟨wp.b,wp.o,none⟩=some (.map (some mb))/\(W.cell? ⟨q1,0,none⟩=some (.int .i64 k0)/\W.cell? ⟨q1,1,none⟩=some (.int .i64 k1))/\(W.cell? ⟨q2,0,none⟩=some (.int .i64 y0)/\W.cell? ⟨q2,1,none⟩=some (.int .i64 y1)/\W.cell? ⟨q2,2,none⟩=some (.string ys)/\W.cell? ⟨q2,3,none⟩=some (.slice ya yl yc))):=by
  intro W hW
  have e1:=(hW.block q1 hl1).trans HQ1.out
  have e2:=(hW.block q2 hl2).trans HQ2.out
  exact⟨(hW.cell (p:=⟨wp.b,wp.o,none⟩) hlp).trans HP0.out,⟨by simp[World.cell?,e1],by simp[World.cell?,e1]⟩,by simp[World.cell?,e2],by simp[World.cell?,e2],by simp[World.cell?,e2],by simp[World.cell?,e2]⟩
 have HPC:Hid (∀S W W1,Kee S W W1->wr.heap.size<=W.heap.size->¬S wp.b->¬S q1->¬S q2->(W.cell? ⟨wp.b,wp.o,none⟩=some (.map (some mb))/\(W.cell? ⟨q1,0,none⟩=some (.int .i64 k0)/\W.cell? ⟨q1,1,none⟩=some (.int .i64 k1))/\(W.cell? ⟨q2,0,none⟩=some (.int .i64 y0)/\W.cell? ⟨q2,1,none⟩=some (.int .i64 y1)/\W.cell? ⟨q2,2,none⟩=some (.string ys)/\W.cell? ⟨q2,3,none⟩=some (.slice ya yl yc)))->
   W1.cell? ⟨wp.b,wp.o,none⟩=some (.map (some mb))/\(W1.cell? ⟨q1,0,none⟩=some (.int .i64 k0)/\W1.cell? ⟨q1,1,none⟩=some (.int .i64 k1))/\(W1.cell? ⟨q2,0,none⟩=some (.int .i64 y0)/\W1.cell? ⟨q2,1,none⟩=some (.int .i64 y1)/\W1.cell? ⟨q2,2,none⟩=some (.string ys)/\W1.cell? ⟨q2,3,none⟩=some (.slice ya yl yc))):=by
  rintro S W W1 hk hs s0 s1 s2 ⟨p0,⟨p1,p2⟩,p3,p4,p5,p6⟩
  have a0:=bA hk (b:=wp.b) (by omega) s0
  have a1:=bA hk (b:=q1) (by omega) s1
  have a2:=bA hk (b:=q2) (by omega) s2
  exact⟨a0 _ _ p0,⟨a1 _ _ p1,a1 _ _ p2⟩,a2 _ _ p3,a2 _ _ p4,a2 _ _ p5,a2 _ _ p6⟩
 have HPK:Hid (∀W W1,Below wr.heap.size wr W->Kee (fun b=>b=mb) W W1->W1.cell? ⟨wp.b,wp.o,none⟩=some (.map (some mb))/\(W1.cell? ⟨q1,0,none⟩=some (.int .i64 k0)/\W1.cell? ⟨q1,1,none⟩=some (.int .i64 k1))/\(W1.cell? ⟨q2,0,none⟩=some (.int .i64 y0)/\W1.cell? ⟨q2,1,none⟩=some (.int .i64 y1)/\W1.cell? ⟨q2,2,none⟩=some (.string ys)/\W1.cell? ⟨q2,3,none⟩=some (.slice ya yl yc))):=
  fun W W1 hW hk=>HPC.out _ W W1 hk hW.size hne hn1 hn2 (HP.out W hW)
 have HPG:Hid (∀W W1 w5,Below wr.heap.size wr W->Kee (fun b=>b=mb) W W1->W1.grownBy w5 (Value.slice sa L sc).ownBlock->w5.cell? ⟨wp.b,wp.o,none⟩=some (.map (some mb))/\(w5.cell? ⟨q1,0,none⟩=some (.int .i64 k0)/\w5.cell? ⟨q1,1,none⟩=some (.int .i64 k1))/\(w5.cell? ⟨q2,0,none⟩=some (.int .i64 y0)/\w5.cell? ⟨q2,1,none⟩=some (.int .i64 y1)/\w5.cell? ⟨q2,2,none⟩=some (.string ys)/\w5.cell? ⟨q2,3,none⟩=some (.slice ya yl yc))):=
  fun W W1 w5 hW hk hg=>HPC.out _ W1 w5 (cO hg) (Nat.le_trans hW.size hk.size) (fun e=>(hrw _ e).2.2 rfl) (fun e=>(hrw _ e).1 rfl) (fun e=>(hrw _ e).2.1 rfl) (HPK.out W W1 hW hk)
 have HBc:Hid (Below wr.heap.size wr (wr.alloc (.cells #[.int .i64 y0,.int .i64 y1,.string ys,.slice ya yl yc] 30)).drew):=(show Below _ _ _ by go_grown)
 have HZc:Hid ((wr.alloc (.cells #[.int .i64 y0,.int .i64 y1,.string ys,.slice ya yl yc] 30)).drew.heap.size=wr.heap.size+1):=(show _=_ by simp[World.drew])
 have HKB:Hid (∀W1,Kee (fun b=>b=mb) (wr.alloc (.cells #[.int .i64 y0,.int .i64 y1,.string ys,.slice ya yl yc] 30)).drew W1->Kee (fun b=>b=mb) wr W1):=fun W1 hk=>Kee.trans (aj HBc.out _) hk fun _ _ e=>e
 have HNB:Hid (∀W1,Kee (fun b=>b=mb) (wr.alloc (.cells #[.int .i64 y0,.int .i64 y1,.string ys,.slice ya yl yc] 30)).drew W1->W1.heap[wr.heap.size]? =some (.cells #[.int .i64 y0,.int .i64 y1,.string ys,.slice ya yl yc] 30)):=
  fun W1 hk=>(hk.block wr.heap.size (by rw[HZc.out];omega) (by omega)).trans (heap_alloc_new wr _)
 have HPE:Hid (∀w5 w6,(w5.cell? ⟨wp.b,wp.o,none⟩=some (.map (some mb))/\(w5.cell? ⟨q1,0,none⟩=some (.int .i64 k0)/\w5.cell? ⟨q1,1,none⟩=some (.int .i64 k1))/\(w5.cell? ⟨q2,0,none⟩=some (.int .i64 y0)/\w5.cell? ⟨q2,1,none⟩=some (.int .i64 y1)/\w5.cell? ⟨q2,2,none⟩=some (.string ys)/\w5.cell? ⟨q2,3,none⟩=some (.slice ya yl yc)))->Kee (fun b=>b=mb) w5 w6->(w6.cell? ⟨wp.b,wp.o,none⟩=some (.map (some mb))/\(w6.cell? ⟨q1,0,none⟩=some (.int .i64 k0)/\w6.cell? ⟨q1,1,none⟩=some (.int .i64 k1))/\(w6.cell? ⟨q2,0,none⟩=some (.int .i64 y0)/\w6.cell? ⟨q2,1,none⟩=some (.int .i64 y1)/\w6.cell? ⟨q2,2,none⟩=some (.string ys)/\w6.cell? ⟨q2,3,none⟩=some (.slice ya yl yc)))):=by
  rintro w5 w6 ⟨p0,⟨p1,p2⟩,p3,p4,p5,p6⟩ hk
  have lt:=fun(b o:Nat) (v:Value) (h:w5.cell? ⟨b,o,none⟩=some v)=>World.block_lt_of_cell? w5 ⟨b,o,none⟩ h
  exact⟨bA hk (lt _ _ _ p0) hne _ _ p0,⟨bA hk (lt _ _ _ p1) hn1 _ _ p1,bA hk (lt _ _ _ p2) hn1 _ _ p2⟩,bA hk (lt _ _ _ p3) hn2 _ _ p3,bA hk (lt _ _ _ p4) hn2 _ _ p4,bA hk (lt _ _ _ p5) hn2 _ _ p5,bA hk (lt _ _ _ p6) hn2 _ _ p6⟩
 obtain⟨p0,⟨p1,p2⟩,p3,p4,p5,p6⟩:=HP.out wr (Below.refl _ _)
 obtain⟨st,W1,hE1,hX1⟩:=HE.out _ HBc.out
 have HX1:=hide hX1
 have HP1:=hide (HPK.out _ _ HBc.out hX1.1)
 have HZ1:=hide (hX1.2.1.trans HZc.out)
 simp only[pk,goInt]at hE1
 clear hX1
 clear hmb hb0 hq1 hq2 hwr HW hsr HP0 HQ1 HQ2 HPC c0 hl1 hl2 hlp hlm hn1 hn2 hrw
 go_wp2_with fail
 go_region_held3 (fun W=>W.cell? ⟨wp.b,wp.o,none⟩=some (.map (some mb))/\(W.cell? ⟨q1,0,none⟩=some (.int .i64 k0)/\W.cell? ⟨q1,1,none⟩=some (.int .i64 k1))/\(W.cell? ⟨q2,0,none⟩=some (.int .i64 y0)/\W.cell? ⟨q2,1,none⟩=some (.int .i64 y1)/\W.cell? ⟨q2,2,none⟩=some (.string ys)/\W.cell? ⟨q2,3,none⟩=some (.slice ya yl yc)))
  (first|(go_keep;done)|exact HP.out _ (Below.refl _ _).drew|exact HP.out _ HBc.out|exact HP1.out|exact HP2.out|exact HP3.out) ((first
   | (refine step_append_lies _ rfl _ _ 28 rfl base 30 it _ 4 56 Tryz.underlying28 HIT.out.1 HIT.out.2.1 HIT.out.2.2.1 HIT.out.2.2.2 rfl (by decide) (.slice sa L sc) L xs (by simp[Act.eval]) (HR.out _ (HKB.out _ HX1.out.1)) ⟨wr.heap.size,0,none⟩ 1 1 [.int .i64 y0,.int .i64 y1,.string ys,.slice ya yl yc] (by simp[Act.eval]) rfl (World.news_of_block (cs:= #[.int .i64 y0,.int .i64 y1,.string ys,.slice ya yl yc]) (t:=30) (fr:=(0,0)) (HNB.out _ HX1.out.1)) (by simp[Value.oneCell']) (by decide) (by unfold maxLen;omega) (by omega) (by have:=HZ1.out;omega) _ rfl ?_;intro g5 c5 w5 hown5 hgrow5 hat5 hlt5;have HST:=HS.out _ _ _ _ _ g5 c5 HX1.out.2.2 HBc.out HX1.out.1 HX1.out.2.1 (Below.refl _ _) hgrow5 hown5 hat5;obtain⟨w6,hE6,hX6⟩:=HST;have HX6:=hide hX6;simp only[goInt]at hE6;have HP2:=hide (HPG.out _ _ _ HBc.out HX1.out.1 hgrow5);have HP3:=hide (HPE.out _ _ HP2.out HX6.out.2.1);clear hown5 hgrow5 hat5 hlt5 hX6)))
 exact bodyPost_end (v:=.tuple #[]) (by simp[results]) rfl ⟨rfl,HX6.out.1⟩
variable {base n N:Nat} {wp:BL} {mo:Option Nat} {f:Int×Int->List (Tm N)} {sl:Int×Int->Value} {w:World}
theorem TRow.at {v:Value} {l:List (Tm N)} (h:TRow base N v l w):∃a c,v=.slice a l.length c/\w.ownsRow base 30 4 (.slice a l.length c) l.length (bS N l):=by
 obtain⟨a,c,e⟩:=h.sliced
 refine⟨a,c,e, ?_⟩
 rw[<-e]
 exact h
theorem FZ (y:Tm (N+1)):yn (gZ (N+1) y)=[.int .i64 y.1.1,.int .i64 y.1.2.1,.string y.1.2.2,.slice y.2.1.1 y.2.2.length y.2.1.2]:=rfl
theorem wh {mb:Nat} (h:WyAt base wp (some mb) n N f sl w):wp.b≠mb:=by
 intro e
 obtain⟨_,h2,h3⟩:=h
 rcases h3 with⟨h3,_⟩|⟨mb',e',hg⟩
 ·cases h3
 ·injection e' with e'
  subst e' e
  obtain⟨D,⟨es,clock,hb,_⟩,_⟩:=hg.map
  rw[h2.2]at hb
  cases hb
theorem zJ (h:WyAt base wp mo n N f sl w) {k:Int×Int} (hk:I2 k):(sl k).ownBlock≠some wp.b:=by
 intro e
 obtain⟨cur,hc⟩:=dz (h.row hk) wp.b e
 rw[h.2.1.2]at hc
 injection hc with hc
 injection hc with _ e2 _
 exact h.2.1.1.2 e2
theorem Na {f:Int×Int->List (Tm (N+1))} (h:WyAt base wp mo n (N+1) f sl w) {k:Int×Int} (hk:I2 k) (y:Tm (N+1)) (hn:n<999999) (hl:(f k).length<1000):
    Calls Tryz.prog 109 #[.pointer (some ⟨wp.b,wp.o,none⟩),pk k,val (N+1) y] w fun e w'=>e=.returned (.tuple #[])/\Pd base wp mo n (N+1) f sl k (f k++ [y]) w w':=by
 have hwp:=h.lt wp.b (Or.inl rfl)
 rcases h.2.2 with⟨rfl,rfl,rfl⟩|⟨mb,rfl,hg⟩
 ·obtain⟨wr,hwr⟩:∃wr,wr=(((w.alloc (.cells #[.int .i64 k.1,.int .i64 k.2] 151)).alloc (.cells #[.int .i64 y.1.1,.int .i64 y.1.2.1,.string y.1.2.2,.slice y.2.1.1 y.2.2.length y.2.1.2] 30)).alloc (.map #[] 0)).setCell ⟨wp.b,wp.o,none⟩ (.map (some (w.heap.size+1+1))):=⟨_,rfl⟩
  have hsr:wr.heap.size=w.heap.size+3:=by rw[hwr];simp[World.setCell]
  have h0:Kee (fun b=>b=wp.b) w wr:=by
   rw[hwr]
   refine Kee.trans (aj (((((Below.refl w.heap.size w).alloc (Nat.le_refl _) _).alloc (by simp) _).alloc (by simp;omega) _)) _) (aP _ wp.b wp.o _) fun _ _ e=>e
  have hwr0:BxM wp (some (w.heap.size+1+1)) wr:=by
   rw[hwr]
   exact(h.2.1.kept (((((Below.refl w.heap.size w).alloc (Nat.le_refl _) (.cells #[.int .i64 k.1,.int .i64 k.2] 151)).alloc (by simp) (.cells #[.int .i64 y.1.1,.int .i64 y.1.2.1,.string y.1.2.2,.slice y.2.1.1 y.2.2.length y.2.1.2] 30)).alloc (by simp;omega) (.map #[] 0)).block wp.b hwp.2)).set
  have hG:GM base (w.heap.size+1+1) n (N+1) (fun _=> []) (fun _=>kL) wr:=by
   have h1:=GM.new ((w.alloc (.cells #[.int .i64 k.1,.int .i64 k.2] 151)).alloc (.cells #[.int .i64 y.1.1,.int .i64 y.1.2.1,.string y.1.2.2,.slice y.2.1.1 y.2.2.length y.2.1.2] 30)) (N+1)
   have e:((w.alloc (.cells #[.int .i64 k.1,.int .i64 k.2] 151)).alloc (.cells #[.int .i64 y.1.1,.int .i64 y.1.2.1,.string y.1.2.2,.slice y.2.1.1 y.2.2.length y.2.1.2] 30)).heap.size=w.heap.size+1+1:=by simp
   rw[e]at h1
   have h2:=(h1.kee (aP _ wp.b wp.o (.map (some (w.heap.size+1+1)))) fun b hb e=>by
    rcases hb with hb|⟨j,_,hb⟩
    ·omega
    ·simp[kL,Value.ownBlock]at hb)
   rw[<-hwr]at h2
   exact(h2.rebase (by omega)).mono (Nat.zero_le _)
  refine(D9 wp (w.heap.size+1+1) k.1 k.2 y.1.1 y.1.2.1 y.1.2.2 y.2.1.1 y.2.2.length y.2.1.2 0 0 none [] base w wr (fun W st W1=>Ent base (w.heap.size+1+1) n (N+1) (fun _=> []) (fun _=>kL) k st W W1) (fun w'=>Pd base wp none n (N+1) (fun _=> []) (fun _=>kL) k ([]++ [y]) w w') (by omega) (by omega) hwp.2 rfl hwr (fun b hb=>by simp[Value.ownBlock]at hb) h.2.1 ?_ ?_ ?_).mono fun e w' h=>h
  ·intro W hW
   exact⟨rfl,Or.inl ⟨rfl,rfl⟩⟩
  ·intro W hW
   exact hG.open hk (by omega) hW
  ·intro W st W1 W2 w5 g c hX hW hk1 hs1 hW2 hgr ho hat
   obtain⟨w6,hr,hgrew,hk6,hs6⟩:=Ent.done hG hk hX hW hk1 hs1 hW2 hgr (y:=y) (L:=0) rfl (by simpa [bS,bJ,FZ]using ho) hat
   refine⟨w6,hr, ?_,hk6,hs6⟩
   obtain⟨v,hG6,hK6,hM6⟩:=hgrew
   have hwM:¬OA (w.heap.size+1+1) (fun _=>kL) wp.b:=by
    rintro (e|⟨j,_,e⟩)
    ·omega
    ·simp[kL,Value.ownBlock]at e
   refine⟨some (w.heap.size+1+1),_,⟨h.1,hwr0.kept (hK6.block wp.b (by omega) hwM),Or.inr ⟨_,rfl,hG6⟩⟩, ?_,fun b hb=> ?_⟩
   ·refine Kee.trans (h0.mono fun b _ e=>Or.inl e) hK6 fun b hb e=> ?_
    rcases e with e|⟨j,_,e⟩
    ·omega
    ·simp[kL,Value.ownBlock]at e
   ·rcases hb with hb|hb|hb
    ·exact Or.inl (Or.inl hb)
    ·injection hb with hb
     exact Or.inr (by omega)
    ·rcases hM6 b (Or.inr hb)with(e|⟨j,_,e⟩)|e
     ·exact Or.inr (by omega)
     ·simp[kL,Value.ownBlock]at e
     ·exact Or.inr (by omega)
 ·obtain⟨sa,sc,hs,hrow⟩:=(hg.row k hk).at
  have hmb:=hg.lt mb (Or.inl rfl)
  obtain⟨wr,hwr⟩:∃wr,wr=(w.alloc (.cells #[.int .i64 k.1,.int .i64 k.2] 151)).alloc (.cells #[.int .i64 y.1.1,.int .i64 y.1.2.1,.string y.1.2.2,.slice y.2.1.1 y.2.2.length y.2.1.2] 30):=⟨_,rfl⟩
  have hb:Below w.heap.size w wr:=by
   rw[hwr]
   exact((Below.refl _ _).alloc (Nat.le_refl _) _).alloc (by simp) _
  have hsr:wr.heap.size=w.heap.size+2:=by rw[hwr];simp
  have hG:GM base mb n (N+1) f sl wr:=hg.kee (aj hb fun _=>False) fun _ _ hf=>hf
  refine(Im wp mb k.1 k.2 y.1.1 y.1.2.1 y.1.2.2 y.2.1.1 y.2.2.length y.2.1.2 (f k).length sc sa (bS (N+1) (f k)) base w wr (fun W st W1=>Ent base mb n (N+1) f sl k st W W1) (fun w'=>Pd base wp (some mb) n (N+1) f sl k (f k++ [y]) w w') hl (by omega) hwp.2 hmb.2 (wh h) hwr (fun b hb=> ?_) h.cell.1 ?_ ?_ ?_).mono fun e w' h=>h
  ·rw[<-hs]at hb
   exact⟨((h.row hk).lt b hb).2,fun e=>zJ h hk (by rw[hb,e])⟩
  ·intro W hW
   rw[<-hs]
   exact aG (hG.row k hk) hW fun b hb e=>hG.ne hk (by rw[hb,e])
  ·intro W hW
   rw[<-hs]
   exact hG.open hk (by omega) hW
  ·intro W st W1 W2 w5 g c hX hW hk1 hs1 hW2 hgr ho hat
   rw[<-hs]at hgr hat
   obtain⟨w6,hr,hgrew,hk6,hs6⟩:=Ent.done hG hk hX hW hk1 hs1 hW2 hgr (y:=y) (L:=(f k).length) rfl (by simpa [FZ]using ho) hat
   refine⟨w6,hr, ?_,hk6,hs6⟩
   obtain⟨v,hG6,hK6,hM6⟩:=hgrew
   have hwM:¬OA mb sl wp.b:=by
    rintro (e|⟨j,hj,e⟩)
    ·exact wh h e
    ·exact zJ h hj e
   refine⟨some mb,_,⟨h.1,(h.2.1.kept (hb.block wp.b hwp.2)).kept (hK6.block wp.b (by omega) hwM),Or.inr ⟨_,rfl,hG6⟩⟩, ?_,fun b hb=> ?_⟩
   ·exact Kee.trans (aj hb _) hK6 fun b _ e=>FX e
   ·rcases hb with hb|hb|hb
    ·exact Or.inl (Or.inl hb)
    ·injection hb with hb
     exact Or.inl (Or.inr (Or.inl (by rw[hb])))
    ·rcases hM6 b (Or.inr hb)with e|e
     ·exact Or.inl (FX e)
     ·exact Or.inr (by omega)
def fH (p1 p2:Bool) (ck:Int) (cl:Bool) (L:Nat):Int:=if p1=false∨p2=false then 1 else if ck≠0 then ck else if cl=false then 5 else if 20<=L then 2 else 0
theorem DR (wp:BL) (a b:Int) (k u:Int) (s:ByteArray) (ta:Option Addr) (tl tc:Nat) (p1 p2:Bool) (ck:Int) (cl:Bool) (L:Nat) (w:World) (C:Int->Int->ByteArray->Option Addr->Nat->Nat->World->World->Prop) (G:World->Prop) (hL:L<=1000)
    (H1:Hid (∀W,Calls Tryz.prog 107 #[.int .i64 a] W fun e w'=>e=.returned (.bool p1)/\w'=W)) (H2:Hid (∀W,Calls Tryz.prog 107 #[.int .i64 b] W fun e w'=>e=.returned (.bool p2)/\w'=W))
    (HK:Hid (∀W,Below w.heap.size w W->Calls Tryz.prog 42 #[.agg #[.int .i64 k,.int .i64 u,.string s,.slice ta tl tc]] W fun e w'=>e=.returned (.int .i64 ck)/\Below W.heap.size W w'))
    (HL:Hid (∀W,Below w.heap.size w W->Calls Tryz.prog 43 #[.agg #[.int .i64 k,.int .i64 u,.string s,.slice ta tl tc]] W fun e w'=>e=.returned (.bool cl)/\Below W.heap.size W w'))
    (HM:Hid (∀W,Below w.heap.size w W->Calls Tryz.prog 108 #[.pointer (some ⟨wp.b,wp.o,none⟩),.int .i64 a,.int .i64 b] W fun e w'=>e=.returned (.int .i64 L)/\w'=W))
    (HC:Hid (∀W,ck=0->Below w.heap.size w W->Calls Tryz.prog 45 #[.agg #[.int .i64 k,.int .i64 u,.string s,.slice ta tl tc]] W fun e w'=>∃z0 z1 zs za zl zc,e=.returned (.agg #[.int .i64 z0,.int .i64 z1,.string zs,.slice za zl zc])/\Hid (C z0 z1 zs za zl zc W w')))
    (HA:Hid (∀z0 z1 zs za zl zc W w1,fH p1 p2 ck cl L=0->C z0 z1 zs za zl zc W w1->Below w.heap.size w W->Calls Tryz.prog 109 #[.pointer (some ⟨wp.b,wp.o,none⟩),.agg #[.int .i64 a,.int .i64 b],.agg #[.int .i64 z0,.int .i64 z1,.string zs,.slice za zl zc]] w1 fun e w'=>e=.returned (.tuple #[])/\Hid (G w'))):
    Calls Tryz.prog 87 #[.pointer (some ⟨wp.b,wp.o,none⟩),.int .i64 a,.int .i64 b,.agg #[.int .i64 k,.int .i64 u,.string s,.slice ta tl tc]] w fun e w'=>e=.returned (.int .i64 (fH p1 p2 ck cl L))/\(fH p1 p2 ck cl L≠0->Below w.heap.size w w')/\(fH p1 p2 ck cl L=0->G w'):=by
 have HW:Hid (∃w0 q,w0=w.alloc (.cells #[.int .i64 k,.int .i64 u,.string s,.slice ta tl tc] 30)/\q=w.heap.size):=⟨_,_,rfl,rfl⟩
 go_enter Tryz.func87,Tryz.ntmps87
 go_wp2_with fail
 obtain⟨w0,q,hw0,hq⟩:=HW.out
 rw[<-hw0,<-hq]
 have HB0:Hid (Below w.heap.size w w0):=by
  rw[hw0]
  exact(Below.refl _ _).alloc (Nat.le_refl _) _
 have HQ:Hid (w0.heap[q]? =some (.cells #[.int .i64 k,.int .i64 u,.string s,.slice ta tl tc] 30)/\q<w0.heap.size):=by
  rw[hw0,hq]
  exact⟨heap_alloc_new w _,by simp⟩
 have HT:Hid (∀W,Below w0.heap.size w0 W->W.cell? ⟨q,0,none⟩=some (.int .i64 k)/\W.cell? ⟨q,1,none⟩=some (.int .i64 u)/\W.cell? ⟨q,2,none⟩=some (.string s)/\W.cell? ⟨q,3,none⟩=some (.slice ta tl tc)):=by
  intro W hW
  have h:=(hW.block q HQ.out.2).trans HQ.out.1
  exact⟨ae h 0,ae h 1,ae h 2,ae h 3⟩
 clear hw0 hq HW
 refine(H1.out w0).mono ?_
 rintro e w1 ⟨rfl,rfl⟩
 cases p1
 ·go_wp2_with fail
  go_ret
  have e:fH false p2 ck cl L=1:=by simp[fH]
  rw[e]
  exact⟨rfl,fun _=>HB0.out,fun h=>by cases h⟩
 ·go_wp2_with fail
  refine(H2.out _).mono ?_
  rintro e w2 ⟨rfl,rfl⟩
  cases p2
  ·go_wp2_with fail
   go_ret
   have e:fH true false ck cl L=1:=by simp[fH]
   rw[e]
   exact⟨rfl,fun _=>HB0.out,fun h=>by cases h⟩
  ·obtain⟨t0,t1,t2,t3⟩:=HT.out _ (Below.refl _ _)
   go_wp2_with fail
   refine(HK.out _ HB0.out).mono ?_
   rintro e w3 ⟨rfl,hb3⟩
   have HB3:=hide hb3
   have HB30:=hide (HB0.out.trans (hb3.mono HB0.out.size))
   clear hb3 t0 t1 t2 t3
   by_cases hck:ck=0
   rotate_left
   ·have hck':¬(0:Int)=ck:=fun e=>hck e.symm
    go_wp2_with fail
    go_ret
    have e:fH true true ck cl L=ck:=by simp[fH,hck]
    rw[e]
    exact⟨rfl,fun _=>HB30.out,fun h=>absurd h hck⟩
   ·obtain⟨t0,t1,t2,t3⟩:=HT.out _ HB3.out
    have HCK:=hide hck
    subst hck
    go_wp2_with fail
    refine(HL.out _ HB30.out).mono ?_
    rintro e w4 ⟨rfl,hb4⟩
    have HB4:=hide (HB3.out.trans (hb4.mono HB3.out.size))
    have HB40:=hide (HB30.out.trans (hb4.mono HB30.out.size))
    clear hb4 t0 t1 t2 t3
    cases cl
    ·go_wp2_with fail
     go_ret
     have e:fH true true 0 false L=5:=by simp[fH]
     rw[e]
     exact⟨rfl,fun _=>HB40.out,fun h=>by cases h⟩
    ·go_wp2_with fail
     refine(HM.out _ HB40.out).mono ?_
     rintro e w5 ⟨rfl,rfl⟩
     by_cases h20:20<=L
     ·have h20':(20:Int)<=(L:Int):=by omega
      go_wp2_with fail
      go_ret
      have e:fH true true 0 true L=2:=by simp[fH,h20]
      rw[e]
      exact⟨rfl,fun _=>HB40.out,fun h=>by cases h⟩
     ·have h20':¬(20:Int)<=(L:Int):=by omega
      have HE0:Hid (fH true true 0 true L=0):=(show fH true true 0 true L=0 by simp[fH,h20])
      obtain⟨t0,t1,t2,t3⟩:=HT.out _ HB4.out
      go_wp2_with fail
      refine(HC.out _ (by simp) HB40.out).mono ?_
      rintro e w6 ⟨z0,z1,zs,za,zl,zc,rfl,HZ⟩
      go_wp2_with fail
      refine(HA.out z0 z1 zs za zl zc _ w6 HE0.out HZ.out HB40.out).mono ?_
      rintro e w7 ⟨rfl,HG⟩
      go_wp2_with fail
      go_ret
      rw[HE0.out]
      exact⟨rfl,fun h=>absurd rfl h,fun _=>HG.out⟩
theorem EN {n:Nat} {x:Tm n} (h:aQ n x=0):ai ⟨n,x⟩:=by
 rw[ax]
 rw[<-ik]at h
 unfold zS at h
 split at h
 ·rename_i hf
  simpa using hf
 ·cases h
variable {base n N:Nat} {wp:BL} {mo:Option Nat} {f:Int×Int->List (Tm (N+1))} {sl:Int×Int->Value} {w:World}
def MG (a:Int):Bool:=decide (1<=a) && decide (a<=99)
def jT (N:Nat) (a b:Int) (x:Tm (N+1)) (L:Nat):Int:=fH (MG a) (MG b) (aQ (N+1) x) (av (N+1) x) L
def Kc (base:Nat) (wp:BL) (mo:Option Nat) (n N:Nat) (f:Int×Int->List (Tm (N+1))) (sl:Int×Int->Value) (k:Int×Int) (x:Tm (N+1)) (w w':World):Prop:=
 ∃y mo' sl',same (N+1) y (N+1) x=true/\WyAt base wp mo' (n+1) (N+1) (upd f k (f k++ [y])) sl' w'/\Kee (pW wp mo sl) w w'/\(∀b,pW wp mo' sl' b->pW wp mo sl b∨w.heap.size<=b)/\In w'.heap.size w' (N+1) y/\Off (fun b=>w.heap.size<=b/\¬pW wp mo' sl' b) (N+1) y
theorem JB (h:WyAt base wp mo n (N+1) f sl w) {a b:Int} (hk:I2 (a,b)) (x:Tm (N+1)) (hx:In w.heap.size w (N+1) x) (hN:(nodes (N+1) x).length<=2097152) (hn:n<999999) (hl:(f (a,b)).length<=1000):
    Calls Tryz.prog 87 #[.pointer (some ⟨wp.b,wp.o,none⟩),.int .i64 a,.int .i64 b,val (N+1) x] w fun e w'=>e=.returned (.int .i64 (jT N a b x (f (a,b)).length))/\(jT N a b x (f (a,b)).length≠0->Below w.heap.size w w')/\(jT N a b x (f (a,b)).length=0->Kc base wp mo n N f sl (a,b) x w w'):=by
 refine DR wp a b x.1.1 x.1.2.1 x.1.2.2 x.2.1.1 x.2.2.length x.2.1.2 (MG a) (MG b) (aQ (N+1) x) (av (N+1) x) (f (a,b)).length w
  (fun z0 z1 zs za zl zc W w'=>∃y:Tm (N+1),(z0=y.1.1/\z1=y.1.2.1/\zs=y.1.2.2/\za=y.2.1.1/\zl=y.2.2.length/\zc=y.2.1.2)/\Below W.heap.size W w'/\In w'.heap.size w' (N+1) y/\Off (fun q=>W.heap.size<=q) (N+1) y/\same (N+1) y (N+1) x=true)
  (fun w'=>Kc base wp mo n N f sl (a,b) x w w') hl (fun W=>FP a W) (fun W=>FP b W) (fun W hW=> ?_) (fun W hW=> ?_) (fun W hW=> ?_) (fun W hc hW=> ?_) ?_
 ·exact dh (N+1) x w.heap.size W (hx.below hW) hW.size hN
 ·exact gN (N+1) x w.heap.size W (hx.below hW) hW.size
 ·exact Hm (h.later hW) hk
 ·refine(fV (N+1) x w.heap.size W (hx.below hW) hW.size (EN hc)).mono ?_
  rintro e w' ⟨y,rfl,hy⟩
  exact⟨y.1.1,y.1.2.1,y.1.2.2,y.2.1.1,y.2.2.length,y.2.1.2,rfl,⟨y,⟨rfl,rfl,rfl,rfl,rfl,rfl⟩,hy.out⟩⟩
 ·rintro z0 z1 zs za zl zc W w1 h0 ⟨y,⟨rfl,rfl,rfl,rfl,rfl,rfl⟩,hb1,hy1,hy2,hy3⟩ hW
  have hw1:Below w.heap.size w w1:=hW.trans (hb1.mono hW.size)
  have h20:(f (a,b)).length<1000:=by
   by_cases h2:20<=(f (a,b)).length
   ·exfalso
    unfold fH at h0
    split at h0
    ·cases h0
    ·split at h0
     ·contradiction
     ·split at h0
      ·cases h0
      ·first|cases h0|(split at h0<;>first|cases h0|contradiction)
   ·omega
  refine(Na (h.later hw1) hk y hn h20).mono ?_
  rintro e w' ⟨rfl,mo',sl',k1,k2,k3⟩
  refine⟨rfl,y,mo',sl',hy3,k1,Kee.trans (aj hw1 _) k2 fun _ _ e=>e,fun b hb=> ?_, ?_, ?_⟩
  ·rcases k3 b hb with e|e
   ·exact Or.inl e
   ·exact Or.inr (Nat.le_trans hw1.size e)
  ·refine hy1.kee k2 (hy2.mono fun b hb hm=> ?_)
   have:=(h.lt b hm).2
   have:=hW.size
   omega
  ·refine(In.offB hy2 hy1).mono fun b hb=>⟨Nat.le_trans hW.size hb.1,fun hm=> ?_⟩
   rcases k3 b hm with e|e
   ·have:=(h.lt b e).2
    have:=hW.size
    omega
   ·omega
theorem Ii (wp:BL) (mo:Option Nat) (a b:Int) (w:World) (hwp:wp.b<w.heap.size) (HC:Hid (w.cell? ⟨wp.b,wp.o,none⟩=some (.map mo)))
    (HL:Hid (∀W,Below w.heap.size w W->(Instr.lookup 65 (.map mo) (.agg #[.int .i64 a,.int .i64 b]) false).run Tryz.prog W=.ok (.slice none 0 0) W)):
    Calls Tryz.prog 39 #[.pointer (some ⟨wp.b,wp.o,none⟩),.int .i64 a,.int .i64 b] w fun e w'=>e=.returned (.tuple #[.agg #[.int .i64 0,.int .i64 0,.string ⟨#[]⟩,.slice none 0 0],.int .i64 4])/\Below w.heap.size w w':=by
 have c0:=HC.out
 have HW:Hid (∃wr q0 q1,wr=(w.alloc (.cells #[.int .i64 0,.int .i64 0,.string ⟨#[]⟩,.slice none 0 0] 30)).alloc (.cells #[.int .i64 a,.int .i64 b] 151)/\q0=w.heap.size/\q1=w.heap.size+1):=⟨_,_,_,rfl,rfl,rfl⟩
 go_enter Tryz.func39,Tryz.ntmps39
 go_wp2_with fail
 obtain⟨wr,q0,q1,hwr,hq0,hq1⟩:=HW.out
 rw[<-hwr,<-hq1,<-hq0]
 have hsr:wr.heap.size=w.heap.size+2:=by rw[hwr];simp
 have HB:Hid (Below w.heap.size w wr):=by
  rw[hwr]
  exact((Below.refl _ _).alloc (Nat.le_refl _) _).alloc (by simp) _
 have HQ0:Hid (wr.heap[q0]? =some (.cells #[.int .i64 0,.int .i64 0,.string ⟨#[]⟩,.slice none 0 0] 30)):=by
  rw[hwr,hq0]
  exact(((Below.refl _ _).alloc (Nat.le_refl _) _).block w.heap.size (by simp)).trans (heap_alloc_new w _)
 have HQ1:Hid (wr.heap[q1]? =some (.cells #[.int .i64 a,.int .i64 b] 151)):=by
  rw[hwr,hq1]
  have h:=heap_alloc_new (w.alloc (.cells #[.int .i64 0,.int .i64 0,.string ⟨#[]⟩,.slice none 0 0] 30)) (.cells #[.int .i64 a,.int .i64 b] 151)
  have e:(w.alloc (.cells #[.int .i64 0,.int .i64 0,.string ⟨#[]⟩,.slice none 0 0] 30)).heap.size=w.heap.size+1:=by simp
  rwa [e]at h
 have HN:Hid (q0<wr.heap.size/\q1<wr.heap.size/\wp.b<wr.heap.size/\w.heap.size<=q0/\w.heap.size<=q1/\wp.b<w.heap.size):=(show _/\_ by omega)
 have HP:Hid (∀W,Below wr.heap.size wr W->W.cell? ⟨wp.b,wp.o,none⟩=some (.map mo)/\W.cell? ⟨q1,0,none⟩=some (.int .i64 a)/\W.cell? ⟨q1,1,none⟩=some (.int .i64 b)):=by
  intro W hW
  have e1:=(hW.block q1 HN.out.2.1).trans HQ1.out
  exact⟨((hW.cell (p:=⟨wp.b,wp.o,none⟩) HN.out.2.2.1).trans (HB.out.cell (p:=⟨wp.b,wp.o,none⟩) hwp)).trans c0,ae e1 0,ae e1 1⟩
 have HD0:Hid (Below wr.heap.size wr wr.drew):=(Below.refl _ _).drew
 have HBD:Hid (∀W,Below wr.heap.size wr W->Below w.heap.size w W):=fun W hW=>HB.out.trans (hW.mono HB.out.size)
 have hl:=HL.out _ (HBD.out _ HD0.out)
 obtain⟨p0,p1,p2⟩:=HP.out wr (Below.refl _ _)
 clear hwr hq0 hq1 HW hsr c0
 go_region_held3 (fun W=>W.cell? ⟨wp.b,wp.o,none⟩=some (.map mo)/\W.cell? ⟨q1,0,none⟩=some (.int .i64 a)/\W.cell? ⟨q1,1,none⟩=some (.int .i64 b)) (first|(go_keep;done)|exact HP.out _ HD0.out) (fail)
 have hz:=HQ0.out
 have z0:wr.cell? ⟨q0,0,none⟩=some (.int .i64 0):=ae hz 0
 have z1:wr.cell? ⟨q0,1,none⟩=some (.int .i64 0):=ae hz 1
 have z2:wr.cell? ⟨q0,2,none⟩=some (.string ⟨#[]⟩):=ae hz 2
 have z3:wr.cell? ⟨q0,3,none⟩=some (.slice none 0 0):=ae hz 3
 have zf:∀j,wr.frozen? ⟨q0,j,none⟩=false:=fun j=>by simp[World.frozen?,hz]
 have f0:=zf 0
 have f1:=zf 1
 have f2:=zf 2
 have f3:=zf 3
 clear zf hz
 have HQ:=hide HN.out.2.2.2.1
 go_wp2_with fail
 refine bodyPost_ret (v:=.tuple #[.agg #[.int .i64 0,.int .i64 0,.string ⟨#[]⟩,.slice none 0 0],.int .i64 4]) (by simp[results,Tryz.results39,go_sem,z0,z1,z2,z3]) rfl ⟨rfl, ?_⟩
 have hb:=HBD.out _ (Below.refl _ _)
 exact((((hb.setCell HQ.out _).setCell HQ.out _).setCell HQ.out _).setCell HQ.out _).drew
theorem JL (wp:BL) (mb g c:Nat) (y0 y1:Int) (ys:ByteArray) (ya:Option Addr) (yl yc:Nat) (a b:Int) (w:World) (G:World->Prop) (hwp:wp.b<w.heap.size) (hg:g<w.heap.size) (hmb:mb<w.heap.size) (hpm:wp.b≠mb) (hpg:wp.b≠g) (HC:Hid (w.cell? ⟨wp.b,wp.o,none⟩=some (.map (some mb))))
    (HL:Hid (∀W,Below w.heap.size w W->(Instr.lookup 65 (.map (some mb)) (.agg #[.int .i64 a,.int .i64 b]) false).run Tryz.prog W=.ok (.slice (some ⟨g,0,none⟩) 1 c) W))
    (HY:Hid (w.cell? ⟨g,0,none⟩=some (.int .i64 y0)/\w.cell? ⟨g,1,none⟩=some (.int .i64 y1)/\w.cell? ⟨g,2,none⟩=some (.string ys)/\w.cell? ⟨g,3,none⟩=some (.slice ya yl yc)))
    (HD:Hid (∀W,Below w.heap.size w W->∃w',(∀ty,(Builtin.delete_ #[65,151] ty #[.map (some mb),.agg #[.int .i64 a,.int .i64 b]]).run Tryz.prog W=.ok (.tuple #[]) w')/\Kee (fun b=>b=mb) W w'/\w'.heap.size=W.heap.size/\∀w2,Below w.heap.size w' w2->G w2)):
    Calls Tryz.prog 39 #[.pointer (some ⟨wp.b,wp.o,none⟩),.int .i64 a,.int .i64 b] w fun e w'=>e=.returned (.tuple #[.agg #[.int .i64 y0,.int .i64 y1,.string ys,.slice ya yl yc],.int .i64 0])/\G w':=by
 have c0:=HC.out
 have HW:Hid (∃wr q0 q1,wr=(w.alloc (.cells #[.int .i64 0,.int .i64 0,.string ⟨#[]⟩,.slice none 0 0] 30)).alloc (.cells #[.int .i64 a,.int .i64 b] 151)/\q0=w.heap.size/\q1=w.heap.size+1):=⟨_,_,_,rfl,rfl,rfl⟩
 go_enter Tryz.func39,Tryz.ntmps39
 go_wp2_with fail
 obtain⟨wr,q0,q1,hwr,hq0,hq1⟩:=HW.out
 rw[<-hwr,<-hq1,<-hq0]
 have hsr:wr.heap.size=w.heap.size+2:=by rw[hwr];simp
 have HB:Hid (Below w.heap.size w wr):=by
  rw[hwr]
  exact((Below.refl _ _).alloc (Nat.le_refl _) _).alloc (by simp) _
 have HQ0:Hid (wr.heap[q0]? =some (.cells #[.int .i64 0,.int .i64 0,.string ⟨#[]⟩,.slice none 0 0] 30)):=by
  rw[hwr,hq0]
  exact(((Below.refl _ _).alloc (Nat.le_refl _) _).block w.heap.size (by simp)).trans (heap_alloc_new w _)
 have HQ1:Hid (wr.heap[q1]? =some (.cells #[.int .i64 a,.int .i64 b] 151)):=by
  rw[hwr,hq1]
  have h:=heap_alloc_new (w.alloc (.cells #[.int .i64 0,.int .i64 0,.string ⟨#[]⟩,.slice none 0 0] 30)) (.cells #[.int .i64 a,.int .i64 b] 151)
  have e:(w.alloc (.cells #[.int .i64 0,.int .i64 0,.string ⟨#[]⟩,.slice none 0 0] 30)).heap.size=w.heap.size+1:=by simp
  rwa [e]at h
 have HN:Hid (q0<wr.heap.size/\q1<wr.heap.size/\wp.b<wr.heap.size/\w.heap.size<=q0/\w.heap.size<=q1/\wp.b<w.heap.size):=(show _/\_ by omega)
 have HP:Hid (∀W,Below wr.heap.size wr W->W.cell? ⟨wp.b,wp.o,none⟩=some (.map (some mb))/\W.cell? ⟨q1,0,none⟩=some (.int .i64 a)/\W.cell? ⟨q1,1,none⟩=some (.int .i64 b)):=by
  intro W hW
  have e1:=(hW.block q1 HN.out.2.1).trans HQ1.out
  exact⟨((hW.cell (p:=⟨wp.b,wp.o,none⟩) HN.out.2.2.1).trans (HB.out.cell (p:=⟨wp.b,wp.o,none⟩) hwp)).trans c0,ae e1 0,ae e1 1⟩
 have HD0:Hid (Below wr.heap.size wr wr.drew):=(Below.refl _ _).drew
 have HBD:Hid (∀W,Below wr.heap.size wr W->Below w.heap.size w W):=fun W hW=>HB.out.trans (hW.mono HB.out.size)
 have hl:=HL.out _ (HBD.out _ HD0.out)
 obtain⟨p0,p1,p2⟩:=HP.out wr (Below.refl _ _)
 clear hwr hq0 hq1 HW hsr c0
 go_region_held3 (fun W=>W.cell? ⟨wp.b,wp.o,none⟩=some (.map (some mb))/\W.cell? ⟨q1,0,none⟩=some (.int .i64 a)/\W.cell? ⟨q1,1,none⟩=some (.int .i64 b)) (first|(go_keep;done)|exact HP.out _ HD0.out) (fail)
 obtain⟨y0',y1',y2',y3'⟩:=HY.out
 have cc:=af HB.out
 replace y0':=(cc _ _ hg).trans y0'
 replace y1':=(cc _ _ hg).trans y1'
 replace y2':=(cc _ _ hg).trans y2'
 replace y3':=(cc _ _ hg).trans y3'
 clear cc
 have HW3:Hid (∃w3 q2,(w3=(wr.alloc (.cells #[.int .i64 y0,.int .i64 y1,.string ys,.slice ya yl yc] 30)).drew/\q2=wr.heap.size)/\Below wr.heap.size wr w3/\w3.heap[q2]? =some (.cells #[.int .i64 y0,.int .i64 y1,.string ys,.slice ya yl yc] 30)/\q2<w3.heap.size/\wr.heap.size<=q2):=⟨_,_,⟨rfl,rfl⟩,(show Below _ _ _ by go_grown),heap_alloc_new wr _,by simp[World.drew],Nat.le_refl _⟩
 go_wp2_with fail
 obtain⟨w3,q2,⟨hw3,hq2⟩,HS3⟩:=HW3.out
 rw[<-hw3,<-hq2]
 replace HS3:=hide HS3
 clear hw3 hq2 HW3 p0 p1 p2 hl y0' y1' y2' y3'
 have HB3:=hide (HBD.out _ HS3.out.1)
 have HP3:Hid (∀W:World,(∀b,b<w3.heap.size->b≠mb->b≠g->W.heap[b]? =w3.heap[b]?)->(W.cell? ⟨wp.b,wp.o,none⟩=some (.map (some mb))/\W.cell? ⟨q1,0,none⟩=some (.int .i64 a)/\W.cell? ⟨q1,1,none⟩=some (.int .i64 b))/\(W.cell? ⟨q2,0,none⟩=some (.int .i64 y0)/\W.cell? ⟨q2,1,none⟩=some (.int .i64 y1)/\W.cell? ⟨q2,2,none⟩=some (.string ys)/\W.cell? ⟨q2,3,none⟩=some (.slice ya yl yc))/\(W.heap[q0]? =some (.cells #[.int .i64 0,.int .i64 0,.string ⟨#[]⟩,.slice none 0 0] 30))):=by
  intro W hW
  obtain⟨n0,n1,n2,n3,n4,n5⟩:=HN.out
  have hs:=HS3.out.1.size
  have hq:=HS3.out.2.2.2
  have e1:=(hW q1 (by omega) (by omega) (by omega)).trans ((HS3.out.1.block q1 n1).trans HQ1.out)
  have e0:=(hW q0 (by omega) (by omega) (by omega)).trans ((HS3.out.1.block q0 n0).trans HQ0.out)
  have e2:=(hW q2 HS3.out.2.2.1 (by omega) (by omega)).trans HS3.out.2.1
  have ep:=hW wp.b (by omega) hpm hpg
  refine⟨⟨?_,ae e1 0,ae e1 1⟩,⟨ae e2 0,ae e2 1,ae e2 2,ae e2 3⟩,e0⟩
  have h:=(HP.out w3 HS3.out.1).1
  simp only[World.cell?,ep]at h ⊢
  exact h
 have HD3:Hid (Below w3.heap.size w3 w3.drew):=(Below.refl _ _).drew
 have HB3D:=hide (HB3.out.trans (HD3.out.mono HB3.out.size))
 obtain⟨⟨p0,p1,p2⟩,_,_⟩:=HP3.out w3 (fun _ _ _ _=>rfl)
 have HPD:=hide (HP3.out w3.drew (fun _ _ _ _=>rfl)).1
 obtain⟨w4,hdel,hk4,hs4,hG4⟩:∃w4,(∀ty,(Builtin.delete_ #[65,151] ty #[.map (some mb),.agg #[.int .i64 a,.int .i64 b]]).run Tryz.prog w3.drew=.ok (.tuple #[]) w4)/\Kee (fun b=>b=mb) w3.drew w4/\w4.heap.size=w3.drew.heap.size/\∀w2,Below w.heap.size w4 w2->G w2:=HD.out _ HB3D.out
 have HP4:=hide (HP3.out w4 (fun b hb h1 h2=>hk4.block b hb h1))
 have HG4:=hide hG4
 clear hk4 hs4 hG4
 go_region_held3 (fun W=>W.cell? ⟨wp.b,wp.o,none⟩=some (.map (some mb))/\W.cell? ⟨q1,0,none⟩=some (.int .i64 a)/\W.cell? ⟨q1,1,none⟩=some (.int .i64 b)) (first|(go_keep;done)|exact HPD.out|exact HP4.out.1) (fail)
 obtain⟨_,⟨t0,t1,t2,t3⟩,hz⟩:=HP4.out
 have z0:w4.cell? ⟨q0,0,none⟩=some (.int .i64 0):=ae hz 0
 have z1:w4.cell? ⟨q0,1,none⟩=some (.int .i64 0):=ae hz 1
 have z2:w4.cell? ⟨q0,2,none⟩=some (.string ⟨#[]⟩):=ae hz 2
 have z3:w4.cell? ⟨q0,3,none⟩=some (.slice none 0 0):=ae hz 3
 have zf:∀j,w4.frozen? ⟨q0,j,none⟩=false:=fun j=>by simp[World.frozen?,hz]
 have f0:=zf 0
 have f1:=zf 1
 have f2:=zf 2
 have f3:=zf 3
 have HQ:=hide HN.out.2.2.2.1
 clear zf hz
 go_wp2_with fail
 refine bodyPost_ret (v:=.tuple #[.agg #[.int .i64 y0,.int .i64 y1,.string ys,.slice ya yl yc],.int .i64 0]) (by simp[results,Tryz.results39,go_sem,z0,z1,z2,z3]) rfl ⟨rfl, ?_⟩
 exact HG4.out _ (((((Below.refl w.heap.size w4).setCell HQ.out _).setCell HQ.out _).setCell HQ.out _).setCell HQ.out _)
theorem II (wp:BL) (mb g c m:Nat) (y0 y1:Int) (ys:ByteArray) (ya:Option Addr) (yl yc:Nat) (a b:Int) (w:World) (G:World->Prop) (R:World->World->Prop) (hm:1<=m) (hm2:m<=1000) (hwp:wp.b<w.heap.size) (hg:g<w.heap.size) (hmb:mb<w.heap.size) (hpm:wp.b≠mb) (hpg:wp.b≠g) (HC:Hid (w.cell? ⟨wp.b,wp.o,none⟩=some (.map (some mb))))
    (HL:Hid (∀W,Below w.heap.size w W->(Instr.lookup 65 (.map (some mb)) (.agg #[.int .i64 a,.int .i64 b]) false).run Tryz.prog W=.ok (.slice (some ⟨g,0,none⟩) (m+1) c) W))
    (HY:Hid (w.cell? ⟨g,0,none⟩=some (.int .i64 y0)/\w.cell? ⟨g,1,none⟩=some (.int .i64 y1)/\w.cell? ⟨g,2,none⟩=some (.string ys)/\w.cell? ⟨g,3,none⟩=some (.slice ya yl yc)))
    (HD:Hid (∀W,Below w.heap.size w W->Calls Tryz.prog 63 #[.slice (some ⟨g,0,none⟩) (m+1) c,.int .i64 0,.int .i64 1] W fun e w'=>e=.returned (.slice (some ⟨g,0,none⟩) m c)/\Hid (W.grownBy w' (some g)/\R W w')))
    (HU:Hid (∀W W1,R W W1->Below w.heap.size w W->W.grownBy W1 (some g)->∃w',(Instr.mapUpdate 65 (.map (some mb)) (.agg #[.int .i64 a,.int .i64 b]) (.slice (some ⟨g,0,none⟩) m c)).run Tryz.prog W1=.ok () w'/\Kee (fun b=>b=mb) W1 w'/\∀w2,Below w.heap.size w' w2->G w2)):
    Calls Tryz.prog 39 #[.pointer (some ⟨wp.b,wp.o,none⟩),.int .i64 a,.int .i64 b] w fun e w'=>e=.returned (.tuple #[.agg #[.int .i64 y0,.int .i64 y1,.string ys,.slice ya yl yc],.int .i64 0])/\G w':=by
 have c0:=HC.out
 have HW:Hid (∃wr q0 q1,wr=(w.alloc (.cells #[.int .i64 0,.int .i64 0,.string ⟨#[]⟩,.slice none 0 0] 30)).alloc (.cells #[.int .i64 a,.int .i64 b] 151)/\q0=w.heap.size/\q1=w.heap.size+1):=⟨_,_,_,rfl,rfl,rfl⟩
 go_enter Tryz.func39,Tryz.ntmps39
 go_wp2_with fail
 obtain⟨wr,q0,q1,hwr,hq0,hq1⟩:=HW.out
 rw[<-hwr,<-hq1,<-hq0]
 have hsr:wr.heap.size=w.heap.size+2:=by rw[hwr];simp
 have HB:Hid (Below w.heap.size w wr):=by
  rw[hwr]
  exact((Below.refl _ _).alloc (Nat.le_refl _) _).alloc (by simp) _
 have HQ0:Hid (wr.heap[q0]? =some (.cells #[.int .i64 0,.int .i64 0,.string ⟨#[]⟩,.slice none 0 0] 30)):=by
  rw[hwr,hq0]
  exact(((Below.refl _ _).alloc (Nat.le_refl _) _).block w.heap.size (by simp)).trans (heap_alloc_new w _)
 have HQ1:Hid (wr.heap[q1]? =some (.cells #[.int .i64 a,.int .i64 b] 151)):=by
  rw[hwr,hq1]
  have h:=heap_alloc_new (w.alloc (.cells #[.int .i64 0,.int .i64 0,.string ⟨#[]⟩,.slice none 0 0] 30)) (.cells #[.int .i64 a,.int .i64 b] 151)
  have e:(w.alloc (.cells #[.int .i64 0,.int .i64 0,.string ⟨#[]⟩,.slice none 0 0] 30)).heap.size=w.heap.size+1:=by simp
  rwa [e]at h
 have HN:Hid (q0<wr.heap.size/\q1<wr.heap.size/\wp.b<wr.heap.size/\w.heap.size<=q0/\w.heap.size<=q1/\wp.b<w.heap.size):=(show _/\_ by omega)
 have HP:Hid (∀W,Below wr.heap.size wr W->W.cell? ⟨wp.b,wp.o,none⟩=some (.map (some mb))/\W.cell? ⟨q1,0,none⟩=some (.int .i64 a)/\W.cell? ⟨q1,1,none⟩=some (.int .i64 b)):=by
  intro W hW
  have e1:=(hW.block q1 HN.out.2.1).trans HQ1.out
  exact⟨((hW.cell (p:=⟨wp.b,wp.o,none⟩) HN.out.2.2.1).trans (HB.out.cell (p:=⟨wp.b,wp.o,none⟩) hwp)).trans c0,ae e1 0,ae e1 1⟩
 have HD0:Hid (Below wr.heap.size wr wr.drew):=(Below.refl _ _).drew
 have HBD:Hid (∀W,Below wr.heap.size wr W->Below w.heap.size w W):=fun W hW=>HB.out.trans (hW.mono HB.out.size)
 have hl:=HL.out _ (HBD.out _ HD0.out)
 obtain⟨p0,p1,p2⟩:=HP.out wr (Below.refl _ _)
 clear hwr hq0 hq1 HW hsr c0
 go_region_held3 (fun W=>W.cell? ⟨wp.b,wp.o,none⟩=some (.map (some mb))/\W.cell? ⟨q1,0,none⟩=some (.int .i64 a)/\W.cell? ⟨q1,1,none⟩=some (.int .i64 b)) (first|(go_keep;done)|exact HP.out _ HD0.out) (fail)
 obtain⟨y0',y1',y2',y3'⟩:=HY.out
 have cc:=af HB.out
 replace y0':=(cc _ _ hg).trans y0'
 replace y1':=(cc _ _ hg).trans y1'
 replace y2':=(cc _ _ hg).trans y2'
 replace y3':=(cc _ _ hg).trans y3'
 clear cc
 have m1:¬((m:Int)+1=0):=by omega
 have m2:¬((m:Int)+1=1):=by omega
 have m3:(0:Int)<(m:Int)+1:=by omega
 have HW3:Hid (∃w3 q2,(w3=(wr.alloc (.cells #[.int .i64 y0,.int .i64 y1,.string ys,.slice ya yl yc] 30)).drew/\q2=wr.heap.size)/\Below wr.heap.size wr w3/\w3.heap[q2]? =some (.cells #[.int .i64 y0,.int .i64 y1,.string ys,.slice ya yl yc] 30)/\q2<w3.heap.size/\wr.heap.size<=q2):=⟨_,_,⟨rfl,rfl⟩,(show Below _ _ _ by go_grown),heap_alloc_new wr _,by simp[World.drew],Nat.le_refl _⟩
 go_wp2_with fail
 obtain⟨w3,q2,⟨hw3,hq2⟩,HS3⟩:=HW3.out
 rw[<-hw3,<-hq2]
 replace HS3:=hide HS3
 clear hw3 hq2 HW3 p0 p1 p2 hl y0' y1' y2' y3'
 have HB3:=hide (HBD.out _ HS3.out.1)
 have HP3:Hid (∀W:World,(∀b,b<w3.heap.size->b≠mb->b≠g->W.heap[b]? =w3.heap[b]?)->(W.cell? ⟨wp.b,wp.o,none⟩=some (.map (some mb))/\W.cell? ⟨q1,0,none⟩=some (.int .i64 a)/\W.cell? ⟨q1,1,none⟩=some (.int .i64 b))/\(W.cell? ⟨q2,0,none⟩=some (.int .i64 y0)/\W.cell? ⟨q2,1,none⟩=some (.int .i64 y1)/\W.cell? ⟨q2,2,none⟩=some (.string ys)/\W.cell? ⟨q2,3,none⟩=some (.slice ya yl yc))/\(W.heap[q0]? =some (.cells #[.int .i64 0,.int .i64 0,.string ⟨#[]⟩,.slice none 0 0] 30))):=by
  intro W hW
  obtain⟨n0,n1,n2,n3,n4,n5⟩:=HN.out
  have hs:=HS3.out.1.size
  have hq:=HS3.out.2.2.2
  have e1:=(hW q1 (by omega) (by omega) (by omega)).trans ((HS3.out.1.block q1 n1).trans HQ1.out)
  have e0:=(hW q0 (by omega) (by omega) (by omega)).trans ((HS3.out.1.block q0 n0).trans HQ0.out)
  have e2:=(hW q2 HS3.out.2.2.1 (by omega) (by omega)).trans HS3.out.2.1
  have ep:=hW wp.b (by omega) hpm hpg
  refine⟨⟨?_,ae e1 0,ae e1 1⟩,⟨ae e2 0,ae e2 1,ae e2 2,ae e2 3⟩,e0⟩
  have h:=(HP.out w3 HS3.out.1).1
  simp only[World.cell?,ep]at h ⊢
  exact h
 have HD3:Hid (Below w3.heap.size w3 w3.drew):=(Below.refl _ _).drew
 have HB3D:=hide (HB3.out.trans (HD3.out.mono HB3.out.size))
 obtain⟨⟨p0,p1,p2⟩,_,_⟩:=HP3.out w3 (fun _ _ _ _=>rfl)
 have HPD:=hide (HP3.out w3.drew (fun _ _ _ _=>rfl)).1
 go_region_held3 (fun W=>W.cell? ⟨wp.b,wp.o,none⟩=some (.map (some mb))/\W.cell? ⟨q1,0,none⟩=some (.int .i64 a)/\W.cell? ⟨q1,1,none⟩=some (.int .i64 b)) (first|(go_keep;done)|exact HPD.out|exact HP5.out.1|exact HP4.out.1)
  ((first|(go_at_call 63;refine(HD.out _ HB3D.out).mono ?_;rintro e w5 ⟨rfl,HR⟩;obtain⟨w4,hup,hk4,hG4⟩:=HU.out _ _ HR.out.2 HB3D.out HR.out.1;have HP5:=hide (HP3.out w5 (fun b hb h1 h2=>HR.out.1.block b hb (fun e=>h2 (Option.some.inj e))));have HP4:=hide (HP3.out w4 (fun b hb h1 h2=>(hk4.block b (Nat.lt_of_lt_of_le hb HR.out.1.size) h1).trans (HR.out.1.block b hb (fun e=>h2 (Option.some.inj e)))));have HG4:=hide hG4;clear hk4 hG4)))
 obtain⟨_,⟨t0,t1,t2,t3⟩,hz⟩:=HP4.out
 have z0:w4.cell? ⟨q0,0,none⟩=some (.int .i64 0):=ae hz 0
 have z1:w4.cell? ⟨q0,1,none⟩=some (.int .i64 0):=ae hz 1
 have z2:w4.cell? ⟨q0,2,none⟩=some (.string ⟨#[]⟩):=ae hz 2
 have z3:w4.cell? ⟨q0,3,none⟩=some (.slice none 0 0):=ae hz 3
 have zf:∀j,w4.frozen? ⟨q0,j,none⟩=false:=fun j=>by simp[World.frozen?,hz]
 have f0:=zf 0
 have f1:=zf 1
 have f2:=zf 2
 have f3:=zf 3
 have HQ:=hide HN.out.2.2.2.1
 clear zf hz
 go_wp2_with fail
 refine bodyPost_ret (v:=.tuple #[.agg #[.int .i64 y0,.int .i64 y1,.string ys,.slice ya yl yc],.int .i64 0]) (by simp[results,Tryz.results39,go_sem,z0,z1,z2,z3]) rfl ⟨rfl, ?_⟩
 exact HG4.out _ (((((Below.refl w.heap.size w4).setCell HQ.out _).setCell HQ.out _).setCell HQ.out _).setCell HQ.out _)
end Go.Proofs.YtmbjgiaebneodaaGreat
