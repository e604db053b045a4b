/- What is proved here: proc's doing.send: a message is put behind those that are sent. No condition but that all lies in memory. -/
import Derived.Test.YtbknffhilfoakaaGreatG12
namespace Go.Proofs.YtbknffhilfoakaaGreat
open Go.RowKit
set_option maxRecDepth 100000
set_option maxHeartbeats 4000000
theorem FU:(Tryz.prog.info? 110).map (fun i=>(i.zero,i.size,i.bytes))=some (some (.agg #[.int .i64 0,.int .i64 0,.int .i64 0,.string ⟨#[]⟩,.slice none 0 0]),5,64):=by kernel_rfl
def Cj {N:Nat} (u:Int) (z:Tm (N+1)):List Value:=[.int .i64 u,.int .i64 z.1.1,.int .i64 z.1.2.1,.string z.1.2.2,.slice z.2.1.1 z.2.2.length z.2.1.2]
def Kk (N base db:Nat) (va:Option Addr) (L vc:Nat) (xs:List Value) (t:Bool) (F:Int->Prop) (o:Option (Tm (N+1))) (w:World) (e:Ending) (w':World):Prop:=
 e=.returned (.bool (t && o.isSome))/\((t && o.isSome)=false->Below w.heap.size w w')/\
  ((t && o.isSome)=true->∃(u:Int) (z:Tm (N+1)) (g c:Nat) (w3:World),F u/\same (N+1) z (N+1) (o.getD (zeroV N))=true/\In w3.heap.size w3 (N+1) z/\Off (fun q=>w.heap.size<=q/\q≠g) (N+1) z/\w3.ownsRow base 110 5 (.slice (some ⟨g,0,none⟩) (L+1) c) (L+1) (xs++Cj u z)/\Kee (fun q=>(Value.slice va L vc).ownBlock=some q) w w3/\((Value.slice va L vc).ownBlock=some g∨w.heap.size<=g)/\w'=w3.setCell ⟨db,3,none⟩ (.slice (some ⟨g,0,none⟩) (L+1) c))
theorem Ej (N:Nat) (k x0 x1:Int) (x2:ByteArray) (xa:Option Addr) (xl xc:Nat) (y0 y1:Int) (y2:ByteArray) (ya:Option Addr) (yl yc:Nat) (nm:ByteArray) (vr:Int) (base db:Nat) (va:Option Addr) (L vc:Nat) (xs:List Value) (w:World) (t:Bool) (F:Int->Prop) (o:Option (Tm (N+1))) (hL:L<=10000) (hdb:db<w.heap.size) (hbase:base<=w.heap.size)
    (HC:Hid (w.cell? ⟨db,3,none⟩=some (.slice va L vc)/\w.frozen? ⟨db,3,none⟩=false)) (HR:Hid (w.ownsRow base 110 5 (.slice va L vc) L xs)) (HN:Hid ((Value.slice va L vc).ownBlock≠some db))
    (HP:Hid (∀W,Below w.heap.size w W->Calls Tryz.prog 111 #[.pointer (some ⟨db,0,none⟩),.agg #[.int .i64 x0,.int .i64 x1,.string x2,.slice xa xl xc]] W fun e w'=>∃u,e=.returned (.tuple #[.int .i64 u,.bool t])/\Hid (Below W.heap.size W w'/\F u)))
    (HV:Hid (∀W,Below w.heap.size w W->Calls Tryz.prog 65 #[.pointer (some ⟨db,0,none⟩),.agg #[.int .i64 y0,.int .i64 y1,.string y2,.slice ya yl yc]] W (uC N o W))):
    Calls Tryz.prog 95 #[.pointer (some ⟨db,0,none⟩),.agg #[.int .i64 k,.int .i64 x0,.int .i64 x1,.string x2,.slice xa xl xc,.int .i64 y0,.int .i64 y1,.string y2,.slice ya yl yc,.string nm,.int .i64 vr]] w (Kk N base db va L vc xs t F o w):=by
 obtain⟨it,hit,htz0,htz1,htz2⟩:=info_parts FU
 have HIT:Hid (Tryz.prog.info? 110=some it/\it.zero=some (.agg #[.int .i64 0,.int .i64 0,.int .i64 0,.string ⟨#[]⟩,.slice none 0 0])/\it.size=5/\it.bytes=64):=⟨hit,htz0,htz1,htz2⟩
 clear hit htz0 htz1 htz2
 have HW:Hid (∃w0 q,(w0=w.alloc (.cells #[.int .i64 k,.int .i64 x0,.int .i64 x1,.string x2,.slice xa xl xc,.int .i64 y0,.int .i64 y1,.string y2,.slice ya yl yc,.string nm,.int .i64 vr] 92)/\q=w.heap.size)/\Below w.heap.size w w0/\∀W,Below w0.heap.size w0 W->W.cell? ⟨q,5,none⟩=some (.int .i64 y0)/\W.cell? ⟨q,6,none⟩=some (.int .i64 y1)/\W.cell? ⟨q,7,none⟩=some (.string y2)/\W.cell? ⟨q,8,none⟩=some (.slice ya yl yc)):=by
  refine⟨_,_,⟨rfl,rfl⟩,(Below.refl _ _).alloc (Nat.le_refl _) _,fun W hW=> ?_⟩
  have h:=(hW.block w.heap.size (by simp)).trans (heap_alloc_new w _)
  exact⟨ae h 5,ae h 6,ae h 7,ae h 8⟩
 go_enter Tryz.func95,Tryz.ntmps95
 go_wp2_with fail
 obtain⟨w0,q,⟨hw0,hq⟩,hb0,hc0⟩:=HW.out
 rw[<-hw0,<-hq]
 have HB0:=hide hb0
 have HC0:=hide hc0
 clear hw0 hq hb0 hc0 HW
 refine(HP.out _ HB0.out).mono ?_
 rintro e w2 ⟨u,rfl,H2⟩
 have HB2:=hide (HB0.out.trans (H2.out.1.mono HB0.out.size))
 have HF:=hide H2.out.2
 obtain⟨e5,e6,e7,e8⟩:=HC0.out _ H2.out.1
 clear H2 HP
 cases t
 ·go_wp2_with fail
  go_ret
  exact⟨rfl,fun _=>HB2.out,fun h=>(by cases h)⟩
 ·go_wp2_with fail
  refine(HV.out _ HB2.out).mono ?_
  rintro e w3 ⟨z,rfl,H3⟩
  have HB3:=hide (HB2.out.trans (H3.out.1.mono HB2.out.size))
  cases o with
  | none=>
   simp only[Option.isSome_none]
   go_wp2_with fail
   go_ret
   exact⟨rfl,fun _=>HB3.out.alloc HB3.out.size _,fun h=>(by cases h)⟩
  | some y=>
   simp only[Option.isSome_some]
   have HZI:=hide H3.out.2.1
   have HZO:=hide H3.out.2.2.1
   have HZS:=hide H3.out.2.2.2
   have HZB:=hide HB2.out.size
   have HW4:Hid (∃w4 p,(w4=w3.alloc (.cells #[.int .i64 z.1.1,.int .i64 z.1.2.1,.string z.1.2.2,.slice z.2.1.1 z.2.2.length z.2.1.2] 25)/\p=w3.heap.size)/\Below w3.heap.size w3 w4/\w4.heap[p]? =some (.cells #[.int .i64 z.1.1,.int .i64 z.1.2.1,.string z.1.2.2,.slice z.2.1.1 z.2.2.length z.2.1.2] 25)/\w4.heap.size=w3.heap.size+1):=⟨_,_,⟨rfl,rfl⟩,(Below.refl _ _).alloc (Nat.le_refl _) _,heap_alloc_new _ _,by simp⟩
   clear H3 HV
   go_wp2_with fail
   obtain⟨w4,p,⟨hw4,hp⟩,HS⟩:=HW4.out
   rw[<-hw4,<-hp]
   have HQW:Hid (p=w3.heap.size):=hp
   replace HS:=hide HS
   clear hw4 hp HW4
   have HB4:=hide (HB3.out.trans (HS.out.1.mono HB3.out.size))
   obtain⟨ob,hob⟩:∃ob:Obj,ob=.cells #[.int .i64 u,.int .i64 z.1.1,.int .i64 z.1.2.1,.string z.1.2.2,.slice z.2.1.1 z.2.2.length z.2.1.2] 110:=⟨_,rfl⟩
   have HK:Hid (∀W:World,Below w4.heap.size w4 W->W.cell? ⟨db,3,none⟩=some (.slice va L vc)/\W.cell? ⟨p,0,none⟩=some (.int .i64 z.1.1)/\W.cell? ⟨p,1,none⟩=some (.int .i64 z.1.2.1)/\W.cell? ⟨p,2,none⟩=some (.string z.1.2.2)/\W.cell? ⟨p,3,none⟩=some (.slice z.2.1.1 z.2.2.length z.2.1.2)):=fun W h=>by
    have h1:=(h.block p (Array.getElem?_eq_some_iff.1 HS.out.2.1).1).trans HS.out.2.1
    have hb:=HB4.out.trans (h.mono HB4.out.size)
    exact⟨(hb.cell (p:=⟨db,3,none⟩) hdb).trans HC.out.1,ae h1 0,ae h1 1,ae h1 2,ae h1 3⟩
   have HD1:Hid (Below w4.heap.size w4 (w4.alloc ob).drew):=((Below.refl _ _).alloc (Nat.le_refl _) ob).drew
   have hS0:=HK.out w4.drew (Below.refl _ _).drew
   have HS1:=hide (HK.out _ HD1.out)
   have HB1:=hide (HB4.out.trans (HD1.out.mono HB4.out.size))
   have HO1:Hid ((w4.alloc ob).drew.ownsRow base 110 5 (.slice va L vc) L xs):=aL HR.out (aG HB1.out fun _=>False) fun _ _ h=>h
   have HNB:Hid ((w4.alloc ob).drew.heap[w4.heap.size]? =some ob):=heap_alloc_new w4 ob
   have HZ1:Hid ((w4.alloc ob).drew.heap.size=w4.heap.size+1):=(show _=_ by simp[World.drew])
   have HZ2:Hid (w4.heap.size=w3.heap.size+1/\w.heap.size<=w3.heap.size):=⟨HS.out.2.2,HB3.out.size⟩
   have HZI1:Hid (In (w4.alloc ob).drew.heap.size (w4.alloc ob).drew (N+1) z):=(HZI.out.below (HS.out.1.trans (HD1.out.mono HS.out.1.size))).mono (by have:=HS.out.1.size;have:=HD1.out.size;omega)
   rw[hob]at HD1 HS1 HB1 HO1 HNB HZ1 HZI1
   clear hob ob
   obtain⟨c3,e0,e1,e2,e3⟩:=HK.out w4 (Below.refl _ _)
   refine wp_region_noPanic ?_
   refine fD (fun W=>W.cell? ⟨db,3,none⟩=some (.slice va L vc)/\W.cell? ⟨p,0,none⟩=some (.int .i64 z.1.1)/\W.cell? ⟨p,1,none⟩=some (.int .i64 z.1.2.1)/\W.cell? ⟨p,2,none⟩=some (.string z.1.2.2)/\W.cell? ⟨p,3,none⟩=some (.slice z.2.1.1 z.2.2.length z.2.1.2)) 12 (by kernel_rfl) ?_
   try simp only[List.size_toArray]
   refine ah (i:=0) (v:= ?_) rfl (by kernel_rfl) (by kernel_rfl) (by kernel_rfl) (by kernel_rfl) (fun _ _ _ h=>h) rfl ?_ hS0 ?_
   rotate_left
   ·intro w' hw'
    try dsimp only at hw'
    go_simp
    try with_reducible rfl
   try simp only[Act.put,List.setIfInBounds_toArray]
   refine ah (i:=1) (v:= ?_) rfl (by kernel_rfl) (by kernel_rfl) (by kernel_rfl) (by kernel_rfl) (fun _ _ _ h=>h) rfl ?_ hS0 ?_
   rotate_left
   ·intro w' hw'
    try dsimp only at hw'
    go_simp
    try with_reducible rfl
   try simp only[Act.put]
   refine ah (i:=2) (v:= ?_) rfl (by kernel_rfl) (by kernel_rfl) (by kernel_rfl) (by kernel_rfl) (fun _ _ _ h=>h) rfl ?_ hS0 ?_
   rotate_left
   ·intro w' hw'
    try dsimp only at hw'
    go_simp
    try with_reducible rfl
   try simp only[Act.put]
   refine ah (i:=3) (v:= ?_) rfl (by kernel_rfl) (by kernel_rfl) (by kernel_rfl) (by kernel_rfl) (fun _ _ _ h=>h) rfl ?_ hS0 ?_
   rotate_left
   ·intro w' hw'
    try dsimp only at hw'
    go_simp
    try with_reducible rfl
   try simp only[Act.put]
   refine ah (i:=4) (v:= ?_) rfl (by kernel_rfl) (by kernel_rfl) (by kernel_rfl) (by kernel_rfl) (fun _ _ _ h=>h) rfl ?_ hS0 ?_
   rotate_left
   ·intro w' hw'
    try dsimp only at hw'
    go_simp
    try with_reducible rfl
   try simp only[Act.put]
   refine ah (i:=5) (v:= ?_) rfl (by kernel_rfl) (by kernel_rfl) (by kernel_rfl) (by kernel_rfl) (fun _ _ _ h=>h) rfl ?_ hS0 ?_
   rotate_left
   ·intro w' hw'
    try dsimp only at hw'
    go_simp
    try with_reducible rfl
   try simp only[Act.put]
   refine ah (i:=6) (v:= ?_) rfl (by kernel_rfl) (by kernel_rfl) (by kernel_rfl) (by kernel_rfl) (fun _ _ _ h=>h) rfl ?_ hS0 ?_
   rotate_left
   ·intro w' hw'
    try dsimp only at hw'
    go_simp
    try with_reducible rfl
   try simp only[Act.put]
   refine ah (i:=7) (v:= ?_) rfl (by kernel_rfl) (by kernel_rfl) (by kernel_rfl) (by kernel_rfl) (fun _ _ _ h=>h) rfl ?_ hS0 ?_
   rotate_left
   ·intro w' hw'
    try dsimp only at hw'
    go_simp
    try with_reducible rfl
   try simp only[Act.put]
   refine aV (i:=8) (by kernel_rfl) rfl rfl (fun K hK=> ?_) (by decide)
   go_simp
   refine hK.out _ _ (fun _=>HS1.out) (fun hS1=> ?_)
   clear hK K
   try simp only[Act.put,List.setIfInBounds_toArray,List.set_cons_zero,List.set_cons_succ]
   refine aV (i:=9) (by kernel_rfl) rfl rfl (fun K hK=> ?_) (by decide)
   refine wp_append_lies _ _ _ 47 rfl base 110 it _ 5 64 Tryz.underlying47 HIT.out.1 HIT.out.2.1 HIT.out.2.2.1 HIT.out.2.2.2 rfl (by decide) (.slice va L vc) L xs rfl HO1.out ⟨w4.heap.size,0,none⟩ 1 1 (Cj u z) rfl rfl (World.news_of_block (cs:= #[.int .i64 u,.int .i64 z.1.1,.int .i64 z.1.2.1,.string z.1.2.2,.slice z.2.1.1 z.2.2.length z.2.1.2]) (t:=110) (fr:=(0,0)) HNB.out) (by simp[Cj,Value.oneCell']) (by decide) (by unfold maxLen;omega) (by omega) (by have:=HZ1.out;have:=HZ2.out;omega) _ rfl ?_
   intro g5 c5 w5 hown5 hgrow5 hat5 hlt5
   have HK5:Hid (Kee (fun r=>(Value.slice va L vc).ownBlock=some r) w w5):=Kee.trans (aG HB1.out _) (fE hgrow5) fun _ _ e=>e
   have HAT:Hid ((Value.slice va L vc).ownBlock=some g5∨w.heap.size<=g5):=by
    rcases hat5 with e|e
    ·exact Or.inl e
    ·exact Or.inr (by have:=HZ1.out;have:=HZ2.out;omega)
   have HO5:=hide hown5
   have HRL:Hid (∀b,(Value.slice va L vc).ownBlock=some b->b<w.heap.size):=fun b hb=>(HR.out.lt b hb).2
   have HZ5:Hid (In w5.heap.size w5 (N+1) z/\Off (fun r=>w.heap.size<=r/\r≠g5) (N+1) z):=by
    have hoff:Off (fun r=>w.heap.size<=r/\r<w3.heap.size) (N+1) z:=(In.offB HZO.out HZI.out).mono fun r hr=>⟨Nat.le_trans HZB.out hr.1,hr.2⟩
    refine⟨HZI1.out.kee (fE hgrow5) (hoff.mono fun r hr e=> ?_),hoff.mono fun r hr=>⟨hr.1,fun e=> ?_⟩⟩
    ·have:=HRL.out r e
     omega
    ·rcases hat5 with e'|e'
     ·have:=HRL.out g5 e'
      omega
     ·have:=HZ1.out
      have:=HZ2.out
      omega
   have HC5:Hid ((w5.cell? ⟨db,3,none⟩=some (.slice va L vc)/\w5.cell? ⟨p,0,none⟩=some (.int .i64 z.1.1)/\w5.cell? ⟨p,1,none⟩=some (.int .i64 z.1.2.1)/\w5.cell? ⟨p,2,none⟩=some (.string z.1.2.2)/\w5.cell? ⟨p,3,none⟩=some (.slice z.2.1.1 z.2.2.length z.2.1.2))/\w5.frozen? ⟨db,3,none⟩=false):=by
    have z1:=HZ1.out
    have z2:=HZ2.out
    have z3:=HQW.out
    have hq1:some p≠(Value.slice va L vc).ownBlock:=fun e=>by
     have:=HRL.out p e.symm
     omega
    have hq2:some db≠(Value.slice va L vc).ownBlock:=fun e=>HN.out e.symm
    have k:=fun j=>hgrow5.cell_far ⟨p,j,none⟩ (by show p<_;omega) hq1
    obtain⟨s0,s1,s2,s3,s4⟩:=HS1.out
    refine⟨⟨(hgrow5.cell_far ⟨db,3,none⟩ (by show db<_;omega) hq2).trans s0,(k 0).trans s1,(k 1).trans s2,(k 2).trans s3,(k 3).trans s4⟩, ?_⟩
    rw[hgrow5.frozen_far ⟨db,3,none⟩ (by show db<_;omega) hq2]
    have hf:=HC.out.2
    unfold World.frozen? at hf ⊢
    rw[HB1.out.block db hdb]
    exact hf
   clear hown5 hgrow5 hat5 hlt5
   refine hK.out _ _ (fun _=>HC5.out.1) (fun hS3=> ?_)
   clear hK K
   try simp only[Act.put,List.setIfInBounds_toArray]
   refine aV (i:=10) (by kernel_rfl) rfl rfl (fun K hK=> ?_) (by decide)
   go_simp
   refine hK.out _ _ (fun _=>hS3) (fun _=> ?_)
   clear hK K
   try simp only[Act.put,List.setIfInBounds_toArray,List.set_cons_zero,List.set_cons_succ]
   refine ah (i:=11) (v:= ?_) rfl (by kernel_rfl) (by kernel_rfl) (by kernel_rfl) (by kernel_rfl) (fun _ _ _ h=>h) rfl ?_ hS3 ?_
   rotate_left
   ·intro w' hw'
    try dsimp only at hw'
    go_simp
    try with_reducible rfl
   try simp only[Act.put,List.setIfInBounds_toArray]
   have cf3:=HC5.out.2
   have cc3:=HC5.out.1.1
   refine dU (by kernel_rfl) rfl rfl (by kernel_rfl) (fun K hK=> ?_)
   go_simp
   refine hK.out _ _ (NoPanic.normal ?_)
   clear hK K
   try simp only[Act.put,List.setIfInBounds_toArray,List.set_cons_zero,List.set_cons_succ]
   go_wp2_with fail
   go_ret
   exact⟨rfl,fun h=>(by cases h),fun _=>⟨u,z,g5,c5,w5,HF.out,HZS.out,HZ5.out.1,HZ5.out.2,HO5.out,HK5.out,HAT.out,rfl⟩⟩
end Go.Proofs.YtbknffhilfoakaaGreat
