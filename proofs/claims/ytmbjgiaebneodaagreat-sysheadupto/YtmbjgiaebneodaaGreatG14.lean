/- What is proved here: proc's doing.spawn: a process is put behind those that are spawned, and its number is bound. No condition but that all lies in memory. -/
import Derived.Test.YtmbjgiaebneodaaGreatG13
namespace Go.Proofs.YtmbjgiaebneodaaGreat
open Go.RowKit
set_option maxRecDepth 100000
set_option maxHeartbeats 4000000
theorem Js:(Tryz.prog.info? 146).map (fun i=>(i.zero,i.size,i.bytes))=some (some (.agg #[.int .i64 0,.string ⟨#[]⟩,.int .i64 0,.int .i64 0,.string ⟨#[]⟩,.slice none 0 0]),6,80):=by kernel_rfl
theorem bW {w:World} {b o:Nat} {v:Value} (j:Nat) (hj:j≠o):(w.setCell ⟨b,o,none⟩ v).cell? ⟨b,j,none⟩=w.cell? ⟨b,j,none⟩:=by
 unfold World.cell? World.setCell
 simp only[Array.getElem?_modify]
 cases h:w.heap[b]? with
 | none=>simp
 | some ob=>cases ob<;>simp[Ne.symm hj]
theorem fu {w:World} {b o j:Nat} {v:Value}:(w.setCell ⟨b,o,none⟩ v).frozen? ⟨b,j,none⟩=w.frozen? ⟨b,j,none⟩:=by
 unfold World.frozen? World.setCell
 simp only[Array.getElem?_modify]
 cases h:w.heap[b]? with
 | none=>simp
 | some ob=>cases ob<;>simp
def Po {N:Nat} (u:Int) (nm:ByteArray) (z:Tm (N+1)):List Value:=[.int .i64 u,.string nm,.int .i64 z.1.1,.int .i64 z.1.2.1,.string z.1.2.2,.slice z.2.1.1 z.2.2.length z.2.1.2]
def Qp (N base db:Nat) (va:Option Addr) (L vc:Nat) (xs:List Value) (t:Bool) (next:Int) (nm:ByteArray) (bg vr:Nat) (o:Option (Tm (N+1))) (w:World) (e:Ending) (w':World):Prop:=
 e=.returned (.bool (o.isSome && t))/\((o.isSome && t)=false->Below w.heap.size w w')/\
  ((o.isSome && t)=true->∃(z:Tm (N+1)) (g c:Nat) (w3 w4 w5:World),same (N+1) z (N+1) (o.getD (zeroV N))=true/\In w3.heap.size w3 (N+1) z/\Off (fun r=>w.heap.size<=r/\r≠g) (N+1) z/\w3.ownsRow base 146 6 (.slice (some ⟨g,0,none⟩) (L+1) c) (L+1) (xs++Po next nm z)/\Kee (fun r=>(Value.slice va L vc).ownBlock=some r) w w3/\((Value.slice va L vc).ownBlock=some g∨w.heap.size<=g)/\w4=w3.setCell ⟨db,4,none⟩ (.slice (some ⟨g,0,none⟩) (L+1) c)/\w5=(bK w4 bg (vr*4) (.int .i64 3) (.int .i64 next) (.string ⟨#[]⟩) (.slice none 0 0)).drew/\w'=w5.setCell ⟨db,2,none⟩ (.int .i64 (next+1)))
theorem EQ (N:Nat) (k x0 x1:Int) (x2:ByteArray) (xa:Option Addr) (xl xc:Nat) (y0 y1:Int) (y2:ByteArray) (ya:Option Addr) (yl yc:Nat) (nm:ByteArray) (vr:Nat) (base db:Nat) (va:Option Addr) (L vc:Nat) (xs:List Value) (w:World) (o:Option (Tm (N+1))) (bg bc:Nat) (next:Int) (b0 b1:Int) (b2:ByteArray) (ba:Option Addr) (bl bcc:Nat) (hvr:vr<4) (hL:L<=10000) (hdb:db<w.heap.size) (hbg:bg<w.heap.size) (hdg:db≠bg) (hbase:base<=w.heap.size) (hnx:0<=next) (hnx2:next<=100000) (hnm:nm.size<=2048)
    (HC:Hid (w.cell? ⟨db,4,none⟩=some (.slice va L vc)/\w.cell? ⟨db,0,none⟩=some (.slice (some ⟨bg,0,none⟩) 4 bc)/\w.cell? ⟨db,2,none⟩=some (.int .i64 next)/\(∀j,w.frozen? ⟨db,j,none⟩=false)/\∀j,w.frozen? ⟨bg,j,none⟩=false)) (HR:Hid (w.ownsRow base 146 6 (.slice va L vc) L xs)) (HN:Hid ((Value.slice va L vc).ownBlock≠some db/\(Value.slice va L vc).ownBlock≠some bg))
    (HBN:Hid (w.cell? ⟨bg,vr*4,none⟩=some (.int .i64 b0)/\w.cell? ⟨bg,vr*4+1,none⟩=some (.int .i64 b1)/\w.cell? ⟨bg,vr*4+2,none⟩=some (.string b2)/\w.cell? ⟨bg,vr*4+3,none⟩=some (.slice ba bl bcc)))
    (HIB:Hid (∀W,Calls Tryz.prog 132 #[.agg #[.int .i64 b0,.int .i64 b1,.string b2,.slice ba bl bcc]] W fun e w'=>e=.returned (.bool (!(b0==6)))/\Below W.heap.size W w'))
    (HV:Hid (∀W,Below w.heap.size w W->Calls Tryz.prog 83 #[.pointer (some ⟨db,0,none⟩),.agg #[.int .i64 y0,.int .i64 y1,.string y2,.slice ya yl yc]] W (xQ N o W))):
    Calls Tryz.prog 125 #[.pointer (some ⟨db,0,none⟩),.agg #[.int .i64 k,.int .i64 x0,.int .i64 x1,.string x2,.slice xa xl xc,.int .i64 y0,.int .i64 y1,.string y2,.slice ya yl yc,.string nm,.int .i64 vr]] w (Qp N base db va L vc xs (b0==6) next nm bg vr o w):=by
 obtain⟨it,hit,htz0,htz1,htz2⟩:=info_parts Js
 have HIT:Hid (Tryz.prog.info? 146=some it/\it.zero=some (.agg #[.int .i64 0,.string ⟨#[]⟩,.int .i64 0,.int .i64 0,.string ⟨#[]⟩,.slice none 0 0])/\it.size=6/\it.bytes=80):=⟨hit,htz0,htz1,htz2⟩
 clear hit htz0 htz1 htz2
 obtain⟨t,ht⟩:∃t,t=(b0==6):=⟨_,rfl⟩
 rw[<-ht]at HIB ⊢
 clear ht
 have HW:Hid (∃w0 q,(w0=w.alloc (.cells #[.int .i64 k,.int .i64 x0,.int .i64 x1,.string x2,.slice xa xl xc,.int .i64 y0,.int .i64 y1,.string y2,.slice ya yl yc,.string nm,.int .i64 vr] 74)/\q=w.heap.size)/\Below w.heap.size w w0/\w0.heap[q]? =some (.cells #[.int .i64 k,.int .i64 x0,.int .i64 x1,.string x2,.slice xa xl xc,.int .i64 y0,.int .i64 y1,.string y2,.slice ya yl yc,.string nm,.int .i64 vr] 74)):=⟨_,_,⟨rfl,rfl⟩,(Below.refl _ _).alloc (Nat.le_refl _) _,heap_alloc_new w _⟩
 go_enter Tryz.func125,Tryz.ntmps125
 go_wp2_with fail
 obtain⟨w0,q,⟨hw0,hq⟩,hb0,hc0⟩:=HW.out
 rw[<-hw0,<-hq]
 have HB0:=hide hb0
 have HC0:=hide hc0
 have HQL:Hid (q<w0.heap.size/\w.heap.size<=q):=⟨(Array.getElem?_eq_some_iff.1 hc0).1,by omega⟩
 clear hw0 hq hb0 hc0 HW
 refine(HV.out _ HB0.out).mono ?_
 rintro e w3 ⟨z,rfl,H3⟩
 have HB3:=hide (HB0.out.trans (H3.out.1.mono HB0.out.size))
 have HQ3:Hid (w3.heap[q]? =some (.cells #[.int .i64 k,.int .i64 x0,.int .i64 x1,.string x2,.slice xa xl xc,.int .i64 y0,.int .i64 y1,.string y2,.slice ya yl yc,.string nm,.int .i64 vr] 74)):=(H3.out.1.block q HQL.out.1).trans HC0.out
 have HQ3L:Hid (q<w3.heap.size):=Nat.lt_of_lt_of_le HQL.out.1 H3.out.1.size
 have HZI:=hide H3.out.2.1
 have HZO:=hide H3.out.2.2.1
 have HZS:=hide H3.out.2.2.2
 have HZB:=hide HB0.out.size
 clear H3 HV HB0 HC0
 have HW4:Hid (∃w4 p,(w4=w3.alloc (.cells #[.int .i64 z.1.1,.int .i64 z.1.2.1,.string z.1.2.2,.slice z.2.1.1 z.2.2.length z.2.1.2] 30)/\p=w3.heap.size)/\Below w3.heap.size w3 w4/\w4.heap[p]? =some (.cells #[.int .i64 z.1.1,.int .i64 z.1.2.1,.string z.1.2.2,.slice z.2.1.1 z.2.2.length z.2.1.2] 30)/\w4.heap.size=w3.heap.size+1):=⟨_,_,⟨rfl,rfl⟩,(Below.refl _ _).alloc (Nat.le_refl _) _,heap_alloc_new _ _,by simp⟩
 cases o with
 | none=>
  simp only[Option.isSome_none]
  go_wp2_with fail
  go_region
  all_goals
   go_wp2_with fail
   go_ret
   exact⟨rfl,fun _=>(HB3.out.alloc HB3.out.size _).drew,fun h=>(by cases h)⟩
 | some y=>
  simp only[Option.isSome_some]
  go_wp2_with fail
  obtain⟨w4,p,⟨hw4,hp⟩,HS⟩:=HW4.out
  rw[<-hw4,<-hp]
  have HQW:Hid (p=w3.heap.size):=hp
  replace HS:=hide HS
  clear hw4 hp HW4
  have HB4:=hide (HB3.out.trans (HS.out.1.mono HB3.out.size))
  have HKA:Hid (∀W:World,Below w4.heap.size w4 W->W.heap[q]? =some (.cells #[.int .i64 k,.int .i64 x0,.int .i64 x1,.string x2,.slice xa xl xc,.int .i64 y0,.int .i64 y1,.string y2,.slice ya yl yc,.string nm,.int .i64 vr] 74)/\W.heap[p]? =some (.cells #[.int .i64 z.1.1,.int .i64 z.1.2.1,.string z.1.2.2,.slice z.2.1.1 z.2.2.length z.2.1.2] 30)):=fun W h=>⟨(h.block q (by have:=HQ3L.out;have:=HS.out.2.2;omega)).trans ((HS.out.1.block q HQ3L.out).trans HQ3.out),(h.block p (Array.getElem?_eq_some_iff.1 HS.out.2.1).1).trans HS.out.2.1⟩
  have HK2:Hid (∀W:World,Below w4.heap.size w4 W->(W.cell? ⟨db,0,none⟩=some (.slice (some ⟨bg,0,none⟩) 4 bc)/\W.cell? ⟨q,10,none⟩=some (.int .i64 vr))/\W.cell? ⟨bg,vr*4,none⟩=some (.int .i64 b0)/\W.cell? ⟨bg,vr*4+1,none⟩=some (.int .i64 b1)/\W.cell? ⟨bg,vr*4+2,none⟩=some (.string b2)/\W.cell? ⟨bg,vr*4+3,none⟩=some (.slice ba bl bcc)):=fun W h=>by
   have hb:=HB4.out.trans (h.mono HB4.out.size)
   have cc:=fun j=>hb.cell (p:=⟨bg,j,none⟩) hbg
   exact⟨⟨(hb.cell (p:=⟨db,0,none⟩) hdb).trans HC.out.2.1,ae (HKA.out W h).1 10⟩,(cc _).trans HBN.out.1,(cc _).trans HBN.out.2.1,(cc _).trans HBN.out.2.2.1,(cc _).trans HBN.out.2.2.2⟩
  obtain⟨⟨g0,g1⟩,g2,g3,g4,g5⟩:=HK2.out w4 (Below.refl _ _)
  have HD4:Hid (Below w4.heap.size w4 w4.drew):=(Below.refl _ _).drew
  have v1:(0:Int)<=(vr:Int):=by omega
  have v2:(vr:Int)<4:=by omega
  have HIBD:=hide (HIB.out w4.drew)
  clear HIB
  cases t
  ·go_region_held3 (fun W=>(W.cell? ⟨db,0,none⟩=some (.slice (some ⟨bg,0,none⟩) 4 bc)/\W.cell? ⟨q,10,none⟩=some (.int .i64 vr))/\W.cell? ⟨bg,vr*4,none⟩=some (.int .i64 b0)/\W.cell? ⟨bg,vr*4+1,none⟩=some (.int .i64 b1)/\W.cell? ⟨bg,vr*4+2,none⟩=some (.string b2)/\W.cell? ⟨bg,vr*4+3,none⟩=some (.slice ba bl bcc)) (first|(go_keep;done)|exact HK2.out _ HD4.out|exact HK2.out _ HB5.out) ((first
     | (go_at_call 132;refine HIBD.out.mono ?_;rintro e w5 ⟨rfl,hb5⟩;have HB5:=hide (HD4.out.trans (hb5.mono HD4.out.size));clear hb5)))
   go_wp2_with fail
   go_ret
   exact⟨rfl,fun _=>HB4.out.trans (HB5.out.mono HB4.out.size),fun h=>(by cases h)⟩
  ·go_region_held3 (fun W=>(W.cell? ⟨db,0,none⟩=some (.slice (some ⟨bg,0,none⟩) 4 bc)/\W.cell? ⟨q,10,none⟩=some (.int .i64 vr))/\W.cell? ⟨bg,vr*4,none⟩=some (.int .i64 b0)/\W.cell? ⟨bg,vr*4+1,none⟩=some (.int .i64 b1)/\W.cell? ⟨bg,vr*4+2,none⟩=some (.string b2)/\W.cell? ⟨bg,vr*4+3,none⟩=some (.slice ba bl bcc)) (first|(go_keep;done)|exact HK2.out _ HD4.out|exact HK2.out _ HB5.out) ((first
     | (go_at_call 132;refine HIBD.out.mono ?_;rintro e w5 ⟨rfl,hb5⟩;have HB5:=hide (HD4.out.trans (hb5.mono HD4.out.size));clear hb5)))
   clear g0 g1 g2 g3 g4 g5
   go_wp2_with fail
   have HB5A:=hide (HB4.out.trans (HB5.out.mono HB4.out.size))
   have HK:Hid (∀W:World,Below w5.heap.size w5 W->W.cell? ⟨db,4,none⟩=some (.slice va L vc)/\W.cell? ⟨db,2,none⟩=some (.int .i64 next)/\W.cell? ⟨q,9,none⟩=some (.string nm)/\W.cell? ⟨p,0,none⟩=some (.int .i64 z.1.1)/\W.cell? ⟨p,1,none⟩=some (.int .i64 z.1.2.1)/\W.cell? ⟨p,2,none⟩=some (.string z.1.2.2)/\W.cell? ⟨p,3,none⟩=some (.slice z.2.1.1 z.2.2.length z.2.1.2)):=fun W h=>by
    have h4:=HB5.out.trans (h.mono HB5.out.size)
    have hb:=HB4.out.trans (h4.mono HB4.out.size)
    obtain⟨hq,hp⟩:=HKA.out W h4
    exact⟨(hb.cell (p:=⟨db,4,none⟩) hdb).trans HC.out.1,(hb.cell (p:=⟨db,2,none⟩) hdb).trans HC.out.2.2.1,ae hq 9,ae hp 0,ae hp 1,ae hp 2,ae hp 3⟩
   have hS0:=HK.out w5.drew (Below.refl _ _).drew
   have HD5:Hid (Below w5.heap.size w5 w5.drew):=(Below.refl _ _).drew
   obtain⟨c3,d3,n3,e0,e1,e2,e3⟩:=HK.out w5 (Below.refl _ _)
   have HSC:=hide (cB nm w5.drew hnm)
   refine wp_region_noPanic ?_
   refine iF (fun W=>W.cell? ⟨db,4,none⟩=some (.slice va L vc)/\W.cell? ⟨db,2,none⟩=some (.int .i64 next)/\W.cell? ⟨q,9,none⟩=some (.string nm)/\W.cell? ⟨p,0,none⟩=some (.int .i64 z.1.1)/\W.cell? ⟨p,1,none⟩=some (.int .i64 z.1.2.1)/\W.cell? ⟨p,2,none⟩=some (.string z.1.2.2)/\W.cell? ⟨p,3,none⟩=some (.slice z.2.1.1 z.2.2.length z.2.1.2)) 18 (by kernel_rfl) ?_
   try simp only[List.size_toArray]
   refine ay (i:=0) (v:= ?_) rfl (by kernel_rfl) (by kernel_rfl) (by kernel_rfl) (by kernel_rfl) (fun _ _ _ h=>h) rfl ?_ hS0 ?_
   rotate_left
   ·intro w' hw'
    try dsimp only at hw'
    go_simp
    try with_reducible rfl
   try simp only[Act.put,List.setIfInBounds_toArray]
   refine ay (i:=1) (v:= ?_) rfl (by kernel_rfl) (by kernel_rfl) (by kernel_rfl) (by kernel_rfl) (fun _ _ _ h=>h) rfl ?_ hS0 ?_
   rotate_left
   ·intro w' hw'
    try dsimp only at hw'
    go_simp
    try with_reducible rfl
   try simp only[Act.put]
   refine ay (i:=2) (v:= ?_) rfl (by kernel_rfl) (by kernel_rfl) (by kernel_rfl) (by kernel_rfl) (fun _ _ _ h=>h) rfl ?_ hS0 ?_
   rotate_left
   ·intro w' hw'
    try dsimp only at hw'
    go_simp
    try with_reducible rfl
   try simp only[Act.put]
   refine ay (i:=3) (v:= ?_) rfl (by kernel_rfl) (by kernel_rfl) (by kernel_rfl) (by kernel_rfl) (fun _ _ _ h=>h) rfl ?_ hS0 ?_
   rotate_left
   ·intro w' hw'
    try dsimp only at hw'
    go_simp
    try with_reducible rfl
   try simp only[Act.put]
   refine ay (i:=4) (v:= ?_) rfl (by kernel_rfl) (by kernel_rfl) (by kernel_rfl) (by kernel_rfl) (fun _ _ _ h=>h) rfl ?_ hS0 ?_
   rotate_left
   ·intro w' hw'
    try dsimp only at hw'
    go_simp
    try with_reducible rfl
   try simp only[Act.put]
   refine ay (i:=5) (v:= ?_) rfl (by kernel_rfl) (by kernel_rfl) (by kernel_rfl) (by kernel_rfl) (fun _ _ _ h=>h) rfl ?_ hS0 ?_
   rotate_left
   ·intro w' hw'
    try dsimp only at hw'
    go_simp
    try with_reducible rfl
   try simp only[Act.put]
   refine ay (i:=6) (v:= ?_) rfl (by kernel_rfl) (by kernel_rfl) (by kernel_rfl) (by kernel_rfl) (fun _ _ _ h=>h) rfl ?_ hS0 ?_
   rotate_left
   ·intro w' hw'
    try dsimp only at hw'
    go_simp
    try with_reducible rfl
   try simp only[Act.put]
   refine ay (i:=7) (v:= ?_) rfl (by kernel_rfl) (by kernel_rfl) (by kernel_rfl) (by kernel_rfl) (fun _ _ _ h=>h) rfl ?_ hS0 ?_
   rotate_left
   ·intro w' hw'
    try dsimp only at hw'
    go_simp
    try with_reducible rfl
   try simp only[Act.put]
   refine ay (i:=8) (v:= ?_) rfl (by kernel_rfl) (by kernel_rfl) (by kernel_rfl) (by kernel_rfl) (fun _ _ _ h=>h) rfl ?_ hS0 ?_
   rotate_left
   ·intro w' hw'
    try dsimp only at hw'
    go_simp
    try with_reducible rfl
   try simp only[Act.put]
   refine ay (i:=9) (v:= ?_) rfl (by kernel_rfl) (by kernel_rfl) (by kernel_rfl) (by kernel_rfl) (fun _ _ _ h=>h) rfl ?_ hS0 ?_
   rotate_left
   ·intro w' hw'
    try dsimp only at hw'
    go_simp
    try with_reducible rfl
   try simp only[Act.put]
   refine ay (i:=10) (v:= ?_) rfl (by kernel_rfl) (by kernel_rfl) (by kernel_rfl) (by kernel_rfl) (fun _ _ _ h=>h) rfl ?_ hS0 ?_
   rotate_left
   ·intro w' hw'
    try dsimp only at hw'
    go_simp
    try with_reducible rfl
   try simp only[Act.put]
   refine ay (i:=12) (v:= ?_) rfl (by kernel_rfl) (by kernel_rfl) (by kernel_rfl) (by kernel_rfl) (fun _ _ _ h=>h) rfl ?_ hS0 ?_
   rotate_left
   ·intro w' hw'
    try dsimp only at hw'
    go_simp
    try with_reducible rfl
   try simp only[Act.put]
   refine bG (i:=11) (by kernel_rfl) rfl rfl (fun K hK=> ?_) (by decide)
   go_simp
   refine HSC.out.mono ?_
   rintro e w6 ⟨rfl,hb6⟩
   have HB6:=hide (HD5.out.trans (hb6.mono HD5.out.size))
   have hS6:=HK.out w6 HB6.out
   refine hK.out _ _ (fun _=>hS6) (fun _=> ?_)
   clear hK K hb6
   try simp only[Act.put,List.setIfInBounds_toArray,List.set_cons_zero,List.set_cons_succ]
   have HB6A:=hide (HB5A.out.trans (HB6.out.mono HB5A.out.size))
   obtain⟨ob,hob⟩:∃ob:Obj,ob=.cells #[.int .i64 next,.string nm,.int .i64 z.1.1,.int .i64 z.1.2.1,.string z.1.2.2,.slice z.2.1.1 z.2.2.length z.2.1.2] 146:=⟨_,rfl⟩
   have HD1:Hid (Below w6.heap.size w6 (w6.alloc ob)):=(Below.refl _ _).alloc (Nat.le_refl _) ob
   have HS1:=hide (HK.out _ (HB6.out.trans (HD1.out.mono HB6.out.size)))
   have HB1:=hide (HB6A.out.trans (HD1.out.mono HB6A.out.size))
   have HO1:Hid ((w6.alloc ob).ownsRow base 146 6 (.slice va L vc) L xs):=aG HR.out (aj HB1.out fun _=>False) fun _ _ h=>h
   have HNB:Hid ((w6.alloc ob).heap[w6.heap.size]? =some ob):=heap_alloc_new w6 ob
   have HZ1:Hid ((w6.alloc ob).heap.size=w6.heap.size+1):=(show _=_ by simp)
   have HZ2:Hid (w4.heap.size=w3.heap.size+1/\w.heap.size<=w3.heap.size/\w4.heap.size<=w6.heap.size):=⟨HS.out.2.2,HB3.out.size,Nat.le_trans HB5.out.size HB6.out.size⟩
   have HZI1:Hid (In (w6.alloc ob).heap.size (w6.alloc ob) (N+1) z):=(HZI.out.below (HS.out.1.trans ((HB5.out.trans ((HB6.out.trans (HD1.out.mono HB6.out.size)).mono HB5.out.size)).mono HS.out.1.size))).mono (by have:=HZ1.out;have:=HZ2.out;omega)
   have HKQ:Hid ((w6.alloc ob).heap[q]? =some (.cells #[.int .i64 k,.int .i64 x0,.int .i64 x1,.string x2,.slice xa xl xc,.int .i64 y0,.int .i64 y1,.string y2,.slice ya yl yc,.string nm,.int .i64 vr] 74)):=(HKA.out _ (HB5.out.trans ((HB6.out.trans (HD1.out.mono HB6.out.size)).mono HB5.out.size))).1
   rw[hob]at HD1 HS1 HB1 HO1 HNB HZ1 HZI1 HKQ
   clear hob ob
   refine ay (i:=13) (v:= ?_) rfl (by kernel_rfl) (by kernel_rfl) (by kernel_rfl) (by kernel_rfl) (fun _ _ _ h=>h) rfl ?_ hS6 ?_
   rotate_left
   ·intro w' hw'
    try dsimp only at hw'
    go_simp
    try with_reducible rfl
   try simp only[Act.put]
   refine bG (i:=14) (by kernel_rfl) rfl rfl (fun K hK=> ?_) (by decide)
   go_simp
   refine hK.out _ _ (fun _=>HS1.out) (fun hS1=> ?_)
   clear hK K
   try simp only[Act.put,List.setIfInBounds_toArray,List.set_cons_zero,List.set_cons_succ]
   refine bG (i:=15) (by kernel_rfl) rfl rfl (fun K hK=> ?_) (by decide)
   refine wp_append_lies _ _ _ 93 rfl base 146 it _ 6 80 Tryz.underlying93 HIT.out.1 HIT.out.2.1 HIT.out.2.2.1 HIT.out.2.2.2 rfl (by decide) (.slice va L vc) L xs rfl HO1.out ⟨w6.heap.size,0,none⟩ 1 1 (Po next nm z) rfl rfl (World.news_of_block (cs:= #[.int .i64 next,.string nm,.int .i64 z.1.1,.int .i64 z.1.2.1,.string z.1.2.2,.slice z.2.1.1 z.2.2.length z.2.1.2]) (t:=146) (fr:=(0,0)) HNB.out) (by simp[Po,Value.oneCell']) (by decide) (by unfold maxLen;omega) (by omega) (by have:=HZ1.out;have:=HZ2.out;omega) _ rfl ?_
   intro g7 c7 w7 hown7 hgrow7 hat7 hlt7
   have HK7:Hid (Kee (fun r=>(Value.slice va L vc).ownBlock=some r) w w7):=Kee.trans (aj HB1.out _) (cO hgrow7) fun _ _ e=>e
   have HAT:Hid ((Value.slice va L vc).ownBlock=some g7∨w.heap.size<=g7):=by
    rcases hat7 with e|e
    ·exact Or.inl e
    ·exact Or.inr (by have:=HZ1.out;have:=HZ2.out;omega)
   have HO7:=hide hown7
   have HRL:Hid (∀b,(Value.slice va L vc).ownBlock=some b->b<w.heap.size):=fun b hb=>(HR.out.lt b hb).2
   have HZ7:Hid (In w7.heap.size w7 (N+1) z/\Off (fun r=>w.heap.size<=r/\r≠g7) (N+1) z):=by
    have hoff:Off (fun r=>w.heap.size<=r/\r<w3.heap.size) (N+1) z:=(In.offB HZO.out HZI.out).mono fun r hr=>⟨Nat.le_trans HZB.out hr.1,hr.2⟩
    refine⟨HZI1.out.kee (cO hgrow7) (hoff.mono fun r hr e=> ?_),hoff.mono fun r hr=>⟨hr.1,fun e=> ?_⟩⟩
    ·have:=HRL.out r e
     omega
    ·rcases hat7 with e'|e'
     ·have:=HRL.out g7 e'
      omega
     ·have:=HZ1.out
      have:=HZ2.out
      omega
   have HBD:Hid (w7.heap[db]? =w.heap[db]? /\w7.heap[bg]? =w.heap[bg]? /\w7.heap[q]? =some (.cells #[.int .i64 k,.int .i64 x0,.int .i64 x1,.string x2,.slice xa xl xc,.int .i64 y0,.int .i64 y1,.string y2,.slice ya yl yc,.string nm,.int .i64 vr] 74)):=by
    refine⟨HK7.out.block db hdb HN.out.1,HK7.out.block bg hbg HN.out.2,(hgrow7.block q (Array.getElem?_eq_some_iff.1 HKQ.out).1 fun e=> ?_).trans HKQ.out⟩
    have:=HRL.out q e.symm
    have:=HQL.out.2
    omega
   have HC7:Hid (w7.cell? ⟨db,4,none⟩=some (.slice va L vc)/\w7.cell? ⟨db,2,none⟩=some (.int .i64 next)/\w7.cell? ⟨q,9,none⟩=some (.string nm)/\w7.cell? ⟨p,0,none⟩=some (.int .i64 z.1.1)/\w7.cell? ⟨p,1,none⟩=some (.int .i64 z.1.2.1)/\w7.cell? ⟨p,2,none⟩=some (.string z.1.2.2)/\w7.cell? ⟨p,3,none⟩=some (.slice z.2.1.1 z.2.2.length z.2.1.2)):=by
    have z1:=HZ1.out
    have z2:=HZ2.out
    have z3:=HQW.out
    have hq1:some p≠(Value.slice va L vc).ownBlock:=fun e=>by
     have:=HRL.out p e.symm
     omega
    have k:=fun j=>hgrow7.cell_far ⟨p,j,none⟩ (by show p<_;omega) hq1
    obtain⟨s0,s1,s2,s3,s4,s5,s6⟩:=HS1.out
    have hd:=fun j=>hgrow7.cell_far ⟨db,j,none⟩ (by show db<_;omega) fun e=>HN.out.1 e.symm
    exact⟨(hd 4).trans s0,(hd 2).trans s1,ae HBD.out.2.2 9,(k 0).trans s3,(k 1).trans s4,(k 2).trans s5,(k 3).trans s6⟩
   clear hown7 hgrow7 hat7 hlt7
   refine hK.out _ _ (fun _=>HC7.out) (fun hS3=> ?_)
   clear hK K
   try simp only[Act.put,List.setIfInBounds_toArray]
   refine bG (i:=16) (by kernel_rfl) rfl rfl (fun K hK=> ?_) (by decide)
   go_simp
   refine hK.out _ _ (fun _=>hS3) (fun _=> ?_)
   clear hK K
   try simp only[Act.put,List.setIfInBounds_toArray,List.set_cons_zero,List.set_cons_succ]
   refine ay (i:=17) (v:= ?_) rfl (by kernel_rfl) (by kernel_rfl) (by kernel_rfl) (by kernel_rfl) (fun _ _ _ h=>h) rfl ?_ hS3 ?_
   rotate_left
   ·intro w' hw'
    try dsimp only at hw'
    go_simp
    try with_reducible rfl
   try simp only[Act.put,List.setIfInBounds_toArray]
   have cf4:w7.frozen? ⟨db,4,none⟩=false:=by
    have hf:=HC.out.2.2.2.1 4
    unfold World.frozen? at hf ⊢
    rw[HBD.out.1]
    exact hf
   have cc4:=HC7.out.1
   refine iE (by kernel_rfl) rfl rfl (by kernel_rfl) (fun K hK=> ?_)
   go_simp
   refine hK.out _ _ (NoPanic.normal ?_)
   clear hK K
   try simp only[Act.put,List.setIfInBounds_toArray,List.set_cons_zero,List.set_cons_succ]
   have hqdb:q≠db:=by have:=HQL.out.2;omega
   have hqbg:q≠bg:=by have:=HQL.out.2;omega
   have hdq:db≠q:=fun e=>hqdb e.symm
   have hgq:bg≠q:=fun e=>hqbg e.symm
   have hgd:bg≠db:=fun e=>hdg e.symm
   have HCB:Hid (∀j,w7.cell? ⟨bg,j,none⟩=w.cell? ⟨bg,j,none⟩/\w7.frozen? ⟨bg,j,none⟩=false):=fun j=>by
    have hf:=HC.out.2.2.2.2 j
    unfold World.frozen? at hf ⊢
    unfold World.cell?
    rw[HBD.out.2.1]
    exact⟨rfl,hf⟩
   have HCD:Hid (∀j,w7.cell? ⟨db,j,none⟩=w.cell? ⟨db,j,none⟩/\w7.frozen? ⟨db,j,none⟩=false):=fun j=>by
    have hf:=HC.out.2.2.2.1 j
    unfold World.frozen? at hf ⊢
    unfold World.cell?
    rw[HBD.out.1]
    exact⟨rfl,hf⟩
   have HW8:Hid (∃w8,w8=w7.setCell ⟨db,4,none⟩ (.slice (some ⟨g7,0,none⟩) (L+1) c7)/\(w8.cell? ⟨db,0,none⟩=some (.slice (some ⟨bg,0,none⟩) 4 bc)/\w8.cell? ⟨q,10,none⟩=some (.int .i64 vr)/\w8.cell? ⟨db,2,none⟩=some (.int .i64 next))/\(w8.cell? ⟨bg,vr*4,none⟩=some (.int .i64 b0)/\w8.cell? ⟨bg,vr*4+1,none⟩=some (.int .i64 b1)/\w8.cell? ⟨bg,vr*4+2,none⟩=some (.string b2)/\w8.cell? ⟨bg,vr*4+3,none⟩=some (.slice ba bl bcc))/\(∀j,w8.frozen? ⟨bg,j,none⟩=false)/\w8.frozen? ⟨db,2,none⟩=false):=by
    have hk:=aP w7 db 4 (.slice (some ⟨g7,0,none⟩) (L+1) c7)
    have hbl:bg<w7.heap.size:=Nat.lt_of_lt_of_le hbg HK7.out.size
    have hbb:=hk.block bg hbl hgd
    have cb:=fun j=>((hk.cell j hbl hgd).trans (HCB.out j).1)
    refine⟨_,rfl,⟨(bW 0 (by decide)).trans ((HCD.out 0).1.trans HC.out.2.1),(hk.cell 10 (Array.getElem?_eq_some_iff.1 HBD.out.2.2).1 hqdb).trans (ae HBD.out.2.2 10),(bW 2 (by decide)).trans ((HCD.out 2).1.trans HC.out.2.2.1)⟩,⟨(cb _).trans HBN.out.1,(cb _).trans HBN.out.2.1,(cb _).trans HBN.out.2.2.1,(cb _).trans HBN.out.2.2.2⟩,fun j=> ?_, ?_⟩
    ·have hf:=(HCB.out j).2
     unfold World.frozen? at hf ⊢
     rw[hbb]
     exact hf
    ·rw[fu]
     exact(HCD.out 2).2
   go_wp2_with fail
   obtain⟨w8,hw8,⟨k0,kq,k2⟩,⟨m0,m1,m2,m3⟩,hfz,fd⟩:=HW8.out
   rw[<-hw8]
   have HW8E:=hide hw8
   have f0:=hfz (vr*4)
   have f1:=hfz (vr*4+1)
   have f2:=hfz (vr*4+2)
   have f3:=hfz (vr*4+3)
   clear hw8 HW8 hfz hS0 hS6 hS1 hS3 c3 d3 n3 e0 e1 e2 e3 cf4 cc4
   have HK8:Hid (w8.drew.cell? ⟨db,0,none⟩=some (.slice (some ⟨bg,0,none⟩) 4 bc)/\w8.drew.cell? ⟨q,10,none⟩=some (.int .i64 vr)/\w8.drew.cell? ⟨db,2,none⟩=some (.int .i64 next)):=⟨k0,kq,k2⟩
   go_region_held3 (fun W=>W.cell? ⟨db,0,none⟩=some (.slice (some ⟨bg,0,none⟩) 4 bc)/\W.cell? ⟨q,10,none⟩=some (.int .i64 vr)/\W.cell? ⟨db,2,none⟩=some (.int .i64 next)) (first|exact HK8.out|(go_keep;done)) (fail)
   have HW9:Hid (∃w9,w9=(bK w8 bg (vr*4) (.int .i64 3) (.int .i64 next) (.string ⟨#[]⟩) (.slice none 0 0)).drew/\w9.cell? ⟨db,2,none⟩=some (.int .i64 next)/\w9.frozen? ⟨db,2,none⟩=false):=by
    have hblk:(bK w8 bg (vr*4) (.int .i64 3) (.int .i64 next) (.string ⟨#[]⟩) (.slice none 0 0)).drew.heap[db]? =w8.heap[db]? :=aA (w:=w8) (o:=vr*4) hdg (.int .i64 3) (.int .i64 next) (.string ⟨#[]⟩) (.slice none 0 0)
    refine⟨_,rfl, ?_, ?_⟩
    ·have h:=k2
     unfold World.cell? at h ⊢
     rw[hblk]
     exact h
    ·have h:=fd
     unfold World.frozen? at h ⊢
     rw[hblk]
     exact h
   obtain⟨w9,hw9,n2,n3⟩:=HW9.out
   have HW9E:=hide hw9
   unfold bK at hw9
   rw[<-hw9]
   clear hw9 HW9 k0 kq k2 m0 m1 m2 m3 f0 f1 f2 f3 fd
   go_wp2_with fail
   go_ret
   exact⟨rfl,fun h=>(by cases h),fun _=>⟨z,g7,c7,w7,w8,w9,HZS.out,HZ7.out.1,HZ7.out.2,HO7.out,HK7.out,HAT.out,HW8E.out,HW9E.out,rfl⟩⟩
end Go.Proofs.YtmbjgiaebneodaaGreat
