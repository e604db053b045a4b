/- What is proved here: the document's act: what it tells and leaves is what the plain function of following a clause (folC) says. No condition but that all lies in memory. -/
import Derived.Test.YtbknffhilfoakaaGreatG33
namespace Go.Proofs.YtbknffhilfoakaaGreat
open Go.RowKit
set_option maxHeartbeats 8000000
set_option maxRecDepth 100000
theorem Kz {qb:Nat} {name:ByteArray} {room:Int} {x y:Tc} {ys:List Tc} {ma:Option Addr} {mc:Nat} {Dq:Nat->Prop} {w:World} {n D:Nat} (st ms nt:Tm (n+1)) (aa:Option Addr) (ac L:Nat) (acts:List (Ac (n+1))) (l:List (Tm (D+1))) (B:List Tc) (bg bc base:Nat) (Pq:Nat->Prop) (self nx:Int)
    (HQ:Hid (QA qb name room x ys ma mc Dq w/\¬Dq bg/\qb≠bg)) (HC:Hid (jH (n+1) base w ((st,ms,nt),(aa,ac),acts)/\CP ((st,ms,nt),(aa,ac),acts)/\acts.length=L/\base<=w.heap.size)) (HPO:Hid (Off Pq (n+1) nt/\(∀a∈acts,Off Pq (n+1) a.2.1.1/\Off Pq (n+1) a.2.1.2)/\∀b,Pq b->Dq b)) (HL:Hid (dz (D+1) l=true/\l.map (cn (D+1))=B/\(∀(i:Nat) (x:Tm (D+1)),l[i]? =some x->Held w bg (i*4) (D+1) x/\In base w (D+1) x/\Off Pq (D+1) x)/\(∃cur,w.heap[bg]? =some (.cells cur 25 (0,0)))/\base<=bg))
    (hL8:L<=8) (hs:1<=self/\self<=99) (hn:1<=nx/\nx<=92) (tk:Tk) (htk:Hid (tk=cO room self nx (cn 13 x) (cn 13 y) (ys.map (cn 13)) (((st,ms,nt),(aa,ac),acts):Cl (n+1)) B)):
    Calls Tryz.prog 35 #[.pointer (some ⟨qb,0,none⟩),.agg #[.int .i64 st.1.1,.int .i64 st.1.2.1,.string st.1.2.2,.slice st.2.1.1 st.2.2.length st.2.1.2,.int .i64 ms.1.1,.int .i64 ms.1.2.1,.string ms.1.2.2,.slice ms.2.1.1 ms.2.2.length ms.2.1.2,.slice aa L ac,.int .i64 nt.1.1,.int .i64 nt.1.2.1,.string nt.1.2.2,.slice nt.2.1.1 nt.2.2.length nt.2.1.2],.slice (some ⟨bg,0,none⟩) 4 bc,.int .i64 self,.int .i64 nx,.agg #[.int .i64 y.1.1,.int .i64 y.1.2.1,.string y.1.2.2,.slice y.2.1.1 y.2.2.length y.2.1.2]] w fun e w'=>∃sv pv lv,e=.returned (.agg (fU y tk.fate sv pv lv))/\Hid (yS base qb name room ys ma mc Dq bg tk sv pv lv w w'):=by
 obtain⟨ii,hii,hiz0,hiz1,hiz2⟩:=info_parts BL
 have HII:=hide (⟨hii,hiz0,hiz1,hiz2⟩:_/\_/\_/\_)
 clear hii hiz0 hiz1 hiz2
 obtain⟨is,hii,hiz0,hiz1,hiz2⟩:=info_parts DI
 have HIS:=hide (⟨hii,hiz0,hiz1,hiz2⟩:_/\_/\_/\_)
 clear hii hiz0 hiz1 hiz2
 obtain⟨ip,hii,hiz0,hiz1,hiz2⟩:=info_parts Av
 have HIP:=hide (⟨hii,hiz0,hiz1,hiz2⟩:_/\_/\_/\_)
 clear hii hiz0 hiz1 hiz2
 go_enter Tryz.func35,Tryz.ntmps35
 obtain⟨R,hR⟩:∃R,R=mE self acts ⟨B,nx,[],[],[],false⟩:=⟨_,rfl⟩
 have HRR:=hide hR
 clear hR
 go_upto_region 3 with fail
 generalize hw5:World.alloc (World.alloc (World.alloc (World.alloc (World.alloc w _) _) _) _) _=w5
 have hc:w5.heap[w.heap.size]? =some (.cells #[.int .i64 st.1.1,.int .i64 st.1.2.1,.string st.1.2.2,.slice st.2.1.1 st.2.2.length st.2.1.2,.int .i64 ms.1.1,.int .i64 ms.1.2.1,.string ms.1.2.2,.slice ms.2.1.1 ms.2.2.length ms.2.1.2,.slice aa L ac,.int .i64 nt.1.1,.int .i64 nt.1.2.1,.string nt.1.2.2,.slice nt.2.1.1 nt.2.2.length nt.2.1.2] 90)/\w5.heap[w.heap.size+1]? =some (.cells #[.int .i64 y.1.1,.int .i64 y.1.2.1,.string y.1.2.2,.slice y.2.1.1 y.2.2.length y.2.1.2] 25)/\w5.heap[w.heap.size+1+1]? =some (.cells #[.int .i64 0,.int .i64 0,.string ⟨#[]⟩,.slice none 0 0,.int .i64 0,.slice none 0 0,.slice none 0 0,.slice none 0 0] 43)/\w5.heap[w.heap.size+1+1+1]? =some (.cells #[.int .i64 y.1.1,.int .i64 y.1.2.1,.string y.1.2.2,.slice y.2.1.1 y.2.2.length y.2.1.2,.int .i64 0,.slice none 0 0,.slice none 0 0,.slice none 0 0] 43)/\w5.heap[w.heap.size+1+1+1+1]? =some (.cells #[.int .i64 y.1.1,.int .i64 y.1.2.1,.string y.1.2.2,.slice y.2.1.1 y.2.2.length y.2.1.2,.int .i64 2,.slice none 0 0,.slice none 0 0,.slice none 0 0] 43)/\w5.heap.size=w.heap.size+5/\Below w.heap.size w w5:=by
  rw[<-hw5]
  exact Jt w _ _ _ _ _
 obtain⟨ob,hob⟩:∃ob,ob=w.heap.size+1+1+1:=⟨_,rfl⟩
 obtain⟨bb,hbb⟩:∃bb,bb=w.heap.size+1+1+1+1:=⟨_,rfl⟩
 obtain⟨rb,hrb⟩:∃rb,rb=w.heap.size+1+1:=⟨_,rfl⟩
 obtain⟨mb,hmb⟩:∃mb,mb=w.heap.size+1:=⟨_,rfl⟩
 obtain⟨cb,hcb⟩:∃cb,cb=w.heap.size:=⟨_,rfl⟩
 rw[<-hbb,<-hob,<-hrb,<-hmb,<-hcb]
 rw[<-hbb,<-hob,<-hrb,<-hmb]at hc
 have HC5:=hide hc
 have HNUM:Hid (mb=cb+1/\rb=cb+2/\ob=cb+3/\bb=cb+4/\cb=w.heap.size):=⟨by omega,by omega,by omega,by omega,hcb⟩
 have HST:Hid (DaR (fun q=>(Pq q/\q<base)∨w5.heap.size<=q) Pq base ob y n D 0 nx ⟨B,nx,[],[],[],false⟩ w5 w5 l bg [] [] (.slice none 0 0) (.slice none 0 0) (.slice none 0 0)):=by
  obtain⟨b1,b2,b3,⟨cur,b4⟩,b5⟩:=HL.out
  obtain⟨_,_,_,c3,_,_,c6⟩:=hc
  have hlt:=(Array.getElem?_eq_some_iff.1 b4).1
  have hbs:=HC.out.2.2.2
  refine⟨⟨c3,⟨by omega,b5,by have:=c6.size;omega⟩,b1,b2,fun i x hx=>⟨(b3 i x hx).1.below c6 hlt,(b3 i x hx).2.1.below (c6.mono hbs),(b3 i x hx).2.2⟩,⟨cur,(c6.block bg hlt).trans b4⟩,World.ownsRow_nil _ _ _ _,World.ownsRow_nil _ _ _ _,World.ownsRow_nil _ _ _ _,rfl,rfl,fun z hz=>(by cases hz),fun z hz=>(by cases hz),⟨Nat.le_refl _,Nat.le_refl _,Nat.le_refl _,by simp⟩⟩,Kee.refl _ _,fun q hq=> ?_⟩
  rcases hq with e|e|e|e|e
  ·exact Or.inl e
  ·exact Or.inr (Or.inl e)
  ·cases e
  ·cases e
  ·cases e
 clear hw5 hc hob hbb hrb hmb hcb
 obtain⟨k0,k1,k2,k3,k4,k5,k6⟩:=HC5.out
 have x8:w5.cell? ⟨cb,8,none⟩=some (.slice aa L ac):=by
  have h:=k0
  rw[<-HNUM.out.2.2.2.2]at h
  exact ae h 8
 go_wp2_with fail
 go_loopw [4,15] (fun v4 v15 wr=>∃(j:Nat) (d:Dg),j<=L/\v15=.int .i64 j/\v4=.int .i64 d.next/\Hid (∃l sd sp sv pv lv,DaR (fun q=>(Pq q/\q<base)∨w5.heap.size<=q) Pq base ob y n D j nx d w5 wr l bg sd sp sv pv lv/\mE self (acts.drop j) d=R)) (fun _ i _=>L-(intOf i).toNat)
 case atStart=>exact⟨0,⟨B,nx,[],[],[],false⟩,Nat.zero_le _,rfl,rfl,l,[],[],_,_,_,HST.out,HRR.out.symm⟩
 case round=>
 obtain⟨j,d,hj,rfl,rfl,HD⟩:=hrel
 obtain⟨l1,sd,sp,sv,pv,lv,hD,hdo⟩:=HD.out
 have HR:=hide hD
 have HDO:=hide hdo
 have HK5:=hide hD.2.1
 have hlo:=hD.1.lt
 have HBX:Hid (∀(W:World) (q:Nat) (o:Obj),Below wr.heap.size wr W->q=cb∨q=mb∨q=rb∨q=bb->w5.heap[q]? =some o->W.heap[q]? =some o):=fun W q o hW hq ho=>by
  have hql:=(Array.getElem?_eq_some_iff.1 ho).1
  obtain⟨n1,n2,n3,n4,n5⟩:=HNUM.out
  obtain⟨cur,b4⟩:=HL.out.2.2.2.1
  have hlt:=(Array.getElem?_eq_some_iff.1 b4).1
  exact bC hW ((HK5.out.block q hql fun e=>by omega).trans ho)
 obtain⟨k0,k1,k2,k3,k4,k5,k6⟩:=HC5.out
 have hcb5:w5.heap[cb]? =some (.cells #[.int .i64 st.1.1,.int .i64 st.1.2.1,.string st.1.2.2,.slice st.2.1.1 st.2.2.length st.2.1.2,.int .i64 ms.1.1,.int .i64 ms.1.2.1,.string ms.1.2.2,.slice ms.2.1.1 ms.2.2.length ms.2.1.2,.slice aa L ac,.int .i64 nt.1.1,.int .i64 nt.1.2.1,.string nt.1.2.2,.slice nt.2.1.1 nt.2.2.length nt.2.1.2] 90):=by
  rw[HNUM.out.2.2.2.2]
  exact k0
 have HCB:=hide hcb5
 have HCL:Hid (∀W,Below wr.heap.size wr W->W.cell? ⟨cb,8,none⟩=some (.slice aa L ac)/\W.cell? ⟨cb,9,none⟩=some (.int .i64 nt.1.1)/\W.cell? ⟨cb,10,none⟩=some (.int .i64 nt.1.2.1)/\W.cell? ⟨cb,11,none⟩=some (.string nt.1.2.2)/\W.cell? ⟨cb,12,none⟩=some (.slice nt.2.1.1 nt.2.2.length nt.2.1.2)):=fun W hW=>by
  have h:=HBX.out W cb _ hW (Or.inl rfl) hcb5
  exact⟨ae h 8,ae h 9,ae h 10,ae h 11,ae h 12⟩
 have HBD:Hid (∀W,Below wr.heap.size wr W->W.cell? ⟨bb,0,none⟩=some (.int .i64 y.1.1)/\W.cell? ⟨bb,1,none⟩=some (.int .i64 y.1.2.1)/\W.cell? ⟨bb,2,none⟩=some (.string y.1.2.2)/\W.cell? ⟨bb,3,none⟩=some (.slice y.2.1.1 y.2.2.length y.2.1.2)/\W.cell? ⟨bb,4,none⟩=some (.int .i64 2)/\W.cell? ⟨bb,5,none⟩=some (.slice none 0 0)/\W.cell? ⟨bb,6,none⟩=some (.slice none 0 0)/\W.cell? ⟨bb,7,none⟩=some (.slice none 0 0)):=fun W hW=>by
  have h:=HBX.out W bb _ hW (Or.inr (Or.inr (Or.inr rfl))) k4
  exact⟨ae h 0,ae h 1,ae h 2,ae h 3,ae h 4,ae h 5,ae h 6,ae h 7⟩
 have HQW:Hid (∀W W',Below wr.heap.size wr W->Kee (fun q=>q=rb) W W'->Kee (fun q=>q=qb∨q=bg) w W'/\QA qb name room x ys ma mc (fun b=>Dq b∨w.heap.size<=b) W'):=fun W W' hW hk=>by
  obtain⟨n1,n2,n3,n4,n5⟩:=HNUM.out
  obtain⟨hq1,hq2,hq3⟩:=HQ.out
  have hql:=(Array.getElem?_eq_some_iff.1 hq1.box).1
  have hkk:Kee (fun q=>q=bg) w W':=(((aG k6 _).trans HK5.out fun b hb e=>by omega).trans (aG hW fun _=>False) fun _ _ e=>e.elim).trans hk fun b hb e=>by omega
  exact⟨hkk.mono fun q _ e=>Or.inr e,hq1.kept hkk.size (hkk.block qb hql hq3) (fun b hd hl=>hkk.block b hl fun e=>hq2 (e▸hd)) (fun b hd _=>Or.inl hd) fun e=>by rcases e with e|e;exact hq1.out e;omega⟩
 have HBAD:Hid (R=none->tk=⟨cn 13 y,2,[],[],[],cn 13 x,ys.map (cn 13)⟩):=fun h=>by
  rw[htk.out]
  unfold cO
  rw[<-HRR.out,h]
 have HFB:Hid (tk=⟨cn 13 y,2,[],[],[],cn 13 x,ys.map (cn 13)⟩->∀W W',Below wr.heap.size wr W->Kee (fun q=>q=rb) W W'->yS base qb name room ys ma mc Dq bg tk (.slice none 0 0) (.slice none 0 0) (.slice none 0 0) w W'):=fun h W W' hW hk=>by
  obtain⟨q1,q2⟩:=HQW.out W W' hW hk
  rw[h]
  exact⟨q1,⟨x,q2,rfl⟩,DkRows.nil _⟩
 have HMB:Hid (∀W,Below wr.heap.size wr W->W.cell? ⟨mb,0,none⟩=some (.int .i64 y.1.1)/\W.cell? ⟨mb,1,none⟩=some (.int .i64 y.1.2.1)/\W.cell? ⟨mb,2,none⟩=some (.string y.1.2.2)/\W.cell? ⟨mb,3,none⟩=some (.slice y.2.1.1 y.2.2.length y.2.1.2)):=fun W hW=>by
  have h:=HBX.out W mb _ hW (Or.inr (Or.inl rfl)) k1
  exact⟨ae h 0,ae h 1,ae h 2,ae h 3⟩
 have HRB:Hid (∀W,Below wr.heap.size wr W->W.there rb 0 8):=fun W hW=>bq (HBX.out W rb _ hW (Or.inr (Or.inr (Or.inl rfl))) k2)
 have HRZ:Hid (∀W,Below wr.heap.size wr W->(W.cell? ⟨rb,0,none⟩=some (.int .i64 0)/\W.cell? ⟨rb,1,none⟩=some (.int .i64 0)/\W.cell? ⟨rb,2,none⟩=some (.string ⟨#[]⟩)/\W.cell? ⟨rb,3,none⟩=some (.slice none 0 0)/\W.cell? ⟨rb,4,none⟩=some (.int .i64 0)/\W.cell? ⟨rb,5,none⟩=some (.slice none 0 0)/\W.cell? ⟨rb,6,none⟩=some (.slice none 0 0)/\W.cell? ⟨rb,7,none⟩=some (.slice none 0 0))/\(W.frozen? ⟨rb,0,none⟩=false/\W.frozen? ⟨rb,1,none⟩=false/\W.frozen? ⟨rb,2,none⟩=false/\W.frozen? ⟨rb,3,none⟩=false/\W.frozen? ⟨rb,4,none⟩=false/\W.frozen? ⟨rb,5,none⟩=false/\W.frozen? ⟨rb,6,none⟩=false/\W.frozen? ⟨rb,7,none⟩=false)):=fun W hW=>by
  have h:=HBX.out W rb _ hW (Or.inr (Or.inr (Or.inl rfl))) k2
  have hf:∀j,W.frozen? ⟨rb,j,none⟩=false:=fun j=>by simp[World.frozen?,h]
  exact⟨⟨ae h 0,ae h 1,ae h 2,ae h 3,ae h 4,ae h 5,ae h 6,ae h 7⟩,hf 0,hf 1,hf 2,hf 3,hf 4,hf 5,hf 6,hf 7⟩
 clear k0 k1 k2 k3 k4 k5 k6 hcb5 hD hdo HD x8
 obtain⟨x8,x9,x10,x11,x12⟩:=HCL.out wr (Below.refl _ _)
 have HBW:Hid (Below base w wr):=by
  obtain⟨_,_,_,_,_,_,c6⟩:=HC5.out
  have hbs:=HC.out.2.2.2
  have hb5:=HL.out.2.2.2.2
  obtain⟨n1,n2,n3,n4,n5⟩:=HNUM.out
  exact(c6.mono hbs).trans (HK5.out.below (Nat.le_trans hbs c6.size) fun b hb e=>by omega)
 by_cases hjL:j<L
 rotate_left
 ·obtain rfl:j=L:=by omega
  have hRd:R=some d:=by
   have h:=HDO.out
   rw[List.drop_of_length_le (by rw[HC.out.2.2.1];exact Nat.le_refl _)]at h
   exact h.symm
  have HRD:=hide hRd
  have hcn:aP (n+1) nt=0:=HC.out.2.1.2.2.1
  have HVN:=hide (HR.out.1.value nt ⟨HC.out.1.1.2.2.below HBW.out,HPO.out.1⟩ (Or.inl hcn) bc hs wr (Below.refl _ _))
  have HCN:=hide hcn
  clear hRd hcn
  go_wp2_with fail
  refine HVN.out.mono ?_
  rintro e w1 ⟨z,r,rfl,H1⟩
  have HA1:Hid (∀o,Below w1.heap.size w1 (w1.alloc o)):=fun o=>(Below.refl _ _).alloc (Nat.le_refl _) o
  clear x8 x9 x10 x11 x12 HVN
  go_upto_region 27 with fail
  generalize hw2:w1.alloc _=w2
  have HB2a:Hid (Below w1.heap.size w1 w2):=by rw[<-hw2];exact HA1.out _
  have HX2:Hid (w2.heap[w1.heap.size]? =some (.cells #[.int .i64 z.1.1,.int .i64 z.1.2.1,.string z.1.2.2,.slice z.2.1.1 z.2.2.length z.2.1.2] 25)):=by rw[<-hw2];exact heap_alloc_new _ _
  have HB2:=hide (H1.out.1.trans (HB2a.out.mono H1.out.1.size))
  clear hw2 HA1
  obtain⟨nb,hnb⟩:∃nb,nb=w1.heap.size:=⟨_,rfl⟩
  rw[<-hnb]
  rw[<-hnb]at HX2
  have HNB:=hide hnb
  clear hnb
  have HVR:=hide (H1.out.2.2.2 HCN.out)
  have HFC:Hid (tk=match kF d.b self (n+1) nt with
   | none=>⟨cn 13 y,2,[],[],[],cn 13 x,ys.map (cn 13)⟩
   | some t=>if ((ys.map (cn 13)).map (sz 13)).sum+sz 13 t<=room then ⟨cn 13 y,if d.stops then 1 else 0,d.sends,d.spawns,d.links,t,ys.map (cn 13)⟩else ⟨cn 13 y,3,[],[],[],cn 13 x,ys.map (cn 13)⟩):=by
   rw[htk.out]
   unfold cO
   rw[<-HRR.out,HRD.out]
   exact hide rfl
  obtain⟨⟨rc0,rc1,rc2,rc3,rc4,rc5,rc6,rc7⟩,rf0,rf1,rf2,rf3,rf4,rf5,rf6,rf7⟩:=HRZ.out w2 HB2.out
  cases r with
  | false=>
   have hv0:kF d.b self (n+1) nt=none:=Option.isSome_eq_false_iff.1 HVR.out.1.symm |> Option.isNone_iff_eq_none.1
   have htb:=HFC.out
   rw[hv0]at htb
   have HTK:=hide htb
   have HFI:=hide (HFB.out htb w2)
   clear hv0 htb
   obtain⟨b0,b1,b2,b3,b4,b5,b6,b7⟩:=HBD.out w2 HB2.out
   go_wp2_with fail
   rw[iG]
   refine bodyPost_ret (v:=.agg (fU y 2 (.slice none 0 0) (.slice none 0 0) (.slice none 0 0))) (bK Tryz.results35 rfl (dB _ rfl (HRB.out _ HB2.out))) rfl ?_
   exact⟨_,_,_,by rw[HTK.out],HFI.out _ HB2.out (aJ rb _ 0 w2).1⟩
  | true=>
  obtain⟨t,hvt⟩:∃t,kF d.b self (n+1) nt=some t:=Option.isSome_iff_exists.1 HVR.out.1.symm
  obtain⟨hcz,hclz,hct⟩:=HVR.out.2 t hvt
  have htb:=HFC.out
  rw[hvt]at htb
  obtain⟨A,hA⟩:∃A,A=((x::ys).map (sz 13)).sum:=⟨_,rfl⟩
  obtain⟨S,hS⟩:∃S,S=(ys.map (sz 13)).sum:=⟨_,rfl⟩
  obtain⟨Zx,hZx⟩:∃Zx,Zx=sz 13 x:=⟨_,rfl⟩
  obtain⟨Zn,hZn⟩:∃Zn,Zn=sz _ z:=⟨_,rfl⟩
  have hok:=HQ.out.1.ok
  have hAS:A=Zx+S:=by rw[hA,hS,hZx];simp
  have hS0:0<=S/\S<=4000:=by
   have h1:=kQ (ys:=ys) (fun y hy=>(hok y (List.mem_cons_of_mem _ hy)).1) 20
   rw[List.take_of_length_le HQ.out.1.bounds.2.2,<-hS]at h1
   omega
  have hZ0:(0<=Zx/\Zx<=200)/\0<=Zn/\Zn<=200:=by
   rw[hZx,hZn]
   exact⟨⟨(bD 13 x).1,(aN.1 (hok x (by simp)).1).2.2⟩,(bD _ z).1,(aN.1 hcz).2.2⟩
  have hsum:((ys.map (cn 13)).map (sz 13)).sum+sz 13 t=S+Zn:=by
   rw[lK (fun y hy=>(hok y (List.mem_cons_of_mem _ hy)).1),<-hS,<-hct,BQ hcz,<-hZn]
  dsimp only at htb
  rw[hsum]at htb
  have hr0:0<=room/\room<=1000:=⟨HQ.out.1.bounds.1,HQ.out.1.bounds.2.1⟩
  have hQ2:=(HQW.out w2 w2 HB2.out (Kee.refl _ _)).2
  have HQ2:=hide hQ2
  have hql:=(Array.getElem?_eq_some_iff.1 hQ2.box).1
  have HLV:Hid (∀W,Below w2.heap.size w2 W->Calls Tryz.prog 15 #[.pointer (some ⟨qb,0,none⟩)] W fun e w'=>e=.returned (.int .i64 A)/\Below W.heap.size W w'):=fun W hW=>by
   rw[hA]
   exact FD (hQ2.later hW)
  have HSX:Hid (∀W,Below w2.heap.size w2 W->Calls Tryz.prog 27 #[.agg #[.int .i64 x.1.1,.int .i64 x.1.2.1,.string x.1.2.2,.slice x.2.1.1 x.2.2.length x.2.1.2]] W fun e w'=>e=.returned (.int .i64 Zx)/\Below W.heap.size W w'):=fun W hW=>by
   rw[hZx]
   exact iP 13 x W.heap.size W ((hQ2.st.1.below hW).mono hW.size) (Nat.le_refl _) (eP (hok x (by simp)).1)
  have hz2:In w2.heap.size w2 _ z:=(H1.out.2.1.below HB2a.out).mono HB2a.out.size
  have HSN:Hid (∀W,Below w2.heap.size w2 W->Calls Tryz.prog 27 #[.agg #[.int .i64 z.1.1,.int .i64 z.1.2.1,.string z.1.2.2,.slice z.2.1.1 z.2.2.length z.2.1.2]] W fun e w'=>e=.returned (.int .i64 Zn)/\Below W.heap.size W w'):=fun W hW=>by
   rw[hZn]
   exact iP _ z W.heap.size W ((hz2.below hW).mono hW.size) (Nat.le_refl _) (eP hcz)
  have HSS:Hid (∀W,Below w2.heap.size w2 W->W.cell? ⟨qb,1,none⟩=some (.int .i64 room)/\(W.cell? ⟨qb,2,none⟩=some (.int .i64 x.1.1)/\W.cell? ⟨qb,3,none⟩=some (.int .i64 x.1.2.1)/\W.cell? ⟨qb,4,none⟩=some (.string x.1.2.2)/\W.cell? ⟨qb,5,none⟩=some (.slice x.2.1.1 x.2.2.length x.2.1.2))/\W.cell? ⟨nb,0,none⟩=some (.int .i64 z.1.1)/\W.cell? ⟨nb,1,none⟩=some (.int .i64 z.1.2.1)/\W.cell? ⟨nb,2,none⟩=some (.string z.1.2.2)/\W.cell? ⟨nb,3,none⟩=some (.slice z.2.1.1 z.2.2.length z.2.1.2)):=fun W hW=>by
   obtain⟨_,h1,h2,_⟩:=hQ2.cellsB rfl (hW.block qb hql)
   have h3:=bC hW HX2.out
   exact⟨h1,h2,ae h3 0,ae h3 1,ae h3 2,ae h3 3⟩
  have HZZ:=hide (⟨hcz,hclz,hct,hz2⟩:_/\_/\_/\_)
  have HTB:=hide htb
  have HD2:Hid (Below w2.heap.size w2 w2.drew):=(Below.refl _ _).drew
  have HAS:=hide hAS
  clear hA hS hZx hZn hok hsum hQ2 hz2 hvt hcz hclz hct htb hAS
  obtain⟨q1,⟨q2,q3,q4,q5⟩,n0,n1,n2,n3⟩:=HSS.out w2 (Below.refl _ _)
  go_upto_region 29 with fail
  go_region_held3 (fun W=>W.cell? ⟨qb,1,none⟩=some (.int .i64 room)/\(W.cell? ⟨qb,2,none⟩=some (.int .i64 x.1.1)/\W.cell? ⟨qb,3,none⟩=some (.int .i64 x.1.2.1)/\W.cell? ⟨qb,4,none⟩=some (.string x.1.2.2)/\W.cell? ⟨qb,5,none⟩=some (.slice x.2.1.1 x.2.2.length x.2.1.2))/\W.cell? ⟨nb,0,none⟩=some (.int .i64 z.1.1)/\W.cell? ⟨nb,1,none⟩=some (.int .i64 z.1.2.1)/\W.cell? ⟨nb,2,none⟩=some (.string z.1.2.2)/\W.cell? ⟨nb,3,none⟩=some (.slice z.2.1.1 z.2.2.length z.2.1.2))
   (first|(go_keep;done)|exact HSS.out _ HD2.out|exact HSS.out _ HB3.out|exact HSS.out _ HB4.out|exact HSS.out _ HB5.out) ((first
    | (go_at_call 15;refine(HLV.out _ HD2.out).mono ?_;rintro e w3 ⟨rfl,hb3⟩;have HB3:=hide (HD2.out.trans (hb3.mono HD2.out.size));clear hb3)
    | (go_at_call 27;refine(HSX.out _ HB3.out).mono ?_;rintro e w4 ⟨rfl,hb4⟩;have HB4:=hide (HB3.out.trans (hb4.mono HB3.out.size));clear HSX hb4)
    | (go_at_call 27;refine(HSN.out _ HB4.out).mono ?_;rintro e w6 ⟨rfl,hb6⟩;have HB5:=hide (HB4.out.trans (hb6.mono HB4.out.size));clear hb6)))
  have hw1:IntKind.i64.wrap (A-Zx)=A-Zx:=by have hAS:=HAS.out;rw[IntKind.wrap];simp[IntKind.bits,IntKind.signed];omega
  have hw2:IntKind.i64.wrap (A-Zx+Zn)=A-Zx+Zn:=by have hAS:=HAS.out;rw[IntKind.wrap];simp[IntKind.bits,IntKind.signed];omega
  have HB6:=hide (HB2.out.trans (HB5.out.mono HB2.out.size))
  clear rc0 rc1 rc2 rc3 rc4 rc5 rc6 rc7 rf0 rf1 rf2 rf3 rf4 rf5 rf6 rf7 q1 q2 q3 q4 q5 n0 n1 n2 n3
  obtain⟨⟨rc0,rc1,rc2,rc3,rc4,rc5,rc6,rc7⟩,rf0,rf1,rf2,rf3,rf4,rf5,rf6,rf7⟩:=HRZ.out w6 HB6.out
  by_cases hF:room<A-Zx+Zn
  ·have bF:decide (room<A-Zx+Zn)=true:=by simpa using hF
   have hk3:tk=⟨cn 13 y,3,[],[],[],cn 13 x,ys.map (cn 13)⟩:=by
    have h:=HTB.out
    have hAS:=HAS.out
    rw[if_neg (by omega)]at h
    exact h
   have HTK:=hide hk3
   clear hk3
   obtain⟨m0,m1,m2,m3⟩:=HMB.out w6 HB6.out
   rw[hw1,hw2,bF]
   clear hw1 hw2 bF
   go_wp2_with fail
   rw[iG]
   refine bodyPost_ret (v:=.agg (fU y 3 (.slice none 0 0) (.slice none 0 0) (.slice none 0 0))) (bK Tryz.results35 rfl (dB _ rfl (HRB.out _ HB6.out))) rfl ?_
   refine⟨_,_,_,by rw[HTK.out], ?_⟩
   obtain⟨g1,g2⟩:=HQW.out _ _ HB6.out (aJ rb _ 0 w6).1
   rw[HTK.out]
   exact⟨g1,⟨x,g2,rfl⟩,DkRows.nil _⟩
  have bF:decide (room<A-Zx+Zn)=false:=by simpa using hF
  have hk3:tk=⟨cn 13 y,if d.stops then 1 else 0,d.sends,d.spawns,d.links,t,ys.map (cn 13)⟩:=by
   have h:=HTB.out
   have hAS:=HAS.out
   rw[if_pos (by omega)]at h
   exact h
  obtain⟨f,hf⟩:∃f:Int,f=if d.stops then 1 else 0:=⟨_,rfl⟩
  rw[<-hf]at hk3
  have HTK:=hide hk3
  have HR6:=hide (HR.out.later HB6.out)
  have hbo:=HR6.out.1.box
  rw[<-hf]at hbo
  have o0:w6.cell? ⟨ob,0,none⟩=some (.int .i64 y.1.1):=ae hbo 0
  have o1:w6.cell? ⟨ob,1,none⟩=some (.int .i64 y.1.2.1):=ae hbo 1
  have o2:w6.cell? ⟨ob,2,none⟩=some (.string y.1.2.2):=ae hbo 2
  have o3:w6.cell? ⟨ob,3,none⟩=some (.slice y.2.1.1 y.2.2.length y.2.1.2):=ae hbo 3
  have o4:w6.cell? ⟨ob,4,none⟩=some (.int .i64 f):=ae hbo 4
  obtain⟨sa,sc,rfl⟩:=dN HR6.out.1.sRow
  obtain⟨pa,pc,rfl⟩:=dN HR6.out.1.pRow
  obtain⟨la,lc,rfl⟩:=dN HR6.out.1.lRow
  obtain⟨k1,hk1⟩:∃k1,k1=sd.length:=⟨_,rfl⟩
  obtain⟨k2,hk2⟩:∃k2,k2=sp.length:=⟨_,rfl⟩
  obtain⟨k3,hk3'⟩:∃k3,k3=d.links.length:=⟨_,rfl⟩
  have o5:w6.cell? ⟨ob,5,none⟩=some (.slice sa k1 sc):=by rw[hk1];exact ae hbo 5
  have o6:w6.cell? ⟨ob,6,none⟩=some (.slice pa k2 pc):=by rw[hk2];exact ae hbo 6
  have o7:w6.cell? ⟨ob,7,none⟩=some (.slice la k3 lc):=by rw[hk3'];exact ae hbo 7
  have HKS:=hide (⟨hk1,hk2,hk3'⟩:_/\_/\_)
  have HQ6:=hide (HQ2.out.later HB5.out)
  have hqb6:=HQ6.out.box
  have qf:w6.frozen? ⟨qb,2,none⟩=false/\w6.frozen? ⟨qb,3,none⟩=false/\w6.frozen? ⟨qb,4,none⟩=false/\w6.frozen? ⟨qb,5,none⟩=false:=by
   refine⟨?_, ?_, ?_, ?_⟩<;>simp[World.frozen?,hqb6]
  obtain⟨qf2,qf3,qf4,qf5⟩:=qf
  obtain⟨q1,⟨q2,q3,q4,q5⟩,n0,n1,n2,n3⟩:=HSS.out w6 HB5.out
  have hqw:qb<w.heap.size:=(Array.getElem?_eq_some_iff.1 HQ.out.1.box).1
  have d1:ob≠qb:=by have:=HNUM.out;omega
  have d2:rb≠qb:=by have:=HNUM.out;omega
  have d3:ob≠rb:=by have:=HNUM.out;omega
  have d4:qb≠ob:=d1.symm
  have d5:qb≠rb:=d2.symm
  have d6:rb≠ob:=d3.symm
  have d7:nb≠qb:=by have h1:=HNB.out;have h2:=H1.out.1.size;have h3:=HK5.out.size;have h4:=HC5.out.2.2.2.2.2.1;omega
  have d8:qb≠nb:=d7.symm
  have HDS:=hide (⟨d1,d2,d3⟩:_/\_/\_)
  have HRH:Hid (w6.there rb 0 8/\(bG w6 qb 2 (.int .i64 z.1.1) (.int .i64 z.1.2.1) (.string z.1.2.2) (.slice z.2.1.1 z.2.2.length z.2.1.2)).there rb 0 8):=by
   refine⟨HRB.out _ HB6.out, ?_⟩
   have h:w6.heap[rb]? =_:=HBX.out w6 rb _ HB6.out (Or.inr (Or.inr (Or.inl rfl))) HC5.out.2.2.1
   exact bq ((au d2 _ _ _ _).trans h)
  clear hk1 hk2 hk3' hbo hqb6 hk3 hf
  rw[hw1,hw2,bF]
  clear hw1 hw2 bF
  go_wp2_with fail
  rw[iG]
  refine bodyPost_ret (v:=.agg (fU y f (.slice sa k1 sc) (.slice pa k2 pc) (.slice la k3 lc))) (bK Tryz.results35 rfl (dB _ rfl HRH.out.2)) rfl ?_
  refine⟨_,_,_,by rw[HTK.out], ?_⟩
  obtain⟨rfl,rfl,rfl⟩:=HKS.out
  have hcn:=HZZ.out.2.2.1
  rw[HTK.out,<-hcn]
  refine hide (Jp (HQW.out w6 w6 HB6.out (Kee.refl _ _)).1 HQ.out.1 HQ.out.2.1 HQ6.out.box HR6.out.1 (s5:=w5.heap.size) (sr:=wr.heap.size) ⟨?_,_,HBX.out w6 rb _ HB6.out (Or.inr (Or.inr (Or.inl rfl))) HC5.out.2.2.1⟩ ?_ HPO.out.2.2 ⟨HZZ.out.1,HZZ.out.2.1,(HZZ.out.2.2.2.below HB5.out).mono HB5.out.size,H1.out.2.2.1⟩ _)
  ·have h1:=HNUM.out
   have h2:=HC.out.2.2.2
   have h3:=HC5.out.2.2.2.2.2.1
   omega
  ·have h1:=HNUM.out
   have h3:=HC5.out.2.2.2.2.2.1
   have h4:=HK5.out.size
   omega
 obtain⟨a,ha⟩:∃a,acts[j]? =some a:=⟨acts[j]'(by rw[HC.out.2.2.1];exact hjL),List.getElem?_eq_getElem _⟩
 have ham:=List.mem_of_getElem? ha
 have HAK:=hide (HC.out.2.1.2.2.2.2 a ham)
 have HPA:=hide (HPO.out.2.1 a ham)
 have HDD:=hide (HDO.out.symm.trans (F7 ha d))
 obtain⟨ka,⟨tT,wT⟩,an,av⟩:=a
 obtain⟨ab,ao,rfl,hab,HAC⟩:∃b o,aa=some ⟨b,o,none⟩/\b<base/\Hid ((∀(t:Nat) (u:Value),(oh (n+1) (ka,(tT,wT),an,av))[t]? =some u->w.cell? ⟨b,o+j*11+t,none⟩=some u)/\AcIn (n+1) base w (ka,(tT,wT),an,av)):=by
  rcases HC.out.1.2.2 with e|⟨b,o,e,hb,h⟩
  ·have e:acts=[]:=e
   rw[e]at ha
   simp at ha
  ·exact⟨b,o,e,hb,h j _ ha⟩
 have hcell:∀(t:Nat) (u:Value),(oh (n+1) (ka,(tT,wT),an,av))[t]? =some u->wr.cell? ⟨ab,ao+j*11+t,none⟩=some u:=fun t u ht=>(HBW.out.cell (p:=⟨ab,ao+j*11+t,none⟩) hab).trans (HAC.out.1 t u ht)
 have y0:wr.cell? ⟨ab,ao+j*11,none⟩=some (.int .i64 ka):=hcell 0 _ rfl
 have y1:wr.cell? ⟨ab,ao+j*11+1,none⟩=some (.int .i64 tT.1.1):=hcell 1 _ rfl
 have y2:wr.cell? ⟨ab,ao+j*11+2,none⟩=some (.int .i64 tT.1.2.1):=hcell 2 _ rfl
 have y3:wr.cell? ⟨ab,ao+j*11+3,none⟩=some (.string tT.1.2.2):=hcell 3 _ rfl
 have y4:wr.cell? ⟨ab,ao+j*11+4,none⟩=some (.slice tT.2.1.1 tT.2.2.length tT.2.1.2):=hcell 4 _ rfl
 have y5:wr.cell? ⟨ab,ao+j*11+5,none⟩=some (.int .i64 wT.1.1):=hcell 5 _ rfl
 have y6:wr.cell? ⟨ab,ao+j*11+6,none⟩=some (.int .i64 wT.1.2.1):=hcell 6 _ rfl
 have y7:wr.cell? ⟨ab,ao+j*11+7,none⟩=some (.string wT.1.2.2):=hcell 7 _ rfl
 have y8:wr.cell? ⟨ab,ao+j*11+8,none⟩=some (.slice wT.2.1.1 wT.2.2.length wT.2.1.2):=hcell 8 _ rfl
 have y9:wr.cell? ⟨ab,ao+j*11+9,none⟩=some (.string an):=hcell 9 _ rfl
 have y10:wr.cell? ⟨ab,ao+j*11+10,none⟩=some (.int .i64 av):=hcell 10 _ rfl
 have j1:(0:Int)<=(j:Int):=by omega
 have j2:(j:Int)<(L:Int):=by omega
 clear hcell ha ham
 go_upto_region 7 with fail
 generalize hw1:wr.alloc _=w1
 have HB1:Hid (Below wr.heap.size wr w1):=by rw[<-hw1];exact(Below.refl _ _).alloc (Nat.le_refl _) _
 have HX1:Hid (w1.heap[wr.heap.size]? =some (.cells #[.int .i64 ka,.int .i64 tT.1.1,.int .i64 tT.1.2.1,.string tT.1.2.2,.slice tT.2.1.1 tT.2.2.length tT.2.1.2,.int .i64 wT.1.1,.int .i64 wT.1.2.1,.string wT.1.2.2,.slice wT.2.1.1 wT.2.2.length wT.2.1.2,.string an,.int .i64 av] 92)):=by rw[<-hw1];exact heap_alloc_new _ _
 clear hw1 y0 y1 y2 y3 y4 y5 y6 y7 y8 y9 y10 x8 x9 x10 x11 x12
 obtain⟨qa,hqa⟩:∃qa,qa=wr.heap.size:=⟨_,rfl⟩
 rw[<-hqa]
 rw[<-hqa]at HX1
 have HQA:=hide hqa
 clear hqa
 have hkk:=Gd HAK.out
 have hk1:aP (n+1) tT=0∨aS (n+1) tT=true:=by
  rcases hkk with h|h|h|h
  ·exact Or.inl h.2.1
  ·exact Or.inr h.2.1
  ·exact Or.inl h.2.1
  ·exact Or.inr h.2.1
 have hk2:aP (n+1) wT=0∨aS (n+1) wT=true:=by
  rcases hkk with h|h|h|h
  ·exact Or.inl h.2.2
  ·exact Or.inl h.2.2.1
  ·exact Or.inr h.2.2
  ·exact Or.inr h.2.2
 have HKK:=hide hkk
 have HV1:=hide (HR.out.1.value tT ⟨HAC.out.2.2.1.below HBW.out,HPA.out.1⟩ hk1 bc hs w1 HB1.out)
 have HV2:Hid _:=hide (fun W hW=>HR.out.1.value wT ⟨HAC.out.2.2.2.1.below HBW.out,HPA.out.2⟩ hk2 bc hs W hW)
 have HQC:Hid (∀W,Below w1.heap.size w1 W->(W.cell? ⟨qa,0,none⟩=some (.int .i64 ka)/\W.cell? ⟨qa,1,none⟩=some (.int .i64 tT.1.1)/\W.cell? ⟨qa,2,none⟩=some (.int .i64 tT.1.2.1)/\W.cell? ⟨qa,3,none⟩=some (.string tT.1.2.2)/\W.cell? ⟨qa,4,none⟩=some (.slice tT.2.1.1 tT.2.2.length tT.2.1.2))/\(W.cell? ⟨qa,5,none⟩=some (.int .i64 wT.1.1)/\W.cell? ⟨qa,6,none⟩=some (.int .i64 wT.1.2.1)/\W.cell? ⟨qa,7,none⟩=some (.string wT.1.2.2)/\W.cell? ⟨qa,8,none⟩=some (.slice wT.2.1.1 wT.2.2.length wT.2.1.2))/\W.cell? ⟨qa,9,none⟩=some (.string an)/\W.cell? ⟨qa,10,none⟩=some (.int .i64 av)):=fun W hW=>by
  have h:=bC hW HX1.out
  exact⟨⟨ae h 0,ae h 1,ae h 2,ae h 3,ae h 4⟩,⟨ae h 5,ae h 6,ae h 7,ae h 8⟩,ae h 9,ae h 10⟩
 clear hkk hk1 hk2
 obtain⟨⟨z0,z1',z2',z3',z4'⟩,_⟩:=HQC.out w1 (Below.refl _ _)
 go_wp2_with fail
 refine HV1.out.mono ?_
 rintro e w2 ⟨z1,r1,rfl,H2⟩
 have HB2:=hide (HB1.out.trans (H2.out.1.mono HB1.out.size))
 have HA2:Hid (∀o,Below w2.heap.size w2 (w2.alloc o)):=fun o=>(Below.refl _ _).alloc (Nat.le_refl _) o
 clear z0 z1' z2' z3' z4' HV1
 go_upto_region 8 with fail
 generalize hw3:w2.alloc _=w3
 have HB3a:Hid (Below w2.heap.size w2 w3):=by rw[<-hw3];exact HA2.out _
 have HX3:Hid (w3.heap[w2.heap.size]? =some (.cells #[.int .i64 z1.1.1,.int .i64 z1.1.2.1,.string z1.1.2.2,.slice z1.2.1.1 z1.2.2.length z1.2.1.2] 25)):=by rw[<-hw3];exact heap_alloc_new _ _
 have HB3:=hide (HB2.out.trans (HB3a.out.mono HB2.out.size))
 clear hw3 HA2
 obtain⟨_,⟨z5,z6,z7,z8⟩,_⟩:=HQC.out w3 (H2.out.1.trans (HB3a.out.mono H2.out.1.size))
 obtain⟨tb,htb⟩:∃tb,tb=w2.heap.size:=⟨_,rfl⟩
 rw[<-htb]
 rw[<-htb]at HX3
 have HTB:=hide htb
 clear htb
 go_wp2_with fail
 refine(HV2.out w3 HB3.out).mono ?_
 rintro e w4 ⟨z2,r2,rfl,H4⟩
 have HB4:=hide (HB3.out.trans (H4.out.1.mono HB3.out.size))
 have HA4:Hid (∀o,Below w4.heap.size w4 (w4.alloc o)):=fun o=>(Below.refl _ _).alloc (Nat.le_refl _) o
 clear z5 z6 z7 z8 HV2
 go_upto_region 9 with fail
 generalize hw6:w4.alloc _=w6
 have HB6a:Hid (Below w4.heap.size w4 w6):=by rw[<-hw6];exact HA4.out _
 have HX6:Hid (w6.heap[w4.heap.size]? =some (.cells #[.int .i64 z2.1.1,.int .i64 z2.1.2.1,.string z2.1.2.2,.slice z2.2.1.1 z2.2.2.length z2.2.1.2] 25)):=by rw[<-hw6];exact heap_alloc_new _ _
 have HB6:=hide (HB4.out.trans (HB6a.out.mono HB4.out.size))
 have HX36:=hide (bC HB6a.out (bC H4.out.1 HX3.out))
 clear hw6 HA4
 obtain⟨wb,hwb⟩:∃wb,wb=w4.heap.size:=⟨_,rfl⟩
 rw[<-hwb]
 rw[<-hwb]at HX6
 have HWB:=hide hwb
 clear hwb
 have HR6:=hide (HR.out.later HB6.out)
 have HQ6:=hide (HQC.out w6 (H2.out.1.trans ((HB3a.out.trans ((H4.out.1.trans (HB6a.out.mono H4.out.1.size)).mono HB3a.out.size)).mono H2.out.1.size)))
 have hTc:w6.cell? ⟨tb,0,none⟩=some (.int .i64 z1.1.1)/\w6.cell? ⟨tb,1,none⟩=some (.int .i64 z1.1.2.1):=⟨ae HX36.out 0,ae HX36.out 1⟩
 have hWc:w6.cell? ⟨wb,0,none⟩=some (.int .i64 z2.1.1)/\w6.cell? ⟨wb,1,none⟩=some (.int .i64 z2.1.2.1)/\w6.cell? ⟨wb,2,none⟩=some (.string z2.1.2.2)/\w6.cell? ⟨wb,3,none⟩=some (.slice z2.2.1.1 z2.2.2.length z2.2.1.2):=⟨ae HX6.out 0,ae HX6.out 1,ae HX6.out 2,ae HX6.out 3⟩
 obtain⟨t0,t1⟩:=hTc
 obtain⟨u0,u1,u2,u3⟩:=hWc
 obtain⟨⟨z0,_⟩,_,z9,z10⟩:=HQ6.out
 rcases HKK.out with⟨e1,hc1,hc2⟩|⟨e1,hn1,hc2,v0,v1⟩|⟨e1,hc1,hn2⟩|⟨e1,hn1,hn2⟩
 ·obtain rfl:ka=1:=e1
  obtain⟨q1,q2⟩:=H2.out.2.2.2 hc1
  obtain⟨q3,q4⟩:=H4.out.2.2.2 hc2
  obtain⟨p1,p2,p3⟩:=E8 q1 fun t ht=>(q2 t ht).2.2
  have hda:pz self (1,(tT,wT),an,av) d=(jA d.b self (n+1) tT).bind fun u=>(kF d.b self (n+1) wT).map fun t=>{d with sends:=d.sends++ [(u,t)]}:=by simp[pz]
  have HDA:=hide hda
  have HPP:=hide (⟨p1,p2,p3⟩:_/\_/\_)
  have HQ34:=hide (⟨q3,q4⟩:_/\_)
  clear q1 q2 q3 q4 p1 p2 p3 hda
  obtain⟨b0,b1,b2,b3,b4,b5,b6,b7⟩:=HBD.out w6 HB6.out
  obtain⟨⟨rc0,rc1,rc2,rc3,rc4,rc5,rc6,rc7⟩,rf0,rf1,rf2,rf3,rf4,rf5,rf6,rf7⟩:=HRZ.out w6 HB6.out
  cases r1 with
  | false=>
   have hR:R=none:=by
    rw[HDD.out,HDA.out,HPP.out.2.1 rfl]
    rfl
   have HFI:=hide (HFB.out (HBAD.out hR) w6)
   have HTK:=hide (HBAD.out hR)
   clear hR
   go_wp2_with fail
   rw[iG]
   refine bodyPost_ret (v:=.agg (fU y 2 (.slice none 0 0) (.slice none 0 0) (.slice none 0 0))) (bK Tryz.results35 rfl (dB _ rfl (HRB.out _ HB6.out))) rfl ?_
   exact⟨_,_,_,by rw[HTK.out],HFI.out _ HB6.out (aJ rb _ 0 w6).1⟩
  | true=>
  by_cases h3:z1.1.1=3
  rotate_left
  ·have b3:(z1.1.1 !=3)=true:=by simpa using h3
   have hR:R=none:=by
    rw[HDD.out,HDA.out,HPP.out.2.2 h3]
    rfl
   have HFI:=hide (HFB.out (HBAD.out hR) w6)
   have HTK:=hide (HBAD.out hR)
   clear hR
   go_wp2_with fail
   rw[iG]
   refine bodyPost_ret (v:=.agg (fU y 2 (.slice none 0 0) (.slice none 0 0) (.slice none 0 0))) (bK Tryz.results35 rfl (dB _ rfl (HRB.out _ HB6.out))) rfl ?_
   exact⟨_,_,_,by rw[HTK.out],HFI.out _ HB6.out (aJ rb _ 0 w6).1⟩
  have HPU:=hide (HPP.out.1 rfl h3)
  have b3':(z1.1.1 !=3)=false:=by simpa using h3
  cases r2 with
  | false=>
   have hv0:kF d.b self (n+1) wT=none:=Option.isSome_eq_false_iff.1 HQ34.out.1.symm |> Option.isNone_iff_eq_none.1
   have hR:R=none:=by
    rw[HDD.out,HDA.out,HPU.out,hv0]
    rfl
   have HFI:=hide (HFB.out (HBAD.out hR) w6)
   have HTK:=hide (HBAD.out hR)
   clear hR
   go_wp2_with fail
   rw[iG]
   refine bodyPost_ret (v:=.agg (fU y 2 (.slice none 0 0) (.slice none 0 0) (.slice none 0 0))) (bK Tryz.results35 rfl (dB _ rfl (HRB.out _ HB6.out))) rfl ?_
   exact⟨_,_,_,by rw[HTK.out],HFI.out _ HB6.out (aJ rb _ 0 w6).1⟩
  | true=>
  obtain⟨t,hvt⟩:∃t,kF d.b self (n+1) wT=some t:=Option.isSome_iff_exists.1 HQ34.out.1.symm
  obtain⟨hcz,_,hct⟩:=HQ34.out.2 t hvt
  clear b0 b1 b2 b3 b4 b5 b6 b7 rc0 rc1 rc2 rc3 rc4 rc5 rc6 rc7 rf0 rf1 rf2 rf3 rf4 rf5 rf6 rf7
  have HZ2:Hid (aP _ z2=0/\In w6.heap.size w6 _ z2/\Off (fun q=>¬dh ob bg sv pv lv q/\((Pq q/\q<base)∨w5.heap.size<=q)) _ z2):=by
   obtain⟨_,g2,g3,_⟩:=H4.out
   refine⟨hcz,(g2.below HB6a.out).mono HB6a.out.size,g3.mono fun q hq=>⟨fun e=> ?_,hq.imp id fun h=> ?_⟩⟩
   ·have h1:=HR.out.1.high q e
    have h2:=HB3.out.size
    rcases hq with h|h<;>omega
   ·have h1:=HK5.out.size
    have h2:=HB3.out.size
    omega
  have HVT:=hide (⟨hvt,hct⟩:_/\_)
  clear hvt hct hcz
  obtain⟨sa,sc,rfl⟩:=dN HR6.out.1.sRow
  obtain⟨K,hK⟩:∃K,K=sd.length:=⟨_,rfl⟩
  have HLR:Hid (w6.ownsRow base 111 5 (.slice sa K sc) K (sd.flatMap fun z=>Cj z.1 z.2)):=by rw[hK];exact HR6.out.1.sRow
  have hK8:K<=8:=by have:=HR6.out.1.few;omega
  obtain⟨f,hf⟩:∃f:Int,f=if d.stops then 1 else 0:=⟨_,rfl⟩
  have hbo:=HR6.out.1.box
  rw[<-hf,<-hK]at hbo
  have o7:w6.cell? ⟨ob,5,none⟩=some (.slice sa K sc):=ae hbo 5
  have hne:(Value.slice sa K sc).ownBlock≠some ob:=dH HLR.out hbo (by decide)
  have HOB:Hid (∀W,Kee (fun q=>(Value.slice sa K sc).ownBlock=some q) w6 W->W.cell? ⟨ob,5,none⟩=some (.slice sa K sc)/\W.frozen? ⟨ob,5,none⟩=false):=fun W hk=>by
   have h:=(hk.block ob (Array.getElem?_eq_some_iff.1 hbo).1 hne).trans hbo
   exact⟨ae h 5,by simp[World.frozen?,h]⟩
  have HSB:=hide HR6.out.1.own.2.2
  have HKK2:=hide hK
  clear hf hbo hne hK
  go_wp2_with (first
   | (at_builtin;refine wpList_append_lies _ rfl _ _ 39 rfl base 111 is _ 5 64 Tryz.underlying39 HIS.out.1 HIS.out.2.1 HIS.out.2.2.1 HIS.out.2.2.2 rfl (by decide) (.slice sa K sc) K (sd.flatMap fun z=>Cj z.1 z.2) rfl (HLR.out.alloc _) ⟨w6.heap.size,0,none⟩ 1 1 (Cj z1.1.2.1 z2) rfl rfl (World.news_of_block (cs:= #[.int .i64 z1.1.2.1,.int .i64 z2.1.1,.int .i64 z2.1.2.1,.string z2.1.2.2,.slice z2.2.1.1 z2.2.2.length z2.2.1.2]) (t:=111) (fr:=(0,0)) (heap_alloc_new w6 _)) (zQ _ rfl) (by decide) (by unfold maxLen;omega) (by omega) (by have:=HSB.out;simp;omega) _ rfl ?_;intro g5 c5 w7 hown5 hgrow5 hat5 hlt5;have HK7:Hid (Kee (fun q=>(Value.slice sa K sc).ownBlock=some q) w6 w7):=(aG ((Below.refl _ _).alloc (Nat.le_refl _) _) _).trans (fE hgrow5) (fun _ _ e=>e);have HO7:=hide hown5;have HA7:=hide (vk (n:=K+1) (c:=c5) hat5);obtain⟨p7,pf7⟩:=HOB.out w7 HK7.out;clear hown5 hgrow5 hat5 hlt5 o7))
  obtain rfl:=HKK2.out
  have HR7:=hide (HR6.out.send HK7.out HO7.out HA7.out HZ2.out)
  have hd7:mE self (acts.drop (j+1)) {d with sends:=d.sends++ [(z1.1.2.1,cn _ z2)]}=R:=by
   rw[HDD.out,HDA.out,HPU.out,HVT.out.1,HVT.out.2]
   rfl
  have HD7:=hide hd7
  clear hd7
  go_roundw
  case rel=>exact⟨j+1,{d with sends:=d.sends++ [(z1.1.2.1,cn _ z2)]},by omega,by go_num,rfl,l1,_,sp,_,pv,lv,HR7.out,HD7.out⟩
  case measure=>simp[intOf];omega
 ·obtain rfl:ka=2:=e1
  obtain⟨q3,q4⟩:=H4.out.2.2.2 hc2
  have v0':0<=av:=v0
  have v1':av<4:=v1
  obtain⟨v,rfl⟩:∃v:Nat,av=(v:Int):=⟨av.toNat,by omega⟩
  have hv4:v<4:=by omega
  obtain⟨x0,hx0⟩:∃x0,l1[v]? =some x0:=⟨l1[v]'(by rw[(dI HR.out.1.bnd).1];exact hv4),List.getElem?_eq_getElem _⟩
  have hkd:bE ⟨13,(d.b[((v:Int)).toNat]?).getD (nG 0)⟩=x0.1.1:=by
   rw[<-HR.out.1.tells,List.getElem?_map,Int.toNat_natCast,hx0]
   rfl
  have hda:pz self (2,(tT,wT),an,(v:Int)) d=(kF d.b self (n+1) wT).bind fun t=>if x0.1.1=6 then some {d with b:=d.b.set v (nG d.next),next:=d.next+1,spawns:=d.spawns++ [(d.next,an,t)]}else none:=by
   simp only[pz]
   rw[if_neg (by decide),if_pos trivial,hkd,Int.toNat_natCast]
  have HDA:=hide hda
  have HQ34:=hide (⟨q3,q4⟩:_/\_)
  obtain⟨⟨g0,g1,g2,g3⟩,_⟩:=HR6.out.1.row v x0 hx0
  have HGG:=hide (⟨g0,g1,g2,g3⟩:_/\_/\_/\_)
  have i1:(0:Int)<=(v:Int):=by omega
  have i2:(v:Int)<4:=by omega
  clear q3 q4 hda hkd v0 v1 v0' v1' hx0 g1 g2 g3
  obtain⟨b0,b1,b2,b3,b4,b5,b6,b7⟩:=HBD.out w6 HB6.out
  obtain⟨⟨rc0,rc1,rc2,rc3,rc4,rc5,rc6,rc7⟩,rf0,rf1,rf2,rf3,rf4,rf5,rf6,rf7⟩:=HRZ.out w6 HB6.out
  cases r2 with
  | false=>
   have hv0:kF d.b self (n+1) wT=none:=Option.isSome_eq_false_iff.1 HQ34.out.1.symm |> Option.isNone_iff_eq_none.1
   have hR:R=none:=by
    rw[HDD.out,HDA.out,hv0]
    rfl
   have HFI:=hide (HFB.out (HBAD.out hR) w6)
   have HTK:=hide (HBAD.out hR)
   clear hR
   go_wp2_with fail
   rw[iG]
   refine bodyPost_ret (v:=.agg (fU y 2 (.slice none 0 0) (.slice none 0 0) (.slice none 0 0))) (bK Tryz.results35 rfl (dB _ rfl (HRB.out _ HB6.out))) rfl ?_
   exact⟨_,_,_,by rw[HTK.out],HFI.out _ HB6.out (aJ rb _ 0 w6).1⟩
  | true=>
  obtain⟨t,hvt⟩:∃t,kF d.b self (n+1) wT=some t:=Option.isSome_iff_exists.1 HQ34.out.1.symm
  obtain⟨hcz,_,hct⟩:=HQ34.out.2 t hvt
  have HVT:=hide (⟨hvt,hct⟩:_/\_)
  clear hvt hct
  by_cases h6:x0.1.1=6
  rotate_left
  ·have b6':(x0.1.1 !=6)=true:=by simpa using h6
   have hif:(if x0.1.1=6 then some {d with b:=d.b.set v (nG d.next),next:=d.next+1,spawns:=d.spawns++ [(d.next,an,t)]}else none)=none:=if_neg h6
   have hR:R=none:=by
    rw[HDD.out,HDA.out,HVT.out.1,Option.bind_some,hif]
    rfl
   have HFI:=hide (HFB.out (HBAD.out hR) w6)
   have HTK:=hide (HBAD.out hR)
   clear hR
   go_wp2_with fail
   rw[iG]
   refine bodyPost_ret (v:=.agg (fU y 2 (.slice none 0 0) (.slice none 0 0) (.slice none 0 0))) (bK Tryz.results35 rfl (dB _ rfl (HRB.out _ HB6.out))) rfl ?_
   exact⟨_,_,_,by rw[HTK.out],HFI.out _ HB6.out (aJ rb _ 0 w6).1⟩
  have b6':(x0.1.1 !=6)=false:=by simpa using h6
  have HH6:=hide h6
  clear b0 b1 b2 b3 b4 b5 b6 b7 rc0 rc1 rc2 rc3 rc4 rc5 rc6 rc7 rf0 rf1 rf2 rf3 rf4 rf5 rf6 rf7
  have HZ2:Hid (aP _ z2=0/\In w6.heap.size w6 _ z2/\Off (fun q=>¬dh ob bg sv pv lv q/\((Pq q/\q<base)∨w5.heap.size<=q)) _ z2):=by
   obtain⟨_,g2,g3,_⟩:=H4.out
   refine⟨hcz,(g2.below HB6a.out).mono HB6a.out.size,g3.mono fun q hq=>⟨fun e=> ?_,hq.imp id fun h=> ?_⟩⟩
   ·have h1:=HR.out.1.high q e
    have h2:=HB3.out.size
    rcases hq with h|h<;>omega
   ·have h1:=HK5.out.size
    have h2:=HB3.out.size
    omega
  clear hcz
  obtain⟨pa,pc,rfl⟩:=dN HR6.out.1.pRow
  obtain⟨K,hK⟩:∃K,K=sp.length:=⟨_,rfl⟩
  have HLR:Hid (w6.ownsRow base 116 6 (.slice pa K pc) K (sp.flatMap fun z=>BZ z.1 z.2.1 z.2.2)):=by rw[hK];exact HR6.out.1.pRow
  have hK8:K<=8:=by have:=HR6.out.1.few;omega
  obtain⟨f,hf⟩:∃f:Int,f=if d.stops then 1 else 0:=⟨_,rfl⟩
  have hbo:=HR6.out.1.box
  rw[<-hf,<-hK]at hbo
  have o7:w6.cell? ⟨ob,6,none⟩=some (.slice pa K pc):=ae hbo 6
  have hne:(Value.slice pa K pc).ownBlock≠some ob:=dH HLR.out hbo (by decide)
  have HOB:Hid (∀W,Kee (fun q=>(Value.slice pa K pc).ownBlock=some q) w6 W->W.cell? ⟨ob,6,none⟩=some (.slice pa K pc)/\W.frozen? ⟨ob,6,none⟩=false):=fun W hk=>by
   have h:=(hk.block ob (Array.getElem?_eq_some_iff.1 hbo).1 hne).trans hbo
   exact⟨ae h 6,by simp[World.frozen?,h]⟩
  have HSB:=hide HR6.out.1.own.2.2
  have HKK2:=hide hK
  clear hf hbo hne hK
  have HEX:Hid (∀W,Kee (fun q=>(Value.slice pa K pc).ownBlock=some q) w6 W->W.cell? ⟨qa,10,none⟩=some (.int .i64 (v:Int))/\(W.cell? ⟨bg,v*4,none⟩=some (.int .i64 x0.1.1)/\W.cell? ⟨bg,v*4+1,none⟩=some (.int .i64 x0.1.2.1)/\W.cell? ⟨bg,v*4+2,none⟩=some (.string x0.1.2.2)/\W.cell? ⟨bg,v*4+3,none⟩=some (.slice x0.2.1.1 x0.2.2.length x0.2.1.2))/\W.frozen? ⟨bg,v*4,none⟩=false/\W.frozen? ⟨bg,v*4+1,none⟩=false/\W.frozen? ⟨bg,v*4+2,none⟩=false/\W.frozen? ⟨bg,v*4+3,none⟩=false):=fun W hk=>by
   have hqa:=bC (H2.out.1.trans ((HB3a.out.trans ((H4.out.1.trans (HB6a.out.mono H4.out.1.size)).mono HB3a.out.size)).mono H2.out.1.size)) HX1.out
   have h1:=(hk.block qa (Array.getElem?_eq_some_iff.1 hqa).1 (dH HLR.out hqa (by decide))).trans hqa
   obtain⟨cur,hcu⟩:=HR6.out.1.bgT
   have h2:=hk.block bg HR6.out.1.lt.2 (dH HLR.out hcu (by decide))
   have hf:∀j,W.frozen? ⟨bg,j,none⟩=false:=fun j=>by simp[World.frozen?,h2.trans hcu]
   obtain⟨y0,y1,y2,y3⟩:=eG (n:=D+1) (y:=x0) h2 HGG.out
   exact⟨ae h1 10,⟨y0,y1,y2,y3⟩,hf _,hf _,hf _,hf _⟩
  have n1:ob≠qa:=by have:=HQA.out;have:=HR.out.1.lt;omega
  have n2:ob≠bg:=HR.out.1.apart.1
  have n3:qa≠ob:=n1.symm
  have n4:bg≠ob:=n2.symm
  have HNX:Hid (1<=d.next/\d.next<=99):=by
   obtain⟨f1,f2,f3,f4⟩:=HR.out.1.few
   have h1:=hn.1
   have h2:=hn.2
   show 1<=d.next/\d.next<=99
   omega
  have nx1:=HNX.out
  go_wp2_with (first
   | (at_builtin;refine wpList_append_lies _ rfl _ _ 40 rfl base 116 ip _ 6 80 Tryz.underlying40 HIP.out.1 HIP.out.2.1 HIP.out.2.2.1 HIP.out.2.2.2 rfl (by decide) (.slice pa K pc) K (sp.flatMap fun z=>BZ z.1 z.2.1 z.2.2) rfl (HLR.out.alloc _) ⟨w6.heap.size,0,none⟩ 1 1 (BZ d.next an z2) rfl rfl (World.news_of_block (cs:= #[.int .i64 d.next,.string an,.int .i64 z2.1.1,.int .i64 z2.1.2.1,.string z2.1.2.2,.slice z2.2.1.1 z2.2.2.length z2.2.1.2]) (t:=116) (fr:=(0,0)) (heap_alloc_new w6 _)) (zQ _ rfl) (by decide) (by unfold maxLen;omega) (by omega) (by have:=HSB.out;simp;omega) _ rfl ?_;intro g5 c5 w7 hown5 hgrow5 hat5 hlt5;have HK7:Hid (Kee (fun q=>(Value.slice pa K pc).ownBlock=some q) w6 w7):=(aG ((Below.refl _ _).alloc (Nat.le_refl _) _) _).trans (fE hgrow5) (fun _ _ e=>e);have HO7:=hide hown5;have HA7:=hide (vk (n:=K+1) (c:=c5) hat5);obtain⟨p7,pf7⟩:=HOB.out w7 HK7.out;obtain⟨zz,⟨gg0,gg1,gg2,gg3⟩,gf0,gf1,gf2,gf3⟩:=HEX.out w7 HK7.out;clear hown5 hgrow5 hat5 hlt5 o7))
  obtain rfl:=HKK2.out
  obtain⟨l2,hR7⟩:=HR6.out.spawn hv4 HNX.out HK7.out HO7.out HA7.out HZ2.out
  have HR7:=hide hR7
  have hd7:mE self (acts.drop (j+1)) {d with b:=d.b.set v (nG d.next),next:=d.next+1,spawns:=d.spawns++ [(d.next,an,cn _ z2)]}=R:=by
   rw[HDD.out,HDA.out,HVT.out.1,Option.bind_some,if_pos HH6.out,HVT.out.2]
   rfl
  have HD7:=hide hd7
  clear hd7 hR7
  go_roundw
  case rel=>exact⟨j+1,{d with b:=d.b.set v (nG d.next),next:=d.next+1,spawns:=d.spawns++ [(d.next,an,cn _ z2)]},by omega,by go_num,by go_num,l2,sd,_,sv,_,lv,HR7.out,HD7.out⟩
  case measure=>simp[intOf];omega
 ·obtain rfl:ka=3:=e1
  obtain⟨q1,q2⟩:=H2.out.2.2.2 hc1
  obtain⟨p1,p2,p3⟩:=E8 q1 fun t ht=>(q2 t ht).2.2
  have hda:pz self (3,(tT,wT),an,av) d=(jA d.b self (n+1) tT).map fun u=>{d with links:=d.links++ [u]}:=by simp[pz]
  have HDA:=hide hda
  clear hda
  have HPP:=hide (⟨p1,p2,p3⟩:_/\_/\_)
  clear q1 q2 p1 p2 p3
  obtain⟨b0,b1,b2,b3,b4,b5,b6,b7⟩:=HBD.out w6 HB6.out
  obtain⟨⟨rc0,rc1,rc2,rc3,rc4,rc5,rc6,rc7⟩,rf0,rf1,rf2,rf3,rf4,rf5,rf6,rf7⟩:=HRZ.out w6 HB6.out
  cases r1 with
  | false=>
   have hR:R=none:=by
    rw[HDD.out,HDA.out,HPP.out.2.1 rfl]
    rfl
   have HFI:=hide (HFB.out (HBAD.out hR) w6)
   have HTK:=hide (HBAD.out hR)
   clear hR
   go_wp2_with fail
   rw[iG]
   refine bodyPost_ret (v:=.agg (fU y 2 (.slice none 0 0) (.slice none 0 0) (.slice none 0 0))) (bK Tryz.results35 rfl (dB _ rfl (HRB.out _ HB6.out))) rfl ?_
   exact⟨_,_,_,by rw[HTK.out],HFI.out _ HB6.out (aJ rb _ 0 w6).1⟩
  | true=>
  by_cases h3:z1.1.1=3
  rotate_left
  ·have b3:(z1.1.1 !=3)=true:=by simpa using h3
   have hR:R=none:=by
    rw[HDD.out,HDA.out,HPP.out.2.2 h3]
    rfl
   have HFI:=hide (HFB.out (HBAD.out hR) w6)
   have HTK:=hide (HBAD.out hR)
   clear hR
   go_wp2_with fail
   rw[iG]
   refine bodyPost_ret (v:=.agg (fU y 2 (.slice none 0 0) (.slice none 0 0) (.slice none 0 0))) (bK Tryz.results35 rfl (dB _ rfl (HRB.out _ HB6.out))) rfl ?_
   exact⟨_,_,_,by rw[HTK.out],HFI.out _ HB6.out (aJ rb _ 0 w6).1⟩
  have HPU:=hide (HPP.out.1 rfl h3)
  have b3':(z1.1.1 !=3)=false:=by simpa using h3
  clear b0 b1 b2 b3 b4 b5 b6 b7 rc0 rc1 rc2 rc3 rc4 rc5 rc6 rc7 rf0 rf1 rf2 rf3 rf4 rf5 rf6 rf7
  obtain⟨ka',kc',rfl⟩:=dN HR6.out.1.lRow
  obtain⟨K,hK⟩:∃K,K=d.links.length:=⟨_,rfl⟩
  have HLR:Hid (w6.ownsRow base 3 1 (.slice ka' K kc') K (d.links.map fun u=> .int .i64 u)):=by rw[hK];exact HR6.out.1.lRow
  have hK8:K<=8:=by have:=HR6.out.1.few;omega
  obtain⟨f,hf⟩:∃f:Int,f=if d.stops then 1 else 0:=⟨_,rfl⟩
  have hbo:=HR6.out.1.box
  rw[<-hf,<-hK]at hbo
  have o7:w6.cell? ⟨ob,7,none⟩=some (.slice ka' K kc'):=ae hbo 7
  have hne:(Value.slice ka' K kc').ownBlock≠some ob:=dH HLR.out hbo (by decide)
  have HOB:Hid (∀W,Kee (fun q=>(Value.slice ka' K kc').ownBlock=some q) w6 W->W.cell? ⟨ob,7,none⟩=some (.slice ka' K kc')/\W.frozen? ⟨ob,7,none⟩=false):=fun W hk=>by
   have h:=(hk.block ob (Array.getElem?_eq_some_iff.1 hbo).1 hne).trans hbo
   exact⟨ae h 7,by simp[World.frozen?,h]⟩
  have HSB:=hide HR6.out.1.own.2.2
  have HKK2:=hide hK
  clear hf hbo hne hK
  go_wp2_with (first
   | (at_builtin;refine wpList_append_lies _ rfl _ _ 41 rfl base 3 ii _ 1 8 Tryz.underlying41 HII.out.1 HII.out.2.1 HII.out.2.2.1 HII.out.2.2.2 rfl (by decide) (.slice ka' K kc') K (d.links.map fun u=> .int .i64 u) rfl (HLR.out.alloc _) ⟨w6.heap.size,0,none⟩ 1 1 ([.int .i64 z1.1.2.1]) rfl rfl (World.news_of_block (cs:= #[.int .i64 z1.1.2.1]) (t:=3) (fr:=(0,0)) (heap_alloc_new w6 _)) (zQ _ rfl) (by decide) (by unfold maxLen;omega) (by omega) (by have:=HSB.out;simp;omega) _ rfl ?_;intro g5 c5 w7 hown5 hgrow5 hat5 hlt5;have HK7:Hid (Kee (fun q=>(Value.slice ka' K kc').ownBlock=some q) w6 w7):=(aG ((Below.refl _ _).alloc (Nat.le_refl _) _) _).trans (fE hgrow5) (fun _ _ e=>e);have HO7:=hide hown5;have HA7:=hide (vk (n:=K+1) (c:=c5) hat5);obtain⟨p7,pf7⟩:=HOB.out w7 HK7.out;clear hown5 hgrow5 hat5 hlt5 o7))
  obtain rfl:=HKK2.out
  have HR7:=hide (HR6.out.link HK7.out HO7.out HA7.out)
  have hd7:mE self (acts.drop (j+1)) {d with links:=d.links++ [z1.1.2.1]}=R:=by
   rw[HDD.out,HDA.out,HPU.out]
   rfl
  have HD7:=hide hd7
  clear hd7
  go_roundw
  case rel=>exact⟨j+1,{d with links:=d.links++ [z1.1.2.1]},by omega,by go_num,rfl,l1,sd,sp,sv,pv,_,HR7.out,HD7.out⟩
  case measure=>simp[intOf];omega
 ·obtain rfl:ka=4:=e1
  obtain⟨f,hf⟩:∃f:Int,f=if d.stops then 1 else 0:=⟨_,rfl⟩
  have hbo:=HR6.out.1.box
  rw[<-hf]at hbo
  have o4:w6.cell? ⟨ob,4,none⟩=some (.int .i64 f):=ae hbo 4
  have of:w6.frozen? ⟨ob,4,none⟩=false:=by simp[World.frozen?,hbo]
  have HR7:=hide HR6.out.stop
  have HD7:Hid (mE self (acts.drop (j+1)) {d with stops:=true}=R):=by
   rw[HDD.out]
   rfl
  clear hf hbo
  go_wp2_with fail
  go_roundw
  case rel=>exact⟨j+1,{d with stops:=true},by omega,by go_num,rfl,l1,sd,sp,sv,pv,lv,HR7.out,HD7.out⟩
  case measure=>simp[intOf];omega
end Go.Proofs.YtbknffhilfoakaaGreat
