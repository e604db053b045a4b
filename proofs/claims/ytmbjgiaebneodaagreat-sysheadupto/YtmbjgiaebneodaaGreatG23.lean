/- What is proved here: plain facts and contracts that the claimed theorem stands on. No condition but those that each names. -/
import Derived.Test.YtmbjgiaebneodaaGreatG22
namespace Go.Proofs.YtmbjgiaebneodaaGreat
open Go.RowKit
set_option maxHeartbeats 2000000
set_option maxRecDepth 100000
theorem IX (nmB:ByteArray) (k i:Int) (t:ByteArray) (ta:Option Addr) (tl tc:Nat) (room:Int) (w:World) (isn:Bool) (F:Wd->Int->World->World->Prop)
    (HI:Hid (∀w1:World,Calls Tryz.prog 49 #[.string nmB] w1 fun e w'=>e=.returned (.bool isn)/\w'=w1))
    (HS:Hid (isn=true->∀w1:World,Calls Tryz.prog 52 #[.string nmB] w1 fun e w'=>e=.returned (.string nmB)/\Below w1.heap.size w1 w'))
    (HP:Hid (0<=room/\room<=1000->∀w2,HB (HLoc.own (w.heap.size+1)) room (.slice none 0 0) (.slice none 0 0) (.map none) w2->w2.heap.size=w.heap.size+1+1->Below w.heap.size w w2->Calls Tryz.prog 51 #[.pointer (some ⟨w.heap.size+1,0,none⟩),.agg #[.int .i64 k,.int .i64 i,.string t,.slice ta tl tc]] w2 fun e w3=>∃(v:Wd) (e1:Int),e=.returned (.tuple #[.agg #[.int .i64 v.1,.int .i64 v.2],.int .i64 e1])/\Hid (∃tv lv mv,w3.heap[w.heap.size+1]? =some (.cells #[.int .i64 room,tv,lv,mv] 130)/\F v e1 w2 w3))):
    Calls Tryz.prog 28 #[.string nmB,.agg #[.int .i64 k,.int .i64 i,.string t,.slice ta tl tc],.int .i64 room] w fun e w'=>
     (isn=false->e=.returned (.tuple #[.pointer none,.int .i64 5])/\Below w.heap.size w w')/\(isn=true->¬(0<=room/\room<=1000)->e=.returned (.tuple #[.pointer none,.int .i64 1])/\Below w.heap.size w w')/\
     (isn=true->0<=room/\room<=1000->∃(v:Wd) (e1:Int) (w2 w3:World),Hid (Below w.heap.size w w2/\w2.heap.size=w.heap.size+1+1/\F v e1 w2 w3)/\(e1≠0->e=.returned (.tuple #[.pointer none,.int .i64 e1])/\Below w3.heap.size w3 w')/\
      (e1=0->∃(w5:World) (tv lv mv:Value),e=.returned (.tuple #[.pointer (some ⟨w5.heap.size,0,none⟩),.int .i64 0])/\Below w3.heap.size w3 w5/\w3.heap[w.heap.size+1]? =some (.cells #[.int .i64 room,tv,lv,mv] 130)/\w'=w5.alloc (.cells #[.string nmB,.int .i64 room,tv,lv,mv,.int .i64 v.1,.int .i64 v.2,.slice none 0 0] 132))):=by
 have HN:=hide (fG w (.cells #[.int .i64 k,.int .i64 i,.string t,.slice ta tl tc] 30) rfl)
 have HNB:Hid (Below w.heap.size w (w.alloc (.cells #[.int .i64 k,.int .i64 i,.string t,.slice ta tl tc] 30))/\(w.alloc (.cells #[.int .i64 k,.int .i64 i,.string t,.slice ta tl tc] 30)).heap.size=w.heap.size+1):=⟨by go_grown,by simp⟩
 cases isn with
 | false=>
  go_enter Tryz.func28,Tryz.ntmps28
  go_wp2_with (go_at_call 49;refine(HI.out _).mono ?_;rintro e w1 ⟨rfl,rfl⟩)
  exact bodyPost_ret (v:=.tuple #[.pointer none,.int .i64 5]) (by simp[results,Tryz.results28,go_sem]) rfl ⟨fun _=>⟨rfl,HNB.out.1⟩,fun h=>(by cases h),fun h=>(by cases h)⟩
 | true=>
  have HS':=hide (HS.out rfl)
  go_enter Tryz.func28,Tryz.ntmps28
  go_wp2_with (go_at_call 49;refine(HI.out _).mono ?_;rintro e w1 ⟨rfl,rfl⟩)
  refine(Oh _ _).mono ?_
  rintro e w2 ⟨h1,h2⟩
  by_cases hr:0<=room/\room<=1000
  rotate_left
  ·obtain⟨rfl,rfl⟩:=h1 hr
   clear h1 h2
   go_wp2_with fail
   exact bodyPost_ret (v:=.tuple #[.pointer none,.int .i64 1]) (by simp[results,Tryz.results28,go_sem]) rfl ⟨fun h=>(by cases h),fun _ _=>⟨rfl,HNB.out.1⟩,fun _ h=>absurd h hr⟩
  ·obtain⟨rfl,HBx⟩:=h2 hr
   clear h1 h2
   replace HBx:=hide HBx
   rw[HNB.out.2]at HBx
   have HB2:Hid (Below w.heap.size w w2):=HNB.out.1.trans (HBx.out.2.2.mono (Nat.le_succ _))
   have HPP:=hide (HP.out hr w2 HBx.out.1 HBx.out.2.1 HB2.out)
   have HT:Hid (w2.heap[w.heap.size]? =some (.cells #[.int .i64 k,.int .i64 i,.string t,.slice ta tl tc] 30)):=(HBx.out.2.2.block _ (by have:=HNB.out.2;omega)).trans HN.out
   have t0:w2.cell? ⟨w.heap.size,0,none⟩=some (.int .i64 k):=ag HT.out 0
   have t1:w2.cell? ⟨w.heap.size,1,none⟩=some (.int .i64 i):=ag HT.out 1
   have t2:w2.cell? ⟨w.heap.size,2,none⟩=some (.string t):=ag HT.out 2
   have t3:w2.cell? ⟨w.heap.size,3,none⟩=some (.slice ta tl tc):=ag HT.out 3
   go_wp2_with fail
   refine HPP.out.mono ?_
   rintro e w3 ⟨v,e1,rfl,H3⟩
   obtain⟨tv,lv,mv,H3b,H3F⟩:=H3.out
   replace H3b:=hide H3b
   replace H3F:=hide (show Below w.heap.size w w2/\w2.heap.size=w.heap.size+1+1/\F v e1 w2 w3 from⟨HB2.out,HBx.out.2.1,H3F⟩)
   clear H3 HPP t0 t1 t2 t3 HT HBx
   by_cases h0:e1=0
   rotate_left
   ·have h0':¬(0:Int)=e1:=fun e=>h0 e.symm
    go_wp2_with fail
    exact bodyPost_ret (v:=.tuple #[.pointer none,.int .i64 e1]) (by simp[results,Tryz.results28,go_sem]) rfl ⟨fun h=>(by cases h),fun _ h=>absurd hr h,fun _ _=>⟨v,e1,w2,w3,H3F,fun _=>⟨rfl,au⟩,fun h=>absurd h h0⟩⟩
   ·subst h0
    go_wp2_with fail
    have HW2:Hid (∃w4 q,(w4=w3.alloc (.cells #[.int .i64 v.1,.int .i64 v.2] 119)/\q=w3.heap.size)/\Below w3.heap.size w3 w4/\w4.heap[q]? =some (.cells #[.int .i64 v.1,.int .i64 v.2] 119)):=⟨_,_,⟨rfl,rfl⟩,au,heap_alloc_new _ _⟩
    obtain⟨w4,q,⟨hw4,hq⟩,HS4⟩:=HW2.out
    rw[<-hw4,<-hq]
    replace HS4:=hide HS4
    clear hw4 hq HW2
    have HK:Hid (∀w':World,Below w4.heap.size w4 w'->w'.cell? ⟨w.heap.size+1,0,none⟩=some (.int .i64 room)/\w'.cell? ⟨w.heap.size+1,1,none⟩=some tv/\w'.cell? ⟨w.heap.size+1,2,none⟩=some lv/\w'.cell? ⟨w.heap.size+1,3,none⟩=some mv/\w'.cell? ⟨q,0,none⟩=some (.int .i64 v.1)/\w'.cell? ⟨q,1,none⟩=some (.int .i64 v.2)):=fun w' h=>by
     have h1:=(h.block q (Array.getElem?_eq_some_iff.1 HS4.out.2).1).trans HS4.out.2
     have hl:=(Array.getElem?_eq_some_iff.1 H3b.out).1
     have h2:=(h.block _ (Nat.lt_of_lt_of_le hl HS4.out.1.size)).trans ((HS4.out.1.block _ hl).trans H3b.out)
     exact⟨ag h2 0,ag h2 1,ag h2 2,ag h2 3,ag h1 0,ag h1 1⟩
    obtain⟨k0,k1,k2,k3,k4,k5⟩:=HK.out w4 (Below.refl _ _)
    have HD0:Hid (Below w4.heap.size w4 w4.drew):=(Below.refl _ _).drew
    go_region_held3 (fun w'=>w'.cell? ⟨w.heap.size+1,0,none⟩=some (.int .i64 room)/\w'.cell? ⟨w.heap.size+1,1,none⟩=some tv/\w'.cell? ⟨w.heap.size+1,2,none⟩=some lv/\w'.cell? ⟨w.heap.size+1,3,none⟩=some mv/\w'.cell? ⟨q,0,none⟩=some (.int .i64 v.1)/\w'.cell? ⟨q,1,none⟩=some (.int .i64 v.2)) (first|(go_keep;done)|with_reducible exact HK.out _ HD0.out|exact HK.out _ HB5.out|exact HK.out _ (HB5.out.trans (au.mono HB5.out.size)))
     ((go_at_call 52;refine(HS'.out _).mono ?_;rintro e w5 ⟨rfl,hb5⟩;have HB5:=hide (HD0.out.trans (hb5.mono HD0.out.size));clear hb5))
    go_wp2_with fail
    exact bodyPost_ret (v:=.tuple #[.pointer (some ⟨w5.heap.size,0,none⟩),.int .i64 0]) (by simp[results,Tryz.results28,go_sem]) rfl ⟨fun h=>(by cases h),fun _ h=>absurd hr h,fun _ _=>⟨v,0,w2,w3,H3F,fun h=>absurd rfl h,fun _=>⟨w5,tv,lv,mv,rfl,HS4.out.1.trans (HB5.out.mono HS4.out.1.size),H3b.out,rfl⟩⟩⟩
def eD (N:Nat) (x:Tm N) (room:Int) (name:ByteArray):Int:=if bq name=false then 5 else if¬(0<=room/\room<=1000)then 1 else iB N x room []
def Qc (N:Nat) (x:Tm N) (room:Int) (name:ByteArray) (w:World) (e:Ending) (w':World):Prop:=
 (eD N x room name≠0->e=.returned (.tuple #[.pointer none,.int .i64 (eD N x room name)])/\Below w.heap.size w w')/\
 (eD N x room name=0->∃pb,e=.returned (.tuple #[.pointer (some ⟨pb,0,none⟩),.int .i64 0])/\Hid (w.heap.size<=pb/\Below w.heap.size w w'/\∃ws nm sv Mh,PrAt w.heap.size pb name room N x [] [] 201 (fun b=>w.heap.size<=b/\b<w'.heap.size) w' ws nm sv [] none 0 Mh))
theorem yw {s:ByteArray} (h:bq s=true):s.size<=2048:=by
 simp only[bq,kr,Bool.and_eq_true,decide_eq_true_eq]at h
 omega
theorem In.offBelow {B:Nat} {w:World}:{n:Nat}->{x:Tm n}->In B w n x->Off (fun b=>b<B) n x
 | 0,_,k=>k
 | _+1,_,k=>by
  obtain⟨_,k1⟩:=k
  rcases k1 with k1|⟨b,o,e,hb,k1⟩
  ·exact Or.inl k1
  ·exact Or.inr ⟨b,o,e,hb,fun i y hy=>(k1 i y hy).2.offBelow⟩
theorem AU (N:Nat) (x:Tm (N+1)) (room:Int) (name:ByteArray) (w:World) (hsz:name.size<=9223372036854775807) (hx:In w.heap.size w (N+1) x) (hN:(nodes (N+1) x).length<=2097152):
    Calls Tryz.prog 28 #[.string name,val (N+1) x,.int .i64 room] w (Qc (N+1) x room name w):=by
 refine(IX name x.1.1 x.1.2.1 x.1.2.2 x.2.1.1 x.2.2.length x.2.1.2 room w (bq name) (fun v e1 w2 w3=>Below w.heap.size w w3/\zi (N+1) x w.heap.size (HLoc.own (w.heap.size+1)) room [] [] (fun b=>b=w.heap.size+1) v e1 w2 w3) ?_ ?_ ?_).mono ?_
 ·intro w1
  exact gV name w1 hsz
 ·intro h w1
  exact cB name w1 (yw h)
 ·intro hr w2 hB hz hb
  have hs:=hb.size
  have h2:HpAt w.heap.size (HLoc.own (w.heap.size+1)) room [] [] (fun b=>b=w.heap.size+1) w2:=⟨.slice none 0 0,.slice none 0 0,.map none,hB,World.ownsRow_nil _ _ _ _,⟨World.ownsRow_nil _ _ _ _,by simp,Or.inl ⟨rfl,rfl,rfl⟩⟩,rfl,fun b e=>by simp[Value.ownBlock]at e,fun b e=>by simp[Value.ownBlock]at e,fun b e=>by simp[mapBlock]at e⟩
  refine(uR (N+1) x w.heap.size (HLoc.own (w.heap.size+1)) room [] [] (fun b=>b=w.heap.size+1) w2 h2 ((hx.below hb).mono hs) ((In.offBelow hx).mono fun b q e=>by omega) hN hs hr.1 hr.2 (by simp) (by simp)).mono ?_
  intro e w3 hp
  obtain⟨v,e1,rfl,hf⟩:=zk hp
  have hbw:∀{S:Nat->Prop},Keep S w2 w3->(∀b,S b->w.heap.size<=b)->Below w.heap.size w w3:=fun k hS=>⟨k.os.trans hb.os,k.tape.trans hb.tape,k.output.trans hb.output,Nat.le_trans hs k.size,fun b hl=>(k.block b (Nat.lt_of_lt_of_le hl hs) fun q=>by have:=hS b q;omega).trans (hb.block b hl)⟩
  refine⟨v,e1,rfl, ?_⟩
  by_cases h0:e1=0
  ·obtain⟨_,_,l1,l2⟩:=hf.2.2 h0
   obtain⟨tv,lv,mv,hB3,_⟩:=l1
   exact⟨tv,lv,mv,hB3.2,hbw l2 fun b q=>by omega,hf⟩
  ·have hb3:=(hf.2.1 h0).2
   exact⟨_,_,_,(hb3.block _ (by omega)).trans hB.2,hbw (aD hb3 fun _=>False) fun b q=>q.elim,hf⟩
 ·rintro e w' ⟨c1,c2,c3⟩
  cases hn:bq name with
  | false=>
   have he:eD (N+1) x room name=5:=by simp[eD,hn]
   refine⟨fun _=>by rw[he];exact c1 hn,fun h=>by rw[he]at h;cases h⟩
  | true=>
   by_cases hr:0<=room/\room<=1000
   rotate_left
   ·have he:eD (N+1) x room name=1:=by simp[eD,hn,hr]
    refine⟨fun _=>by rw[he];exact c2 hn hr,fun h=>by rw[he]at h;cases h⟩
   ·obtain⟨v,e1,w2,w3,HF,d1,d2⟩:=c3 hn hr
    obtain⟨hb2,hz2,hb3,hf⟩:=HF.out
    have he:eD (N+1) x room name=e1:=by rw[hf.1];simp[eD,hn,hr]
    have hs3:=hb3.size
    rw[Qc,he]
    refine⟨fun h0=>⟨(d1 h0).1,hb3.trans ((d1 h0).2.mono hs3)⟩,fun h0=> ?_⟩
    obtain⟨w5,tv,lv,mv,rfl,hb5,hbx,rfl⟩:=d2 h0
    have hs5:=hb5.size
    obtain⟨hc,hv,l1,l2⟩:=hf.2.2 h0
    have hnd:=l1.nodup
    have h5:=(l1.later hb5)
    obtain⟨tv',lv',mv',b1,b2,b3,b4,b5,b6,b7⟩:=h5
    have hl1:=(Array.getElem?_eq_some_iff.1 hbx).1
    have eB:(Obj.cells #[.int .i64 room,tv',lv',mv'] 130)=(Obj.cells #[.int .i64 room,tv,lv,mv] 130):=Option.some.inj (b1.2.symm.trans ((hb5.block _ hl1).trans hbx))
    simp only[Obj.cells.injEq,Array.mk.injEq,List.cons.injEq,and_true,true_and]at eB
    obtain⟨rfl,rfl,rfl⟩:=eB
    have ha:Below w5.heap.size w5 (w5.alloc (.cells #[.string name,.int .i64 room,tv',lv',mv',.int .i64 v.1,.int .i64 v.2,.slice none 0 0] 132)):=au
    have hz':(w5.alloc (.cells #[.string name,.int .i64 room,tv',lv',mv',.int .i64 v.1,.int .i64 v.2,.slice none 0 0] 132)).heap.size=w5.heap.size+1:=by simp
    refine⟨w5.heap.size,rfl,by omega,(hb3.trans (hb5.mono hs3)).trans (ha.mono (by omega)),(aB (N+1) x [] []).2.1,(aB (N+1) x [] []).2.2,v,fun b=>b=w5.heap.size∨(w.heap.size<=b/\b<w5.heap.size), ?_⟩
    have hap:PHas (N+1) [] [] room [] ([]:List (Tm (N+1))):=⟨⟨rfl,fun i v y h=>by simp at h⟩,by simp,fun y h=>by simp at h,by simp,by simp;exact hr.1,hr.1,hr.2,by simp⟩
    have hla:=hap.lay x hc hnd
    have hnm:=(gG (N+1) x [] []).2
    have hnl:=mg hc.1
    simp only[List.length_nil]at hnm
    refine⟨⟨tv',lv',mv',⟨⟨rfl,Or.inr rfl⟩,heap_alloc_new _ _⟩,di b2 (aD ha fun _=>False) (fun _ _ q=>q),b3.kept (aD ha fun _=>False) (fun _ _ q=>q) (fun _ _ q=>q),Or.inl rfl,fun b q=>Or.inr ?_,fun b q=>Or.inr ?_,fun b q=>Or.inr ?_⟩,Or.inl ⟨rfl,rfl,rfl⟩, ?_,rfl,by omega,fun b q=> ?_,fun a h=>by cases h⟩
    ·have h:=b5 b q
     have h1:=h.2
     rcases h.1 with z|z<;>exact⟨by omega,by omega⟩
    ·have h:=b6 b q
     have h1:=h.2
     rcases h.1 with z|z<;>exact⟨by omega,by omega⟩
    ·have h:=b7 b q
     have h1:=h.2
     rcases h.1 with z|z<;>exact⟨by omega,by omega⟩
    ·rw[hv]
     exact hla
    ·rw[hz']
     rcases q with q|q<;>exact⟨by omega,by omega⟩
def ui (w:World) (pb:Nat) (a b:Int):World:=(w.setCell ⟨pb,5,none⟩ (.int .i64 a)).setCell ⟨pb,6,none⟩ (.int .i64 b)
def QT (pb q0 q1:Nat) (t0 t1:Int) (t2:ByteArray) (ta:Option Addr) (tl tc:Nat) (s0 s1:Int) (s2:ByteArray) (sa:Option Addr) (sl sc:Nat) (W:World):Prop:=
 W.heap[q0]? =some (.cells #[.int .i64 t0,.int .i64 t1,.string t2,.slice ta tl tc] 30)/\W.heap[q1]? =some (.cells #[.int .i64 s0,.int .i64 s1,.string s2,.slice sa sl sc] 30)/\(∃a,W.cell? ⟨pb,5,none⟩=some (.int .i64 a))/\(∃a,W.cell? ⟨pb,6,none⟩=some (.int .i64 a))/\∀j,W.frozen? ⟨pb,j,none⟩=false
theorem AV (t0 t1:Int) (t2:ByteArray) (ta:Option Addr) (tl tc:Nat) (pb:Nat) (w:World) (S:Int->Int->ByteArray->Option Addr->Nat->Nat->World->Prop) (P1:World->Wd->Int->World->Prop) (R:Bool->World->Prop)
    (HS:Hid (∀W,Below w.heap.size w W->Calls Tryz.prog 31 #[.pointer (some ⟨pb,0,none⟩)] W fun e w'=>∃s0 s1 s2 sa sl sc,e=.returned (.agg #[.int .i64 s0,.int .i64 s1,.string s2,.slice sa sl sc])/\Hid (Below W.heap.size W w'/\S s0 s1 s2 sa sl sc w')))
    (HC:Hid (∀W,Below w.heap.size w W->(∃a,W.cell? ⟨pb,5,none⟩=some (.int .i64 a))/\(∃a,W.cell? ⟨pb,6,none⟩=some (.int .i64 a))/\(∀j,W.frozen? ⟨pb,j,none⟩=false)/\pb<w.heap.size))
    (HP:Hid (∀s0 s1 s2 sa sl sc W0 W1 q0 q1,S s0 s1 s2 sa sl sc W0->Below W0.heap.size W0 W1->Below w.heap.size w W1->w.heap.size<=q0->w.heap.size<=q1->QT pb q0 q1 t0 t1 t2 ta tl tc s0 s1 s2 sa sl sc (ui W1 pb 1 0)->Calls Tryz.prog 89 #[.pointer (some ⟨pb,0,none⟩),.agg #[.int .i64 t0,.int .i64 t1,.string t2,.slice ta tl tc]] (ui W1 pb 1 0) fun e w'=>∃(v:Wd) (e1:Int),e=.returned (.tuple #[.agg #[.int .i64 v.1,.int .i64 v.2],.int .i64 e1])/\Hid (QT pb q0 q1 t0 t1 t2 ta tl tc s0 s1 s2 sa sl sc w'/\P1 W1 v e1 w'/\
     (e1=0->∀W,Below w'.heap.size w' W->R true (ui W pb v.1 v.2))/\
     (e1≠0->∀W q2,Below w'.heap.size w' W->w'.heap.size<=q2->q2<W.heap.size->Calls Tryz.prog 89 #[.pointer (some ⟨pb,0,none⟩),.agg #[.int .i64 s0,.int .i64 s1,.string s2,.slice sa sl sc]] W fun e w''=>∃(v2:Wd) (e2:Int),e=.returned (.tuple #[.agg #[.int .i64 v2.1,.int .i64 v2.2],.int .i64 e2])/\Hid ((∀ob,W.heap[q2]? =some ob->w''.heap[q2]? =some ob)/\((∃a,w''.cell? ⟨pb,5,none⟩=some (.int .i64 a))/\(∃a,w''.cell? ⟨pb,6,none⟩=some (.int .i64 a))/\∀j,w''.frozen? ⟨pb,j,none⟩=false)/\∀W',Kee (fun b=>b=q2) w'' W'->R false (ui W' pb v2.1 v2.2)))))):
    Calls Tryz.prog 84 #[.pointer (some ⟨pb,0,none⟩),.agg #[.int .i64 t0,.int .i64 t1,.string t2,.slice ta tl tc]] w fun e w'=>∃t,e=.returned (.bool t)/\Hid (R t w'):=by
 have HW:Hid (∃w0 q,(w0=w.alloc (.cells #[.int .i64 t0,.int .i64 t1,.string t2,.slice ta tl tc] 30)/\q=w.heap.size)/\Below w.heap.size w w0/\w0.heap[q]? =some (.cells #[.int .i64 t0,.int .i64 t1,.string t2,.slice ta tl tc] 30)/\w.heap.size<=q):=⟨_,_,⟨rfl,rfl⟩,(Below.refl _ _).alloc (Nat.le_refl _) _,heap_alloc_new _ _,Nat.le_refl _⟩
 go_enter Tryz.func84,Tryz.ntmps84
 go_wp2_with fail
 obtain⟨w0,q0,⟨hw0,hq0⟩,hb0,hh0,hl0⟩:=HW.out
 rw[<-hw0,<-hq0]
 have HB0:=hide hb0
 have HQ0:=hide hh0
 have HL0:=hide hl0
 clear hw0 hq0 hb0 hh0 hl0 HW
 refine(HS.out _ HB0.out).mono ?_
 rintro e w2 ⟨s0,s1,s2,sa,sl,sc,rfl,H2⟩
 have HB2:=hide (HB0.out.trans (H2.out.1.mono HB0.out.size))
 have HW3:Hid (∃w3 q,(w3=w2.alloc (.cells #[.int .i64 s0,.int .i64 s1,.string s2,.slice sa sl sc] 30)/\q=w2.heap.size)/\Below w2.heap.size w2 w3/\w3.heap[q]? =some (.cells #[.int .i64 s0,.int .i64 s1,.string s2,.slice sa sl sc] 30)/\w.heap.size<=q/\w3.heap[q0]? =some (.cells #[.int .i64 t0,.int .i64 t1,.string t2,.slice ta tl tc] 30)):=by
  have hl:=(Array.getElem?_eq_some_iff.1 HQ0.out).1
  have h2:=(H2.out.1.block q0 hl).trans HQ0.out
  exact⟨_,_,⟨rfl,rfl⟩,(Below.refl _ _).alloc (Nat.le_refl _) _,heap_alloc_new _ _,HB2.out.size,(((Below.refl _ _).alloc (Nat.le_refl _) _).block q0 (Array.getElem?_eq_some_iff.1 h2).1).trans h2⟩
 have HSS:=hide H2.out.2
 clear H2 HS HQ0
 go_upto_region 2 with fail
 obtain⟨w3,q1,⟨hw3,hq1⟩,hb3,hh3,hl1,hh0⟩:=HW3.out
 rw[<-hw3,<-hq1]
 have HB3:=hide (HB2.out.trans (hb3.mono HB2.out.size))
 have HB23:=hide hb3
 have HQ1:=hide hh3
 have HQ0:=hide hh0
 have HL1:=hide hl1
 clear hw3 hq1 hb3 hh3 hl1 hh0 HW3
 obtain⟨⟨c5,x5⟩,⟨c6,x6⟩,hfz,hpb⟩:=HC.out w3 HB3.out
 have f5:=hfz 5
 have f6:=hfz 6
 have HBC:Hid (QT pb q0 q1 t0 t1 t2 ta tl tc s0 s1 s2 sa sl sc (ui w3 pb 1 0)):=by
  have hk:Kee (fun b=>b=pb) w3 (ui w3 pb 1 0):=Kee.trans (aP w3 pb 5 _) (aP _ pb 6 _) fun _ _ e=>e
  refine⟨(hk.block q0 (Array.getElem?_eq_some_iff.1 HQ0.out).1 (by have:=HL0.out;omega)).trans HQ0.out,(hk.block q1 (Array.getElem?_eq_some_iff.1 HQ1.out).1 (by have:=HL1.out;omega)).trans HQ1.out,⟨1, ?_⟩,⟨0, ?_⟩,fun j=> ?_⟩
  ·exact(bW 5 (by decide)).trans (World.cell?_setCell_same _ _ _ x5)
  ·exact World.cell?_setCell_same _ _ _ ((bW 6 (by decide)).trans x6)
  ·unfold ui
   rw[fu,fu]
   exact hfz j
 have HPP:=hide (HP.out s0 s1 s2 sa sl sc w2 w3 q0 q1 HSS.out HB23.out HB3.out HL0.out HL1.out HBC.out)
 clear HP hfz HC
 go_upto_region 3 with fail
 obtain⟨w4,hw4⟩:∃w4,w4=ui w3 pb 1 0:=⟨_,rfl⟩
 rw[<-hw4]at HPP HBC
 unfold ui at hw4
 rw[<-hw4]
 have z0:w4.cell? ⟨q0,0,none⟩=some (.int .i64 t0):=ae HBC.out.1 0
 have z1:w4.cell? ⟨q0,1,none⟩=some (.int .i64 t1):=ae HBC.out.1 1
 have z2:w4.cell? ⟨q0,2,none⟩=some (.string t2):=ae HBC.out.1 2
 have z3:w4.cell? ⟨q0,3,none⟩=some (.slice ta tl tc):=ae HBC.out.1 3
 clear hw4 x5 x6 f5 f6 HQ0 HQ1 HB3 HB23 HB2 HSS HBC
 go_wp2_with fail
 refine HPP.out.mono ?_
 rintro e w5 ⟨v,e1,rfl,H5⟩
 have HW6:Hid (∃w6 q,(w6=w5.alloc (.cells #[.int .i64 v.1,.int .i64 v.2] 119)/\q=w5.heap.size)/\Below w5.heap.size w5 w6/\w6.heap[q]? =some (.cells #[.int .i64 v.1,.int .i64 v.2] 119)/\w5.heap.size<=q):=⟨_,_,⟨rfl,rfl⟩,(Below.refl _ _).alloc (Nat.le_refl _) _,heap_alloc_new _ _,Nat.le_refl _⟩
 go_upto_region 4 with fail
 obtain⟨w6,q2,⟨hw6,hq2⟩,hb6,hh6,hl2⟩:=HW6.out
 rw[<-hw6,<-hq2]
 have HB6:=hide hb6
 have HQ2:=hide hh6
 have HL2:=hide hl2
 clear hw6 hq2 hb6 hh6 hl2 HW6 z0 z1 z2 z3 HPP
 have HPL:Hid (pb<w5.heap.size):=by
  obtain⟨a,ha⟩:=H5.out.1.2.2.1
  exact World.block_lt_of_cell? w5 ⟨pb,5,none⟩ ha
 have HCF:Hid ((∃a,w6.cell? ⟨pb,5,none⟩=some (.int .i64 a))/\(∃a,w6.cell? ⟨pb,6,none⟩=some (.int .i64 a))/\∀j,w6.frozen? ⟨pb,j,none⟩=false):=by
  obtain⟨_,_,⟨a,ha⟩,⟨b,hb⟩,hf⟩:=H5.out.1
  refine⟨⟨a,(HB6.out.cell (p:=⟨pb,5,none⟩) HPL.out).trans ha⟩,⟨b,(HB6.out.cell (p:=⟨pb,6,none⟩) HPL.out).trans hb⟩,fun j=> ?_⟩
  have hf:=hf j
  unfold World.frozen? at hf ⊢
  rw[HB6.out.block pb HPL.out]
  exact hf
 have g0:w6.cell? ⟨q2,0,none⟩=some (.int .i64 v.1):=ae HQ2.out 0
 have g1:w6.cell? ⟨q2,1,none⟩=some (.int .i64 v.2):=ae HQ2.out 1
 by_cases h0:e1=0
 ·have HR:=hide (H5.out.2.2.1 h0 w6 HB6.out)
  unfold ui at HR
  obtain⟨⟨a,k5⟩,⟨b,k6⟩,kf⟩:=HCF.out
  have f5:=kf 5
  have f6:=kf 6
  clear kf H5
  subst h0
  go_wp2_with fail
  go_ret
  exact⟨true,rfl,HR.out⟩
 ·have h0':¬(0:Int)=e1:=fun e=>h0 e.symm
  have HP2:=hide (H5.out.2.2.2 h0 w6 q2 HB6.out HL2.out (Array.getElem?_eq_some_iff.1 HQ2.out).1)
  have hq1:=(HB6.out.block q1 (Array.getElem?_eq_some_iff.1 H5.out.1.2.1).1).trans H5.out.1.2.1
  have o0:w6.cell? ⟨q1,0,none⟩=some (.int .i64 s0):=ae hq1 0
  have o1:w6.cell? ⟨q1,1,none⟩=some (.int .i64 s1):=ae hq1 1
  have o2:w6.cell? ⟨q1,2,none⟩=some (.string s2):=ae hq1 2
  have o3:w6.cell? ⟨q1,3,none⟩=some (.slice sa sl sc):=ae hq1 3
  clear hq1 H5
  go_wp2_with fail
  refine HP2.out.mono ?_
  rintro e w7 ⟨v2,e2,rfl,H7⟩
  have hq2:=H7.out.1 _ HQ2.out
  have r0:w7.cell? ⟨q2,0,none⟩=some (.int .i64 v.1):=ae hq2 0
  have r1:w7.cell? ⟨q2,1,none⟩=some (.int .i64 v.2):=ae hq2 1
  have rf:∀j,w7.frozen? ⟨q2,j,none⟩=false:=fun j=>by simp[World.frozen?,hq2]
  have rf0:=rf 0
  have rf1:=rf 1
  have HW8:Hid (∃w8,w8=(w7.setCell ⟨q2,0,none⟩ (.int .i64 v2.1)).setCell ⟨q2,1,none⟩ (.int .i64 v2.2)/\(w8.cell? ⟨q2,0,none⟩=some (.int .i64 v2.1)/\w8.cell? ⟨q2,1,none⟩=some (.int .i64 v2.2))/\Kee (fun b=>b=q2) w7 w8):=by
   refine⟨_,rfl,⟨?_, ?_⟩,Kee.trans (aP w7 q2 0 _) (aP _ q2 1 _) fun _ _ e=>e⟩
   ·exact(bW 0 (by decide)).trans (World.cell?_setCell_same _ _ _ r0)
   ·exact World.cell?_setCell_same _ _ _ ((bW 1 (by decide)).trans r1)
  clear rf hq2
  go_upto_region 6 with fail
  obtain⟨w8,hw8,⟨y0,y1⟩,hk8⟩:=HW8.out
  rw[<-hw8]
  have HR:=hide (H7.out.2.2 w8 hk8)
  unfold ui at HR
  obtain⟨⟨a,k5⟩,⟨b,k6⟩,kf⟩:=H7.out.2.1
  have hp7:=World.block_lt_of_cell? w7 ⟨pb,5,none⟩ k5
  have hne:pb≠q2:=by have:=HPL.out;have:=HL2.out;omega
  have k5':=(hk8.cell 5 hp7 hne).trans k5
  have k6':=(hk8.cell 6 hp7 hne).trans k6
  have ff:∀j,w8.frozen? ⟨pb,j,none⟩=false:=fun j=>by
   have hf:=kf j
   unfold World.frozen? at hf ⊢
   rw[hk8.block pb hp7 hne]
   exact hf
  have f5:=ff 5
  have f6:=ff 6
  clear hw8 HW8 hk8 k5 k6 kf ff H7 r0 r1 rf0 rf1 hp7
  go_wp2_with fail
  exact bodyPost_ret (v:=.bool (e1==0)) (by simp[results,Tryz.results84,go_sem]) rfl (Or.inl ⟨aT (by simpa using h0),HR.out⟩)
def jA (n m:Nat):Option (Tm n)->Option (Tm m)->Prop
 | none,none=>True
 | some x,some y=>same n x m y=true
 | _,_=>False
theorem uV {n m k l:Nat} {o:Option (Tm n)} {p:Option (Tm m)} {f:Tm n->Option (Tm k)} {g:Tm m->Option (Tm l)} (h:jA n m o p) (hf:∀x y,same n x m y=true->jA k l (f x) (g y)):jA k l (o.bind f) (p.bind g):=by
 cases o with
 | none=>
  cases p with
  | none=>trivial
  | some _=>exact h.elim
 | some x=>
  cases p with
  | none=>exact h.elim
  | some y=>exact hf x y h
theorem om {n m N M:Nat} (hn:n<=N) (hm:m<=M) {x:Tm n} {y:Tm m} (hx:ai ⟨n,x⟩) (hy:ai ⟨m,y⟩) (h:same n x m y=true):same N (lift N n x) M (lift M m y)=true:=
 aW _ _ _ _ _ _ (fB N n hn x hx) (aW _ _ _ _ _ _ h (cK _ _ _ _ (fB M m hm y hy)))
theorem oD:(n:Nat)->(x:Tm n)->(m:Nat)->(y:Tm m)->same n x m y=true->aU ⟨n,x⟩=aU ⟨m,y⟩/\nR n x=nR m y
 | 0,_,_,_,h=>by simp[same]at h
 | _+1,_,0,_,h=>by simp[same]at h
 | n+1,x,m+1,y,h=>by
  simp only[same,Bool.and_eq_true,beq_iff_eq]at h
  exact⟨h.1.1.1,h.1.1.2⟩
theorem Ja {N M:Nat} {a c:Tm N} {a' c':Tm M} (h1:same N a M a'=true) (h2:same N c M c'=true):jA (N+1) (M+1) (tX N a c) (tX M a' c'):=by
 have e1:=oD _ _ _ _ h1
 have e2:=oD _ _ _ _ h2
 have e:Ao N a c=Ao M a' c':=by
  unfold Ao
  rw[e1.1,e1.2,e2.1,e2.2]
 unfold tX
 rw[<-e,<-e1.2,<-e2.2]
 cases Ao N a c
 ·simp[jA]
 ·simp[jA,same,aF,ah]
theorem uO {α:Type} {N M:Nat} (f:α->Option (Tm N)) (g:α->Option (Tm M)):(p:List α)->(∀a∈p,jA N M (f a) (g a))->jA (N+1) (M+1) ((bF f p).map (bH N)) ((bF g p).map (bH M))/\((bF f p=none/\bF g p=none)∨∃l r,bF f p=some l/\bF g p=some r/\ah (fun x y=>same N x M y) l r=true)
 | [],_=>⟨by simp[bF,jA,same,bH,ah],Or.inr ⟨[],[],rfl,rfl,rfl⟩⟩
 | a::p,h=>by
  have h1:=h a (by simp)
  have h2:=(uO f g p fun x hx=>h x (by simp[hx])).2
  simp only[bF]
  cases e1:f a with
  | none=>
   rw[e1]at h1
   cases e2:g a with
   | none=>simp[jA]
   | some _=>rw[e2]at h1;exact h1.elim
  | some u=>
   rw[e1]at h1
   cases e2:g a with
   | none=>rw[e2]at h1;exact h1.elim
   | some v=>
    rw[e2]at h1
    have hs:same N u M v=true:=h1
    rcases h2 with⟨k1,k2⟩|⟨l,r,k1,k2,k3⟩
    ·rw[k1,k2]
     simp[jA]
    ·rw[k1,k2]
     exact⟨by simp[jA,same,bH,ah,hs,k3],Or.inr ⟨u::l,v::r,rfl,rfl,by simp[ah,hs,k3]⟩⟩
theorem qx (m:Nat) (b:List (Tm m)) (m':Nat) (b':List (Tm m')) (self:Int) (hb:ah (fun x y=>same m x m' y) b b'=true) (hr:∀y∈b,ai ⟨m,y⟩) (hr':∀y∈b',ai ⟨m',y⟩):
    (n:Nat)->(x:Tm n)->ai ⟨n,x⟩->jA (m+n) (m'+n) (vl m b self n x) (vl m' b' self n x)
 | 0,_,_=>trivial
 | n+1,x,hx=>by
  have hl:=bN _ _ _ hb
  have hself:same (n+1) x (n+1) x=true:=fJ _ _ hx
  unfold vl
  by_cases h5:x.1.1=5
  ·rw[if_pos h5,if_pos h5]
   cases e:b[x.1.2.1.toNat]? with
   | none=>
    have e2:b'[x.1.2.1.toNat]? =none:=by
     rw[List.getElem?_eq_none_iff]at e ⊢
     omega
    rw[e2]
    trivial
   | some y=>
    obtain⟨h1,_⟩:=List.getElem?_eq_some_iff.1 e
    have e2:b'[x.1.2.1.toNat]? =some b'[x.1.2.1.toNat]:=List.getElem?_eq_getElem (by omega)
    rw[e2]
    have hy:same m y m' b'[x.1.2.1.toNat]=true:=jG _ _ _ hb _ _ _ e e2
    simp only[Option.bind_some]
    rw[<-(oD _ _ _ _ hy).1]
    by_cases h6:aU ⟨m,y⟩=6
    ·rw[if_pos h6,if_pos h6]
     trivial
    ·rw[if_neg h6,if_neg h6]
     exact om (by omega) (by omega) (hr y (List.mem_of_getElem? e)) (hr' _ (List.mem_of_getElem? e2)) hy
  ·rw[if_neg h5,if_neg h5]
   by_cases h6:x.1.1=6
   ·rw[if_pos h6,if_pos h6]
    trivial
   ·rw[if_neg h6,if_neg h6]
    by_cases h4:x.1.1=4
    ·rw[if_pos h4,if_pos h4]
     by_cases hw:tq n x.2.2 mH 0=true
     ·rw[if_pos hw,if_pos hw]
      simp[jA,same,aF,ah]
     ·rw[if_neg hw,if_neg hw]
      by_cases ha:tq n x.2.2 qM 2=true
      ·rw[if_pos ha,if_pos ha]
       cases e1:x.2.2[1]? with
       | none=>trivial
       | some a=>
        cases e2:x.2.2[2]? with
        | none=>trivial
        | some c=>
         simp only[Option.bind_some]
         exact uV (qx m b m' b' self hb hr hr' n a (aH n x a hx (List.mem_of_getElem? e1))) fun u v h1=>uV (qx m b m' b' self hb hr hr' n c (aH n x c hx (List.mem_of_getElem? e2))) fun u' v' h2=>Ja h1 h2
      ·rw[if_neg ha,if_neg ha]
       by_cases hp:tq n x.2.2 rJ 1=true
       ·rw[if_pos hp,if_pos hp]
        cases e1:x.2.2[1]? with
        | none=>trivial
        | some a=>
         have hra:=aH n x a hx (List.mem_of_getElem? e1)
         simp only[Option.bind_some]
         cases av n a
         ·simp[jA]
         ·exact om (by omega) (by omega) hra hra (fJ _ _ hra)
       ·rw[if_neg hp,if_neg hp]
        exact(uO _ _ x.2.2 fun y hy=>qx m b m' b' self hb hr hr' n y (aH n x y hx hy)).1
    ·rw[if_neg h4,if_neg h4]
     exact om (by omega) (by omega) hx hx hself
def can:(D:Nat)->(n:Nat)->Tm n->Tm D
 | 0,_,_=>()
 | _+1,0,_=>((0,0,.empty),(none,0),[])
 | D+1,n+1,x=>(x.1,(none,0),x.2.2.map fun y=>can D n y)
theorem Ku:(D:Nat)->(n:Nat)->(x:Tm n)->(m:Nat)->(y:Tm m)->same n x m y=true->can D n x=can D m y
 | 0,_,_,_,_,_=>rfl
 | D+1,0,_,_,_,h=>by simp[same]at h
 | D+1,n+1,_,0,_,h=>by simp[same]at h
 | D+1,n+1,x,m+1,y,h=>by
  obtain⟨h1,h2⟩:=aM h
  have h3:=jk _ (fun a=>can D n a) (fun b=>can D m b) _ _ (fun a _ b hab=>Ku D n a m b hab) h2
  simp only[can,h1,h3]
  rfl
theorem BK {n:Nat}:(l:List (Tm n))->(m:Int)->m<=l.foldl (fun m y=>max m (dU n y)) m/\∀y∈l,dU n y<=l.foldl (fun m y=>max m (dU n y)) m
 | [],m=>⟨Int.le_refl _,fun y hy=>by simp at hy⟩
 | a::l,m=>by
  obtain⟨h1,h2⟩:=BK l (max m (dU n a))
  simp only[List.foldl_cons]
  refine⟨by omega,fun y hy=> ?_⟩
  rcases List.mem_cons.1 hy with rfl|hy
  ·omega
  ·exact h2 y hy
theorem mJ {n:Nat} {x:Tm (n+1)} (hr:ai ⟨n+1,x⟩) {y:Tm n} (hy:y∈x.2.2):dU n y+1<=dU (n+1) x:=by
 have h4:x.1.1=4:=by
  have hg:=hr _ (List.mem_cons_self ..)
  simp only[good,Bool.and_eq_true,Bool.or_eq_true,beq_iff_eq,Bool.not_eq_true',decide_eq_false_iff_not]at hg
  rcases hg.2 with h|h
  ·exact h
  ·have:=List.length_pos_of_mem hy
   omega
 have:=(BK x.2.2 0).2 y hy
 simp only[dU,if_pos h4]
 omega
theorem BS:(D:Nat)->(n:Nat)->(x:Tm n)->ai ⟨n,x⟩->dU n x<D->same D (can D n x) n x=true
 | _,0,_,h,_=>(bQ h).elim
 | 0,n+1,x,_,h=>by
  have:=(eO (n+1) x).1
  omega
 | D+1,n+1,x,hr,h=>aZ rfl (gP _ _ _ fun y hy=>BS D n y (aH n x y hr hy) (by
  have:=mJ hr hy
  omega))
theorem iH:(D:Nat)->(n:Nat)->(x:Tm n)->ai ⟨n,x⟩->dU n x<D->same D (lift D n x) n x=true
 | _,0,_,h,_=>(bQ h).elim
 | 0,n+1,x,_,h=>by
  have:=(eO (n+1) x).1
  omega
 | D+1,n+1,x,hr,h=>aZ rfl (gP _ _ _ fun y hy=>iH D n y (aH n x y hr hy) (by
  have:=mJ hr hy
  omega))
theorem KQ (D n:Nat) (x:Tm n) (w:World) (b o:Nat) (hD:0<D) (k:Held w b o n x):Held w b o D (lift D n x):=by
 cases n with
 | zero=>exact k.elim
 | succ n=>
  obtain⟨D,rfl⟩:∃M,D=M+1:=⟨D-1,by omega⟩
  obtain⟨k0,k1,k2,k3⟩:=k
  exact⟨k0,k1,k2,by simpa [lift]using k3⟩
theorem qN:(D n:Nat)->(x:Tm n)->(B:Nat)->(w:World)->ai ⟨n,x⟩->dU n x<D->In B w n x->In B w D (lift D n x)
 | _,0,_,_,_,_,_,k=>k.elim
 | 0,n+1,x,_,_,_,h,_=>by
  have:=(eO (n+1) x).1
  omega
 | D+1,n+1,x,B,w,hr,h,k=>by
  obtain⟨k0,k1⟩:=k
  refine⟨by simpa [lift]using k0, ?_⟩
  rcases k1 with k1|⟨b,o,e,hb,k1⟩
  ·exact Or.inl (by simp[lift,k1])
  ·refine Or.inr ⟨b,o,e,hb,fun i y hy=> ?_⟩
   simp only[lift,List.getElem?_map]at hy
   obtain⟨z,hz,rfl⟩:=Option.map_eq_some_iff.1 hy
   have hm:=List.mem_of_getElem? hz
   have hd:=mJ hr hm
   have h0:=(eO n z).1
   exact⟨KQ D n z w b _ (by omega) (k1 i z hz).1,qN D n z B w (aH n x z hr hm) (by omega) (k1 i z hz).2⟩
theorem zL (D n:Nat) (x:Tm (n+1)):val (D+1) (lift (D+1) (n+1) x)=val (n+1) x:=by
 simp[val,lift]
theorem ut:(D n:Nat)->(x:Tm n)->(P:Nat->Prop)->ai ⟨n,x⟩->dU n x<D->Off P n x->Off P D (lift D n x)
 | _,0,_,_,h,_,_=>(bQ h).elim
 | 0,n+1,x,_,_,h,_=>by
  have:=(eO (n+1) x).1
  omega
 | D+1,n+1,x,P,hr,h,k=>by
  rcases k with k|⟨b,o,e,hb,k⟩
  ·exact Or.inl (by simp[lift,k])
  ·refine Or.inr ⟨b,o,e,hb,fun i y hy=> ?_⟩
   simp only[lift,List.getElem?_map]at hy
   obtain⟨z,hz,rfl⟩:=Option.map_eq_some_iff.1 hy
   have hm:=List.mem_of_getElem? hz
   have hd:=mJ hr hm
   exact ut D n z P (aH n x z hr hm) (by omega) (k i z hz)
abbrev Tc:Type:=Tm 13
def cn (n:Nat) (x:Tm n):Tc:=can 13 n x
theorem fQ {n m:Nat} {x:Tm n} {y:Tm m} (h:same n x m y=true):cn n x=cn m y:=Ku 13 n x m y h
theorem dC {n:Nat} {x:Tm n} (h:aQ n x=0):same 13 (cn n x) n x=true:=by
 obtain⟨h1,h2,_⟩:=aN.1 h
 exact BS 13 n x (ax.2 h1) (by omega)
theorem Ol {n:Nat} {x:Tm n} (h:aQ n x=0):cn 13 (cn n x)=cn n x:=fQ (dC h)
theorem vR {n:Nat} {x:Tm n} (h:aQ n x=0):aQ 13 (cn n x)=0:=by rw[aX (dC h),h]
theorem FH {n:Nat} {x:Tm n} (h:aQ n x=0):sz 13 (cn n x)=sz n x:=jX _ _ _ _ (dC h)
theorem rO {n:Nat} {x:Tm n} (h:aQ n x=0):av 13 (cn n x)=av n x:=bD _ _ _ _ (dC h)
theorem EF {n m:Nat} {x:Tm n} {y:Tm m} (hx:aQ n x=0) (hy:aQ m y=0) (h:cn n x=cn m y):same n x m y=true:=by
 have h1:=cK _ _ _ _ (dC hx)
 rw[h]at h1
 exact aW _ _ _ _ _ _ h1 (dC hy)
theorem QN {n m:Nat}:(p:List (Tm n))->(q:List (Tm m))->ah (fun x y=>same n x m y) p q=true->p.map (cn n)=q.map (cn m):=fun p q h=>jk _ _ _ p q (fun _ _ _ hab=>fQ hab) h
def rU:List An:=lT 1 (List.replicate 4 dn)
def Qq (a:An):Tc:=cn a.1 a.2
def lC {n:Nat} (c:Cl (n+1)) (s m:Tc):Option (List Tc):=(fit (n+1) c.1.1 13 s rU).bind fun b=>(fit (n+1) c.1.2.1 13 m b).map fun b2=>b2.map Qq
def nP {n:Nat} (s m:Tc):List (Cl (n+1))->Option (Cl (n+1)×List Tc)
 | []=>none
 | c::l=>match lC c s m with
  | some b=>some (c,b)
  | none=>nP s m l
def yt {n:Nat} (l:List (Cl (n+1))) (s:Tc):List Tc->Nat->Option (Nat×Cl (n+1)×List Tc)
 | [],_=>none
 | m::ms,i=>match nP s m l with
  | some x=>some (i,x)
  | none=>yt l s ms (i+1)
theorem G7 {x y:An} (h:dx x y=true) (hy:Ju y):Ju x:=by
 obtain⟨h1,h2⟩:=hy
 refine⟨(aX h).trans h1, ?_⟩
 rw[wu h,bD _ _ _ _ h]
 exact h2
theorem qW {α β:Type} (f:α->β->Bool):(p:List α)->(q:List β)->ah f p q=true->∀x∈p,∃y∈q,f x y=true
 | [],_,_,x,hx=>by simp at hx
 | _::_,[],h,_,_=>by simp[ah]at h
 | a::p,b::q,h,x,hx=>by
  simp only[ah,Bool.and_eq_true]at h
  rcases List.mem_cons.1 hx with rfl|hx
  ·exact⟨b,by simp,h.1⟩
  ·obtain⟨y,hy,e⟩:=qW f p q h.2 x hx
   exact⟨y,List.mem_cons_of_mem _ hy,e⟩
theorem IG {p q:List An} (h:ah dx p q=true) (hq:∀y∈q,Ju y):∀x∈p,Ju x:=fun x hx=>by
 obtain⟨y,hy,e⟩:=qW _ _ _ h x hx
 exact G7 e (hq y hy)
theorem rY {n:Nat}:(l:List (Tm n))->(b:List An)->(∀y∈b,ai y/\y.1<=n)->ah (fun x y=>same n x n y) l (b.map fun a=>lift n a.1 a.2)=true->ah dx (lT n l) b=true
 | [],[],_,_=>rfl
 | [],_::_,_,h=>by simp[ah]at h
 | _::_,[],_,h=>by simp[ah]at h
 | x::l,a::b,hb,h=>by
  simp only[List.map_cons,ah,Bool.and_eq_true]at h
  simp only[lT,List.map_cons,ah,Bool.and_eq_true]
  obtain⟨h1,h2⟩:=hb a (by simp)
  exact⟨aW _ _ _ _ _ _ h.1 (fB n a.1 h2 a.2 h1),rY l b (fun y hy=>hb y (List.mem_cons_of_mem _ hy)) h.2⟩
theorem Oq {p q:List An} (h:ah dx p q=true):p.map Qq=q.map Qq:=jk _ _ _ p q (fun _ _ _ hab=>fQ hab) h
theorem EW:ah dx rU rU=true:=by
 refine jy _ _ fun a ha=> ?_
 exact fJ _ _ (qp (any_ok a ha))
theorem Ox {n:Nat} {x:Tm n} (h:aQ n x=0) (hc:av n x=true):Ju ⟨n,x⟩:=⟨h,Or.inr hc⟩
theorem Off.both {P Q:Nat->Prop}:{n:Nat}->{x:Tm n}->Off P n x->Off Q n x->Off (fun b=>P b/\Q b) n x
 | 0,_,p,_=>p
 | _+1,_,p,k=>by
  rcases p with p|⟨b,o,e,hb,p⟩
  ·exact Or.inl p
  ·rcases k with k|⟨b',o',e',hb',k⟩
   ·exact Or.inl k
   ·rw[e]at e'
    injection e' with e'
    injection e' with e1 e2
    subst e1 e2
    exact Or.inr ⟨b,o,e,⟨hb,hb'⟩,fun i y hy=>(p i y hy).both (k i y hy)⟩
structure BRow (D:Nat) (l:List (Tm D)) (B:List Tc) (b0:Nat) (w':World) (bg bc:Nat):Prop where
 bnd:eX D l=true
 tells:l.map (cn D)=B
 cap:4<=bc/\bc<=maxLen
 new:b0<=bg/\bg<w'.heap.size
 at':∀(i:Nat) (y:Tm D),l[i]? =some y->Held w' bg (i*4) D y/\In w'.heap.size w' D y/\Off (fun q=>b0<=q/\q≠bg) D y
 free:∀j,w'.frozen? ⟨bg,j,none⟩=false
def OG {n:Nat} (c:Cl (n+1)) (s m:Tc) (w:World) (e:Ending) (w':World):Prop:=
 ∃a len c' r,e=.returned (.tuple #[.slice a len c',.bool r])/\Hid (Below w.heap.size w w'/\r=(lC c s m).isSome/\∀B,lC c s m=some B->len=4/\∃D l bg,a=some ⟨bg,0,none⟩/\BRow D l B w.heap.size w' bg c')
theorem LK {n m k:Nat} (c:Cl (n+1)) (s:Tm (m+1)) (t:Tm (k+1)) (h1:aQ (n+1) c.1.1=0) (h2:aQ (n+1) c.1.2.1=0) (h3:aQ (m+1) s=0) (h4:av (m+1) s=true) (h5:aQ (k+1) t=0) (h6:av (k+1) t=true)
    {w w':World} {e:Ending} (h:KD (fit (n+1) c.1.1 (m+1) s rU) (fit (n+1) c.1.2.1 (k+1) t) w e w'):OG c (cn (m+1) s) (cn (k+1) t) w e w':=by
 obtain⟨a,len,c',r,rfl,H⟩:=h
 obtain⟨hb,hn,hs⟩:=H.out
 refine⟨a,len,c',r,rfl,hb, ?_⟩
 have a1:=rQ (n+1) c.1.1 (m+1) s (n+1) c.1.1 13 (cn (m+1) s) rU rU (fJ _ _ (ax.2 (aN.1 h1).1)) (cK _ _ _ _ (dC h3)) EW
 cases e1:fit (n+1) c.1.1 (m+1) s rU with
 | none=>
  rw[e1]at a1
  cases e2:fit (n+1) c.1.1 13 (cn (m+1) s) rU with
  | some _=>
   rw[e2]at a1
   exact a1.elim
  | none=>
   have hf:lC c (cn (m+1) s) (cn (k+1) t)=none:=by simp[lC,e2]
   rw[hf]
   exact⟨hn e1,fun B hB=>by cases hB⟩
 | some b=>
  rw[e1]at a1
  cases e2:fit (n+1) c.1.1 13 (cn (m+1) s) rU with
  | none=>
   rw[e2]at a1
   exact a1.elim
  | some bc=>
   rw[e2]at a1
   have hok:=mE Ju uW (n+1) c.1.1 (m+1) s (Ox h3 h4) rU b ⟨by simp[rU,lT],any_ok⟩ e1
   obtain⟨l1,hl1,hn1,hs1⟩:=hs b e1
   have a2:ah dx (lT (top b) l1) b=true:=rY l1 b (fun y hy=>⟨qp (hok.2 y hy),zX b y hy⟩) hl1
   have a3:ah dx (lT (top b) l1) bc=true:=mO dx dx dx _ _ _ (fun x _ y z p q=>aW x.1 x.2 y.1 y.2 z.1 z.2 p q) a2 a1
   have a4:=rQ (n+1) c.1.2.1 (k+1) t (n+1) c.1.2.1 13 (cn (k+1) t) _ _ (fJ _ _ (ax.2 (aN.1 h2).1)) (cK _ _ _ _ (dC h5)) a3
   cases e3:fit (n+1) c.1.2.1 (k+1) t (lT (top b) l1)with
   | none=>
    rw[e3]at a4
    cases e4:fit (n+1) c.1.2.1 13 (cn (k+1) t) bc with
    | some _=>
     rw[e4]at a4
     exact a4.elim
    | none=>
     have hf:lC c (cn (m+1) s) (cn (k+1) t)=none:=by simp[lC,e2,e4]
     rw[hf]
     exact⟨hn1 e3,fun B hB=>by cases hB⟩
   | some b2=>
    rw[e3]at a4
    cases e4:fit (n+1) c.1.2.1 13 (cn (k+1) t) bc with
    | none=>
     rw[e4]at a4
     exact a4.elim
    | some b2c=>
     rw[e4]at a4
     have hf:lC c (cn (m+1) s) (cn (k+1) t)=some (b2c.map Qq):=by simp[lC,e2,e4]
     rw[hf]
     obtain⟨k1,k2,k3,w1,l,k4,k5⟩:=hs1 b2 e3
     refine⟨k1,fun B hB=>⟨k2,top b2,l, ?_⟩⟩
     cases hB
     have hok1:=IG a2 hok.2
     have hl4:(lT (top b) l1).length=4:=by rw[bN _ _ _ a2];exact hok.1
     have hok2:=mE Ju uW (n+1) c.1.2.1 (k+1) t (Ox h5 h6) _ b2 ⟨hl4,hok1⟩ e3
     have hr2:∀y∈b2,ai y:=fun y hy=>qp (hok2.2 y hy)
     obtain⟨_,j2,j3,_⟩:=FL k5 hr2 k3
     have hbn:=xS hok2.2 j2 k3 j3
     obtain⟨_,_,q3,q4,q5,q6⟩:=k5
     rcases q6 with q6|⟨bg,bo,rfl,⟨q7,rfl,qf,qo⟩,q8,q9⟩
     ·rw[q6]at j2
      simp at j2
     ·refine⟨bg,rfl,hbn, ?_,⟨by omega,q4⟩,⟨by omega,q8⟩,fun i y hy=>⟨?_,(q9 i y hy).2.1,(Off.both (q9 i y hy).2.2 (qo y (List.mem_of_getElem? hy))).mono fun q hq=>⟨by omega,hq.2⟩⟩,qf⟩
      rotate_left
      ·have:=(q9 i y hy).1
       rw[Nat.zero_add]at this
       exact this
      have a5:ah dx (lT (top b2) l) b2=true:=rY l b2 (fun y hy=>⟨hr2 y hy,zX b2 y hy⟩) q5
      rw[<-Oq a4,<-Oq a5]
      simp[lT,Qq]
theorem I1 {n m k:Nat} (c:Cl (n+1)) (s:Tm (m+1)) (t:Tm (k+1)) (B:Nat) (w:World) (hc:fM (n+1) B w c) (hs:In B w (m+1) s) (ht:In B w (k+1) t) (hB:B<=w.heap.size)
    (h1:aQ (n+1) c.1.1=0) (h2:aQ (n+1) c.1.2.1=0) (h3:aQ (m+1) s=0) (h4:av (m+1) s=true) (h5:aQ (k+1) t=0) (h6:av (k+1) t=true):
    Calls Tryz.prog 81 #[.agg (dJ (n+1) c).toArray,val (m+1) s,val (k+1) t] w (OG c (cn (m+1) s) (cn (k+1) t) w):=
 (GV n m k c s t B w hc hs ht hB h1 h2 h3 (by rw[<-dQ];exact h4) h5 (by rw[<-dQ];exact h6)).mono fun _ _ q=>LK c s t h1 h2 h3 h4 h5 h6 q
theorem jS:(N n:Nat)->n<=N->(x:Tm n)->av N (lift N n x)=av n x
 | 0,0,_,_=>rfl
 | _+1,0,_,_=>by simp[lift,av]
 | 0,n+1,h,_=>by omega
 | N+1,n+1,h,x=>by
  have:(x.2.2.map fun y=>lift N n y).all (fun y=>av N y)=x.2.2.all fun y=>av n y:=by
   rw[List.all_map]
   congr 1
   funext y
   exact jS N n (by omega) y
  simp only[av,lift]
  rw[this]
theorem yg (m:Nat) (b:List (Tm m)) (self:Int) (hb:∀y∈b,aU ⟨m,y⟩=6∨av m y=true):(n:Nat)->(x:Tm n)->ai ⟨n,x⟩->(z:Tm (m+n))->vl m b self n x=some z->av (m+n) z=true
 | 0,_,_,_,h=>by simp[vl]at h
 | n+1,x,hr,z,h=>by
  have gx:=dD (aL n x) (hr (aL n x) (by simp[nodes,aL]))
  by_cases h6:x.1.1=6
  ·rw[LP m b self n x h6]at h;cases h
  ·by_cases h5:x.1.1=5
   ·simp only[vl,h5,if_true]at h
    obtain⟨y,hy,h⟩:=Option.bind_eq_some_iff.1 h
    split at h
    ·cases h
    ·rename_i hk
     obtain rfl:=Option.some.inj h
     exact(jS (m+n+1) m (by omega) y).trans ((hb y (List.mem_of_getElem? hy)).resolve_left hk)
   ·by_cases h4:x.1.1=4
    ·rw[Kt m b self n x h4]at h
     unfold wW at h
     split at h
     ·obtain rfl:=Option.some.inj h
      simp[aF,av]
     ·split at h
      ·obtain⟨a,ha,h⟩:=Option.bind_eq_some_iff.1 h
       obtain⟨c,hc,h⟩:=Option.bind_eq_some_iff.1 h
       obtain⟨a',ha',h⟩:=Option.bind_eq_some_iff.1 h
       obtain⟨c',hc',h⟩:=Option.bind_eq_some_iff.1 h
       unfold tX at h
       split at h
       ·obtain rfl:=Option.some.inj h
        simp[aF,av]
       ·cases h
      ·split at h
       ·obtain⟨a,ha,h⟩:=Option.bind_eq_some_iff.1 h
        split at h
        ·rename_i hcl
         obtain rfl:=Option.some.inj h
         exact(jS (m+n+1) n (by omega) a).trans hcl
        ·cases h
       ·obtain⟨l,hl,rfl⟩:=Option.map_eq_some_iff.1 h
        obtain⟨k1,k2⟩:=o8 _ _ _ hl
        show av (m+n+1) (bH (m+n) l)=true
        simp only[av,bH]
        simp only[Bool.and_eq_true,List.all_eq_true]
        refine⟨by decide,fun y hy=> ?_⟩
        obtain⟨i,hi⟩:=List.getElem?_of_mem hy
        have hi2:i<x.2.2.length:=by rw[<-k1];exact(List.getElem?_eq_some_iff.1 hi).1
        exact yg m b self hb n x.2.2[i] (aH n x _ hr (List.getElem_mem _)) y (k2 i _ y (List.getElem?_eq_getElem hi2) hi)
    ·rw[F8 m b self n x h4 h5 h6]at h
     obtain rfl:=Option.some.inj h
     have hp:x.2.2=[]:=List.eq_nil_of_length_eq_zero (gx.2.2.2.2 h4)
     refine(jS (m+n+1) (n+1) (by omega) x).trans ?_
     simp[av,h5,h6,hp]
def fO (n:Nat) (name:ByteArray):List (Bh n)->Option (Bh n)
 | []=>none
 | b::l=>if b.1=name then some b else fO n name l
def M7 (n:Nat):Option (Bh n)->Value
 | none=> .slice none 0 0
 | some b=> .slice b.2.1.1 b.2.2.length b.2.1.2
theorem mY (n:Nat) (name:ByteArray) {l:List (Bh n)} {j:Nat} {b:Bh n} (h:l[j]? =some b):fO n name (l.drop j)=if b.1=name then some b else fO n name (l.drop (j+1)):=by
 obtain⟨h1,e⟩:=List.getElem?_eq_some_iff.1 h
 rw[List.drop_eq_getElem_cons h1,e]
 rfl
theorem vY (n:Nat) (name:ByteArray) (l:List (Bh n)) (la:Option Addr) (lc len B:Nat) (w:World) (hlen:l.length=len) (hll:len<=9223372036854775807) (hB:B<=w.heap.size) (HL:Hid (PgIn n B w la l)):
    Calls Tryz.prog 56 #[.slice la len lc,.string name] w fun e w'=>e=.returned (M7 n (fO n name l))/\Below w.heap.size w w':=by
 go_enter Tryz.func56,Tryz.ntmps56
 go_wp2_with fail
 go_loopw [9] (fun i wr=>∃j:Nat,j<=len/\i=.int .i64 j/\Hid (Below w.heap.size w wr/\fO n name l=fO n name (l.drop j))) (fun i _=>len-(intOf i).toNat)
 case atStart=>exact⟨0,by omega,rfl,Below.refl _ _,rfl⟩
 case round=>
 obtain⟨j,hj,rfl,HR⟩:=hrel
 by_cases hlt:j<len
 ·obtain⟨b,hb⟩:∃b,l[j]? =some b:=⟨l[j]'(by omega),List.getElem?_eq_getElem _⟩
  obtain⟨lb,lo,rfl,hlb,HC⟩:∃g o,la=some ⟨g,o,none⟩/\g<B/\Hid (∀(t:Nat) (u:Value),(nK n b)[t]? =some u->w.cell? ⟨g,o+j*2+t,none⟩=some u):=by
   rcases HL.out with e|⟨g,o,e,hg,h⟩
   ·rw[e]at hb
    simp at hb
   ·exact⟨g,o,e,hg,(h j _ hb).1⟩
  have hcell:∀(t:Nat) (u:Value),(nK n b)[t]? =some u->wr.cell? ⟨lb,lo+j*2+t,none⟩=some u:=fun t u ht=>(HR.out.1.cell (p:=⟨lb,lo+j*2+t,none⟩) (Nat.lt_of_lt_of_le hlb hB)).trans (HC.out t u ht)
  have x0:wr.cell? ⟨lb,lo+j*2,none⟩=some (.string b.1):=hcell 0 _ rfl
  have x1:wr.cell? ⟨lb,lo+j*2+1,none⟩=some (.slice b.2.1.1 b.2.2.length b.2.1.2):=hcell 1 _ rfl
  have j1:(0:Int)<=(j:Int):=by omega
  have j2:(j:Int)<(len:Int):=by omega
  have HN:Hid (∀o:Obj,Below w.heap.size w (wr.alloc o)):=fun o=>HR.out.1.alloc HR.out.1.size o
  by_cases hn:b.1=name
  ·have HE:Hid (fO n name l=some b):=by
     show _=_
     rw[HR.out.2,mY n name hb,if_pos hn]
   have HV:Hid (M7 n (fO n name l)=.slice b.2.1.1 b.2.2.length b.2.1.2):=by
    show _=_
    rw[HE.out]
    rfl
   rw[hn]at x0
   clear hcell HR HE hb
   go_wp2_with fail
   go_ret
   rw[HV.out]
   exact⟨rfl,HN.out _⟩
  ·have HE:Hid (fO n name l=fO n name (l.drop (j+1))):=by
     show _=_
     rw[HR.out.2,mY n name hb,if_neg hn]
   have ht:(b.1.toList==name.toList)=false:=by
    rw[beq_eq_false_iff_ne]
    intro e
    rw[ByteArray.toList_eq,ByteArray.toList_eq]at e
    exact hn (ByteArray.ext (Array.ext' e))
   clear hcell HR hb
   go_wp2_with fail
   go_roundw
   case rel=>exact⟨j+1,by omega,by go_num,HN.out _,HE.out⟩
   case measure=>simp[intOf];omega
 ·obtain rfl:j=len:=by omega
  have HV:Hid (M7 n (fO n name l)=.slice none 0 0):=by
   show _=_
   rw[HR.out.2,List.drop_of_length_le (by omega)]
   rfl
  have HB:=hide HR.out.1
  clear HR
  go_wp2_with fail
  go_ret
  rw[HV.out]
  exact⟨rfl,HB.out⟩
def qL (b:List Tc) (self:Int) (n:Nat) (x:Tm n):Option Tc:=(vl 13 b self n x).bind fun z=>if aQ (13+n) z=0 then some (cn (13+n) z)else none
def kP (b:List Tc) (self:Int) (n:Nat) (x:Tm n):Option Int:=(qL b self n x).bind fun t=>if t.1.1=3 then some t.1.2.1 else none
structure Dg where
 b:List Tc
 next:Int
 sends:List (Int×Tc)
 spawns:List (Int×ByteArray×Tc)
 links:List Int
 stops:Bool
def Iy (u:Int):Tc:=((3,u,.empty),(none,0),[])
def vF (self:Int) {n:Nat} (a:Ac (n+1)) (d:Dg):Option Dg:=
 if a.1=1 then (kP d.b self (n+1) a.2.1.1).bind fun u=>(qL d.b self (n+1) a.2.1.2).map fun t=>{d with sends:=d.sends++ [(u,t)]}
 else if a.1=2 then (qL d.b self (n+1) a.2.1.2).bind fun t=>if aU ⟨13,(d.b[a.2.2.2.toNat]?).getD (Iy 0)⟩=6 then some {d with b:=d.b.set a.2.2.2.toNat (Iy d.next),next:=d.next+1,spawns:=d.spawns++ [(d.next,a.2.2.1,t)]}else none
 else if a.1=3 then (kP d.b self (n+1) a.2.1.1).map fun u=>{d with links:=d.links++ [u]}
 else some {d with stops:=true}
def rG (self:Int) {n:Nat}:List (Ac (n+1))->Dg->Option Dg
 | [],d=>some d
 | a::l,d=>(vF self a d).bind (rG self l)
structure Tk where
 message:Tc
 fate:Int
 sends:List (Int×Tc)
 spawns:List (Int×ByteArray×Tc)
 links:List Int
 state:Tc
 mail:List Tc
def dR {n:Nat} (room self next:Int) (s m:Tc) (ms:List Tc) (c:Cl (n+1)) (b:List Tc):Tk:=
 match rG self c.2.2 ⟨b,next,[],[],[],false⟩with
 | none=>⟨m,2,[],[],[],s,ms⟩
 | some d=>match qL d.b self (n+1) c.1.2.2 with
  | none=>⟨m,2,[],[],[],s,ms⟩
  | some t=>if (ms.map (sz 13)).sum+sz 13 t<=room then ⟨m,if d.stops then 1 else 0,d.sends,d.spawns,d.links,t,ms⟩else ⟨m,3,[],[],[],s,ms⟩
def gD {n:Nat} (name:ByteArray) (l:List (Bh (n+1))):List (Cl (n+1)):=((fO (n+1) name l).map fun b=>b.2.2).getD []
def mh {n:Nat} (room:Int) (l:List (Bh (n+1))) (name:ByteArray) (self next:Int) (s:Tc) (ms:List Tc):Option Tk:=
 (yt (gD name l) s ms 0).bind fun x=>(ms[x.1]?).map fun m=>dR room self next s m (ms.eraseIdx x.1) x.2.1 x.2.2
theorem yu {D:Nat} {l:List (Tm D)} {B:List Tc} (hb:eX D l=true) (ht:l.map (cn D)=B):ah (fun x y=>same D x 13 y) l B=true:=by
 rw[<-ht]
 refine oM (fun y x=>same 13 y D x) _ _ _ (fun a _ b hab=>cK _ _ _ _ hab) (gP _ _ _ fun y hy=> ?_)
 exact dC ((fT hb).2 y hy).1
theorem Jy {D:Nat} {l:List (Tm D)} {B:List Tc} (hb:eX D l=true) (ht:l.map (cn D)=B):eX 13 B=true:=by
 have h:=yu hb ht
 obtain⟨h4,ho⟩:=fT hb
 unfold eX
 rw[<-bN _ _ _ h,h4]
 simp only[decide_true,Bool.true_and,List.all_eq_true]
 intro y hy
 rw[<-ht]at hy
 obtain⟨z,hz,rfl⟩:=List.mem_map.1 hy
 have hk:=ho z hz
 have hs:=dC hk.1
 simp only[okB,Bool.and_eq_true,beq_iff_eq,Bool.or_eq_true]
 refine⟨vR hk.1, ?_⟩
 rw[jq hs,<-dQ,rO hk.1]
 exact hk.2.2
theorem JV {D n:Nat} {l:List (Tm D)} {B:List Tc} (hb:eX D l=true) (ht:l.map (cn D)=B) (self:Int) (x:Tm n) (hx:aQ n x=0):(lS 0 (vl D l self n x)).map (cn (D+n))=qL B self n x:=by
 have hr:ai ⟨n,x⟩:=ax.2 (aN.1 hx).1
 have hB:=Jy hb ht
 have h:=qx D l 13 B self (yu hb ht) (fun y hy=>ax.2 (aN.1 ((fT hb).2 y hy).1).1) (fun y hy=>ax.2 (aN.1 ((fT hB).2 y hy).1).1) n x hr
 unfold qL lS
 cases e1:vl D l self n x with
 | none=>
  rw[e1]at h
  cases e2:vl 13 B self n x with
  | none=>rfl
  | some _=>
   rw[e2]at h
   exact h.elim
 | some z=>
  rw[e1]at h
  cases e2:vl 13 B self n x with
  | none=>
   rw[e2]at h
   exact h.elim
  | some z'=>
   rw[e2]at h
   have hs:same (D+n) z (13+n) z'=true:=h
   simp only[if_true,Option.bind_some]
   rw[aX hs]
   by_cases hc:aQ (13+n) z'=0
   ·simp[hc,fQ hs]
   ·simp[hc]
theorem OX {n:Nat} {B:List Tc} (hb:eX 13 B=true) {self:Int} {x:Tm n} (hx:aQ n x=0) {t:Tc} (h:qL B self n x=some t):aQ 13 t=0/\av 13 t=true/\cn 13 t=t:=by
 have hr:ai ⟨n,x⟩:=ax.2 (aN.1 hx).1
 unfold qL at h
 obtain⟨z,hz,h⟩:=Option.bind_eq_some_iff.1 h
 by_cases hc:aQ (13+n) z=0
 ·rw[if_pos hc]at h
  obtain rfl:=Option.some.inj h
  refine⟨vR hc, ?_,Ol hc⟩
  rw[rO hc]
  exact yg 13 B self (fun y hy=>((fT hb).2 y hy).2.2) n x hr z hz
 ·rw[if_neg hc]at h
  cases h
end Go.Proofs.YtmbjgiaebneodaaGreat
