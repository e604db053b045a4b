/- What is proved here: plain facts and contracts that the claimed theorem stands on. No condition but those that each names. -/
import Derived.Test.YtmbjgiaebneodaaGreatG21
namespace Go.Proofs.YtmbjgiaebneodaaGreat
open Go.RowKit
set_option maxHeartbeats 2000000
def Up (n:Nat) (w0 w1:World):Prop:=w0.heap.size<=w1.heap.size/\∀b,n<=b->b<n+3->b<w0.heap.size->w1.heap[b]? =w0.heap[b]?
theorem vH (w:World) {b q:Nat} (h:b≠q) (o:Nat) (v:Value):(w.setCell ⟨q,o,none⟩ v).heap[b]? =w.heap[b]? :=by
 have h':¬q=b:=fun e=>h e.symm
 simp[World.setCell,Array.getElem?_modify,h']
def wF (w:World) (g:Nat) (a b:Value):World:=(w.setCell ⟨g,0,none⟩ a).setCell ⟨g,0+1,none⟩ b
theorem jH {w:World} {g b:Nat} (h:b≠g) (x y:Value):(wF w g x y).heap[b]? =w.heap[b]? :=(vH _ h _ _).trans (vH _ h _ _)
theorem Hz (w:World) (g:Nat) (x y:Value):(wF w g x y).heap.size=w.heap.size:=by simp[wF,World.setCell]
theorem Cy (pb:Nat) (k i:Int) (t:ByteArray) (ta:Option Addr) (tl tc:Nat) (w:World) (F1:Wd->Int->World->World->Prop) (F2:World->World->Prop) (F3:Wd->Int->World->World->Prop)
    (HP1:Hid (∀w0,Below w.heap.size w w0->Calls Tryz.prog 51 #[.pointer (some ⟨pb,1,none⟩),.agg #[.int .i64 k,.int .i64 i,.string t,.slice ta tl tc]] w0 fun e w1=>∃(v:Wd) (e1:Int),e=.returned (.tuple #[.agg #[.int .i64 v.1,.int .i64 v.2],.int .i64 e1])/\Hid (Up w.heap.size w0 w1/\F1 v e1 w0 w1)))
    (HT:Hid (∀v1 w0 w1 w2,Below w.heap.size w w0->F1 v1 6 w0 w1->Keep (fun b=>w.heap.size<=b/\b<w0.heap.size) w1 w2->w.heap.size+3<=w2.heap.size->Calls Tryz.prog 111 #[.pointer (some ⟨pb,0,none⟩)] w2 fun e w3=>e=.returned (.tuple #[])/\Hid (Up w.heap.size w2 w3/\F2 w2 w3)))
    (HP2:Hid (∀w2 w3 w5,F2 w2 w3->w.heap.size+3<=w2.heap.size->Below w3.heap.size w3 w5->Calls Tryz.prog 51 #[.pointer (some ⟨pb,1,none⟩),.agg #[.int .i64 k,.int .i64 i,.string t,.slice ta tl tc]] w5 fun e w4=>∃(v:Wd) (e1:Int),e=.returned (.tuple #[.agg #[.int .i64 v.1,.int .i64 v.2],.int .i64 e1])/\Hid (Up w.heap.size w5 w4/\F3 v e1 w5 w4))):
    Calls Tryz.prog 89 #[.pointer (some ⟨pb,0,none⟩),.agg #[.int .i64 k,.int .i64 i,.string t,.slice ta tl tc]] w fun e w'=>∃(v:Wd) (e1:Int),e=.returned (.tuple #[.agg #[.int .i64 v.1,.int .i64 v.2],.int .i64 e1])/\
     ((e1≠6/\∃w0 w1,Below w.heap.size w w0/\F1 v e1 w0 w1/\Keep (fun b=>w.heap.size<=b/\b<w0.heap.size) w1 w')∨∃v1 w0 w1 w2 w3 w5 w4,Below w.heap.size w w0/\F1 v1 6 w0 w1/\Keep (fun b=>w.heap.size<=b/\b<w0.heap.size) w1 w2/\w.heap.size+3<=w2.heap.size/\F2 w2 w3/\Below w3.heap.size w3 w5/\F3 v e1 w5 w4/\Keep (fun b=>b=w.heap.size+1) w4 w'):=by
 go_enter Tryz.func89,Tryz.ntmps89
 go_wp2_with fail
 have HN:=hide (jb w (.cells #[.int .i64 k,.int .i64 i,.string t,.slice ta tl tc] 30) (.cells #[.int .i64 0,.int .i64 0] 119))
 have HNB:Hid (Below w.heap.size w ((w.alloc (.cells #[.int .i64 k,.int .i64 i,.string t,.slice ta tl tc] 30)).alloc (.cells #[.int .i64 0,.int .i64 0] 119))/\((w.alloc (.cells #[.int .i64 k,.int .i64 i,.string t,.slice ta tl tc] 30)).alloc (.cells #[.int .i64 0,.int .i64 0] 119)).heap.size=w.heap.size+1+1):=⟨by go_grown,by simp⟩
 generalize hW0:(w.alloc _).alloc _=W0
 rw[hW0]at HN HNB
 clear hW0
 have HK:Hid (∀w':World,w'.heap[w.heap.size]? =W0.heap[w.heap.size]? ->w'.cell? ⟨w.heap.size,0,none⟩=some (.int .i64 k)/\w'.cell? ⟨w.heap.size,1,none⟩=some (.int .i64 i)/\w'.cell? ⟨w.heap.size,2,none⟩=some (.string t)/\w'.cell? ⟨w.heap.size,3,none⟩=some (.slice ta tl tc)):=fun w' h=>by
  have h1:=h.trans HN.out.1
  exact⟨ag h1 0,ag h1 1,ag h1 2,ag h1 3⟩
 obtain⟨k0,k1,k2,k3⟩:=HK.out W0 rfl
 have HD0:Hid (Below W0.heap.size W0 W0.drew/\W0.drew.heap[w.heap.size]? =W0.heap[w.heap.size]?):=⟨(Below.refl _ _).drew,rfl⟩
 have HD1:Hid (Below W0.heap.size W0 (W0.alloc (.cells #[.int .i64 0,.int .i64 0] 119)).drew/\(W0.alloc (.cells #[.int .i64 0,.int .i64 0] 119)).drew.heap[w.heap.size]? =W0.heap[w.heap.size]?):=by
  have h:Below W0.heap.size W0 (W0.alloc (.cells #[.int .i64 0,.int .i64 0] 119)).drew:=by go_grown
  exact⟨h,h.block _ (by have:=HNB.out.2;omega)⟩
 have HNX:Hid ((W0.alloc (.cells #[.int .i64 0,.int .i64 0] 119)).drew.heap[W0.heap.size]? =some (.cells #[.int .i64 0,.int .i64 0] 119)/\(W0.alloc (.cells #[.int .i64 0,.int .i64 0] 119)).drew.heap.size=W0.heap.size+1):=⟨qH W0 _ rfl,by simp⟩
 go_region_held3 (fun w'=>w'.cell? ⟨w.heap.size,0,none⟩=some (.int .i64 k)/\w'.cell? ⟨w.heap.size,1,none⟩=some (.int .i64 i)/\w'.cell? ⟨w.heap.size,2,none⟩=some (.string t)/\w'.cell? ⟨w.heap.size,3,none⟩=some (.slice ta tl tc)) (first|(go_keep;done)|with_reducible exact HK.out _ HD0.out.2|with_reducible exact HK.out _ HD1.out.2|exact HK.out _ HB1.out|exact HK.out _ (HKA.out _)|exact HK.out _ (HKS.out _ _)|exact HK.out _ (HKT.out _ _ _))
  ((first
   | (go_at_call 51;refine(HP1.out _ (HNB.out.1.trans (HD0.out.1.mono HNB.out.1.size))).mono ?_;rintro e w1 ⟨v,e1,rfl,HY⟩;have HB1:Hid (w1.heap[w.heap.size]? =W0.heap[w.heap.size]?):=(HY.out.1.2 _ (Nat.le_refl _) (by omega) (by have h1:=HD0.out.1.size;have h2:=HNB.out.2;omega)).trans HD0.out.2;have HKA:Hid (∀o:Obj,(w1.alloc o).heap[w.heap.size]? =W0.heap[w.heap.size]?):=fun o=>(fe w1 o (by have h1:=HY.out.1.1;have h2:=HD0.out.1.size;have h3:=HNB.out.2;omega)).trans HB1.out;have HKT:Hid (∀(o:Obj) (a b:Value),(wF (w1.alloc o) w1.heap.size a b).heap[w.heap.size]? =W0.heap[w.heap.size]?):=fun o a b=>(jH (by have h1:=HY.out.1.1;have h2:=HD0.out.1.size;have h3:=HNB.out.2;omega) a b).trans (HKA.out o))
   | (go_at_call 51;refine(HP1.out _ (HNB.out.1.trans (HD1.out.1.mono HNB.out.1.size))).mono ?_;rintro e w1 ⟨v,e1,rfl,HY⟩;have HB1:Hid (w1.heap[w.heap.size]? =W0.heap[w.heap.size]?):=(HY.out.1.2 _ (Nat.le_refl _) (by omega) (by have h1:=HD1.out.1.size;have h2:=HNB.out.2;omega)).trans HD1.out.2;have HX1:Hid (w1.heap[W0.heap.size]? =some (.cells #[.int .i64 0,.int .i64 0] 119)):=(HY.out.1.2 W0.heap.size (by have h2:=HNB.out.2;omega) (by have h2:=HNB.out.2;omega) (by have h2:=HNX.out.2;omega)).trans HNX.out.1;have hq0:w1.cell? ⟨W0.heap.size,0,none⟩=some (.int .i64 0):=ag HX1.out 0;have hq1:w1.cell? ⟨W0.heap.size,1,none⟩=some (.int .i64 0):=ag HX1.out 1;have hqf:=fun j=>bE HX1.out j;have HKS:Hid (∀a b:Value,(wF w1 W0.heap.size a b).heap[w.heap.size]? =W0.heap[w.heap.size]?):=fun a b=>(jH (by have h3:=HNB.out.2;omega) a b).trans HB1.out)))
 ·have HS:Hid (∃w0 q w2,(q=w1.heap.size/\w2=w1.alloc (.cells #[.int .i64 v.1,.int .i64 v.2] 119))/\Below w.heap.size w w0/\F1 v e1 w0 w1/\Keep (fun b=>w.heap.size<=b/\b<w0.heap.size) w1 w2/\w.heap.size+3<=w2.heap.size/\w2.heap[w.heap.size]? =some (.cells #[.int .i64 k,.int .i64 i,.string t,.slice ta tl tc] 30)/\w2.heap[w.heap.size+1]? =some (.cells #[.int .i64 0,.int .i64 0] 119)/\w2.heap[q]? =some (.cells #[.int .i64 v.1,.int .i64 v.2] 119)/\w.heap.size+1≠q/\w.heap.size+2<=w0.heap.size):=by
    have h1:=HY.out.1.1
    have h2:=HD0.out.1.size
    have h3:=HNB.out.2
    have hk:∀b,b<w1.heap.size->(w1.alloc (.cells #[.int .i64 v.1,.int .i64 v.2] 119)).heap[b]? =w1.heap[b]? :=fun b hb=>fe w1 _ hb
    refine⟨W0.drew,_,_,⟨rfl,rfl⟩,HNB.out.1.trans (HD0.out.1.mono HNB.out.1.size),HY.out.2,aD au _,by simp only[World.size_alloc];omega,(HKA.out _).trans HN.out.1, ?_,heap_alloc_new _ _,by omega,by omega⟩
    exact(hk _ (by omega)).trans ((HY.out.1.2 _ (by omega) (by omega) (by omega)).trans ((HD0.out.1.block _ (by omega)).trans HN.out.2))
  obtain⟨w0,q,w2,⟨eq1,eq2⟩,HS2⟩:=HS.out
  rw[<-eq1,<-eq2]
  replace HS2:=hide HS2
  clear eq1 eq2 HS HKA HKT HB1 HY
  have s0:w2.cell? ⟨q,0,none⟩=some (.int .i64 v.1):=ag HS2.out.2.2.2.2.2.2.1 0
  have s1:w2.cell? ⟨q,1,none⟩=some (.int .i64 v.2):=ag HS2.out.2.2.2.2.2.2.1 1
  have r0:w2.cell? ⟨w.heap.size+1,0,none⟩=some (.int .i64 0):=ag HS2.out.2.2.2.2.2.1 0
  have r1:w2.cell? ⟨w.heap.size+1,1,none⟩=some (.int .i64 0):=ag HS2.out.2.2.2.2.2.1 1
  have rf:=fun j=>bE HS2.out.2.2.2.2.2.1 j
  by_cases h6:e1=6
  rotate_left
  ·have h6':¬(6:Int)=e1:=fun e=>h6 e.symm
   go_wp2_with fail
   refine bodyPost_ret (v:=.tuple #[.agg #[.int .i64 v.1,.int .i64 v.2],.int .i64 e1]) (by simp[results,Tryz.results89,go_sem,r0,r1]) rfl ?_
   obtain⟨b1,b2,b3,_,_,_,_,_,b4⟩:=HS2.out
   refine⟨v,e1,rfl,Or.inl ⟨h6,w0,w1,b1,b2,Keep.trans b3 ((aI w2 (w.heap.size+1) 0 _).trans (aI _ (w.heap.size+1) _ _) fun _ _ e=>e) fun b _ e=> ?_⟩⟩
   subst e
   omega
  ·subst h6
   have HTT:=hide (HT.out v w0 w1 w2 HS2.out.1 HS2.out.2.1 HS2.out.2.2.1 HS2.out.2.2.2.1)
   go_wp2_with fail
   refine HTT.out.mono ?_
   rintro e w3 ⟨rfl,H3⟩
   clear s0 s1 r0 r1 rf HTT
   have HU:Hid (w3.heap[w.heap.size]? =some (.cells #[.int .i64 k,.int .i64 i,.string t,.slice ta tl tc] 30)/\w3.heap[w.heap.size+1]? =some (.cells #[.int .i64 0,.int .i64 0] 119)/\w.heap.size+3<=w3.heap.size):=by
    have hz:=HS2.out.2.2.2.1
    have hu:=H3.out.1
    exact⟨(hu.2 _ (by omega) (by omega) (by omega)).trans HS2.out.2.2.2.2.1,(hu.2 _ (by omega) (by omega) (by omega)).trans HS2.out.2.2.2.2.2.1,Nat.le_trans hz hu.1⟩
   have HD3:Hid (Below w3.heap.size w3 w3.drew):=(Below.refl _ _).drew
   have HK3:Hid (∀w':World,w'.heap[w.heap.size]? =some (.cells #[.int .i64 k,.int .i64 i,.string t,.slice ta tl tc] 30)->w'.cell? ⟨w.heap.size,0,none⟩=some (.int .i64 k)/\w'.cell? ⟨w.heap.size,1,none⟩=some (.int .i64 i)/\w'.cell? ⟨w.heap.size,2,none⟩=some (.string t)/\w'.cell? ⟨w.heap.size,3,none⟩=some (.slice ta tl tc)):=fun w' h1=>⟨ag h1 0,ag h1 1,ag h1 2,ag h1 3⟩
   obtain⟨t0,t1,t2,t3⟩:=HK3.out w3 HU.out.1
   go_wp2_with fail
   go_region_held3 (fun w'=>w'.cell? ⟨w.heap.size,0,none⟩=some (.int .i64 k)/\w'.cell? ⟨w.heap.size,1,none⟩=some (.int .i64 i)/\w'.cell? ⟨w.heap.size,2,none⟩=some (.string t)/\w'.cell? ⟨w.heap.size,3,none⟩=some (.slice ta tl tc)) (first|(go_keep;done)|exact HK3.out _ HU.out.1|exact HK3.out _ HB4.out|exact HK3.out _ (HKS4.out _ _))
    ((go_at_call 51;refine(HP2.out w2 w3 _ H3.out.2 HS2.out.2.2.2.1 HD3.out).mono ?_;rintro e w4 ⟨v',e',rfl,H4⟩;have HB4:Hid (w4.heap[w.heap.size]? =some (.cells #[.int .i64 k,.int .i64 i,.string t,.slice ta tl tc] 30)):=(H4.out.1.2 _ (Nat.le_refl _) (by omega) (by have h1:=HU.out.2.2;have h2:=HD3.out.size;omega)).trans HU.out.1;have HB5:Hid (w4.heap[w.heap.size+1]? =some (.cells #[.int .i64 0,.int .i64 0] 119)):=(H4.out.1.2 (w.heap.size+1) (by omega) (by omega) (by have h1:=HU.out.2.2;have h2:=HD3.out.size;omega)).trans HU.out.2.1;have r0:w4.cell? ⟨w.heap.size+1,0,none⟩=some (.int .i64 0):=ag HB5.out 0;have r1:w4.cell? ⟨w.heap.size+1,1,none⟩=some (.int .i64 0):=ag HB5.out 1;have rf:=fun j=>bE HB5.out j;have HKS4:Hid (∀a b:Value,(wF w4 (w.heap.size+1) a b).heap[w.heap.size]? =some (.cells #[.int .i64 k,.int .i64 i,.string t,.slice ta tl tc] 30)):=fun a b=>(jH (by omega) a b).trans HB4.out))
   go_wp2_with fail
   refine bodyPost_ret (v:=.tuple #[.agg #[.int .i64 v'.1,.int .i64 v'.2],.int .i64 e']) (by simp[results,Tryz.results89,go_sem,r0,r1]) rfl ?_
   obtain⟨b1,b2,b3,b4,_⟩:=HS2.out
   exact⟨v',e',rfl,Or.inr ⟨v,w0,w1,w2,w3,w3.drew,w4,b1,b2,b3,b4,H3.out.2,HD3.out,H4.out.2,(aI w4 (w.heap.size+1) 0 _).trans (aI _ (w.heap.size+1) _ _) fun _ _ e=>e⟩⟩
 ·have HS:Hid (∃w0 q w2,(q=W0.heap.size/\w2=wF w1 W0.heap.size (.int .i64 v.1) (.int .i64 v.2))/\Below w.heap.size w w0/\F1 v e1 w0 w1/\Keep (fun b=>w.heap.size<=b/\b<w0.heap.size) w1 w2/\w.heap.size+3<=w2.heap.size/\w2.heap[w.heap.size]? =some (.cells #[.int .i64 k,.int .i64 i,.string t,.slice ta tl tc] 30)/\w2.heap[w.heap.size+1]? =some (.cells #[.int .i64 0,.int .i64 0] 119)/\w2.heap[q]? =some (.cells #[.int .i64 v.1,.int .i64 v.2] 119)/\w.heap.size+1≠q/\w.heap.size+2<=w0.heap.size):=by
    have h1:=HY.out.1.1
    have h2:=HNX.out.2
    have h3:=HNB.out.2
    have hk:Keep (fun b=>w.heap.size<=b/\b<(W0.alloc (.cells #[.int .i64 0,.int .i64 0] 119)).drew.heap.size) w1 (wF w1 W0.heap.size (.int .i64 v.1) (.int .i64 v.2)):=((aI w1 W0.heap.size 0 _).trans (aI _ W0.heap.size _ _) fun _ _ e=>e).mono fun b e=>by subst e;omega
    refine⟨_,_,_,⟨rfl,rfl⟩,HNB.out.1.trans (HD1.out.1.mono HNB.out.1.size),HY.out.2,hk,by rw[Hz];omega,(HKS.out _ _).trans HN.out.1, ?_, ?_,by omega,by omega⟩
    ·exact(jH (by omega) _ _).trans ((HY.out.1.2 _ (by omega) (by omega) (by omega)).trans ((HD1.out.1.block _ (by omega)).trans HN.out.2))
    ·have h:=HX1.out
     unfold wF World.setCell
     simp[Array.getElem?_modify,h]
  obtain⟨w0,q,w2,⟨eq1,eq2⟩,HS2⟩:=HS.out
  unfold wF at eq2
  rw[<-eq1]
  rw[<-eq1]at eq2
  rw[<-eq2]
  replace HS2:=hide HS2
  clear eq1 eq2 HS HKS HB1 HY HX1 hq0 hq1 hqf
  have s0:w2.cell? ⟨q,0,none⟩=some (.int .i64 v.1):=ag HS2.out.2.2.2.2.2.2.1 0
  have s1:w2.cell? ⟨q,1,none⟩=some (.int .i64 v.2):=ag HS2.out.2.2.2.2.2.2.1 1
  have r0:w2.cell? ⟨w.heap.size+1,0,none⟩=some (.int .i64 0):=ag HS2.out.2.2.2.2.2.1 0
  have r1:w2.cell? ⟨w.heap.size+1,1,none⟩=some (.int .i64 0):=ag HS2.out.2.2.2.2.2.1 1
  have rf:=fun j=>bE HS2.out.2.2.2.2.2.1 j
  by_cases h6:e1=6
  rotate_left
  ·have h6':¬(6:Int)=e1:=fun e=>h6 e.symm
   go_wp2_with fail
   refine bodyPost_ret (v:=.tuple #[.agg #[.int .i64 v.1,.int .i64 v.2],.int .i64 e1]) (by simp[results,Tryz.results89,go_sem,r0,r1]) rfl ?_
   obtain⟨b1,b2,b3,_,_,_,_,_,b4⟩:=HS2.out
   refine⟨v,e1,rfl,Or.inl ⟨h6,w0,w1,b1,b2,Keep.trans b3 ((aI w2 (w.heap.size+1) 0 _).trans (aI _ (w.heap.size+1) _ _) fun _ _ e=>e) fun b _ e=> ?_⟩⟩
   subst e
   omega
  ·subst h6
   have HTT:=hide (HT.out v w0 w1 w2 HS2.out.1 HS2.out.2.1 HS2.out.2.2.1 HS2.out.2.2.2.1)
   go_wp2_with fail
   refine HTT.out.mono ?_
   rintro e w3 ⟨rfl,H3⟩
   clear s0 s1 r0 r1 rf HTT
   have HU:Hid (w3.heap[w.heap.size]? =some (.cells #[.int .i64 k,.int .i64 i,.string t,.slice ta tl tc] 30)/\w3.heap[w.heap.size+1]? =some (.cells #[.int .i64 0,.int .i64 0] 119)/\w.heap.size+3<=w3.heap.size):=by
    have hz:=HS2.out.2.2.2.1
    have hu:=H3.out.1
    exact⟨(hu.2 _ (by omega) (by omega) (by omega)).trans HS2.out.2.2.2.2.1,(hu.2 _ (by omega) (by omega) (by omega)).trans HS2.out.2.2.2.2.2.1,Nat.le_trans hz hu.1⟩
   have HD3:Hid (Below w3.heap.size w3 w3.drew):=(Below.refl _ _).drew
   have HK3:Hid (∀w':World,w'.heap[w.heap.size]? =some (.cells #[.int .i64 k,.int .i64 i,.string t,.slice ta tl tc] 30)->w'.cell? ⟨w.heap.size,0,none⟩=some (.int .i64 k)/\w'.cell? ⟨w.heap.size,1,none⟩=some (.int .i64 i)/\w'.cell? ⟨w.heap.size,2,none⟩=some (.string t)/\w'.cell? ⟨w.heap.size,3,none⟩=some (.slice ta tl tc)):=fun w' h1=>⟨ag h1 0,ag h1 1,ag h1 2,ag h1 3⟩
   obtain⟨t0,t1,t2,t3⟩:=HK3.out w3 HU.out.1
   go_wp2_with fail
   go_region_held3 (fun w'=>w'.cell? ⟨w.heap.size,0,none⟩=some (.int .i64 k)/\w'.cell? ⟨w.heap.size,1,none⟩=some (.int .i64 i)/\w'.cell? ⟨w.heap.size,2,none⟩=some (.string t)/\w'.cell? ⟨w.heap.size,3,none⟩=some (.slice ta tl tc)) (first|(go_keep;done)|exact HK3.out _ HU.out.1|exact HK3.out _ HB4.out|exact HK3.out _ (HKS4.out _ _))
    ((go_at_call 51;refine(HP2.out w2 w3 _ H3.out.2 HS2.out.2.2.2.1 HD3.out).mono ?_;rintro e w4 ⟨v',e',rfl,H4⟩;have HB4:Hid (w4.heap[w.heap.size]? =some (.cells #[.int .i64 k,.int .i64 i,.string t,.slice ta tl tc] 30)):=(H4.out.1.2 _ (Nat.le_refl _) (by omega) (by have h1:=HU.out.2.2;have h2:=HD3.out.size;omega)).trans HU.out.1;have HB5:Hid (w4.heap[w.heap.size+1]? =some (.cells #[.int .i64 0,.int .i64 0] 119)):=(H4.out.1.2 (w.heap.size+1) (by omega) (by omega) (by have h1:=HU.out.2.2;have h2:=HD3.out.size;omega)).trans HU.out.2.1;have r0:w4.cell? ⟨w.heap.size+1,0,none⟩=some (.int .i64 0):=ag HB5.out 0;have r1:w4.cell? ⟨w.heap.size+1,1,none⟩=some (.int .i64 0):=ag HB5.out 1;have rf:=fun j=>bE HB5.out j;have HKS4:Hid (∀a b:Value,(wF w4 (w.heap.size+1) a b).heap[w.heap.size]? =some (.cells #[.int .i64 k,.int .i64 i,.string t,.slice ta tl tc] 30)):=fun a b=>(jH (by omega) a b).trans HB4.out))
   go_wp2_with fail
   refine bodyPost_ret (v:=.tuple #[.agg #[.int .i64 v'.1,.int .i64 v'.2],.int .i64 e']) (by simp[results,Tryz.results89,go_sem,r0,r1]) rfl ?_
   obtain⟨b1,b2,b3,b4,_⟩:=HS2.out
   exact⟨v',e',rfl,Or.inr ⟨v,w0,w1,w2,w3,w3.drew,w4,b1,b2,b3,b4,H3.out.2,HD3.out,H4.out.2,(aI w4 (w.heap.size+1) 0 _).trans (aI _ (w.heap.size+1) _ _) fun _ _ e=>e⟩⟩
theorem PHas.lay {N:Nat} {ws:List Wd} {nm:List ByteArray} {room:Int} {us:List Wd} {ts:List (Tm N)} (h:PHas N ws nm room us ts) (x:Tm N) (hc:aQ N x=0/\av N x=true/\sz N x<=room-ws.length) (hnd:(aB N x ws nm).2.2.Nodup):
    PHas N (aB N x ws nm).2.1 (aB N x ws nm).2.2 room (us++ [(aB N x ws nm).1]) (ts++ [x]):=by
 obtain⟨k1,k2,k3,k4,k5,k6,k7,k8⟩:=h
 have hr:=nD hc.1
 obtain⟨p1,p2⟩:=kD N x ws nm
 have hst:=fK N x ws nm hr
 have hpl:=Af N x ws nm hr
 have hsz:=(gG N x ws nm).1
 have hold:∀u∈us,mW (aB N x ws nm).2.1 N u=mW ws N u/\∀p∈mW ws N u,p<ws.length:=fun u hu=>by
  obtain⟨y,_,hs⟩:=k1.mem hu
  exact⟨qi p1 N y u hs,yU N y u hs⟩
 refine⟨⟨by simp[k1.1],fun i v y hv hy=> ?_⟩, ?_,fun y hy=> ?_, ?_,by omega,k6,k7,hnd⟩
 ·rcases Nat.lt_or_ge i us.length with hi|hi
  ·rw[List.getElem?_append_left hi]at hv
   rw[List.getElem?_append_left (by rw[<-k1.1];exact hi)]at hy
   exact(k1.2 i v y hv hy).mono p1 p2
  ·rw[List.getElem?_append_right hi]at hv
   rw[List.getElem?_append_right (by rw[<-k1.1];exact hi)]at hy
   have e:i-us.length=0:=by
    have:=(List.getElem?_eq_some_iff.1 hv).1
    simp at this
    omega
   rw[<-k1.1]at hy
   rw[e]at hv hy
   simp only[List.getElem?_cons_zero,Option.some.injEq]at hv hy
   rw[<-hv,<-hy]
   exact hst
 ·rw[List.flatMap_append,kX (fun u hu=>(hold u hu).1)]
  simp only[List.flatMap_cons,List.flatMap_nil,List.append_nil]
  refine List.nodup_append.2 ⟨k2,hpl.1,fun a ha b hb=> ?_⟩
  obtain⟨u,hu,hau⟩:=List.mem_flatMap.1 ha
  have h1:=(hold u hu).2 a hau
  have h2:=hpl.2 b hb
  omega
 ·rcases List.mem_append.1 hy with hy|hy
  ·exact k3 y hy
  ·rw[List.mem_singleton.1 hy]
   exact⟨hc.1,hc.2.1⟩
 ·simp only[List.map_append,List.sum_append,List.map_cons,List.map_nil,List.sum_cons,List.sum_nil]
  omega
def rX (N:Nat) (x:Tm N) (room:Int) (ts:List (Tm N)):Int:=if aQ N x≠0 then aQ N x else if av N x=false then 5 else if (ts.map (sz N)).sum+sz N x<=room then 0 else 6
theorem DF {N:Nat} {x:Tm N} {room:Int} {ws:List Wd} {ts:List (Tm N)} (h:iB N x room ws≠6) (hs:(ts.map (sz N)).sum<=(ws.length:Int)):rX N x room ts=iB N x room ws:=by
 unfold rX iB at*
 by_cases h1:aQ N x≠0
 ·simp[h1]
 ·by_cases h2:av N x=false
  ·simp[h1,h2]
  ·rw[if_neg h1,if_neg h2]at h
   rw[if_neg h1,if_neg h1,if_neg h2,if_neg h2]
   by_cases h3:sz N x<=room-ws.length
   ·rw[if_pos (by omega)]
    simp[h3]
   ·simp[h3]at h
theorem El {N:Nat} {x:Tm N} {room:Int} {ws:List Wd} {ts:List (Tm N)} (hs:(ws.length:Int)=(ts.map (sz N)).sum):rX N x room ts=iB N x room ws:=by
 unfold rX iB
 have e:((ts.map (sz N)).sum+sz N x<=room)=(sz N x<=room-ws.length):=by rw[hs];exact propext ⟨fun h=>by omega,fun h=>by omega⟩
 by_cases h3:sz N x<=room-ws.length
 ·simp[h3,e]
 ·simp[h3,e]
section
variable {base pb:Nat} {name:ByteArray} {room:Int} {N:Nat} {s:Tm (N+1)} {ms:List (Tm (N+1))} {xs:List (Wd×Tm (N+1))} {nk:Nat} {M:Nat->Prop} {w:World} {ws:List Wd} {nm:List ByteArray} {sv:Wd} {vs:List Wd} {ma:Option Addr} {mc:Nat} {Mh:Nat->Prop}
theorem PrAt.kept (h:PrAt base pb name room (N+1) s ms xs nk M w ws nm sv vs ma mc Mh) {S:Nat->Prop} {w1:World} (k:Keep S w w1) (hd:∀b,M b->b<w.heap.size->¬S b):PrAt base pb name room (N+1) s ms xs nk M w1 ws nm sv vs ma mc Mh:=by
 refine⟨h.heap.kept k fun b hb hl=>hd b (h.inM b hb) hl, ?_,h.has,h.len,h.names,h.inM,h.mailM⟩
 rcases h.mail with e|⟨g,mo,cur,e1,e2,e3,e4⟩
 ·exact Or.inl e
 ·have hl:=(Array.getElem?_eq_some_iff.1 e3).1
  exact Or.inr ⟨g,mo,cur,e1,e2,(k.block g hl (hd g (h.mailM _ e1) hl)).trans e3,e4⟩
theorem PrAt.mono (h:PrAt base pb name room (N+1) s ms xs nk M w ws nm sv vs ma mc Mh) {M':Nat->Prop} {nk':Nat} (hM:∀b,M b->M' b) (hn:nk<=nk'):PrAt base pb name room (N+1) s ms xs nk' M' w ws nm sv vs ma mc Mh:=
 ⟨h.heap,h.mail,h.has,h.len,Nat.le_trans h.names hn,fun b hb=>hM b (h.inM b hb),fun a ha=>hM _ (h.mailM a ha)⟩
theorem PrAt.inside (h:PrAt base pb name room (N+1) s ms xs nk M w ws nm sv vs ma mc Mh):PrAt base pb name room (N+1) s ms xs nk (fun b=>M b/\b<w.heap.size) w ws nm sv vs ma mc (fun b=>Mh b/\b<w.heap.size):=by
 refine⟨h.heap.inside, ?_,h.has,h.len,h.names,fun b hb=>⟨h.inM b hb.1,hb.2⟩,fun a ha=>⟨h.mailM a ha, ?_⟩⟩
 ·rcases h.mail with e|⟨g,mo,cur,e1,e2,e3,e4⟩
  ·exact Or.inl e
  ·exact Or.inr ⟨g,mo,cur,e1,fun q=>e2 q.1,e3,e4⟩
 ·rcases h.mail with⟨e,_⟩|⟨g,mo,cur,e1,e2,e3,e4⟩
  ·rw[e]at ha
   cases ha
  ·rw[e1]at ha
   injection ha with ha
   rw[<-ha]
   exact(Array.getElem?_eq_some_iff.1 e3).1
def zi (N:Nat) (x:Tm N) (base:Nat) (hp:HLoc) (room:Int) (ws:List Wd) (nm:List ByteArray) (M:Nat->Prop) (v:Wd) (e1:Int) (w w':World):Prop:=
 e1=iB N x room ws/\(e1≠0->v=(0,0)/\Below w.heap.size w w')/\(e1=0->(aQ N x=0/\av N x=true/\sz N x<=room-ws.length)/\v=(aB N x ws nm).1/\Laid base hp room (aB N x ws nm).2.1 (aB N x ws nm).2.2 M w w')
theorem zk {N:Nat} {x:Tm N} {hp:HLoc} {e:Ending} {w w':World} (h:JO N x base hp room ws nm M w e w'):∃(v:Wd) (e1:Int),e=.returned (.tuple #[.agg #[.int .i64 v.1,.int .i64 v.2],.int .i64 e1])/\zi N x base hp room ws nm M v e1 w w':=by
 by_cases h0:iB N x room ws=0
 ·obtain⟨k1,k2,k3⟩:=h.2 h0
  exact⟨_,0,k2,h0.symm,fun q=>absurd rfl q,fun _=>⟨k1,rfl,k3⟩⟩
 ·obtain⟨k1,k2⟩:=h.1 h0
  exact⟨(0,0),_,k1,rfl,fun _=>⟨rfl,k2⟩,fun q=>absurd q h0⟩
theorem HpAt.nodup {hp:HLoc} (h:HpAt base hp room ws nm M w):nm.Nodup:=by
 obtain⟨_,_,_,_,_,h3,_⟩:=h
 exact h3.2.1
theorem PrAt.put1 (h:PrAt base pb name room (N+1) s ms [] nk M w ws nm sv vs ma mc Mh) {x:Tm (N+1)} {v:Wd} {e1:Int} {w':World} (hf:zi (N+1) x base (PL pb name sv (.slice ma vs.length mc)) room ws nm Mh v e1 w w'):
    ∃ws' nm' Mh',PrAt base pb name room (N+1) s ms (if e1=0 then [(v,x)]else []) (nk+201) (fun b=>M b∨w.heap.size<=b) w' ws' nm' sv vs ma mc Mh'/\Keep M w w':=by
 obtain⟨f1,f2,f3⟩:=hf
 by_cases h0:e1=0
 ·obtain⟨c,rfl,l1,l2⟩:=f3 h0
  rw[if_pos h0]
  have hnm:=(gG (N+1) x ws nm).2
  have hnl:=mg c.1
  have hn:=h.names
  refine⟨_,_,fun b=>Mh b∨w.heap.size<=b,⟨l1, ?_, ?_,h.len,by omega, ?_,fun a ha=>Or.inl (h.mailM a ha)⟩,l2.mono h.inM⟩
  ·rcases h.mail with e|⟨g,mo,cur,e1,e2,e3,e4⟩
   ·exact Or.inl e
   ·have hl:=(Array.getElem?_eq_some_iff.1 e3).1
    refine Or.inr ⟨g,mo,cur,e1,fun q=> ?_,(l2.block g hl e2).trans e3,e4⟩
    rcases q with q|q
    ·exact e2 q
    ·omega
  ·have:=h.has
   simp only[List.map_nil,List.append_nil]at this
   exact this.lay x c l1.nodup
  ·intro b hb
   rcases hb with q|q
   ·exact Or.inl (h.inM b q)
   ·exact Or.inr q
 ·obtain⟨_,hb⟩:=f2 h0
  rw[if_neg h0]
  exact⟨ws,nm,Mh,(h.later hb).mono (fun b q=>Or.inl q) (by omega),aD hb M⟩
def QU (base pb:Nat) (name:ByteArray) (room:Int) (N:Nat) (s:Tm N) (ms:List (Tm N)) (x:Tm N) (nk:Nat) (M:Nat->Prop) (w:World) (e:Ending) (w':World):Prop:=
 ∃v:Wd,e=.returned (.tuple #[.agg #[.int .i64 v.1,.int .i64 v.2],.int .i64 (rX N x room (s::ms))])/\Hid (∃ws' nm' sv' vs' ma' mc' Mh',PrAt base pb name room N s ms (if rX N x room (s::ms)=0 then [(v,x)]else []) (nk+201) (fun b=>M b∨w.heap.size<=b) w' ws' nm' sv' vs' ma' mc' Mh'/\Keep M w w')
theorem PrAt.put (h:PrAt base pb name room (N+1) s ms [] nk M w ws nm sv vs ma mc Mh) (x:Tm (N+1)) (hx:In w.heap.size w (N+1) x) (ho:Off (fun b=>¬M b) (N+1) x) (hN:(nodes (N+1) x).length<=2097152) (hM:∀b,M b->b<w.heap.size) (hnk:nk<=49000) (h20:ms.length<=999) (hbw:base<=w.heap.size):
    Calls Tryz.prog 89 #[.pointer (some ⟨pb,0,none⟩),val (N+1) x] w (QU base pb name room (N+1) s ms x nk M w):=by
 have hlen:=h.len
 have hnn:=h.names
 have hfr:=h.front
 obtain⟨_,_,_,k4,k5,k6,k7,_⟩:=hfr
 have hoB:=In.offB ho hx
 have hput:∀{w5:World} {ws5:List Wd} {sv5:Wd} {vs5:List Wd} {ma5:Option Addr} {mc5:Nat} {Mh5 M5:Nat->Prop},PrAt base pb name room (N+1) s ms [] nk M5 w5 ws5 nm sv5 vs5 ma5 mc5 Mh5->Keep M w w5->(∀b,M5 b->M b∨w.heap.size<=b)->
   Calls Tryz.prog 51 #[.pointer (some ⟨pb,1,none⟩),val (N+1) x] w5 fun e w1=>∃(v:Wd) (e1:Int),e=.returned (.tuple #[.agg #[.int .i64 v.1,.int .i64 v.2],.int .i64 e1])/\zi (N+1) x base (PL pb name sv5 (.slice ma5 vs5.length mc5)) room ws5 nm Mh5 v e1 w5 w1:=by
  intro w5 ws5 sv5 vs5 ma5 mc5 Mh5 M5 h5 k5' hM5
  have hsz:=k5'.size
  obtain⟨_,_,_,_,q5,q6,q7,_⟩:=h5.front
  have hx5:In w5.heap.size w5 (N+1) x:=(In.off (fun b (hb:¬M b/\b<w.heap.size)=>k5'.block b hb.2 hb.1) hoB hx).mono hsz
  have ho5:Off (fun b=>¬Mh5 b) (N+1) x:=hoB.mono fun b hb q=>by
   rcases hM5 b (h5.inM b q)with z|z
   ·exact hb.1 z
   ·have:=hb.2
    omega
  exact(uR (N+1) x base (PL pb name sv5 (.slice ma5 vs5.length mc5)) room ws5 nm Mh5 w5 h5.heap hx5 ho5 hN (by omega) k6 k7 (by omega) (by omega)).mono fun e w1 q=>zk q
 have up_of:∀{n:Nat} {S:Nat->Prop} {w0 w1:World},Keep S w0 w1->(∀b,n<=b->b<n+3->b<w0.heap.size->¬S b)->Up n w0 w1:=fun k hS=>⟨k.size,fun b h1 h2 h3=>k.block b h3 (hS b h1 h2 h3)⟩
 have hfk:∀{v:Wd} {e1:Int} {w0 w1:World} {ws5:List Wd} {sv5:Wd} {vs5:List Wd} {ma5:Option Addr} {mc5:Nat} {Mh5:Nat->Prop},zi (N+1) x base (PL pb name sv5 (.slice ma5 vs5.length mc5)) room ws5 nm Mh5 v e1 w0 w1->Keep Mh5 w0 w1:=fun{v e1 w0 w1 ws5 sv5 vs5 ma5 mc5 Mh5} q=>by
  by_cases h0:e1=0
  ·exact(q.2.2 h0).2.2.2
  ·exact aD (q.2.1 h0).2 _
 refine(Cy pb x.1.1 x.1.2.1 x.1.2.2 x.2.1.1 x.2.2.length x.2.1.2 w (fun v e1 w0 w1=>zi (N+1) x base (PL pb name sv (.slice ma vs.length mc)) room ws nm Mh v e1 w0 w1)
  (fun w2 w3=>Keep M w w3/\w2.heap.size<=w3.heap.size/\∃ws' sv' vs' ma' Mh',PrAt base pb name room (N+1) s ms [] nk (fun b=>M b∨w2.heap.size<=b) w3 ws' nm sv' vs' ma' vs'.length Mh'/\(ws'.length:Int)=((s::ms).map (sz (N+1))).sum)
  (fun v e1 w5 w4=>Keep M w w5/\w.heap.size+3<=w5.heap.size/\∃ws' sv' vs' ma' Mh',PrAt base pb name room (N+1) s ms [] nk (fun b=>M b∨w.heap.size+3<=b) w5 ws' nm sv' vs' ma' vs'.length Mh'/\(ws'.length:Int)=((s::ms).map (sz (N+1))).sum/\zi (N+1) x base (PL pb name sv' (.slice ma' vs'.length vs'.length)) room ws' nm Mh' v e1 w5 w4) ?_ ?_ ?_).mono ?_
 ·intro w0 hb
  refine(hput (h.later hb) (aD hb M) fun b q=>Or.inl q).mono ?_
  rintro e w1 ⟨v,e1,rfl,hf⟩
  refine⟨v,e1,rfl,up_of (hfk hf) fun b h1 _ _ q=> ?_,hf⟩
  have:=hM b (h.inM b q)
  omega
 ·intro v1 w0 w1 w2 hb hf hk hz
  have hb1:=(hf.2.1 (by decide)).2
  have hs:=hb.size
  have h2:=((h.later hb).later hb1).kept hk fun b q _ z=>by
   have:=hM b q
   omega
  have hkw:Keep M w w2:=Keep.trans ((aD hb M).trans (aD hb1 M) fun _ _ q=>q) hk fun b hbb q=>by omega
  refine(h2.tidy (by omega) h20 (by omega)).mono ?_
  rintro e w3 ⟨rfl,ws',sv',vs',ma',Mh',h3,hk3,hl3⟩
  refine⟨rfl,up_of hk3 fun b h1 _ _ q=> ?_,hkw.trans hk3 fun _ _ q=>q,hk3.size,ws',sv',vs',ma',Mh',h3,hl3⟩
  have:=hM b q
  omega
 ·rintro w2 w3 w5 ⟨hk3,hz3,ws',sv',vs',ma',Mh',h3,hl3⟩ hz hb
  have h5:=(h3.later hb).mono (M':=fun b=>M b∨w.heap.size+3<=b) (nk':=nk) (fun b q=>by
   rcases q with q|q
   ·exact Or.inl q
   ·exact Or.inr (by omega)) (Nat.le_refl _)
  have hk5:Keep M w w5:=hk3.trans (aD hb M) fun _ _ q=>q
  refine(hput h5 hk5 fun b q=>by
   rcases q with q|q
   ·exact Or.inl q
   ·exact Or.inr (by omega)).mono ?_
  rintro e w4 ⟨v,e1,rfl,hf⟩
  refine⟨v,e1,rfl,up_of (hfk hf) fun b h1 h2 _ q=> ?_,hk5,by have:=hb.size;omega,ws',sv',vs',ma',Mh',h5,hl3,hf⟩
  rcases h5.inM b q with z|z
  ·have:=hM b z
   omega
  ·omega
 ·rintro e w' ⟨v,e1,rfl,⟨h6,w0,w1,hb,hf,hk⟩|⟨v1,w0,w1,w2,w3,w5,w4,_,_,_,_,_,_,⟨hk5,hz5,ws',sv',vs',ma',Mh',h5,hl5,hf⟩,hk⟩⟩
  ·have hs:=hb.size
   have he:e1=rX (N+1) x room (s::ms):=by
    rw[DF (ws:=ws) (by rw[<-hf.1];exact h6) k4]
    exact hf.1
   obtain⟨ws',nm',Mh',h1,hk1⟩:=(h.later hb).put1 hf
   refine⟨v,by rw[<-he],ws',nm',sv,vs,ma,mc,Mh', ?_, ?_⟩
   ·rw[<-he]
    refine(h1.kept hk fun b q _ z=> ?_).mono (fun b q=> ?_) (Nat.le_refl _)
    ·rcases q with q|q
     ·have:=hM b q
      omega
     ·omega
    ·rcases q with q|q
     ·exact Or.inl q
     ·exact Or.inr (by omega)
   ·exact Keep.trans ((aD hb M).trans hk1 fun _ _ q=>q) hk fun b hbb q=>by omega
  ·have hs:=hk5.size
   have he:e1=rX (N+1) x room (s::ms):=by
    rw[El hl5]
    exact hf.1
   obtain⟨ws6,nm6,Mh6,h1,hk1⟩:=h5.put1 hf
   refine⟨v,by rw[<-he],ws6,nm6,sv',vs',ma',vs'.length,Mh6, ?_, ?_⟩
   ·rw[<-he]
    refine(h1.kept hk fun b q _ z=> ?_).mono (fun b q=> ?_) (Nat.le_refl _)
    ·subst z
     rcases q with(q|q)|q
     ·have:=hM _ q
      omega
     ·omega
     ·omega
    ·rcases q with(q|q)|q
     ·exact Or.inl q
     ·exact Or.inr (by omega)
     ·exact Or.inr (by omega)
   ·refine Keep.trans (hk5.trans hk1 fun b hbb q=> ?_) hk fun b hbb q=>by omega
    rcases q with q|q
    ·exact q
    ·omega
end
theorem sS (vs:List Wd) (v:Wd):az (vs++ [v])=az vs++wd2 v:=by simp[az]
theorem mQ {P:Program} (w:World) (t ty e:TypeId) (i:TypeInfo) (ht:P.underlying t=some (.slice e)) (hi:P.info? e=some i)
    (g mo sLen sCap:Nat) (cur:Array Value) (hg:w.heap[g]? =some (.cells cur e (0,0)))
    (a:Addr) (m c:Nat) (news:List Value) (hl:news.length=m*i.size) (hnews:∀j u,news[j]? =some u->w.cell? (a.add j)=some u) (h1:∀u∈news,u.oneCell'=true)
    (hroom:sLen+m<=sCap) (hfit:mo+sLen*i.size+news.length<=cur.size):
    (Builtin.append_ #[t,t] ty #[.slice (some ⟨g,mo,none⟩) sLen sCap,.slice (some a) m c]).run P w=
     .ok (.slice (some ⟨g,mo,none⟩) (sLen+m) sCap) (w.setRow g (cur.toList.take (mo+sLen*i.size)++news++cur.toList.drop (mo+sLen*i.size+news.length)).toArray):=by
 have hf:=run_firstCells_some (P:=P) w i.size m a m c news hl hnews
 have hst:=run_storeCells_at P g (mo+sLen*i.size) e news 0 cur w hg (by simpa using hfit) h1
 simp only[Nat.add_zero]at hst
 simp[Builtin.append_,run_underlying ht,sizeOf,typeInfo,hi,Builtin.lenOf,hroom,hf,Addr.add_lit,hst]
def pO (Mh:Nat->Prop) (ma:Option Addr) (vs:List Wd) (w:World) (ma':Option Addr) (mc':Nat) (w':World):Prop:=
 MailAt Mh ma' vs mc' w'/\Keep (fun b=>∃a,ma=some a/\b=a.block) w w'/\∀a,ma'=some a->(∃a0,ma=some a0/\a.block=a0.block)∨a.block=w.heap.size
theorem KT {S:Nat->Prop} (w:World) (g:Nat) (cs:Array Value) (h:∀b,b=g->S b):Keep S w (w.setRow g cs):=⟨rfl,rfl,rfl,by simp,fun _ _ hb=>setRow_other _ _ _ _ fun e=>hb (h _ e)⟩
theorem vZ {Mh:Nat->Prop} {ma:Option Addr} {w:World} (us:List Wd) (C old:Nat) (z:Value) (hz:z.cells.size=2) (hold:old=us.length) (hC:us.length<=C) (hC2:C<=maxLen) (hMh:∀b,Mh b->b<w.heap.size):
    pO Mh ma us w (some ⟨w.heap.size,0,none⟩) C (w.drew.alloc (.cells ((az us).toArray++Builtin.zeroCells z.cells (C-old)) 119)):=by
 have hb:∀b,b<w.heap.size->(w.drew.alloc (.cells ((az us).toArray++Builtin.zeroCells z.cells (C-old)) 119)).heap[b]? =w.heap[b]? :=fun b hb=>Below.heap_alloc w.drew _ b hb
 have hn:(w.drew.alloc (.cells ((az us).toArray++Builtin.zeroCells z.cells (C-old)) 119)).heap[w.heap.size]? =some (.cells ((az us).toArray++Builtin.zeroCells z.cells (C-old)) 119):=heap_alloc_new w.drew _
 refine⟨Or.inr ⟨w.heap.size,0,_,rfl,fun q=> ?_,hn,hC,hC2, ?_, ?_⟩,⟨rfl,rfl,rfl, ?_,fun b hl _=>hb b hl⟩,fun a ha=>Or.inr (congrArg Addr.block (Option.some.inj ha).symm)⟩
 ·have:=hMh _ q
  omega
 ·rw[Array.size_append,size_zeroCells,hz,List.size_toArray,bf]
  omega
 ·rw[List.drop_zero,Array.toList_append,List.take_append_of_le_length (by rw[List.toList_toArray,bf];omega),List.toList_toArray,List.take_of_length_le (by rw[bf];omega)]
 ·have:=World.size_alloc w.drew (.cells ((az us).toArray++Builtin.zeroCells z.cells (C-old)) 119)
  have e:w.drew.heap.size=w.heap.size:=rfl
  omega
theorem tZ {Mh:Nat->Prop} {ma:Option Addr} {vs:List Wd} {mc:Nat} {w:World} (ty:TypeId) (h:MailAt Mh ma vs mc w) (hl:vs.length<=1000) (hMh:∀b,Mh b->b<w.heap.size) (sa:Addr) (c:Nat) (v:Wd) (hs:∀j u,(wd2 v)[j]? =some u->w.cell? (sa.add j)=some u):
    ∃ma' mc' w',(Builtin.append_ #[123,123] ty #[.slice ma vs.length mc,.slice (some sa) 1 c]).run Tryz.prog w=.ok (.slice ma' (vs.length+1) mc') w'/\pO Mh ma (vs++ [v]) w ma' mc' w':=by
 obtain⟨it,hit,htz0,htz1,htz2⟩:=info_parts jJ
 have hone:∀u∈wd2 v,u.oneCell'=true:=by simp[wd2,Value.oneCell']
 have hl2:(wd2 v).length=2:=rfl
 rcases h with⟨rfl,rfl,rfl⟩|⟨g,mo,cur,rfl,e2,e3,e4,e5,e6,e7⟩
 ·have hrun:=run_append_nil (P:=Tryz.prog) w 123 ty 119 it _ Tryz.underlying123 hit htz0 sa 1 c (wd2 v) (by rw[hl2,htz1]) hs (by omega) (by omega) (by rw[htz2];omega)
  refine⟨_,_,_,hrun, ?_⟩
  have h:=vZ (Mh:=Mh) (ma:=none) (w:=w) [v] (grownCap w 1 0 119) 1 (.agg #[.int .i64 0,.int .i64 0]) rfl rfl (grownCap_ge w 1 0 _) (grownCap_le_maxLen w 1 0 _ (by unfold maxLen;omega)) hMh
  simpa [az]using h
 ·have hlt:=(Array.getElem?_eq_some_iff.1 e3).1
  by_cases hr:vs.length+1<=mc
  ·have hfit:mo+vs.length*it.size+(wd2 v).length<=cur.size:=by rw[hl2,htz1];omega
   have hrun:=mQ (P:=Tryz.prog) w 123 ty 119 it Tryz.underlying123 hit g mo vs.length mc cur e3 sa 1 c (wd2 v) (by rw[hl2,htz1]) hs hone hr hfit
   refine⟨_,_,_,hrun,Or.inr ⟨g,mo,_,rfl,e2,setRow_heap w g cur _ _ _ e3, ?_,e5, ?_, ?_⟩, ?_,fun a ha=>Or.inl ⟨_,rfl, ?_⟩⟩
   ·simp only[List.length_append,List.length_cons,List.length_nil]
    omega
   ·have hcl:cur.toList.length=cur.size:=Array.length_toList
    rw[htz1]at hfit ⊢
    simp only[List.size_toArray,List.length_append,List.length_take,List.length_drop,hcl]
    omega
   ·rw[htz1]
    have ht:(cur.toList.take (mo+vs.length*2)).length=mo+vs.length*2:=by
     have hcl:cur.toList.length=cur.size:=Array.length_toList
     rw[List.length_take,hcl]
     omega
    have hd:(cur.toList.take (mo+vs.length*2)).drop mo=az vs:=by
     rw[List.drop_take,Nat.add_sub_cancel_left]
     exact e7
    rw[sS,List.append_assoc,List.drop_append_of_le_length (by omega),hd]
    have e:(vs++ [v]).length*2=(az vs).length+2:=by
     rw[bf]
     simp only[List.length_append,List.length_cons,List.length_nil]
     omega
    rw[e,List.take_length_add_append,List.take_append_of_le_length (by rw[hl2];omega),List.take_of_length_le (by rw[hl2];omega)]
   ·exact KT w g _ fun b e=>⟨_,rfl,e⟩
   ·exact congrArg Addr.block (Option.some.inj ha).symm
  ·have hrun:=run_append_grow (P:=Tryz.prog) w 123 ty 119 it _ Tryz.underlying123 hit htz0 ⟨g,mo,none⟩ vs.length mc (az vs) (by rw[bf,htz1]) (fun j u hj=>by
     have hm:MailAt Mh (some ⟨g,mo,none⟩) vs mc w:=Or.inr ⟨g,mo,cur,rfl,e2,e3,e4,e5,e6,e7⟩
     rcases hm.words with e|⟨ad,e,hc⟩
     ·subst e
      simp[az]at hj
     ·have e':=Option.some.inj e
      rw[e']
      exact hc j u hj) sa 1 c (wd2 v) (by rw[hl2,htz1]) hs (by omega) (by omega) (growslice_fits (by omega) (by rw[htz2];omega))
   refine⟨_,_,_,hrun, ?_⟩
   have h:=vZ (Mh:=Mh) (ma:=some ⟨g,mo,none⟩) (w:=w) (vs++ [v]) (grownCap w (vs.length+1) mc 119) (vs.length+1) (.agg #[.int .i64 0,.int .i64 0]) rfl (by simp) (by have:=grownCap_ge w (vs.length+1) mc 119;simpa using this) (grownCap_le_maxLen w _ _ _ (by unfold maxLen;omega)) hMh
   simpa [sS]using h
theorem wp_append_run {w w':World} {v x' v':Value} {o:Oper} {a:Act} {K:Act->World->Prop} {Q:Exit->Act->World->Prop} (s x:Operand) (ho:o.op=.call {callee:=.builtin .append,args:= #[s,x],argTypes:= #[123,123]})
    (hs:a.eval s=v) (hx:a.eval x=x') (hr:(Builtin.append_ #[123,123] o.type #[v,x']).run Tryz.prog w=.ok v' w') (hK:K (a.put o.dst v') w'):Oper.wp Tryz.prog o a w K Q:=by
 unfold Oper.wp execOp
 simp only[ho,resolve,invoke,builtin,Sem.run_bind,Sem.run_pure,Result.andThen_ok,List.map_toArray,List.map_cons,List.map_nil,hs,hx,hr]
 exact hK
theorem qG (pb:Nat) (k i:Int) (t:ByteArray) (ta:Option Addr) (tl tc:Nat) (L mc:Nat) (ma:Option Addr) (w:World) (F:Wd->Int->World->World->Prop) (G:Wd->World->World->Option Addr->Nat->World->Prop) (hpw:pb<w.heap.size)
    (HC:Hid (∀w1,Below w.heap.size w w1->w1.cell? ⟨pb,7,none⟩=some (.slice ma L mc)))
    (HP:Hid (∀w0,Below w.heap.size w w0->Calls Tryz.prog 89 #[.pointer (some ⟨pb,0,none⟩),.agg #[.int .i64 k,.int .i64 i,.string t,.slice ta tl tc]] w0 fun e w1=>∃(v:Wd) (e1:Int),e=.returned (.tuple #[.agg #[.int .i64 v.1,.int .i64 v.2],.int .i64 e1])/\Hid (Up w.heap.size w0 w1/\F v e1 w0 w1)))
    (HQ:Hid (∀v w0 w1,F v 0 w0 w1->∃ma' mc',Hid (∀w2,Below w1.heap.size w1 w2->w2.cell? ⟨pb,7,none⟩=some (.slice ma' L mc')/\∀j,w2.frozen? ⟨pb,j,none⟩=false)/\Hid (∀w2,Below w1.heap.size w1 w2->∀(sa:Addr) (c:Nat),(∀j u,(wd2 v)[j]? =some u->w2.cell? (sa.add j)=some u)->
     ∃ma3 mc3 w3,(Builtin.append_ #[123,123] 123 #[.slice ma' L mc',.slice (some sa) 1 c]).run Tryz.prog w2=.ok (.slice ma3 (L+1) mc3) w3/\w3.cell? ⟨pb,7,none⟩=some (.slice ma' L mc')/\(∀j,w3.frozen? ⟨pb,j,none⟩=false)/\(∀b,w1.heap.size<=b->b<w2.heap.size->w3.heap[b]? =w2.heap[b]?)/\G v w0 w2 ma3 mc3 w3))):
    Calls Tryz.prog 64 #[.pointer (some ⟨pb,0,none⟩),.agg #[.int .i64 k,.int .i64 i,.string t,.slice ta tl tc]] w fun e w'=>
     (20<=L->e=.returned (.int .i64 2)/\Below w.heap.size w w')/\(L<20->∃(v:Wd) (e1:Int) (w0 w1:World),e=.returned (.int .i64 e1)/\Below w.heap.size w w0/\F v e1 w0 w1/\(e1≠0->Below w1.heap.size w1 w')/\(e1=0->∃w2 ma3 mc3 w3,Below w1.heap.size w1 w2/\G v w0 w2 ma3 mc3 w3/\w'=(w3.setCell ⟨pb,7,none⟩ (.slice ma3 (L+1) mc3)))):=by
 have HN:=hide (fG w (.cells #[.int .i64 k,.int .i64 i,.string t,.slice ta tl tc] 30) rfl)
 have HNB:Hid (Below w.heap.size w (w.alloc (.cells #[.int .i64 k,.int .i64 i,.string t,.slice ta tl tc] 30))/\(w.alloc (.cells #[.int .i64 k,.int .i64 i,.string t,.slice ta tl tc] 30)).heap.size=w.heap.size+1):=⟨by go_grown,by simp⟩
 go_enter Tryz.func64,Tryz.ntmps64
 have c7:=HC.out w (Below.refl _ _)
 rcases Nat.lt_or_ge L 20 with hL|hL
 ·have hL':¬(20:Int)<=(L:Int):=by omega
  have HPP:=hide (HP.out _ HNB.out.1)
  go_wp2_with fail
  refine HPP.out.mono ?_
  rintro e w1 ⟨v,e1,rfl,H1⟩
  have HW0:Hid (∃w0,Below w.heap.size w w0/\F v e1 w0 w1):=⟨_,HNB.out.1,H1.out.2⟩
  obtain⟨w0,HB0⟩:=HW0.out
  replace HB0:=hide HB0
  clear HW0 H1 HPP HN HNB c7
  by_cases h0:e1=0
  rotate_left
  ·have h0':¬(0:Int)=e1:=fun e=>h0 e.symm
   go_wp2_with fail
   exact bodyPost_ret (v:=.int .i64 e1) (by simp[results,Tryz.results64,go_sem]) rfl ⟨fun h=>by omega,fun _=>⟨v,e1,w0,w1,rfl,HB0.out.1,HB0.out.2,fun _=>au,fun h=>absurd h h0⟩⟩
  ·subst h0
   obtain⟨ma',mc',HQ1,HQ2⟩:=HQ.out v w0 w1 HB0.out.2
   have HW2:Hid (∃w2 q,(w2=w1.alloc (.cells #[.int .i64 v.1,.int .i64 v.2] 119)/\q=w1.heap.size)/\Below w1.heap.size w1 w2/\w2.heap[q]? =some (.cells #[.int .i64 v.1,.int .i64 v.2] 119)/\w1.heap.size<=q):=⟨_,_,⟨rfl,rfl⟩,au,heap_alloc_new _ _,Nat.le_refl _⟩
   go_wp2_with fail
   obtain⟨w2,q,⟨hw2,hq⟩,HS⟩:=HW2.out
   rw[<-hw2,<-hq]
   replace HS:=hide HS
   clear hw2 hq HW2
   have HK:Hid (∀w':World,Below w2.heap.size w2 w'->(w'.cell? ⟨pb,7,none⟩=some (.slice ma' L mc')/\∀j,w'.frozen? ⟨pb,j,none⟩=false)/\w'.cell? ⟨q,0,none⟩=some (.int .i64 v.1)/\w'.cell? ⟨q,1,none⟩=some (.int .i64 v.2)):=fun w' h=>by
    have h1:=(h.block q (Array.getElem?_eq_some_iff.1 HS.out.2.1).1).trans HS.out.2.1
    exact⟨HQ1.out _ (HS.out.1.trans (h.mono HS.out.1.size)),ag h1 0,ag h1 1⟩
   obtain⟨⟨c7,cf⟩,s0,s1⟩:=HK.out w2 (Below.refl _ _)
   have HD0:Hid (Below w2.heap.size w2 w2.drew):=(Below.refl _ _).drew
   have HD1:Hid (Below w2.heap.size w2 (w2.alloc (.cells #[.int .i64 v.1,.int .i64 v.2] 119)).drew):=(show Below _ _ _ by go_grown)
   have HAP:Hid (∃ma3 mc3 w3,(Builtin.append_ #[123,123] 123 #[.slice ma' L mc',.slice (some ⟨w2.heap.size,0,none⟩) 1 1]).run Tryz.prog (w2.alloc (.cells #[.int .i64 v.1,.int .i64 v.2] 119)).drew=.ok (.slice ma3 (L+1) mc3) w3/\w3.cell? ⟨pb,7,none⟩=some (.slice ma' L mc')/\(∀j,w3.frozen? ⟨pb,j,none⟩=false)/\(w3.cell? ⟨q,0,none⟩=some (.int .i64 v.1)/\w3.cell? ⟨q,1,none⟩=some (.int .i64 v.2))/\∃w4,Below w1.heap.size w1 w4/\G v w0 w4 ma3 mc3 w3):=by
    have hb:=HS.out.1.trans (HD1.out.mono HS.out.1.size)
    have hn:=qH w2 (.cells #[.int .i64 v.1,.int .i64 v.2] 119) rfl
    obtain⟨ma3,mc3,w3,r1,r2,r3,r4,r5⟩:=HQ2.out _ hb ⟨w2.heap.size,0,none⟩ 1 (fun j u hj=>by
     rw[Addr.add_lit,Nat.zero_add]
     refine(ag hn j).trans ?_
     rw[<-hj,<-List.getElem?_toArray]
     rfl)
    have hql:=(Array.getElem?_eq_some_iff.1 HS.out.2.1).1
    have h1:=(r4 q HS.out.2.2 (Nat.lt_of_lt_of_le hql HD1.out.size)).trans ((HD1.out.block q hql).trans HS.out.2.1)
    exact⟨ma3,mc3,w3,r1,r2,r3,⟨ag h1 0,ag h1 1⟩,_,hb,r5⟩
   obtain⟨ma3,mc3,w3,HR,c73,cf3,hq3,HG⟩:=HAP.out
   replace HR:=hide HR
   replace HG:=hide HG
   clear HAP
   have hS0:w2.drew.cell? ⟨pb,7,none⟩=some (.slice ma' L mc')/\w2.drew.cell? ⟨q,0,none⟩=some (.int .i64 v.1)/\w2.drew.cell? ⟨q,1,none⟩=some (.int .i64 v.2):=⟨(HK.out _ HD0.out).1.1,(HK.out _ HD0.out).2⟩
   have HS1:Hid ((w2.alloc (.cells #[.int .i64 v.1,.int .i64 v.2] 119)).drew.cell? ⟨pb,7,none⟩=some (.slice ma' L mc')/\(w2.alloc (.cells #[.int .i64 v.1,.int .i64 v.2] 119)).drew.cell? ⟨q,0,none⟩=some (.int .i64 v.1)/\(w2.alloc (.cells #[.int .i64 v.1,.int .i64 v.2] 119)).drew.cell? ⟨q,1,none⟩=some (.int .i64 v.2)):=⟨(HK.out _ HD1.out).1.1,(HK.out _ HD1.out).2⟩
   refine wp_region_noPanic ?_
   refine iF (fun w'=>w'.cell? ⟨pb,7,none⟩=some (.slice ma' L mc')/\w'.cell? ⟨q,0,none⟩=some (.int .i64 v.1)/\w'.cell? ⟨q,1,none⟩=some (.int .i64 v.2)) 10 (by kernel_rfl) ?_
   try simp only[List.size_toArray]
   refine ay (i:=0) (v:= ?_) rfl (by kernel_rfl) (by kernel_rfl) (by kernel_rfl) (by kernel_rfl) (fun _ _ _ h=>h) rfl ?_ hS0 ?_
   rotate_left
   ·intro w' hw'
    try dsimp only at hw'
    go_simp
    try with_reducible rfl
   try simp only[Act.put,List.setIfInBounds_toArray]
   refine ay (i:=1) (v:= ?_) rfl (by kernel_rfl) (by kernel_rfl) (by kernel_rfl) (by kernel_rfl) (fun _ _ _ h=>h) rfl ?_ hS0 ?_
   rotate_left
   ·intro w' hw'
    try dsimp only at hw'
    go_simp
    try with_reducible rfl
   try simp only[Act.put]
   refine ay (i:=2) (v:= ?_) rfl (by kernel_rfl) (by kernel_rfl) (by kernel_rfl) (by kernel_rfl) (fun _ _ _ h=>h) rfl ?_ hS0 ?_
   rotate_left
   ·intro w' hw'
    try dsimp only at hw'
    go_simp
    try with_reducible rfl
   try simp only[Act.put]
   refine ay (i:=3) (v:= ?_) rfl (by kernel_rfl) (by kernel_rfl) (by kernel_rfl) (by kernel_rfl) (fun _ _ _ h=>h) rfl ?_ hS0 ?_
   rotate_left
   ·intro w' hw'
    try dsimp only at hw'
    go_simp
    try with_reducible rfl
   try simp only[Act.put]
   refine ay (i:=4) (v:= ?_) rfl (by kernel_rfl) (by kernel_rfl) (by kernel_rfl) (by kernel_rfl) (fun _ _ _ h=>h) rfl ?_ hS0 ?_
   rotate_left
   ·intro w' hw'
    try dsimp only at hw'
    go_simp
    try with_reducible rfl
   try simp only[Act.put]
   refine ay (i:=5) (v:= ?_) rfl (by kernel_rfl) (by kernel_rfl) (by kernel_rfl) (by kernel_rfl) (fun _ _ _ h=>h) rfl ?_ hS0 ?_
   rotate_left
   ·intro w' hw'
    try dsimp only at hw'
    go_simp
    try with_reducible rfl
   try simp only[Act.put]
   refine bG (i:=6) (by kernel_rfl) rfl rfl (fun K hK=> ?_) (by decide)
   go_simp
   refine hK.out _ _ (fun _=>HS1.out) (fun hS1=> ?_)
   clear hK K
   try simp only[Act.put,List.setIfInBounds_toArray,List.set_cons_zero,List.set_cons_succ]
   refine bG (i:=7) (by kernel_rfl) rfl rfl (fun K hK=> ?_) (by decide)
   refine wp_append_run (v:=.slice ma' L mc') (x':=.slice (some ⟨w2.heap.size,0,none⟩) 1 1) _ _ rfl (by simp[Act.eval]) (by simp[Act.eval]) HR.out ?_
   refine hK.out _ _ (fun _=>⟨c73,hq3⟩) (fun hS3=> ?_)
   clear hK K
   try simp only[Act.put,List.setIfInBounds_toArray]
   refine bG (i:=8) (by kernel_rfl) rfl rfl (fun K hK=> ?_) (by decide)
   go_simp
   refine hK.out _ _ (fun _=>hS3) (fun _=> ?_)
   clear hK K
   try simp only[Act.put,List.setIfInBounds_toArray,List.set_cons_zero,List.set_cons_succ]
   refine ay (i:=9) (v:= ?_) rfl (by kernel_rfl) (by kernel_rfl) (by kernel_rfl) (by kernel_rfl) (fun _ _ _ h=>h) rfl ?_ hS3 ?_
   rotate_left
   ·intro w' hw'
    try dsimp only at hw'
    go_simp
    try with_reducible rfl
   try simp only[Act.put,List.setIfInBounds_toArray]
   have cf7:=cf3 7
   refine iE (by kernel_rfl) rfl rfl (by kernel_rfl) (fun K hK=> ?_)
   go_simp
   refine hK.out _ _ (NoPanic.normal ?_)
   clear hK K
   try simp only[Act.put,List.setIfInBounds_toArray,List.set_cons_zero,List.set_cons_succ]
   go_wp2_with fail
   obtain⟨w4,hb4,hg4⟩:=HG.out
   exact bodyPost_ret (v:=.int .i64 0) (by simp[results,Tryz.results64,go_sem]) rfl ⟨fun h=>by omega,fun _=>⟨v,0,w0,w1,rfl,HB0.out.1,HB0.out.2,fun h=>absurd rfl h,fun _=>⟨w4,ma3,mc3,w3,hb4,hg4,rfl⟩⟩⟩
 ·have hL':(20:Int)<=(L:Int):=by omega
  go_wp2_with fail
  exact bodyPost_ret (v:=.int .i64 2) (by simp[results,Tryz.results64,go_sem]) rfl ⟨fun _=>⟨rfl,HNB.out.1⟩,fun h=>by omega⟩
section
variable {base pb:Nat} {name:ByteArray} {room:Int} {N:Nat} {s:Tm (N+1)} {ms:List (Tm (N+1))} {xs:List (Wd×Tm (N+1))} {nk:Nat} {M:Nat->Prop} {w:World} {ws:List Wd} {nm:List ByteArray} {sv:Wd} {vs:List Wd} {ma:Option Addr} {mc:Nat} {Mh:Nat->Prop}
def yP (N:Nat) (x:Tm N) (room:Int) (s:Tm N) (ms:List (Tm N)):Int:=if 20<=ms.length then 2 else rX N x room (s::ms)
theorem PrAt.box0 (h:PrAt base pb name room (N+1) s ms xs nk M w ws nm sv vs ma mc Mh):Mh pb/\pb<w.heap.size:=by
 obtain⟨tv,lv,mv,h1,_⟩:=h.heap.box
 obtain⟨_,_,_,_,_,_,q,_⟩:=h.heap
 exact⟨q,(PL.cells h1).2.2.2.2.2⟩
theorem PrAt.more {v:Wd} {x:Tm (N+1)} (h:PrAt base pb name room (N+1) s ms [(v,x)] nk M w ws nm sv vs ma mc Mh) {ma3:Option Addr} {mc3:Nat} {w3:World} (hm:pO Mh ma (vs++ [v]) w ma3 mc3 w3):
    PrAt base pb name room (N+1) s (ms++ [x]) [] nk (fun b=>M b∨w.heap.size<=b) (w3.setCell ⟨pb,7,none⟩ (.slice ma3 (vs++ [v]).length mc3)) ws nm sv (vs++ [v]) ma3 mc3 Mh/\Keep M w (w3.setCell ⟨pb,7,none⟩ (.slice ma3 (vs++ [v]).length mc3)):=by
 obtain⟨m1,m2,m3⟩:=hm
 obtain⟨hpb,hpl⟩:=h.box0
 have hng:∀a,ma=some a->¬Mh a.block:=fun a ha q=>by
  rcases h.mail with⟨e,_⟩|⟨g,mo,cur,e1,e2,_⟩
  ·rw[e]at ha
   cases ha
  ·rw[e1]at ha
   rw[<-Option.some.inj ha]at q
   exact e2 q
 have h3:HpAt base (PL pb name sv (.slice ma vs.length mc)) room ws nm Mh w3:=h.heap.kept m2 fun b hb _ q=>by
  obtain⟨a,ha,rfl⟩:=q
  exact hng a ha hb
 have k:=aI w3 pb 7 (.slice ma3 (vs++ [v]).length mc3)
 refine⟨⟨h3.turn k fun tv lv mp hc=> ?_, ?_, ?_, ?_,h.names,fun b hb=>Or.inl (h.inM b hb),fun a ha=> ?_⟩, ?_⟩
 ·unfold World.setCell
  simp[Array.getElem?_modify,hc]
 ·rcases m1 with e|⟨g,mo,cur,e1,e2,e3,e4⟩
  ·exact Or.inl e
  ·exact Or.inr ⟨g,mo,cur,e1,e2,(k.block g (Array.getElem?_eq_some_iff.1 e3).1 fun e=>e2 (by rw[e];exact hpb)).trans e3,e4⟩
 ·have:=h.has
  simpa using this
 ·simp[h.len]
 ·rcases m3 a ha with⟨a0,h0,e⟩|e
  ·rw[e]
   exact Or.inl (h.mailM a0 h0)
  ·exact Or.inr (by omega)
 ·refine Keep.trans (m2.mono fun b q=> ?_) k fun b _ q=> ?_
  ·obtain⟨a,ha,rfl⟩:=q
   exact h.mailM a ha
  ·rw[q]
   exact h.inM pb hpb
def QD (base pb:Nat) (name:ByteArray) (room:Int) (N:Nat) (s:Tm N) (ms:List (Tm N)) (x:Tm N) (nk:Nat) (M:Nat->Prop) (w:World) (e:Ending) (w':World):Prop:=
 e=.returned (.int .i64 (yP N x room s ms))/\Hid (∃ws' nm' sv' vs' ma' mc' Mh',PrAt base pb name room N s (if yP N x room s ms=0 then ms++ [x]else ms) [] (nk+201) (fun b=>M b∨w.heap.size<=b) w' ws' nm' sv' vs' ma' mc' Mh'/\Keep M w w')
theorem PrAt.deliver (h:PrAt base pb name room (N+1) s ms [] nk M w ws nm sv vs ma mc Mh) (x:Tm (N+1)) (hx:In w.heap.size w (N+1) x) (ho:Off (fun b=>¬M b) (N+1) x) (hN:(nodes (N+1) x).length<=2097152) (hM:∀b,M b->b<w.heap.size) (hnk:nk<=49000) (h20:ms.length<=999) (hbw:base<=w.heap.size):
    Calls Tryz.prog 64 #[.pointer (some ⟨pb,0,none⟩),val (N+1) x] w (QD base pb name room (N+1) s ms x nk M w):=by
 have hlen:=h.len
 obtain⟨hpb,hpl⟩:=h.box0
 refine(qG pb x.1.1 x.1.2.1 x.1.2.2 x.2.1.1 x.2.2.length x.2.1.2 vs.length mc ma w
  (fun v e1 w0 w1=>e1=rX (N+1) x room (s::ms)/\Keep M w w1/\w.heap.size<=w0.heap.size/\∃ws' nm' sv' vs' ma' mc' Mh',PrAt base pb name room (N+1) s ms (if e1=0 then [(v,x)]else []) (nk+201) (fun b=>(M b∨w0.heap.size<=b)/\b<w1.heap.size) w1 ws' nm' sv' vs' ma' mc' Mh')
  (fun v w0 w2 ma3 mc3 w3=>Keep M w w2/\w.heap.size<=w0.heap.size/\∃ws' nm' sv' vs' ma' mc' Mh',PrAt base pb name room (N+1) s ms [(v,x)] (nk+201) (fun b=>M b∨w0.heap.size<=b) w2 ws' nm' sv' vs' ma' mc' Mh'/\pO Mh' ma' (vs'++ [v]) w2 ma3 mc3 w3) hpl ?_ ?_ ?_).mono ?_
 ·intro w1 hb
  obtain⟨tv,lv,mv,h1,_⟩:=(h.later hb).heap.box
  exact(PL.cells h1).2.2.2.1
 ·intro w0 hb
  have hs:=hb.size
  refine((h.later hb).put x ((hx.below hb).mono hs) ho hN (fun b q=>Nat.lt_of_lt_of_le (hM b q) hs) hnk h20 (by omega)).mono ?_
  rintro e w1 ⟨v,rfl,ws',nm',sv',vs',ma',mc',Mh',h1,hk⟩
  refine⟨v,_,rfl,⟨hk.size,fun b q1 _ q3=>hk.block b q3 fun q=> ?_⟩,rfl,(aD hb M).trans hk fun _ _ q=>q,hs,ws',nm',sv',vs',ma',mc',_,h1.inside⟩
  have:=hM b q
  omega
 ·rintro v w0 w1 ⟨hE,hk,hs0,ws',nm',sv',vs',ma',mc',Mh',h1⟩
  rw[if_pos rfl]at h1
  have hl1:=h1.len
  have hvl:vs'.length=vs.length:=by omega
  refine⟨ma',mc',fun w2 hb=> ?_,fun w2 hb sa c hsa=> ?_⟩
  ·obtain⟨tv,lv,mv,hB,_⟩:=(h1.later hb).heap.box
   rw[hvl]at hB
   exact⟨(PL.cells hB).2.2.2.1,(PL.cells hB).2.2.2.2.1⟩
  ·have h2:=h1.later hb
   have hs:=hb.size
   obtain⟨ma3,mc3,w3,hr,hmm⟩:=tZ 123 h2.mail (by omega) (fun b q=>Nat.lt_of_lt_of_le (h1.inM b q).2 hs) sa c v hsa
   rw[hvl]at hr
   have hmb:∀b,(∃a,ma'=some a/\b=a.block)->¬Mh' b/\b<w1.heap.size:=fun b q=>by
    obtain⟨a,ha,rfl⟩:=q
    refine⟨fun z=> ?_,(h1.mailM a ha).2⟩
    rcases h1.mail with⟨e,_⟩|⟨g,mo,cur,e1,e2,_⟩
    ·rw[e]at ha
     cases ha
    ·rw[e1]at ha
     rw[<-Option.some.inj ha]at z
     exact e2 z
   obtain⟨hp1,hp2⟩:=h2.box0
   have hblk:w3.heap[pb]? =w2.heap[pb]? :=hmm.2.1.block pb hp2 fun q=>(hmb pb q).1 hp1
   obtain⟨tv,lv,mv,hB,_⟩:=h2.heap.box
   rw[hvl]at hB
   refine⟨ma3,mc3,w3,hr,(aK hblk 7).trans (PL.cells hB).2.2.2.1,fun j=> ?_,fun b q1 q2=>hmm.2.1.block b q2 fun q=> ?_, ?_⟩
   ·exact(World.frozen?_of_block (a:=⟨pb,j,none⟩) hblk).trans ((PL.cells hB).2.2.2.2.1 j)
   ·have:=(hmb b q).2
    omega
   ·exact⟨hk.trans (aD hb M) fun _ _ q=>q,hs0,ws',nm',sv',vs',ma',mc',Mh',h2.mono (fun b q=>q.1) (Nat.le_refl _),hmm⟩
 ·rintro e w' ⟨hA,hB⟩
  by_cases hL:20<=ms.length
  ·obtain⟨rfl,hb⟩:=hA (by omega)
   have he:yP (N+1) x room s ms=2:=by simp[yP,hL]
   refine⟨by rw[he],ws,nm,sv,vs,ma,mc,Mh, ?_,aD hb M⟩
   rw[he]
   exact(h.later hb).mono (fun b q=>Or.inl q) (by omega)
  ·obtain⟨v,e1,w0,w1,rfl,hb,⟨hE,hk,hs0,ws',nm',sv',vs',ma',mc',Mh',h1⟩,hne,heq⟩:=hB (by omega)
   have he:yP (N+1) x room s ms=e1:=by simp[yP,hL,hE]
   refine⟨by rw[he], ?_⟩
   rw[he]
   by_cases h0:e1=0
   ·obtain⟨w2,ma3,mc3,w3,hb2,⟨hk2,_,ws2,nm2,sv2,vs2,ma2,mc2,Mh2,h2,hmm⟩,rfl⟩:=heq h0
    have hl2:=h2.len
    have e:vs.length+1=(vs2++ [v]).length:=by simp;omega
    obtain⟨h3,hk3⟩:=h2.more hmm
    rw[e,if_pos h0]
    have hs2:=hk2.size
    refine⟨ws2,nm2,sv2,vs2++ [v],ma3,mc3,Mh2,h3.mono (fun b q=> ?_) (Nat.le_refl _),hk2.trans hk3 fun b hb' q=> ?_⟩
    ·rcases q with(q|q)|q
     ·exact Or.inl q
     ·exact Or.inr (by omega)
     ·exact Or.inr (by omega)
    ·rcases q with q|q
     ·exact q
     ·omega
   ·have hb1:=hne h0
    rw[if_neg h0]at h1 ⊢
    refine⟨ws',nm',sv',vs',ma',mc',Mh',(h1.later hb1).mono (fun b q=> ?_) (Nat.le_refl _),hk.trans (aD hb1 M) fun _ _ q=>q⟩
    rcases q.1 with q|q
    ·exact Or.inl q
    ·exact Or.inr (by omega)
end
end Go.Proofs.YtmbjgiaebneodaaGreat
