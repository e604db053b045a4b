/- What is proved here: plain facts and contracts that the claimed theorem stands on. No condition but those that each names. -/
import Derived.Test.YtmbjgiaebneodaaGreatG37
namespace Go.Proofs.YtmbjgiaebneodaaGreat
open Go.RowKit
set_option maxHeartbeats 2000000
set_option maxRecDepth 100000
abbrev il (M:Nat) (o:Option (Cl (M+1))) (w:World) (e:Ending) (w':World):Prop:=pQ (dJ (M+1)) (fM (M+1)) (iV (M+1)) (Dq (M+1)) o w e w'
def Q8 (M:Nat):Cl (M+1):=((zT M,zT M,zT M),(none,0),[])
theorem ku {M:Nat} {o:Option (Cl (M+1))} {w w':World} (ho:o=none) (hb:Below w.heap.size w w'):il M o w (.returned (.tuple #[.agg #[.int .i64 0,.int .i64 0,.string .empty,.slice none 0 0,.int .i64 0,.int .i64 0,.string .empty,.slice none 0 0,.slice none 0 0,.int .i64 0,.int .i64 0,.string .empty,.slice none 0 0],.bool false])) w':=by
 subst ho
 exact⟨Q8 M,false,rfl,hb,rfl,⟨⟨jE _ _ _,jE _ _ _,jE _ _ _⟩,⟨Nat.le_refl _,Nat.zero_le _⟩,Or.inl rfl⟩,⟨⟨Or.inl rfl,Or.inl rfl,Or.inl rfl⟩,Or.inl rfl⟩,fun z hz=>by cases hz⟩
theorem kI {n:Nat} {m:Tm (n+1)} (h:ai ⟨n+1,m⟩) (hk:m.1.1=4):m.2.2.length<=8:=by
 have h1:=h (aL n m) (by simp[nodes,aL])
 unfold good at h1
 have e:(aL n m).1.1=4:=hk
 rw[if_neg (by rw[e];omega),if_neg (by rw[e];omega),if_neg (by rw[e];omega),if_pos e]at h1
 simp only[Bool.and_eq_true,decide_eq_true_eq]at h1
 have h2:(m.2.2.length:Int)<=8:=h1.1.2
 omega
theorem uq {w:World} {q:Nat} {c0 c1 c2 c3 c4 c5 c6 c7 c8 c9 c10 c11 c12:Value} {t:TypeId} (h:w.heap[q]? =some (.cells #[c0,c1,c2,c3,c4,c5,c6,c7,c8,c9,c10,c11,c12] t)):
    (w.cell? ⟨q,0,none⟩=some c0/\w.cell? ⟨q,1,none⟩=some c1/\w.cell? ⟨q,2,none⟩=some c2/\w.cell? ⟨q,3,none⟩=some c3/\w.cell? ⟨q,4,none⟩=some c4/\w.cell? ⟨q,5,none⟩=some c5/\w.cell? ⟨q,6,none⟩=some c6/\w.cell? ⟨q,7,none⟩=some c7/\w.cell? ⟨q,8,none⟩=some c8/\w.cell? ⟨q,9,none⟩=some c9/\w.cell? ⟨q,10,none⟩=some c10/\w.cell? ⟨q,11,none⟩=some c11/\w.cell? ⟨q,12,none⟩=some c12)/\(∀j,w.frozen? ⟨q,j,none⟩=false)/\q<w.heap.size:=
 ⟨⟨ag h 0,ag h 1,ag h 2,ag h 3,ag h 4,ag h 5,ag h 6,ag h 7,ag h 8,ag h 9,ag h 10,ag h 11,ag h 12⟩,fun j=>bE h j,(Array.getElem?_eq_some_iff.1 h).1⟩
theorem uf (M _n:Nat) (k u:Int) (s:ByteArray) (xa:Option Addr) (xl xc:Nat) (wd:ByteArray) (a:Option Addr) (len c:Nat) (w:World) (o:Option (Cl (M+1))) (ho:Hid (o=none)) (b1:(wd.toList==[111,110])=false) 
    (HO:Hid (∀w1,Below w.heap.size w w1->Calls Tryz.prog 73 #[.agg #[.int .i64 k,.int .i64 u,.string s,.slice xa xl xc]] w1 fun e w'=>e=.returned (.tuple #[.string wd,.slice a len c])/\Below w1.heap.size w1 w')):
    Calls Tryz.prog 95 #[.agg #[.int .i64 k,.int .i64 u,.string s,.slice xa xl xc]] w (il M o w):=by
 go_enter Tryz.func95,Tryz.ntmps95
 go_wp2_with fail
 refine(HO.out _ (by go_grown)).mono ?_
 rintro e w1 ⟨rfl,hb1⟩
 obtain⟨hx0,hx1,hbw,hs2⟩:=bX hb1
 have HB1:=hide hbw
 have HX1:=hide hx1
 clear hb1 hx0 hx1 hbw HO
 obtain⟨⟨d0,d1,d2,d3,d4,d5,d6,d7,d8,d9,d10,d11,d12⟩,f0,hq1⟩:=uq HX1.out
 go_wp2_with fail
 exact bodyPost_ret (v:=.tuple #[.agg #[.int .i64 0,.int .i64 0,.string .empty,.slice none 0 0,.int .i64 0,.int .i64 0,.string .empty,.slice none 0 0,.slice none 0 0,.int .i64 0,.int .i64 0,.string .empty,.slice none 0 0],.bool false]) (by simp[results,Tryz.results95,go_sem,d0,d1,d2,d3,d4,d5,d6,d7,d8,d9,d10,d11,d12];rfl) rfl (ku ho.out ((Keeps.set (Keeps.set (Keeps.set (Keeps.set (Keeps.set (Keeps.set (Keeps.set (Keeps.set (Keeps.set (Keeps.set (Keeps.set (Keeps.set (Keeps.set (Keeps.refl _ _) _ _) _ _) _ _) _ _) _ _) _ _) _ _) _ _) _ _) _ _) _ _) _ _) _ _).below HB1.out (by omega)))
theorem vD (M _n:Nat) (k u:Int) (s:ByteArray) (xa:Option Addr) (xl xc:Nat) (wd:ByteArray) (a:Option Addr) (len c:Nat) (w:World) (o:Option (Cl (M+1))) (ho:Hid (o=none)) (b1:(wd.toList==[111,110])=true) (_hl:((len:Int)==4)=false) (hl2:((len:Int) !=4)=true)
    (HO:Hid (∀w1,Below w.heap.size w w1->Calls Tryz.prog 73 #[.agg #[.int .i64 k,.int .i64 u,.string s,.slice xa xl xc]] w1 fun e w'=>e=.returned (.tuple #[.string wd,.slice a len c])/\Below w1.heap.size w1 w')):
    Calls Tryz.prog 95 #[.agg #[.int .i64 k,.int .i64 u,.string s,.slice xa xl xc]] w (il M o w):=by
 go_enter Tryz.func95,Tryz.ntmps95
 go_wp2_with fail
 refine(HO.out _ (by go_grown)).mono ?_
 rintro e w1 ⟨rfl,hb1⟩
 obtain⟨hx0,hx1,hbw,hs2⟩:=bX hb1
 have HB1:=hide hbw
 have HX1:=hide hx1
 clear hb1 hx0 hx1 hbw HO
 obtain⟨⟨d0,d1,d2,d3,d4,d5,d6,d7,d8,d9,d10,d11,d12⟩,f0,hq1⟩:=uq HX1.out
 go_wp2_with fail
 exact bodyPost_ret (v:=.tuple #[.agg #[.int .i64 0,.int .i64 0,.string .empty,.slice none 0 0,.int .i64 0,.int .i64 0,.string .empty,.slice none 0 0,.slice none 0 0,.int .i64 0,.int .i64 0,.string .empty,.slice none 0 0],.bool false]) (by simp[results,Tryz.results95,go_sem,d0,d1,d2,d3,d4,d5,d6,d7,d8,d9,d10,d11,d12];rfl) rfl (ku ho.out ((Keeps.set (Keeps.set (Keeps.set (Keeps.set (Keeps.set (Keeps.set (Keeps.set (Keeps.set (Keeps.set (Keeps.set (Keeps.set (Keeps.set (Keeps.set (Keeps.refl _ _) _ _) _ _) _ _) _ _) _ _) _ _) _ _) _ _) _ _) _ _) _ _) _ _) _ _).below HB1.out (by omega)))
theorem tN (M _n:Nat) (k u:Int) (s:ByteArray) (xa:Option Addr) (xl xc:Nat) (wd:ByteArray) (pb po c:Nat) (w:World) (o:Option (Cl (M+1))) (ho:Hid (o=none)) (b1:(wd.toList==[111,110])=true) (hpb:pb<w.heap.size) (k2:Int) (h2:w.cell? ⟨pb,po+8,none⟩=some (.int .i64 k2)) (hk2:(k2 !=4)=true)
    (HO:Hid (∀w1,Below w.heap.size w w1->Calls Tryz.prog 73 #[.agg #[.int .i64 k,.int .i64 u,.string s,.slice xa xl xc]] w1 fun e w'=>e=.returned (.tuple #[.string wd,.slice (some ⟨pb,po,none⟩) 4 c])/\Below w1.heap.size w1 w')):
    Calls Tryz.prog 95 #[.agg #[.int .i64 k,.int .i64 u,.string s,.slice xa xl xc]] w (il M o w):=by
 go_enter Tryz.func95,Tryz.ntmps95
 go_wp2_with fail
 refine(HO.out _ (by go_grown)).mono ?_
 rintro e w1 ⟨rfl,hb1⟩
 obtain⟨hx0,hx1,hbw,hs2⟩:=bX hb1
 have HB1:=hide hbw
 have HX1:=hide hx1
 clear hb1 hx0 hx1 hbw HO
 replace h2:=(af HB1.out _ _ hpb).trans h2
 have hpw:pb<w1.heap.size:=by omega
 obtain⟨⟨d0,d1,d2,d3,d4,d5,d6,d7,d8,d9,d10,d11,d12⟩,f0,hq1⟩:=uq HX1.out
 go_wp2_with fail
 exact bodyPost_ret (v:=.tuple #[.agg #[.int .i64 0,.int .i64 0,.string .empty,.slice none 0 0,.int .i64 0,.int .i64 0,.string .empty,.slice none 0 0,.slice none 0 0,.int .i64 0,.int .i64 0,.string .empty,.slice none 0 0],.bool false]) (by simp[results,Tryz.results95,go_sem,d0,d1,d2,d3,d4,d5,d6,d7,d8,d9,d10,d11,d12];rfl) rfl (ku ho.out ((Keeps.set (Keeps.set (Keeps.set (Keeps.set (Keeps.set (Keeps.set (Keeps.set (Keeps.set (Keeps.set (Keeps.set (Keeps.set (Keeps.set (Keeps.set (Keeps.refl _ _) _ _) _ _) _ _) _ _) _ _) _ _) _ _) _ _) _ _) _ _) _ _) _ _) _ _).below HB1.out (by omega)))
theorem MJ {n g pb po:Nat} {w w':World} {y x t:Tm (n+1)} (hg:pb<g) (hk:Keeps g w w')
    (k:(w.cell? ⟨pb,po,none⟩=some (.int .i64 y.1.1)/\w.cell? ⟨pb,po+1,none⟩=some (.int .i64 y.1.2.1)/\w.cell? ⟨pb,po+2,none⟩=some (.string y.1.2.2)/\w.cell? ⟨pb,po+3,none⟩=some (.slice y.2.1.1 y.2.2.length y.2.1.2))/\(w.cell? ⟨pb,po+4,none⟩=some (.int .i64 x.1.1)/\w.cell? ⟨pb,po+5,none⟩=some (.int .i64 x.1.2.1)/\w.cell? ⟨pb,po+6,none⟩=some (.string x.1.2.2)/\w.cell? ⟨pb,po+7,none⟩=some (.slice x.2.1.1 x.2.2.length x.2.1.2))/\(w.cell? ⟨pb,po+12,none⟩=some (.int .i64 t.1.1)/\w.cell? ⟨pb,po+13,none⟩=some (.int .i64 t.1.2.1)/\w.cell? ⟨pb,po+14,none⟩=some (.string t.1.2.2)/\w.cell? ⟨pb,po+15,none⟩=some (.slice t.2.1.1 t.2.2.length t.2.1.2))):(w'.cell? ⟨pb,po,none⟩=some (.int .i64 y.1.1)/\w'.cell? ⟨pb,po+1,none⟩=some (.int .i64 y.1.2.1)/\w'.cell? ⟨pb,po+2,none⟩=some (.string y.1.2.2)/\w'.cell? ⟨pb,po+3,none⟩=some (.slice y.2.1.1 y.2.2.length y.2.1.2))/\(w'.cell? ⟨pb,po+4,none⟩=some (.int .i64 x.1.1)/\w'.cell? ⟨pb,po+5,none⟩=some (.int .i64 x.1.2.1)/\w'.cell? ⟨pb,po+6,none⟩=some (.string x.1.2.2)/\w'.cell? ⟨pb,po+7,none⟩=some (.slice x.2.1.1 x.2.2.length x.2.1.2))/\(w'.cell? ⟨pb,po+12,none⟩=some (.int .i64 t.1.1)/\w'.cell? ⟨pb,po+13,none⟩=some (.int .i64 t.1.2.1)/\w'.cell? ⟨pb,po+14,none⟩=some (.string t.1.2.2)/\w'.cell? ⟨pb,po+15,none⟩=some (.slice t.2.1.1 t.2.2.length t.2.1.2)):=by
 have h:=fun o=>eP hk (show pb≠g by omega) o
 exact⟨⟨(h _).trans k.1.1,(h _).trans k.1.2.1,(h _).trans k.1.2.2.1,(h _).trans k.1.2.2.2⟩,⟨(h _).trans k.2.1.1,(h _).trans k.2.1.2.1,(h _).trans k.2.1.2.2.1,(h _).trans k.2.1.2.2.2⟩,(h _).trans k.2.2.1,(h _).trans k.2.2.2.1,(h _).trans k.2.2.2.2.1,(h _).trans k.2.2.2.2.2⟩
theorem tV (M n:Nat) (k u:Int) (s:ByteArray) (xa:Option Addr) (xl xc:Nat) (wd:ByteArray) (pb po c:Nat) (w:World) (y x m t:Tm (n+1)) (hn:n+1<=M+1) (oa:Option (List (Ac (M+1)))) (o:Option (Cl (M+1))) (ho:Hid (o=oa.map fun l=>((lift (M+1) (n+1) y,lift (M+1) (n+1) x,lift (M+1) (n+1) t),(none,0),l))) (b1:(wd.toList==[111,110])=true) (hpb:pb<w.heap.size) (yc0:w.cell? ⟨pb,po,none⟩=some (.int .i64 y.1.1)) (yc1:w.cell? ⟨pb,po+1,none⟩=some (.int .i64 y.1.2.1)) (yc2:w.cell? ⟨pb,po+2,none⟩=some (.string y.1.2.2)) (yc3:w.cell? ⟨pb,po+3,none⟩=some (.slice y.2.1.1 y.2.2.length y.2.1.2)) (xc0:w.cell? ⟨pb,po+4,none⟩=some (.int .i64 x.1.1)) (xc1:w.cell? ⟨pb,po+5,none⟩=some (.int .i64 x.1.2.1)) (xc2:w.cell? ⟨pb,po+6,none⟩=some (.string x.1.2.2)) (xc3:w.cell? ⟨pb,po+7,none⟩=some (.slice x.2.1.1 x.2.2.length x.2.1.2)) (mc0:w.cell? ⟨pb,po+8,none⟩=some (.int .i64 m.1.1)) (mc1:w.cell? ⟨pb,po+9,none⟩=some (.int .i64 m.1.2.1)) (mc2:w.cell? ⟨pb,po+10,none⟩=some (.string m.1.2.2)) (mc3:w.cell? ⟨pb,po+11,none⟩=some (.slice m.2.1.1 m.2.2.length m.2.1.2)) (tc0:w.cell? ⟨pb,po+12,none⟩=some (.int .i64 t.1.1)) (tc1:w.cell? ⟨pb,po+13,none⟩=some (.int .i64 t.1.2.1)) (tc2:w.cell? ⟨pb,po+14,none⟩=some (.string t.1.2.2)) (tc3:w.cell? ⟨pb,po+15,none⟩=some (.slice t.2.1.1 t.2.2.length t.2.1.2)) (hm4:m.1.1=4)
    (HO:Hid (∀w1,Below w.heap.size w w1->Calls Tryz.prog 73 #[.agg #[.int .i64 k,.int .i64 u,.string s,.slice xa xl xc]] w1 fun e w'=>e=.returned (.tuple #[.string wd,.slice (some ⟨pb,po,none⟩) 4 c])/\Below w1.heap.size w1 w'))
    (HA:Hid (∀w1,Below w.heap.size w w1->Calls Tryz.prog 114 #[.slice m.2.1.1 m.2.2.length m.2.1.2,.func (Fn.func 115) #[] #[]] w1 (jR 11 (eG (M+1)) (AcIn (M+1)) (kG (M+1)) (ES (M+1)) oa w1)))
    (HC:Hid (∀w1,Below w.heap.size w w1->Calls Tryz.prog 45 #[.agg #[.int .i64 y.1.1,.int .i64 y.1.2.1,.string y.1.2.2,.slice y.2.1.1 y.2.2.length y.2.1.2]] w1 fun e w'=>∃z:Tm (n+1),e=.returned (.agg #[.int .i64 z.1.1,.int .i64 z.1.2.1,.string z.1.2.2,.slice z.2.1.1 z.2.2.length z.2.1.2])/\Hid (Below w1.heap.size w1 w'/\In w'.heap.size w' (n+1) z/\Off (fun q=>w1.heap.size<=q) (n+1) z/\same (n+1) z (n+1) y=true))) (HD:Hid (∀w1,Below w.heap.size w w1->Calls Tryz.prog 45 #[.agg #[.int .i64 x.1.1,.int .i64 x.1.2.1,.string x.1.2.2,.slice x.2.1.1 x.2.2.length x.2.1.2]] w1 fun e w'=>∃z:Tm (n+1),e=.returned (.agg #[.int .i64 z.1.1,.int .i64 z.1.2.1,.string z.1.2.2,.slice z.2.1.1 z.2.2.length z.2.1.2])/\Hid (Below w1.heap.size w1 w'/\In w'.heap.size w' (n+1) z/\Off (fun q=>w1.heap.size<=q) (n+1) z/\same (n+1) z (n+1) x=true))) (HE:Hid (∀w1,Below w.heap.size w w1->Calls Tryz.prog 45 #[.agg #[.int .i64 t.1.1,.int .i64 t.1.2.1,.string t.1.2.2,.slice t.2.1.1 t.2.2.length t.2.1.2]] w1 fun e w'=>∃z:Tm (n+1),e=.returned (.agg #[.int .i64 z.1.1,.int .i64 z.1.2.1,.string z.1.2.2,.slice z.2.1.1 z.2.2.length z.2.1.2])/\Hid (Below w1.heap.size w1 w'/\In w'.heap.size w' (n+1) z/\Off (fun q=>w1.heap.size<=q) (n+1) z/\same (n+1) z (n+1) t=true))):
    Calls Tryz.prog 95 #[.agg #[.int .i64 k,.int .i64 u,.string s,.slice xa xl xc]] w (il M o w):=by
 go_enter Tryz.func95,Tryz.ntmps95
 go_wp2_with fail
 refine(HO.out _ (by go_grown)).mono ?_
 rintro e w1 ⟨rfl,hb1⟩
 obtain⟨hx0,hx1,hbw,hs2⟩:=bX hb1
 have HB1:=hide hbw
 have HX1:=hide hx1
 clear hb1 hx0 hx1 hbw HO
 replace yc0:=(af HB1.out _ _ hpb).trans yc0
 replace yc1:=(af HB1.out _ _ hpb).trans yc1
 replace yc2:=(af HB1.out _ _ hpb).trans yc2
 replace yc3:=(af HB1.out _ _ hpb).trans yc3
 replace xc0:=(af HB1.out _ _ hpb).trans xc0
 replace xc1:=(af HB1.out _ _ hpb).trans xc1
 replace xc2:=(af HB1.out _ _ hpb).trans xc2
 replace xc3:=(af HB1.out _ _ hpb).trans xc3
 replace mc0:=(af HB1.out _ _ hpb).trans mc0
 replace mc1:=(af HB1.out _ _ hpb).trans mc1
 replace mc2:=(af HB1.out _ _ hpb).trans mc2
 replace mc3:=(af HB1.out _ _ hpb).trans mc3
 replace tc0:=(af HB1.out _ _ hpb).trans tc0
 replace tc1:=(af HB1.out _ _ hpb).trans tc1
 replace tc2:=(af HB1.out _ _ hpb).trans tc2
 replace tc3:=(af HB1.out _ _ hpb).trans tc3
 have hpw:pb<w1.heap.size:=by omega
 rw[hm4]at mc0
 go_wp2_with fail
 refine(HA.out _ HB1.out).mono ?_
 rintro e w2 ⟨l,a',c',rr,rfl,HL⟩
 have HB12:=hide HL.out.1
 have HB2:Hid (Below w.heap.size w w2):=HB1.out.trans (HB12.out.mono HB1.out.size)
 have HX2:=hide ((HB12.out.block (w.heap.size+1) (by omega)).trans HX1.out)
 have h12:w1.heap.size<=w2.heap.size:=HB12.out.size
 have hpw2:pb<w2.heap.size:=by omega
 have HK:Hid (∀w',Below w2.heap.size w2 w'->(w'.cell? ⟨pb,po,none⟩=some (.int .i64 y.1.1)/\w'.cell? ⟨pb,po+1,none⟩=some (.int .i64 y.1.2.1)/\w'.cell? ⟨pb,po+2,none⟩=some (.string y.1.2.2)/\w'.cell? ⟨pb,po+3,none⟩=some (.slice y.2.1.1 y.2.2.length y.2.1.2))/\(w'.cell? ⟨pb,po+4,none⟩=some (.int .i64 x.1.1)/\w'.cell? ⟨pb,po+5,none⟩=some (.int .i64 x.1.2.1)/\w'.cell? ⟨pb,po+6,none⟩=some (.string x.1.2.2)/\w'.cell? ⟨pb,po+7,none⟩=some (.slice x.2.1.1 x.2.2.length x.2.1.2))/\(w'.cell? ⟨pb,po+12,none⟩=some (.int .i64 t.1.1)/\w'.cell? ⟨pb,po+13,none⟩=some (.int .i64 t.1.2.1)/\w'.cell? ⟨pb,po+14,none⟩=some (.string t.1.2.2)/\w'.cell? ⟨pb,po+15,none⟩=some (.slice t.2.1.1 t.2.2.length t.2.1.2))):=fun w' h=>by
  have hc:=fun o=>(af h pb o hpw2).trans (af HB12.out pb o hpw)
  exact⟨⟨(hc _).trans yc0,(hc _).trans yc1,(hc _).trans yc2,(hc _).trans yc3⟩,⟨(hc _).trans xc0,(hc _).trans xc1,(hc _).trans xc2,(hc _).trans xc3⟩,(hc _).trans tc0,(hc _).trans tc1,(hc _).trans tc2,(hc _).trans tc3⟩
 obtain⟨L,hL⟩:∃L,l.length=L:=⟨_,rfl⟩
 rw[hL]
 have HLL:=hide hL
 clear HA HX1 yc0 yc1 yc2 yc3 xc0 xc1 xc2 xc3 mc0 mc1 mc2 mc3 tc0 tc1 tc2 tc3 hL
 obtain⟨⟨yc0,yc1,yc2,yc3⟩,⟨xc0,xc1,xc2,xc3⟩,tc0,tc1,tc2,tc3⟩:=HK.out w2 (Below.refl _ _)
 go_wp2_with fail
 go_region_held3 (fun w'=>(w'.cell? ⟨pb,po,none⟩=some (.int .i64 y.1.1)/\w'.cell? ⟨pb,po+1,none⟩=some (.int .i64 y.1.2.1)/\w'.cell? ⟨pb,po+2,none⟩=some (.string y.1.2.2)/\w'.cell? ⟨pb,po+3,none⟩=some (.slice y.2.1.1 y.2.2.length y.2.1.2))/\(w'.cell? ⟨pb,po+4,none⟩=some (.int .i64 x.1.1)/\w'.cell? ⟨pb,po+5,none⟩=some (.int .i64 x.1.2.1)/\w'.cell? ⟨pb,po+6,none⟩=some (.string x.1.2.2)/\w'.cell? ⟨pb,po+7,none⟩=some (.slice x.2.1.1 x.2.2.length x.2.1.2))/\(w'.cell? ⟨pb,po+12,none⟩=some (.int .i64 t.1.1)/\w'.cell? ⟨pb,po+13,none⟩=some (.int .i64 t.1.2.1)/\w'.cell? ⟨pb,po+14,none⟩=some (.string t.1.2.2)/\w'.cell? ⟨pb,po+15,none⟩=some (.slice t.2.1.1 t.2.2.length t.2.1.2))) (first|with_reducible assumption|with_reducible exact HK.out _ HB5.out|with_reducible exact HK.out _ HB4.out|with_reducible exact HK.out _ HB3.out|with_reducible exact HKS.out _ _ _ _ _ _ _ _ _ _ _ _ _|exact HK.out _ (Below.refl _ _).drew)
  ((first
   | (go_at_call 45;refine(HC.out _ HB2.out.drew).mono ?_;rintro e w3 ⟨z,rfl,HZ⟩;have HB3:=hide (bz HZ.out.1);clear HC)
   | (go_at_call 45;refine(HD.out _ (HB2.out.trans (HB3.out.mono HB2.out.size))).mono ?_;rintro e w4 ⟨q,rfl,HQ⟩;have HB4:=hide (HB3.out.trans (HQ.out.1.mono HB3.out.size));clear HD)
   | (go_at_call 45;refine(HE.out _ (HB2.out.trans (HB4.out.mono HB2.out.size))).mono ?_;rintro e w5 ⟨r,rfl,HR⟩;have HB5:=hide (HB4.out.trans (HR.out.1.mono HB4.out.size));clear HE;have HX5:=hide ((HB5.out.block (w.heap.size+1) (by omega)).trans HX2.out);obtain⟨⟨d0,d1,d2,d3,d4,d5,d6,d7,d8,d9,d10,d11,d12⟩,f0,hq1⟩:=uq HX5.out;have HKS:Hid (∀v0 v1 v2 v3 v4 v5 v6 v7 v8 v9 v10 v11 v12:Value,((((((((((((((w5.setCell ⟨w.heap.size+1,0,none⟩ v0).setCell ⟨w.heap.size+1,1,none⟩ v1).setCell ⟨w.heap.size+1,2,none⟩ v2).setCell ⟨w.heap.size+1,3,none⟩ v3).setCell ⟨w.heap.size+1,4,none⟩ v4).setCell ⟨w.heap.size+1,5,none⟩ v5).setCell ⟨w.heap.size+1,6,none⟩ v6).setCell ⟨w.heap.size+1,7,none⟩ v7).setCell ⟨w.heap.size+1,8,none⟩ v8).setCell ⟨w.heap.size+1,9,none⟩ v9).setCell ⟨w.heap.size+1,10,none⟩ v10).setCell ⟨w.heap.size+1,11,none⟩ v11).setCell ⟨w.heap.size+1,12,none⟩ v12).cell? ⟨pb,po,none⟩=some (.int .i64 y.1.1)/\(((((((((((((w5.setCell ⟨w.heap.size+1,0,none⟩ v0).setCell ⟨w.heap.size+1,1,none⟩ v1).setCell ⟨w.heap.size+1,2,none⟩ v2).setCell ⟨w.heap.size+1,3,none⟩ v3).setCell ⟨w.heap.size+1,4,none⟩ v4).setCell ⟨w.heap.size+1,5,none⟩ v5).setCell ⟨w.heap.size+1,6,none⟩ v6).setCell ⟨w.heap.size+1,7,none⟩ v7).setCell ⟨w.heap.size+1,8,none⟩ v8).setCell ⟨w.heap.size+1,9,none⟩ v9).setCell ⟨w.heap.size+1,10,none⟩ v10).setCell ⟨w.heap.size+1,11,none⟩ v11).setCell ⟨w.heap.size+1,12,none⟩ v12).cell? ⟨pb,po+1,none⟩=some (.int .i64 y.1.2.1)/\(((((((((((((w5.setCell ⟨w.heap.size+1,0,none⟩ v0).setCell ⟨w.heap.size+1,1,none⟩ v1).setCell ⟨w.heap.size+1,2,none⟩ v2).setCell ⟨w.heap.size+1,3,none⟩ v3).setCell ⟨w.heap.size+1,4,none⟩ v4).setCell ⟨w.heap.size+1,5,none⟩ v5).setCell ⟨w.heap.size+1,6,none⟩ v6).setCell ⟨w.heap.size+1,7,none⟩ v7).setCell ⟨w.heap.size+1,8,none⟩ v8).setCell ⟨w.heap.size+1,9,none⟩ v9).setCell ⟨w.heap.size+1,10,none⟩ v10).setCell ⟨w.heap.size+1,11,none⟩ v11).setCell ⟨w.heap.size+1,12,none⟩ v12).cell? ⟨pb,po+2,none⟩=some (.string y.1.2.2)/\(((((((((((((w5.setCell ⟨w.heap.size+1,0,none⟩ v0).setCell ⟨w.heap.size+1,1,none⟩ v1).setCell ⟨w.heap.size+1,2,none⟩ v2).setCell ⟨w.heap.size+1,3,none⟩ v3).setCell ⟨w.heap.size+1,4,none⟩ v4).setCell ⟨w.heap.size+1,5,none⟩ v5).setCell ⟨w.heap.size+1,6,none⟩ v6).setCell ⟨w.heap.size+1,7,none⟩ v7).setCell ⟨w.heap.size+1,8,none⟩ v8).setCell ⟨w.heap.size+1,9,none⟩ v9).setCell ⟨w.heap.size+1,10,none⟩ v10).setCell ⟨w.heap.size+1,11,none⟩ v11).setCell ⟨w.heap.size+1,12,none⟩ v12).cell? ⟨pb,po+3,none⟩=some (.slice y.2.1.1 y.2.2.length y.2.1.2))/\((((((((((((((w5.setCell ⟨w.heap.size+1,0,none⟩ v0).setCell ⟨w.heap.size+1,1,none⟩ v1).setCell ⟨w.heap.size+1,2,none⟩ v2).setCell ⟨w.heap.size+1,3,none⟩ v3).setCell ⟨w.heap.size+1,4,none⟩ v4).setCell ⟨w.heap.size+1,5,none⟩ v5).setCell ⟨w.heap.size+1,6,none⟩ v6).setCell ⟨w.heap.size+1,7,none⟩ v7).setCell ⟨w.heap.size+1,8,none⟩ v8).setCell ⟨w.heap.size+1,9,none⟩ v9).setCell ⟨w.heap.size+1,10,none⟩ v10).setCell ⟨w.heap.size+1,11,none⟩ v11).setCell ⟨w.heap.size+1,12,none⟩ v12).cell? ⟨pb,po+4,none⟩=some (.int .i64 x.1.1)/\(((((((((((((w5.setCell ⟨w.heap.size+1,0,none⟩ v0).setCell ⟨w.heap.size+1,1,none⟩ v1).setCell ⟨w.heap.size+1,2,none⟩ v2).setCell ⟨w.heap.size+1,3,none⟩ v3).setCell ⟨w.heap.size+1,4,none⟩ v4).setCell ⟨w.heap.size+1,5,none⟩ v5).setCell ⟨w.heap.size+1,6,none⟩ v6).setCell ⟨w.heap.size+1,7,none⟩ v7).setCell ⟨w.heap.size+1,8,none⟩ v8).setCell ⟨w.heap.size+1,9,none⟩ v9).setCell ⟨w.heap.size+1,10,none⟩ v10).setCell ⟨w.heap.size+1,11,none⟩ v11).setCell ⟨w.heap.size+1,12,none⟩ v12).cell? ⟨pb,po+5,none⟩=some (.int .i64 x.1.2.1)/\(((((((((((((w5.setCell ⟨w.heap.size+1,0,none⟩ v0).setCell ⟨w.heap.size+1,1,none⟩ v1).setCell ⟨w.heap.size+1,2,none⟩ v2).setCell ⟨w.heap.size+1,3,none⟩ v3).setCell ⟨w.heap.size+1,4,none⟩ v4).setCell ⟨w.heap.size+1,5,none⟩ v5).setCell ⟨w.heap.size+1,6,none⟩ v6).setCell ⟨w.heap.size+1,7,none⟩ v7).setCell ⟨w.heap.size+1,8,none⟩ v8).setCell ⟨w.heap.size+1,9,none⟩ v9).setCell ⟨w.heap.size+1,10,none⟩ v10).setCell ⟨w.heap.size+1,11,none⟩ v11).setCell ⟨w.heap.size+1,12,none⟩ v12).cell? ⟨pb,po+6,none⟩=some (.string x.1.2.2)/\(((((((((((((w5.setCell ⟨w.heap.size+1,0,none⟩ v0).setCell ⟨w.heap.size+1,1,none⟩ v1).setCell ⟨w.heap.size+1,2,none⟩ v2).setCell ⟨w.heap.size+1,3,none⟩ v3).setCell ⟨w.heap.size+1,4,none⟩ v4).setCell ⟨w.heap.size+1,5,none⟩ v5).setCell ⟨w.heap.size+1,6,none⟩ v6).setCell ⟨w.heap.size+1,7,none⟩ v7).setCell ⟨w.heap.size+1,8,none⟩ v8).setCell ⟨w.heap.size+1,9,none⟩ v9).setCell ⟨w.heap.size+1,10,none⟩ v10).setCell ⟨w.heap.size+1,11,none⟩ v11).setCell ⟨w.heap.size+1,12,none⟩ v12).cell? ⟨pb,po+7,none⟩=some (.slice x.2.1.1 x.2.2.length x.2.1.2))/\((((((((((((((w5.setCell ⟨w.heap.size+1,0,none⟩ v0).setCell ⟨w.heap.size+1,1,none⟩ v1).setCell ⟨w.heap.size+1,2,none⟩ v2).setCell ⟨w.heap.size+1,3,none⟩ v3).setCell ⟨w.heap.size+1,4,none⟩ v4).setCell ⟨w.heap.size+1,5,none⟩ v5).setCell ⟨w.heap.size+1,6,none⟩ v6).setCell ⟨w.heap.size+1,7,none⟩ v7).setCell ⟨w.heap.size+1,8,none⟩ v8).setCell ⟨w.heap.size+1,9,none⟩ v9).setCell ⟨w.heap.size+1,10,none⟩ v10).setCell ⟨w.heap.size+1,11,none⟩ v11).setCell ⟨w.heap.size+1,12,none⟩ v12).cell? ⟨pb,po+12,none⟩=some (.int .i64 t.1.1)/\(((((((((((((w5.setCell ⟨w.heap.size+1,0,none⟩ v0).setCell ⟨w.heap.size+1,1,none⟩ v1).setCell ⟨w.heap.size+1,2,none⟩ v2).setCell ⟨w.heap.size+1,3,none⟩ v3).setCell ⟨w.heap.size+1,4,none⟩ v4).setCell ⟨w.heap.size+1,5,none⟩ v5).setCell ⟨w.heap.size+1,6,none⟩ v6).setCell ⟨w.heap.size+1,7,none⟩ v7).setCell ⟨w.heap.size+1,8,none⟩ v8).setCell ⟨w.heap.size+1,9,none⟩ v9).setCell ⟨w.heap.size+1,10,none⟩ v10).setCell ⟨w.heap.size+1,11,none⟩ v11).setCell ⟨w.heap.size+1,12,none⟩ v12).cell? ⟨pb,po+13,none⟩=some (.int .i64 t.1.2.1)/\(((((((((((((w5.setCell ⟨w.heap.size+1,0,none⟩ v0).setCell ⟨w.heap.size+1,1,none⟩ v1).setCell ⟨w.heap.size+1,2,none⟩ v2).setCell ⟨w.heap.size+1,3,none⟩ v3).setCell ⟨w.heap.size+1,4,none⟩ v4).setCell ⟨w.heap.size+1,5,none⟩ v5).setCell ⟨w.heap.size+1,6,none⟩ v6).setCell ⟨w.heap.size+1,7,none⟩ v7).setCell ⟨w.heap.size+1,8,none⟩ v8).setCell ⟨w.heap.size+1,9,none⟩ v9).setCell ⟨w.heap.size+1,10,none⟩ v10).setCell ⟨w.heap.size+1,11,none⟩ v11).setCell ⟨w.heap.size+1,12,none⟩ v12).cell? ⟨pb,po+14,none⟩=some (.string t.1.2.2)/\(((((((((((((w5.setCell ⟨w.heap.size+1,0,none⟩ v0).setCell ⟨w.heap.size+1,1,none⟩ v1).setCell ⟨w.heap.size+1,2,none⟩ v2).setCell ⟨w.heap.size+1,3,none⟩ v3).setCell ⟨w.heap.size+1,4,none⟩ v4).setCell ⟨w.heap.size+1,5,none⟩ v5).setCell ⟨w.heap.size+1,6,none⟩ v6).setCell ⟨w.heap.size+1,7,none⟩ v7).setCell ⟨w.heap.size+1,8,none⟩ v8).setCell ⟨w.heap.size+1,9,none⟩ v9).setCell ⟨w.heap.size+1,10,none⟩ v10).setCell ⟨w.heap.size+1,11,none⟩ v11).setCell ⟨w.heap.size+1,12,none⟩ v12).cell? ⟨pb,po+15,none⟩=some (.slice t.2.1.1 t.2.2.length t.2.1.2))):=(fun v0 v1 v2 v3 v4 v5 v6 v7 v8 v9 v10 v11 v12=>MJ (y:=y) (x:=x) (t:=t) (show pb<w.heap.size+1 by omega) (Keeps.set (Keeps.set (Keeps.set (Keeps.set (Keeps.set (Keeps.set (Keeps.set (Keeps.set (Keeps.set (Keeps.set (Keeps.set (Keeps.set (Keeps.set (Keeps.refl _ _) _ _) _ _) _ _) _ _) _ _) _ _) _ _) _ _) _ _) _ _) _ _) _ _) _ _) (HK.out _ HB5.out)))))
 go_wp2_with fail
 have HBW:Hid (Below w.heap.size w w5):=HB2.out.trans (HB5.out.mono HB2.out.size)
 have h23:w2.heap.size<=w3.heap.size:=HB3.out.size
 have h24:w2.heap.size<=w4.heap.size:=HB4.out.size
 have hq45:=HR.out.1
 have hq35:=HQ.out.1.trans (HR.out.1.mono HQ.out.1.size)
 have L1:=gH (M:=M) hn ((HZ.out.2.1.below hq35).mono hq35.size) (HZ.out.2.2.1.mono fun q (hq:w2.heap.size<=q)=>(show w.heap.size+1<q by omega)) HZ.out.2.2.2
 have L2:=gH (M:=M) hn ((HQ.out.2.1.below hq45).mono hq45.size) (HQ.out.2.2.1.mono fun q (hq:w3.heap.size<=q)=>(show w.heap.size+1<q by omega)) HQ.out.2.2.2
 have L3:=gH (M:=M) hn HR.out.2.1 (HR.out.2.2.1.mono fun q (hq:w4.heap.size<=q)=>(show w.heap.size+1<q by omega)) HR.out.2.2.2
 refine bodyPost_ret (v:=.tuple #[.agg #[.int .i64 z.1.1,.int .i64 z.1.2.1,.string z.1.2.2,.slice z.2.1.1 z.2.2.length z.2.1.2,.int .i64 q.1.1,.int .i64 q.1.2.1,.string q.1.2.2,.slice q.2.1.1 q.2.2.length q.2.1.2,.slice a' L c',.int .i64 r.1.1,.int .i64 r.1.2.1,.string r.1.2.2,.slice r.2.1.1 r.2.2.length r.2.1.2],.bool rr]) (by simp[results,Tryz.results95,go_sem,d0,d1,d2,d3,d4,d5,d6,d7,d8,d9,d10,d11,d12]) rfl ?_
 have e:dJ (M+1) ((lift (M+1) (n+1) z,lift (M+1) (n+1) q,lift (M+1) (n+1) r),(a',c'),l)=[.int .i64 z.1.1,.int .i64 z.1.2.1,.string z.1.2.2,.slice z.2.1.1 z.2.2.length z.2.1.2,.int .i64 q.1.1,.int .i64 q.1.2.1,.string q.1.2.2,.slice q.2.1.1 q.2.2.length q.2.1.2,.slice a' L c',.int .i64 r.1.1,.int .i64 r.1.2.1,.string r.1.2.2,.slice r.2.1.1 r.2.2.length r.2.1.2]:=by
  show fP (M+1) (lift (M+1) (n+1) z)++fP (M+1) (lift (M+1) (n+1) q)++(.slice a' l.length c'::fP (M+1) (lift (M+1) (n+1) r))=_
  rw[eY,eY,eY,HLL.out]
  rfl
 have kk:∀w',Keeps (w.heap.size+1) w5 w'->il M o w (.returned (.tuple #[.agg (dJ (M+1) ((lift (M+1) (n+1) z,lift (M+1) (n+1) q,lift (M+1) (n+1) r),(a',c'),l)).toArray,.bool rr])) w':=fun w' hk=>by
  obtain⟨k1,k2,k3,k4,k5,k6⟩:=HL.out
  have S11:=bi (dW (M+1)) 11 (eG (M+1)) a'
  have hl:Lay w5.heap.size w5 11 (eG (M+1)) (AcIn (M+1) w5.heap.size w5) a' l:=S11.mono HB5.out.size (S11.below HB5.out k4)
  have hof:tF (kG (M+1) (fun b=>w.heap.size+1<b)) (fun b=>w.heap.size+1<b) a' l:=S11.1 _ _ _ (fun b (hb:w1.heap.size<=b)=>(show w.heap.size+1<b by omega)) k5
  have hi:fM (M+1) w5.heap.size w5 ((lift (M+1) (n+1) z,lift (M+1) (n+1) q,lift (M+1) (n+1) r),(a',c'),l):=⟨⟨L1.1,L2.1,L3.1⟩,k3,hl⟩
  have hf:iV (M+1) (fun b=>w.heap.size+1<b) ((lift (M+1) (n+1) z,lift (M+1) (n+1) q,lift (M+1) (n+1) r),(a',c'),l):=⟨⟨L1.2.1,L2.2.1,L3.2.1⟩,hof⟩
  refine⟨((lift (M+1) (n+1) z,lift (M+1) (n+1) q,lift (M+1) (n+1) r),(a',c'),l),rr,rfl,hk.below HBW.out (by omega), ?_,hk.stays (dA _) (P:=fun b=>w.heap.size+1<b) (by omega) hf hi,(dA _).1 _ _ _ (fun b (hb:w.heap.size+1<b)=>(show w.heap.size<=b by omega)) hf,fun zz hz=> ?_⟩
  ·rw[k2,ho.out]
   cases oa<;>rfl
  ·rw[ho.out]at hz
   obtain⟨l0,hl0,rfl⟩:=Option.map_eq_some_iff.1 hz
   exact⟨⟨L1.2.2,L2.2.2,L3.2.2⟩,k6 l0 hl0⟩
 rw[e]at kk
 exact kk _ (Keeps.set (Keeps.set (Keeps.set (Keeps.set (Keeps.set (Keeps.set (Keeps.set (Keeps.set (Keeps.set (Keeps.set (Keeps.set (Keeps.set (Keeps.set (Keeps.refl _ _) _ _) _ _) _ _) _ _) _ _) _ _) _ _) _ _) _ _) _ _) _ _) _ _) _ _)
theorem wQ (M n:Nat) (hn:n<=M+1) (x:Tm n) (B:Nat) (w:World) (hx:In B w n x) (hr:ai ⟨n,x⟩) (hB:B<=w.heap.size):
    Calls Tryz.prog 95 #[val n x] w (il M (Am M n x) w):=by
 cases n with
 | zero=>exact hx.elim
 | succ n=>
 obtain⟨a,c,hq,hlc,hc,HO⟩:=qK n x B w hx hB
 show Calls Tryz.prog 95 #[.agg #[.int .i64 x.1.1,.int .i64 x.1.2.1,.string x.1.2.2,.slice x.2.1.1 x.2.2.length x.2.1.2]] w (il M (rM M n (dM n x) (aR n x)) w)
 have hrp:∀y∈aR n x,ai ⟨n,y⟩:=fun y hy=>dB hr hy
 generalize dM n x=wd at*
 generalize aR n x=q at*
 have E1:sF wd Fh=(wd.toList==[111,110]):=lg wd [111,110]
 have get:∀i,i<q.length->∃y,q[i]? =some y:=fun i hi=>⟨q[i],List.getElem?_eq_getElem hi⟩
 by_cases b1:(wd.toList==[111,110])=true
 ·by_cases hl:q.length=4
  ·obtain⟨y,hy⟩:=get 0 (by omega)
   obtain⟨z,hz⟩:=get 1 (by omega)
   obtain⟨m,hm⟩:=get 2 (by omega)
   obtain⟨t,ht⟩:=get 3 (by omega)
   have ho:rM M n wd q=if aU ⟨n,m⟩=4 then (bF (rz M (n-1)) (F6 n m)).map fun l=>((lift (M+1) n y,lift (M+1) n z,lift (M+1) n t),(none,0),l)else none:=by
    unfold rM
    rw[if_pos (by rw[E1,b1,hl];rfl),hy,hz,hm,ht]
    rfl
   rw[hl]at HO
   obtain⟨pb,po,rfl⟩:=p8 hq (by omega)
   cases n with
   | zero=>exact(pq hq hy).elim
   | succ n=>
   obtain⟨⟨c0,c1,c2,c3⟩,hyi,hpb⟩:=fU hq hy
   obtain⟨⟨d0,d1,d2,d3⟩,hzi,_⟩:=fU hq hz
   obtain⟨⟨m0,m1,m2,m3⟩,hmi,_⟩:=fU hq hm
   obtain⟨⟨e0,e1,e2,e3⟩,hti,_⟩:=fU hq ht
   by_cases hk:m.1.1=4
   ·have ho2:rM M (n+1) wd q=(bF (rz M n) m.2.2).map fun l=>((lift (M+1) (n+1) y,lift (M+1) (n+1) z,lift (M+1) (n+1) t),(none,0),l):=by
      rw[ho,if_pos (show aU ⟨n+1,m⟩=4 from hk)]
      rfl
    have hrm:=hrp m (List.mem_of_getElem? hm)
    have hm8:m.2.2.length<=8:=by
     exact kI hrm hk
    exact tV M n _ _ _ _ _ _ wd pb po c w y z m t (by omega) (bF (rz M n) m.2.2) _ ho2 b1 (by omega) (by simpa using c0) (by simpa using c1) (by simpa using c2) (by simpa using c3) (by simpa using d0) (by simpa using d1) (by simpa using d2) (by simpa using d3) (by simpa using m0) (by simpa using m1) (by simpa using m2) (by simpa using m3) (by simpa using e0) (by simpa using e1) (by simpa using e2) (by simpa using e3) hk HO
     (fun w1 h1=>Ap M n m.2.2 m.2.2.length rfl hm8 m.2.1.1 m.2.1.2 B w1 ((show Lies B w n m.2.2 m.2.1.1 from hmi.2).below (h1.mono hB)) (Nat.le_trans hB h1.size) (fun v hv w2 h2=>by
      have hb:=h1.trans (h2.mono h1.size)
      obtain⟨i,hi⟩:=List.getElem?_of_mem hv
      rcases hmi.2 with hm0|⟨_,_,_,_,hm0⟩
      ·rw[hm0]at hv;cases hv
      ·exact CL M n (by omega) v B w2 ((hm0 i v hi).2.below (hb.mono hB)) (aH n m v hrm hv) (Nat.le_trans hB hb.size)))
     (kN hyi (hrp y (List.mem_of_getElem? hy)) hB) (kN hzi (hrp z (List.mem_of_getElem? hz)) hB) (kN hti (hrp t (List.mem_of_getElem? ht)) hB)
   ·have ho2:rM M (n+1) wd q=none:=by rw[ho,if_neg (show¬aU ⟨n+1,m⟩=4 from hk)]
    exact tN M n _ _ _ _ _ _ wd pb po c w _ ho2 b1 (by omega) m.1.1 (by simpa using m0) (by simpa using hk) HO
  ·have ho:rM M n wd q=none:=by simp[rM,hl]
   exact vD M n _ _ _ _ _ _ wd a q.length c w _ ho b1 (wJ hl) (by simp;omega) HO
 replace b1:=nG b1
 have ho:rM M n wd q=none:=by simp[rM,E1,b1]
 exact uf M n _ _ _ _ _ _ wd a q.length c w _ ho b1 HO
abbrev nY (M:Nat) (o:Option (Bh (M+1))) (w:World) (e:Ending) (w':World):Prop:=pQ (nK (M+1)) (nQ (M+1)) (iU (M+1)) (vW (M+1)) o w e w'
theorem xM {n:Nat} {x:Tm (n+1)} (hr:ai ⟨n+1,x⟩):(aR n x).length<=8:=by
 unfold aR
 split
 ·rename_i h4
  have:=kI hr h4
  split
  ·split
   ·rw[List.length_drop];omega
   ·simp
  ·simp
 ·simp
theorem JJ {n:Nat} {a:Tm (n+1)} (hra:ai ⟨n+1,a⟩) (h2:a.1.1=2):a.1.2.2.size<=2048:=by
 have:=hra (aL n a) (by simp[nodes,aL])
 have hg:bq a.1.2.2=true:=by
  simp only[good,aL,h2]at this
  simp at this
  exact this.1.1
 simp only[bq,kr,Bool.and_eq_true,decide_eq_true_eq]at hg
 omega
theorem CR {n B:Nat} {w:World} {q:List (Tm n)} {a:Option Addr} (h:Lies B w n q a) {y:Tm n} (hy:y∈q):In B w n y:=by
 rcases h with h|⟨_,_,_,_,h⟩
 ·subst h;cases hy
 ·obtain⟨i,hi⟩:=List.getElem?_of_mem hy
  exact(h i y hi).2
theorem oq {M:Nat} {o:Option (Bh (M+1))} {w w':World} (ho:o=none) (hb:Below w.heap.size w w'):nY M o w (.returned (.tuple #[.agg #[.string .empty,.slice none 0 0],.bool false])) w':=by
 subst ho
 exact⟨(.empty,(none,0),[]),false,rfl,hb,rfl,⟨Nat.zero_le _,⟨Nat.le_refl _,Nat.zero_le _⟩,Or.inl rfl⟩,Or.inl rfl,fun z hz=>by cases hz⟩
theorem zU (M _n:Nat) (k u:Int) (s:ByteArray) (xa:Option Addr) (xl xc:Nat) (wd:ByteArray) (a:Option Addr) (len c:Nat) (w:World) (o:Option (Bh (M+1))) (ho:Hid (o=none)) (b1:(wd.toList==[98,101,104])=false) 
    (HO:Hid (∀w1,Below w.heap.size w w1->Calls Tryz.prog 73 #[.agg #[.int .i64 k,.int .i64 u,.string s,.slice xa xl xc]] w1 fun e w'=>e=.returned (.tuple #[.string wd,.slice a len c])/\Below w1.heap.size w1 w')):
    Calls Tryz.prog 75 #[.agg #[.int .i64 k,.int .i64 u,.string s,.slice xa xl xc]] w (nY M o w):=by
 go_enter Tryz.func75,Tryz.ntmps75
 go_wp2_with fail
 refine(HO.out _ (by go_grown)).mono ?_
 rintro e w1 ⟨rfl,hb1⟩
 obtain⟨hx0,hx1,hbw,hs2⟩:=bX hb1
 have HB1:=hide hbw
 have HX1:=hide hx1
 clear hb1 hx0 hx1 hbw HO
 have d0:w1.cell? ⟨w.heap.size+1,0,none⟩=some (.string ⟨#[]⟩):=ag HX1.out 0
 have d1:w1.cell? ⟨w.heap.size+1,1,none⟩=some (.slice none 0 0):=ag HX1.out 1
 have f0:=fun j=>bE HX1.out j
 have hq1:w.heap.size+1<w1.heap.size:=(Array.getElem?_eq_some_iff.1 HX1.out).1
 go_wp2_with fail
 exact bodyPost_ret (v:=.tuple #[.agg #[.string .empty,.slice none 0 0],.bool false]) (by simp[results,Tryz.results75,go_sem,d0,d1];rfl) rfl (oq ho.out ((Keeps.set (Keeps.set (Keeps.refl _ _) _ _) _ _).below HB1.out (by omega)))
theorem Cz (M _n:Nat) (k u:Int) (s:ByteArray) (xa:Option Addr) (xl xc:Nat) (wd:ByteArray) (a:Option Addr) (len c:Nat) (w:World) (o:Option (Bh (M+1))) (ho:Hid (o=none)) (b1:(wd.toList==[98,101,104])=true) (hl:(len:Int)<1)
    (HO:Hid (∀w1,Below w.heap.size w w1->Calls Tryz.prog 73 #[.agg #[.int .i64 k,.int .i64 u,.string s,.slice xa xl xc]] w1 fun e w'=>e=.returned (.tuple #[.string wd,.slice a len c])/\Below w1.heap.size w1 w')):
    Calls Tryz.prog 75 #[.agg #[.int .i64 k,.int .i64 u,.string s,.slice xa xl xc]] w (nY M o w):=by
 go_enter Tryz.func75,Tryz.ntmps75
 go_wp2_with fail
 refine(HO.out _ (by go_grown)).mono ?_
 rintro e w1 ⟨rfl,hb1⟩
 obtain⟨hx0,hx1,hbw,hs2⟩:=bX hb1
 have HB1:=hide hbw
 have HX1:=hide hx1
 clear hb1 hx0 hx1 hbw HO
 have d0:w1.cell? ⟨w.heap.size+1,0,none⟩=some (.string ⟨#[]⟩):=ag HX1.out 0
 have d1:w1.cell? ⟨w.heap.size+1,1,none⟩=some (.slice none 0 0):=ag HX1.out 1
 have f0:=fun j=>bE HX1.out j
 have hq1:w.heap.size+1<w1.heap.size:=(Array.getElem?_eq_some_iff.1 HX1.out).1
 go_wp2_with fail
 exact bodyPost_ret (v:=.tuple #[.agg #[.string .empty,.slice none 0 0],.bool false]) (by simp[results,Tryz.results75,go_sem,d0,d1];rfl) rfl (oq ho.out ((Keeps.set (Keeps.set (Keeps.refl _ _) _ _) _ _).below HB1.out (by omega)))
theorem zO (M _n:Nat) (k u:Int) (s:ByteArray) (xa:Option Addr) (xl xc:Nat) (wd:ByteArray) (pb po len c:Nat) (w:World) (o:Option (Bh (M+1))) (ho:Hid (o=none)) (b1:(wd.toList==[98,101,104])=true) (hl:¬(len:Int)<1) (hl0:(0:Int)<(len:Int)) (hpb:pb<w.heap.size) (k2:Int) (h2:w.cell? ⟨pb,po,none⟩=some (.int .i64 k2)) (hk2:(k2 !=2)=true)
    (HO:Hid (∀w1,Below w.heap.size w w1->Calls Tryz.prog 73 #[.agg #[.int .i64 k,.int .i64 u,.string s,.slice xa xl xc]] w1 fun e w'=>e=.returned (.tuple #[.string wd,.slice (some ⟨pb,po,none⟩) len c])/\Below w1.heap.size w1 w')):
    Calls Tryz.prog 75 #[.agg #[.int .i64 k,.int .i64 u,.string s,.slice xa xl xc]] w (nY M o w):=by
 go_enter Tryz.func75,Tryz.ntmps75
 go_wp2_with fail
 refine(HO.out _ (by go_grown)).mono ?_
 rintro e w1 ⟨rfl,hb1⟩
 obtain⟨hx0,hx1,hbw,hs2⟩:=bX hb1
 have HB1:=hide hbw
 have HX1:=hide hx1
 clear hb1 hx0 hx1 hbw HO
 replace h2:=(af HB1.out _ _ hpb).trans h2
 have hpw:pb<w1.heap.size:=by omega
 have d0:w1.cell? ⟨w.heap.size+1,0,none⟩=some (.string ⟨#[]⟩):=ag HX1.out 0
 have d1:w1.cell? ⟨w.heap.size+1,1,none⟩=some (.slice none 0 0):=ag HX1.out 1
 have f0:=fun j=>bE HX1.out j
 have hq1:w.heap.size+1<w1.heap.size:=(Array.getElem?_eq_some_iff.1 HX1.out).1
 go_wp2_with fail
 exact bodyPost_ret (v:=.tuple #[.agg #[.string .empty,.slice none 0 0],.bool false]) (by simp[results,Tryz.results75,go_sem,d0,d1];rfl) rfl (oq ho.out ((Keeps.set (Keeps.set (Keeps.refl _ _) _ _) _ _).below HB1.out (by omega)))
theorem Ca (M _n:Nat) (k u:Int) (s:ByteArray) (xa:Option Addr) (xl xc:Nat) (wd:ByteArray) (pb po:Nat) (w:World) (y2:ByteArray) (hy2:y2.size<=2048) (oa:Option (List (Cl (M+1)))) (o:Option (Bh (M+1))) (ho:Hid (o=oa.map fun l=>(y2,(none,0),l))) (b1:(wd.toList==[98,101,104])=true) (hpb:pb<w.heap.size) (h0:w.cell? ⟨pb,po,none⟩=some (.int .i64 2)) (h2:w.cell? ⟨pb,po+2,none⟩=some (.string y2))
    (HO:Hid (∀w1,Below w.heap.size w w1->Calls Tryz.prog 73 #[.agg #[.int .i64 k,.int .i64 u,.string s,.slice xa xl xc]] w1 fun e w'=>e=.returned (.tuple #[.string wd,.slice (some ⟨pb,po,none⟩) 1 1])/\Below w1.heap.size w1 w'))
    (HA:Hid (∀w1,Below w.heap.size w w1->Calls Tryz.prog 94 #[.slice (some ⟨pb,po,none⟩) 0 0,.func (Fn.func 95) #[] #[]] w1 (jR 13 (dJ (M+1)) (fM (M+1)) (iV (M+1)) (Dq (M+1)) oa w1))):
    Calls Tryz.prog 75 #[.agg #[.int .i64 k,.int .i64 u,.string s,.slice xa xl xc]] w (nY M o w):=by
 go_enter Tryz.func75,Tryz.ntmps75
 go_wp2_with fail
 refine(HO.out _ (by go_grown)).mono ?_
 rintro e w1 ⟨rfl,hb1⟩
 obtain⟨hx0,hx1,hbw,hs2⟩:=bX hb1
 have HB1:=hide hbw
 have HX1:=hide hx1
 clear hb1 hx0 hx1 hbw HO
 replace h0:=(af HB1.out _ _ hpb).trans h0
 replace h2:=(af HB1.out _ _ hpb).trans h2
 have hpw:pb<w1.heap.size:=by omega
 go_wp2_with fail
 refine(HA.out _ HB1.out).mono ?_
 rintro e w2 ⟨l,a',c',rr,rfl,HL⟩
 have HB12:=hide HL.out.1
 have HB2:Hid (Below w.heap.size w w2):=HB1.out.trans (HB12.out.mono HB1.out.size)
 have HX2:=hide ((HB12.out.block (w.heap.size+1) (by omega)).trans HX1.out)
 have h12:w1.heap.size<=w2.heap.size:=HB12.out.size
 have hpw2:pb<w2.heap.size:=by omega
 replace h0:=(af HB12.out _ _ hpw).trans h0
 replace h2:=(af HB12.out _ _ hpw).trans h2
 obtain⟨LL,hL⟩:∃LL,l.length=LL:=⟨_,rfl⟩
 rw[hL]
 have HLL:=hide hL
 clear HA HX1 hL
 go_wp2_with fail
 refine(cB _ _ hy2).mono ?_
 rintro e w3 ⟨rfl,hb3⟩
 have HB3:=hide hb3
 have HBW:Hid (Below w.heap.size w w3):=HB2.out.trans (hb3.mono HB2.out.size)
 have HX3:=hide ((hb3.block (w.heap.size+1) (by omega)).trans HX2.out)
 have d0:w3.cell? ⟨w.heap.size+1,0,none⟩=some (.string ⟨#[]⟩):=ag HX3.out 0
 have d1:w3.cell? ⟨w.heap.size+1,1,none⟩=some (.slice none 0 0):=ag HX3.out 1
 have f0:=fun j=>bE HX3.out j
 have hq1:w.heap.size+1<w3.heap.size:=(Array.getElem?_eq_some_iff.1 HX3.out).1
 clear hb3 HX2 HX3
 go_wp2_with fail
 refine bodyPost_ret (v:=.tuple #[.agg #[.string y2,.slice a' LL c'],.bool rr]) (by simp[results,Tryz.results75,go_sem,d0,d1]) rfl ?_
 have kk:∀w',Keeps (w.heap.size+1) w3 w'->nY M o w (.returned (.tuple #[.agg #[.string y2,.slice a' LL c'],.bool rr])) w':=fun w' hk=>by
  obtain⟨k1,k2,k3,k4,k5,k6⟩:=HL.out
  have S13:=bi (dA (M+1)) 13 (dJ (M+1)) a'
  have hl:Lay w3.heap.size w3 13 (dJ (M+1)) (fM (M+1) w3.heap.size w3) a' l:=S13.mono HB3.out.size (S13.below HB3.out k4)
  have hof:tF (iV (M+1) (fun b=>w.heap.size+1<b)) (fun b=>w.heap.size+1<b) a' l:=S13.1 _ _ _ (fun b (hb:w1.heap.size<=b)=>(show w.heap.size+1<b by omega)) k5
  have hi:nQ (M+1) w3.heap.size w3 (y2,(a',c'),l):=⟨(show y2.size<=maxLen by unfold maxLen;omega),k3,hl⟩
  have hf:iU (M+1) (fun b=>w.heap.size+1<b) (y2,(a',c'),l):=hof
  refine⟨(y2,(a',c'),l),rr,by rw[<-HLL.out];rfl,hk.below HBW.out (by omega), ?_,hk.stays (dw _) (P:=fun b=>w.heap.size+1<b) (by omega) hf hi,(dw _).1 _ _ _ (fun b (hb:w.heap.size+1<b)=>(show w.heap.size<=b by omega)) hf,fun zz hz=> ?_⟩
  ·rw[k2,ho.out]
   cases oa<;>rfl
  ·rw[ho.out]at hz
   obtain⟨l0,hl0,rfl⟩:=Option.map_eq_some_iff.1 hz
   exact⟨rfl,k6 l0 hl0⟩
 exact kk _ (Keeps.set (Keeps.set (Keeps.refl _ _) _ _) _ _)
theorem Av (M _n:Nat) (k u:Int) (s:ByteArray) (xa:Option Addr) (xl xc:Nat) (wd:ByteArray) (pb po L c:Nat) (w:World) (y2:ByteArray) (hy2:y2.size<=2048) (oa:Option (List (Cl (M+1)))) (o:Option (Bh (M+1))) (ho:Hid (o=oa.map fun l=>(y2,(none,0),l))) (b1:(wd.toList==[98,101,104])=true) (hpb:pb<w.heap.size) (_hl:¬(L:Int)<1) (hl0:(0:Int)<(L:Int)) (hl1:(1:Int)<=(L:Int)) (_hlc:(L:Int)<=(c:Int)) (hc1:¬c=1) (_hcm:(c:Int)<=9223372036854775807) (h0:w.cell? ⟨pb,po,none⟩=some (.int .i64 2)) (h2:w.cell? ⟨pb,po+2,none⟩=some (.string y2))
    (HO:Hid (∀w1,Below w.heap.size w w1->Calls Tryz.prog 73 #[.agg #[.int .i64 k,.int .i64 u,.string s,.slice xa xl xc]] w1 fun e w'=>e=.returned (.tuple #[.string wd,.slice (some ⟨pb,po,none⟩) L c])/\Below w1.heap.size w1 w'))
    (HA:Hid (∀w1,Below w.heap.size w w1->Calls Tryz.prog 94 #[.slice (some ⟨pb,po+4,none⟩) (L-1) (c-1),.func (Fn.func 95) #[] #[]] w1 (jR 13 (dJ (M+1)) (fM (M+1)) (iV (M+1)) (Dq (M+1)) oa w1))):
    Calls Tryz.prog 75 #[.agg #[.int .i64 k,.int .i64 u,.string s,.slice xa xl xc]] w (nY M o w):=by
 go_enter Tryz.func75,Tryz.ntmps75
 go_wp2_with fail
 refine(HO.out _ (by go_grown)).mono ?_
 rintro e w1 ⟨rfl,hb1⟩
 obtain⟨hx0,hx1,hbw,hs2⟩:=bX hb1
 have HB1:=hide hbw
 have HX1:=hide hx1
 clear hb1 hx0 hx1 hbw HO
 replace h0:=(af HB1.out _ _ hpb).trans h0
 replace h2:=(af HB1.out _ _ hpb).trans h2
 have hpw:pb<w1.heap.size:=by omega
 go_wp2_with fail
 refine(HA.out _ HB1.out).mono ?_
 rintro e w2 ⟨l,a',c',rr,rfl,HL⟩
 have HB12:=hide HL.out.1
 have HB2:Hid (Below w.heap.size w w2):=HB1.out.trans (HB12.out.mono HB1.out.size)
 have HX2:=hide ((HB12.out.block (w.heap.size+1) (by omega)).trans HX1.out)
 have h12:w1.heap.size<=w2.heap.size:=HB12.out.size
 have hpw2:pb<w2.heap.size:=by omega
 replace h0:=(af HB12.out _ _ hpw).trans h0
 replace h2:=(af HB12.out _ _ hpw).trans h2
 obtain⟨LL,hL⟩:∃LL,l.length=LL:=⟨_,rfl⟩
 rw[hL]
 have HLL:=hide hL
 clear HA HX1 hL
 go_wp2_with fail
 refine(cB _ _ hy2).mono ?_
 rintro e w3 ⟨rfl,hb3⟩
 have HB3:=hide hb3
 have HBW:Hid (Below w.heap.size w w3):=HB2.out.trans (hb3.mono HB2.out.size)
 have HX3:=hide ((hb3.block (w.heap.size+1) (by omega)).trans HX2.out)
 have d0:w3.cell? ⟨w.heap.size+1,0,none⟩=some (.string ⟨#[]⟩):=ag HX3.out 0
 have d1:w3.cell? ⟨w.heap.size+1,1,none⟩=some (.slice none 0 0):=ag HX3.out 1
 have f0:=fun j=>bE HX3.out j
 have hq1:w.heap.size+1<w3.heap.size:=(Array.getElem?_eq_some_iff.1 HX3.out).1
 clear hb3 HX2 HX3
 go_wp2_with fail
 refine bodyPost_ret (v:=.tuple #[.agg #[.string y2,.slice a' LL c'],.bool rr]) (by simp[results,Tryz.results75,go_sem,d0,d1]) rfl ?_
 have kk:∀w',Keeps (w.heap.size+1) w3 w'->nY M o w (.returned (.tuple #[.agg #[.string y2,.slice a' LL c'],.bool rr])) w':=fun w' hk=>by
  obtain⟨k1,k2,k3,k4,k5,k6⟩:=HL.out
  have S13:=bi (dA (M+1)) 13 (dJ (M+1)) a'
  have hl:Lay w3.heap.size w3 13 (dJ (M+1)) (fM (M+1) w3.heap.size w3) a' l:=S13.mono HB3.out.size (S13.below HB3.out k4)
  have hof:tF (iV (M+1) (fun b=>w.heap.size+1<b)) (fun b=>w.heap.size+1<b) a' l:=S13.1 _ _ _ (fun b (hb:w1.heap.size<=b)=>(show w.heap.size+1<b by omega)) k5
  have hi:nQ (M+1) w3.heap.size w3 (y2,(a',c'),l):=⟨(show y2.size<=maxLen by unfold maxLen;omega),k3,hl⟩
  have hf:iU (M+1) (fun b=>w.heap.size+1<b) (y2,(a',c'),l):=hof
  refine⟨(y2,(a',c'),l),rr,by rw[<-HLL.out];rfl,hk.below HBW.out (by omega), ?_,hk.stays (dw _) (P:=fun b=>w.heap.size+1<b) (by omega) hf hi,(dw _).1 _ _ _ (fun b (hb:w.heap.size+1<b)=>(show w.heap.size<=b by omega)) hf,fun zz hz=> ?_⟩
  ·rw[k2,ho.out]
   cases oa<;>rfl
  ·rw[ho.out]at hz
   obtain⟨l0,hl0,rfl⟩:=Option.map_eq_some_iff.1 hz
   exact⟨rfl,k6 l0 hl0⟩
 exact kk _ (Keeps.set (Keeps.set (Keeps.refl _ _) _ _) _ _)
theorem AR (M n:Nat) (hn:n<=M+1) (x:Tm n) (B:Nat) (w:World) (hx:In B w n x) (hr:ai ⟨n,x⟩) (hB:B<=w.heap.size):
    Calls Tryz.prog 75 #[val n x] w (nY M (zK M n x) w):=by
 cases n with
 | zero=>exact hx.elim
 | succ n=>
 obtain⟨a,c,hq,hlc,hc,HO⟩:=qK n x B w hx hB
 show Calls Tryz.prog 75 #[.agg #[.int .i64 x.1.1,.int .i64 x.1.2.1,.string x.1.2.2,.slice x.2.1.1 x.2.2.length x.2.1.2]] w (nY M (tO M n (dM n x) (aR n x)) w)
 have hrp:∀y∈aR n x,ai ⟨n,y⟩:=fun y hy=>dB hr hy
 have h8:(aR n x).length<=8:=xM hr
 generalize dM n x=wd at*
 generalize aR n x=q at*
 have E1:sF wd mq=(wd.toList==[98,101,104]):=lg wd [98,101,104]
 by_cases b1:(wd.toList==[98,101,104])=true
 ·cases q with
  | nil=>
   have ho:tO M n wd []=none:=by simp[tO]
   exact Cz M n _ _ _ _ _ _ wd a 0 c w _ ho b1 (by omega) HO
  | cons y q=>
   obtain⟨pb,po,rfl⟩:=p8 hq (by simp)
   cases n with
   | zero=>exact(pq hq (show (y::q)[0]? =some y from rfl)).elim
   | succ n=>
   obtain⟨⟨c0,c1,c2,c3⟩,hyi,hpb⟩:=fU hq (show (y::q)[0]? =some y from rfl)
   by_cases hk:y.1.1=2
   ·have ho:tO M (n+1) wd (y::q)=(bF (Am M (n+1)) q).map fun l=>(y.1.2.2,(none,0),l):=by
      simp[tO,E1,b1,aU,hk,yJ,gZ,aL]
    have hs:y.1.2.2.size<=2048:=JJ (hrp y (by simp)) hk
    have hql:Lies B w (n+1) q (some ⟨pb,po+4,none⟩):=by
     rcases hq with hq|⟨b,o,e,hb,hq⟩
     ·cases hq
     ·injection e with e
      injection e with e1 e2
      subst e1 e2
      exact Or.inr ⟨pb,po+4,rfl,hb,fun i v hv=>by
       have:=hq (i+1) v (by simpa using hv)
       rw[show po+4+i*4=po+(i+1)*4 by omega]
       exact this⟩
    have HA:∀(v:Option Addr) (cc:Nat),Lies B w (n+1) q v->∀w1,Below w.heap.size w w1->Calls Tryz.prog 94 #[.slice v q.length cc,.func (Fn.func 95) #[] #[]] w1 (jR 13 (dJ (M+1)) (fM (M+1)) (iV (M+1)) (Dq (M+1)) (bF (Am M (n+1)) q) w1):=fun v cc hv w1 h1=>
     tT M (n+1) q q.length rfl (by simp at h8;omega) v cc B w1 (hv.below (h1.mono hB)) (Nat.le_trans hB h1.size) (fun z hz w2 h2=>by
      have hb:=h1.trans (h2.mono h1.size)
      exact wQ M (n+1) (by omega) z B w2 ((CR hql hz).below (hb.mono hB)) (hrp z (by simp[hz])) (Nat.le_trans hB hb.size))
    by_cases hc1:c=1
    ·have hq0:q=[]:=List.eq_nil_of_length_eq_zero (by simp at hlc;omega)
     subst hq0 hc1
     exact Ca M (n+1) _ _ _ _ _ _ wd pb po w y.1.2.2 hs _ _ ho b1 (by omega) (by rw[hk]at c0;simpa using c0) (by simpa using c2) HO (HA _ 0 (Or.inl rfl))
    ·exact Av M (n+1) _ _ _ _ _ _ wd pb po (y::q).length c w y.1.2.2 hs _ _ ho b1 (by omega) (by simp only[List.length_cons];omega) (by simp only[List.length_cons];omega) (by simp only[List.length_cons];omega) (by omega) hc1 (by omega) (by rw[hk]at c0;simpa using c0) (by simpa using c2) HO (HA _ (c-1) hql)
   ·have ho:tO M (n+1) wd (y::q)=none:=by simp[tO,aU,hk]
    exact zO M (n+1) _ _ _ _ _ _ wd pb po (y::q).length c w _ ho b1 (by simp only[List.length_cons];omega) (by simp only[List.length_cons];omega) (by omega) y.1.1 (by simpa using c0) (by simpa using hk) HO
 replace b1:=nG b1
 have ho:tO M n wd q=none:=by simp[tO,E1,b1]
 exact zU M n _ _ _ _ _ _ wd a q.length c w _ ho b1 HO
abbrev vo (M:Nat) (o:Option (List (Bh (M+1)))) (w:World) (e:Ending) (w':World):Prop:=jR 2 (nK (M+1)) (nQ (M+1)) (iU (M+1)) (vW (M+1)) o w e w'
theorem Bj {M:Nat} {o:Option (List (Bh (M+1)))} {w w':World} (ho:o=none) (hb:Below w.heap.size w w'):vo M o w (.returned (.tuple #[.slice none 0 0,.bool false])) w':=by
 subst ho
 exact⟨[],none,0,false,rfl,hb,rfl,⟨Nat.le_refl _,Nat.zero_le _⟩,Or.inl rfl,Or.inl rfl,fun z hz=>by cases hz⟩
theorem xu (M _n:Nat) (k u:Int) (s:ByteArray) (xa:Option Addr) (xl xc:Nat) (wd:ByteArray) (a:Option Addr) (len c:Nat) (w:World) (o:Option (List (Bh (M+1)))) (b:Bool) (b1:(wd.toList==[99,111,100,101])=b) (ho:Hid (b=false->o=none))
    (HO:Hid (∀w1,Below w.heap.size w w1->Calls Tryz.prog 73 #[.agg #[.int .i64 k,.int .i64 u,.string s,.slice xa xl xc]] w1 fun e w'=>e=.returned (.tuple #[.string wd,.slice a len c])/\Below w1.heap.size w1 w'))
    (HA:Hid (b=true->∀w1,Below w.heap.size w w1->Calls Tryz.prog 74 #[.slice a len c,.func (Fn.func 75) #[] #[]] w1 (vo M o w1))):
    Calls Tryz.prog 48 #[.agg #[.int .i64 k,.int .i64 u,.string s,.slice xa xl xc]] w (vo M o w):=by
 cases b
 ·have HB:Hid (o=none):=ho.out rfl
  go_enter Tryz.func48,Tryz.ntmps48
  go_wp2_with fail
  refine(HO.out _ (by go_grown)).mono ?_
  rintro e w1 ⟨rfl,hb1⟩
  have HB1:Hid (Below w.heap.size w w1):=au.trans (hb1.mono (by simp))
  clear hb1
  go_wp2_with fail
  exact bodyPost_ret (v:=.tuple #[.slice none 0 0,.bool false]) (by simp[results,Tryz.results48,go_sem]) rfl (Bj HB.out HB1.out)
 ·have HAA:=hide (HA.out rfl)
  clear HA ho
  go_enter Tryz.func48,Tryz.ntmps48
  go_wp2_with fail
  refine(HO.out _ (by go_grown)).mono ?_
  rintro e w1 ⟨rfl,hb1⟩
  have HB1:Hid (Below w.heap.size w w1):=au.trans (hb1.mono (by simp))
  clear hb1
  go_wp2_with fail
  refine(HAA.out _ HB1.out).mono ?_
  rintro e w2 ⟨l,a',c',r,rfl,HL⟩
  obtain⟨L,hL⟩:∃L,l.length=L:=⟨_,rfl⟩
  rw[hL]
  have HLL:=hide hL
  clear hL
  go_wp2_with fail
  refine bodyPost_ret (v:=.tuple #[.slice a' L c',.bool r]) (by simp[results,Tryz.results48,go_sem]) rfl ?_
  obtain⟨k1,k2,k3,k4,k5,k6⟩:=HL.out
  exact⟨l,a',c',r,by rw[HLL.out],HB1.out.trans (k1.mono HB1.out.size),k2,k3,k4,(bi (dw _) 2 (nK (M+1)) a').1 _ _ _ (fun b hb=>Nat.le_trans HB1.out.size hb) k5,k6⟩
theorem zF (M n:Nat) (hn:n<=M+1) (x:Tm n) (B:Nat) (w:World) (hx:In B w n x) (hr:ai ⟨n,x⟩) (hB:B<=w.heap.size):
    Calls Tryz.prog 48 #[val n x] w (vo M (Cb M n x) w):=by
 cases n with
 | zero=>exact hx.elim
 | succ n=>
 obtain⟨a,c,hq,hlc,hc,HO⟩:=qK n x B w hx hB
 have hrp:∀y∈aR n x,ai ⟨n,y⟩:=fun y hy=>dB hr hy
 have h8:(aR n x).length<=8:=xM hr
 have E1:sF (dM n x) iD=((dM n x).toList==[99,111,100,101]):=lg _ [99,111,100,101]
 refine xu M n _ _ _ _ _ _ (dM n x) a (aR n x).length c w (Cb M (n+1) x) _ rfl (fun h=> ?_) HO (fun h w1 h1=> ?_)
 ·simp only[Cb,E1,h]
  rfl
 ·have e:Cb M (n+1) x=bF (zK M n) (aR n x):=by simp only[Cb,E1,h];rfl
  rw[e]
  exact og M n (aR n x) (aR n x).length rfl h8 a c B w1 (hq.below (h1.mono hB)) (Nat.le_trans hB h1.size) (fun z hz w2 h2=>by
   have hb:=h1.trans (h2.mono h1.size)
   exact AR M n (by omega) z B w2 ((CR hq hz).below (hb.mono hB)) (hrp z hz) (Nat.le_trans hB hb.size))
end Go.Proofs.YtmbjgiaebneodaaGreat
