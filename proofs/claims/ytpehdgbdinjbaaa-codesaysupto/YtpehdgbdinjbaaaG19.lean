/- What is proved here: plain facts and contracts that the claimed theorem stands on, several texts in one: the document's behaviour of a right term: it is read as sB says, and lies in memory. Condition: the term is right and lies in memory. the document's behaviour of any right term that lies in memory: it is read as sB says. Condition: the term is right and lies in memory. the document's SamePrograms, from what its To returns of both lists: both have the same error, are told the same, and are as long. No condition but those. -/
import Derived.Test.YtpehdgbdinjbaaaG18
import Derived.Test.YtpehdgbdinjbaaaG16
namespace Go.Proofs.Ytpehdgbdinjbaaa
open Go.RowKit

def RbOut (M : Nat) (o : Option (Bh (M + 1))) (B : Nat) (w : World) (e : Ending) (w' : World) : Prop :=
  ∃ (s : ByteArray) (a : Option Addr) (l c : Nat) (r : Bool), e = .returned (.tuple #[.agg #[.string s, .slice a l c], .bool r]) ∧ Hid (Below w.heap.size w w' ∧ r = o.isSome ∧ (∀ z, o = some z → ∃ cls : List (Cl (M + 1)), cls.length = l ∧ BhIn (M + 1) w'.heap.size w' (s, (a, c), cls) ∧ BhOff (M + 1) (fun b => b < B ∨ w.heap.size ≤ b) (s, (a, c), cls) ∧ bhS (M + 1) (s, (a, c), cls) z))
/-- What a behaviour is read as: it has a clause at least. -/
def sB (M n : Nat) (x : Tm n) : Option (Bh (M + 1)) := (rdB M n x).bind fun b => if 1 ≤ b.2.2.length then some b else none
theorem three_new (w : World) (o1 o2 o3 : Obj) : ((((w.alloc o1).alloc o2).alloc o3).heap[w.heap.size]? = some o1 ∧ (((w.alloc o1).alloc o2).alloc o3).heap[w.heap.size + 1]? = some o2 ∧ (((w.alloc o1).alloc o2).alloc o3).heap[w.heap.size + 1 + 1]? = some o3) ∧ Below w.heap.size w (((w.alloc o1).alloc o2).alloc o3) ∧ (((w.alloc o1).alloc o2).alloc o3).heap.size = w.heap.size + 1 + 1 + 1 := by
  have h12 := two_new w o1 o2
  refine ⟨⟨?_, ?_, new_last0 _ _ (by simp)⟩, by go_grown, by simp⟩
  · exact (alloc_keep _ o3 (by simp; omega)).trans h12.1
  · exact (alloc_keep _ o3 (by simp)).trans h12.2
/-- A behaviour's box while it is read. -/
def BhR (M n B : Nat) (w : World) (W1 : World) (nm : ByteArray) (args : List (Tm (n + 4))) (j : Nat) (wr : World) : Prop :=
  ∃ (a : Option Addr) (c : Nat) (cls zs : List (Cl (M + 1))), Below (w.heap.size + 1 + 1) W1 wr ∧ wr.heap[w.heap.size + 1 + 1]? = some (.cells #[.string nm, .slice a cls.length c] 127) ∧ Grow (ClIn (M + 1)) (ClOff (M + 1)) (cl13 (M + 1)) 13 135 B (w.heap.size + 1 + 1 + 1) cls (.slice a cls.length c) wr wr ∧ allV (rdC M (n + 4)) ((args.drop 2).take (j - 2)) = some zs ∧ RelL (clS (M + 1)) cls zs

theorem right_args {n : Nat} {x : Tm (n + 1)} (hr : RightA ⟨n + 1, x⟩) {y : Tm n} (hy : y ∈ x.2.2) : RightA ⟨n, y⟩ := fun a ha => hr a (by
  simp only [nodes, List.mem_cons, List.mem_flatMap]
  exact Or.inr ⟨y, hy, ha⟩)
theorem acS_refl {m B : Nat} {w : World} {a : Ac m} (h : AcIn m B w a) : acS m a a := ⟨rfl, in_self h.2.1, in_self h.2.2.1, rfl⟩
theorem relL_refl {α : Type} {R : α → α → Prop} : (l : List α) → (∀ x ∈ l, R x x) → RelL R l l := fun l h => ⟨rfl, fun i x y hx hy => by
  rw [hx] at hy
  injection hy with hy
  subst hy
  exact h x (List.mem_of_getElem? hx)⟩
/-- A clause that was read goes into the behaviour's box. -/
theorem cls_step {M n B : Nat} {w W1 wr W w4 : World} {nm : ByteArray} {args : List (Tm (n + 4))} {j : Nat} {ba : Option Addr} {bc cl g c : Nat} {cls zs : List (Cl (M + 1))} {x : Tm (n + 4)} {X Z : Cl (M + 1)} (hB : B ≤ w.heap.size) (hj : 2 ≤ j) (hcl : cls.length = cl)
    (r1 : Below (w.heap.size + 1 + 1) W1 wr) (r2 : wr.heap[w.heap.size + 1 + 1]? = some (.cells #[.string nm, .slice ba cl bc] 127)) (r3 : Grow (ClIn (M + 1)) (ClOff (M + 1)) (cl13 (M + 1)) 13 135 B (w.heap.size + 1 + 1 + 1) cls (.slice ba cl bc) wr wr) (r4 : allV (rdC M (n + 4)) ((args.drop 2).take (j - 2)) = some zs) (r5 : RelL (clS (M + 1)) cls zs)
    (hx : args[j]? = some x) (hz : rdC M (n + 4) x = some Z) (hs : clS (M + 1) X Z) (hW : Below wr.heap.size wr W) (hqz : w.heap.size + 1 + 1 < wr.heap.size) (iX : ClIn (M + 1) W.heap.size W X) (oX : ClOff (M + 1) (fun b => b < B ∨ wr.heap.size ≤ b) X)
    (hown : w4.ownsRow (w.heap.size + 1 + 1 + 1) 135 13 (.slice (some ⟨g, 0, none⟩) (cl + 1) c) (cl + 1) (cls.flatMap (cl13 (M + 1)) ++ cl13 (M + 1) X)) (hgrow : W.grownBy w4 (Value.slice ba cl bc).ownBlock) (hat : (Value.slice ba cl bc).ownBlock = some g ∨ g = W.heap.size) :
    w4.heap[w.heap.size + 1 + 1]? = some (.cells #[.string nm, .slice ba cl bc] 127) ∧ BhR M n B w W1 nm args (j + 1) (w4.setCell ⟨w.heap.size + 1 + 1, 1, none⟩ (.slice (some ⟨g, 0, none⟩) (cl + 1) c)) := by
  subst hcl
  have hst := Grow.step (cl_stays (M + 1)) r3 (by omega) (by omega) hW X iX oX hown hgrow hat
  have h4 : w4.heap[w.heap.size + 1 + 1]? = some (.cells #[.string nm, .slice ba cls.length bc] 127) := (hst.1.block _ (by omega)).trans r2
  have hk : Keeps (w.heap.size + 1 + 1) w4 (w4.setCell ⟨w.heap.size + 1 + 1, 1, none⟩ (.slice (some ⟨g, 0, none⟩) (cls.length + 1) c)) := Keeps.set (Keeps.refl _ _) _ _
  have hd : (args.drop 2)[j - 2]? = some x := by rw [List.getElem?_drop, show 2 + (j - 2) = j by omega]; exact hx
  refine ⟨h4, some ⟨g, 0, none⟩, c, cls ++ [X], zs ++ [Z], (r1.trans (hst.1.mono (by have := r1.size; omega))).setCell (Nat.le_refl _) _, ?_, ?_, ?_, r5.snoc hs⟩
  · rw [List.length_append]
    simp [World.setCell, Array.getElem?_modify, h4]
  · have h5 := hst.stored (cl_stays (M + 1)) hk (by omega) (by omega)
    rw [List.length_append]
    exact h5
  · rw [show j + 1 - 2 = j - 2 + 1 by omega]
    exact allV_take _ _ _ _ hd _ _ r4 hz
/-- What a clause is read as. -/
theorem rdC_is (M n : Nat) (x : Tm (n + 4)) (hon : isT (n + 3) x wOn 4 = true) {st ms ac nx : Tm (n + 3)} (hp : partsT (n + 3) x = [st, ms, ac, nx]) : rdC M (n + 4) x = if ac.1.1 = 4 then (allV (rdA M (n + 2)) ac.2.2).map fun l => ((lift (M + 1) (n + 3) st, lift (M + 1) (n + 3) ms, lift (M + 1) (n + 3) nx), (none, 0), l) else none := by
  rw [isT_word (n + 3) x wOn 4 (word_lit [111, 110] (by simp)), hp] at hon
  show rdCq M (n + 3) (wordT (n + 3) x) (partsT (n + 3) x) = _
  rw [hp]
  unfold rdCq
  rw [if_pos hon]
  rfl
theorem rdC_not (M n : Nat) (x : Tm (n + 4)) (hon : isT (n + 3) x wOn 4 = false) : rdC M (n + 4) x = none := by
  rw [isT_word (n + 3) x wOn 4 (word_lit [111, 110] (by simp))] at hon
  show rdCq M (n + 3) (wordT (n + 3) x) (partsT (n + 3) x) = _
  unfold rdCq
  rw [if_neg (by rw [hon]; simp)]
theorem rb_none {M : Nat} {o : Option (Bh (M + 1))} {B : Nat} {w w' : World} {s : ByteArray} {a : Option Addr} {l c : Nat} (ho : o = none) (hb : Below w.heap.size w w') : RbOut M o B w (.returned (.tuple #[.agg #[.string s, .slice a l c], .bool false])) w' := by
  subst ho
  exact ⟨s, a, l, c, false, rfl, hb, rfl, fun z hz => by cases hz⟩

set_option maxHeartbeats 40000000 in
set_option maxRecDepth 100000 in
theorem rbeh_walk (M n : Nat) (hM : n + 3 ≤ M + 1) (k0 u0 : Int) (s0 : ByteArray) (c0 L : Nat) (args : List (Tm (n + 4))) (hL : Hid (args.length = L)) (B : Nat) (w : World) (o : Option (Bh (M + 1))) (hB : B ≤ w.heap.size) (h3 : 3 ≤ L) (h8 : L ≤ 8) (pb po : Nat) (hpb : pb < B) (nm : ByteArray)
    (HIS : Hid (∀ w1, Below w.heap.size w w1 → Calls Try.prog 74 #[.agg #[.int .i64 k0, .int .i64 u0, .string s0, .slice (some ⟨pb, po, none⟩) L c0], .string ⟨#[98, 101, 104]⟩, .int .i64 ((L : Int) - 1)] w1 fun e w' => e = .returned (.bool true) ∧ Below w1.heap.size w1 w'))
    (HC1 : Hid (∀ w1, Below w.heap.size w w1 → w1.cell? ⟨pb, po + 4, none⟩ = some (.int .i64 2) ∧ w1.cell? ⟨pb, po + 4 + 2, none⟩ = some (.string nm)))
    (HAR : Hid (∀ (i : Nat) (y : Tm (n + 4)), args[i]? = some y → RightA ⟨n + 4, y⟩ ∧ ∀ w1, Below w.heap.size w w1 → Held w1 pb (po + i * 4) (n + 4) y ∧ In B w1 (n + 4) y))
    (HO1 : Hid (∀ (j : Nat) (x : Tm (n + 4)), 2 ≤ j → args[j]? = some x → rdC M (n + 4) x = none → o = none)) (HO2 : Hid (∀ zs, allV (rdC M (n + 4)) (args.drop 2) = some zs → o = some (nm, (none, 0), zs))) (hnm : Hid (nm.size ≤ maxLen)) :
    Calls Try.prog 75 #[.agg #[.int .i64 k0, .int .i64 u0, .string s0, .slice (some ⟨pb, po, none⟩) L c0]] w (RbOut M o B w) := by
  have hL3 : decide ((L : Int) < 3) = false := by simp; omega
  have hL1 : (1 : Int) < (L : Int) := by omega
  have hpw : pb < w.heap.size := by omega
  go_enter Try.func75, Try.ntmps75
  go_wp2_with fail
  have HN := hide (three_new w (.cells #[.int .i64 k0, .int .i64 u0, .string s0, .slice (some ⟨pb, po, none⟩) L c0] 24) (.cells #[.string ⟨#[]⟩, .slice none 0 0] 127) (.cells #[.string ⟨#[]⟩, .slice none 0 0] 127))
  generalize hW0 : ((w.alloc _).alloc _).alloc _ = W0
  rw [hW0] at HN
  clear hW0
  refine (HIS.out _ HN.out.2.1).mono ?_
  rintro e w1 ⟨rfl, hb1⟩
  have hz0 : W0.heap.size = w.heap.size + 1 + 1 + 1 := HN.out.2.2
  have HX1 : Hid (w1.heap[w.heap.size]? = some (.cells #[.int .i64 k0, .int .i64 u0, .string s0, .slice (some ⟨pb, po, none⟩) L c0] 24) ∧ w1.heap[w.heap.size + 1]? = some (.cells #[.string ⟨#[]⟩, .slice none 0 0] 127) ∧ w1.heap[w.heap.size + 1 + 1]? = some (.cells #[.string ⟨#[]⟩, .slice none 0 0] 127)) := ⟨(hb1.block _ (by omega)).trans HN.out.1.1, (hb1.block _ (by omega)).trans HN.out.1.2.1, (hb1.block _ (by omega)).trans HN.out.1.2.2⟩
  have HB1 : Hid (Below w.heap.size w w1) := HN.out.2.1.trans (hb1.mono HN.out.2.1.size)
  have hz1 : w.heap.size + 1 + 1 < w1.heap.size := by have := hb1.size; omega
  clear hb1 HN hz0
  have t3 : w1.cell? ⟨w.heap.size, 3, none⟩ = some (.slice (some ⟨pb, po, none⟩) L c0) := box_cell HX1.out.1 3
  obtain ⟨k1, k2⟩ := HC1.out w1 HB1.out
  have b0 : w1.cell? ⟨w.heap.size + 1 + 1, 0, none⟩ = some (.string ⟨#[]⟩) := box_cell HX1.out.2.2 0
  have f0 := box_free HX1.out.2.2 0
  go_wp2_with fail
  have HW1 : Hid (Below w.heap.size w (w1.setCell ⟨w.heap.size + 1 + 1, 0, none⟩ (.string nm)) ∧ (w1.setCell ⟨w.heap.size + 1 + 1, 0, none⟩ (.string nm)).heap[w.heap.size]? = some (.cells #[.int .i64 k0, .int .i64 u0, .string s0, .slice (some ⟨pb, po, none⟩) L c0] 24) ∧ (w1.setCell ⟨w.heap.size + 1 + 1, 0, none⟩ (.string nm)).heap[w.heap.size + 1]? = some (.cells #[.string ⟨#[]⟩, .slice none 0 0] 127) ∧ (w1.setCell ⟨w.heap.size + 1 + 1, 0, none⟩ (.string nm)).heap[w.heap.size + 1 + 1]? = some (.cells #[.string nm, .slice none 0 0] 127) ∧ w.heap.size + 1 + 1 < (w1.setCell ⟨w.heap.size + 1 + 1, 0, none⟩ (.string nm)).heap.size) := by
    have hk : Keeps (w.heap.size + 1 + 1) w1 (w1.setCell ⟨w.heap.size + 1 + 1, 0, none⟩ (.string nm)) := Keeps.set (Keeps.refl _ _) _ _
    refine ⟨hk.below HB1.out (by omega), (hk.2.2 _ (by omega)).trans HX1.out.1, (hk.2.2 _ (by omega)).trans HX1.out.2.1, ?_, by rw [hk.2.1]; exact hz1⟩
    simp [World.setCell, Array.getElem?_modify, HX1.out.2.2]
  generalize hW1 : w1.setCell ⟨w.heap.size + 1 + 1, 0, none⟩ (.string nm) = W1
  rw [hW1] at HW1
  clear hW1 t3 k1 k2 b0 f0 HX1 hz1 HB1
  go_loopw [6] (fun i wr => ∃ j : Nat, 2 ≤ j ∧ j ≤ L ∧ i = .int .i64 j ∧ Hid (BhR M n B w W1 nm args j wr)) (fun i _ => L - (intOf i).toNat)
  case atStart => exact ⟨2, by omega, by omega, rfl, none, 0, [], [], Below.refl _ _, HW1.out.2.2.2.1, Grow.nil _, by simp [allV], RelL.nil⟩
  case round =>
    obtain ⟨j, hj2, hjL, rfl, HR⟩ := hrel
    obtain ⟨ba, bc, cls, zs, r1, r2, r3, r4, r5⟩ := HR.out
    have HR1 := hide r1
    have HR2 := hide r2
    have HR3 := hide r3
    have HR45 := hide (⟨r4, r5⟩ : _ ∧ _)
    clear HR r1 r2 r3 r4 r5
    obtain ⟨cl, hcl⟩ : ∃ cl, cls.length = cl := ⟨_, rfl⟩
    rw [hcl] at HR2 HR3
    have HCL := hide hcl
    clear hcl
    have HBW : Hid (Below w.heap.size w wr) := HW1.out.1.trans (HR1.out.mono (by omega))
    have HQ0 : Hid (wr.heap[w.heap.size]? = some (.cells #[.int .i64 k0, .int .i64 u0, .string s0, .slice (some ⟨pb, po, none⟩) L c0] 24)) := (HR1.out.block _ (by omega)).trans HW1.out.2.1
    have HQ1 : Hid (wr.heap[w.heap.size + 1]? = some (.cells #[.string ⟨#[]⟩, .slice none 0 0] 127)) := (HR1.out.block _ (by omega)).trans HW1.out.2.2.1
    have hz2 : w.heap.size + 1 + 1 < wr.heap.size := (Array.getElem?_eq_some_iff.1 HR2.out).1
    have t3 : wr.cell? ⟨w.heap.size, 3, none⟩ = some (.slice (some ⟨pb, po, none⟩) L c0) := box_cell HQ0.out 3
    by_cases hlt : j < L
    rotate_left
    · obtain rfl : j = L := by omega
      have HO : Hid (o = some (nm, (none, 0), zs)) := HO2.out zs (by
        have h := HR45.out.1
        rw [List.take_of_length_le (by rw [List.length_drop, hL.out]; omega)] at h
        exact h)
      have b0 : wr.cell? ⟨w.heap.size + 1 + 1, 0, none⟩ = some (.string nm) := box_cell HR2.out 0
      have b1 : wr.cell? ⟨w.heap.size + 1 + 1, 1, none⟩ = some (.slice ba cl bc) := box_cell HR2.out 1
      have m0 : wr.cell? ⟨w.heap.size + 1, 0, none⟩ = some (.string ⟨#[]⟩) := box_cell HQ1.out 0
      have m1 : wr.cell? ⟨w.heap.size + 1, 1, none⟩ = some (.slice none 0 0) := box_cell HQ1.out 1
      have mf0 := box_free HQ1.out 0
      have mf1 := box_free HQ1.out 1
      have hq1z : w.heap.size + 1 < wr.heap.size := by omega
      go_wp2_with fail
      refine bodyPost_ret (v := .tuple #[.agg #[.string nm, .slice ba cl bc], .bool true]) (by simp [results, Try.results75, go_sem, m0, m1]) rfl ?_
      have hk : Keeps (w.heap.size + 1) wr ((wr.setCell ⟨w.heap.size + 1, 0, none⟩ (.string nm)).setCell ⟨w.heap.size + 1, 1, none⟩ (.slice ba cl bc)) := Keeps.set (Keeps.set (Keeps.refl _ _) _ _) _ _
      have hG := HR3.out.stored (cl_stays (M + 1)) hk (by omega) (by omega)
      obtain ⟨la, lc, lv, lh, ll, lo⟩ := hG.lay (cl_stays (M + 1)) (fun a => (rfl : (cl13 (M + 1) a).length = 13))
      injection lv with l1 l2 l3
      subst l1 l3
      refine ⟨nm, ba, cl, bc, true, rfl, hk.below HBW.out (by omega), by rw [HO.out]; rfl, fun z hz => ?_⟩
      rw [HO.out] at hz
      injection hz with hz
      subst hz
      refine ⟨cls, HCL.out, ⟨hnm.out, lh, ll⟩, ?_, rfl, HR45.out.2⟩
      exact (lay_stays (cl_stays (M + 1)) 13 (cl13 (M + 1)) ba).1 _ _ cls (fun b hb => by omega) lo
    · obtain ⟨x, hx⟩ : ∃ x, args[j]? = some x := ⟨args[j]'(by rw [hL.out]; exact hlt), List.getElem?_eq_getElem _⟩
      have HX := hide hx
      have HRX := hide (HAR.out j x hx).1
      have HIX := hide (HAR.out j x hx).2
      clear hx
      obtain ⟨⟨x0, x1, x2, x3⟩, _⟩ := HIX.out wr HBW.out
      have hj1 : (0 : Int) ≤ (j : Int) := by omega
      have hjLi : (j : Int) < (L : Int) := by omega
      have HISX : Hid (∀ w1, Below w.heap.size w w1 → Calls Try.prog 74 #[.agg #[.int .i64 x.1.1, .int .i64 x.1.2.1, .string x.1.2.2, .slice x.2.1.1 x.2.2.length x.2.1.2], .string ⟨#[111, 110]⟩, .int .i64 4] w1 fun e w' => e = .returned (.bool (isT (n + 3) x wOn 4)) ∧ Below w1.heap.size w1 w') := fun w1 h1 => ris_any (n + 3) x B wOn 4 w1 (HIX.out w1 h1).2 (Nat.le_trans hB h1.size) HRX.out (by omega)
      generalize hon : isT (n + 3) x wOn 4 = on at *
      have HON := hide hon
      clear hon
      go_wp2_with fail
      refine (HISX.out _ (HBW.out.trans (one_alloc.mono HBW.out.size))).mono ?_
      rintro e w3 ⟨rfl, hb3⟩
      have HX3 := hide (box4_new wr _ _ _ _ _ hb3)
      have HB3 : Hid (Below wr.heap.size wr w3) := one_alloc.trans (hb3.mono (by simp))
      have hz3 : wr.heap.size < w3.heap.size := (Array.getElem?_eq_some_iff.1 HX3.out).1
      clear hb3 x0 x1 x2 x3 t3
      cases on
      · have HBw := hide (show Below wr.heap.size wr w3 from HB3.out)
        have HB0 : Hid (w3.heap[w.heap.size + 1 + 1]? = some (.cells #[.string nm, .slice ba cl bc] 127)) := (HBw.out.block _ (by omega)).trans HR2.out
        have HQ9 : Hid (w3.heap[w.heap.size + 1]? = some (.cells #[.string ⟨#[]⟩, .slice none 0 0] 127)) := (HBw.out.block _ (by omega)).trans HQ1.out
        have n0 : w3.cell? ⟨w.heap.size + 1 + 1, 0, none⟩ = some (.string nm) := box_cell HB0.out 0
        have n1 : w3.cell? ⟨w.heap.size + 1 + 1, 1, none⟩ = some (.slice ba cl bc) := box_cell HB0.out 1
        have m0 : w3.cell? ⟨w.heap.size + 1, 0, none⟩ = some (.string ⟨#[]⟩) := box_cell HQ9.out 0
        have m1 : w3.cell? ⟨w.heap.size + 1, 1, none⟩ = some (.slice none 0 0) := box_cell HQ9.out 1
        have mf0 := box_free HQ9.out 0
        have mf1 := box_free HQ9.out 1
        have HNO : Hid (o = none) := HO1.out j x hj2 HX.out (rdC_not M n x HON.out)
        go_wp2_with fail
        refine bodyPost_ret (v := .tuple #[.agg #[.string nm, .slice ba cl bc], .bool false]) (by simp [results, Try.results75, go_sem, m0, m1]) rfl ?_
        have hk : Keeps (w.heap.size + 1) w3 ((w3.setCell ⟨w.heap.size + 1, 0, none⟩ (.string nm)).setCell ⟨w.heap.size + 1, 1, none⟩ (.slice ba cl bc)) := Keeps.set (Keeps.set (Keeps.refl _ _) _ _) _ _
        exact rb_none HNO.out (hk.below (HBW.out.trans (HBw.out.mono HBW.out.size)) (by omega))
      · obtain ⟨h0, hx5, hq4, hx4⟩ := isT_parts HON.out
        obtain ⟨st, ms, ac, nx, hps⟩ : ∃ st ms ac nx, partsT (n + 3) x = [st, ms, ac, nx] := by
          match hp : partsT (n + 3) x, hq4 with
          | [st, ms, ac, nx], _ => exact ⟨st, ms, ac, nx, rfl⟩
        rw [hps] at hx5
        have HP := hide (⟨hx5, hps⟩ : _ ∧ _)
        obtain ⟨xb, xo, hxa, hxb, hxs⟩ : ∃ xb xo, x.2.1.1 = some ⟨xb, xo, none⟩ ∧ xb < B ∧ True := by
          rcases (HIX.out w3 (HBW.out.trans (HB3.out.mono HBW.out.size))).2.2 with e | ⟨b, o, e1, e2, _⟩
          · rw [hx5] at e; cases e
          · exact ⟨b, o, e1, e2, trivial⟩
        have HXS : Hid (∀ w1, Below w.heap.size w w1 → ∀ (i : Nat) (y : Tm (n + 3)), x.2.2[i]? = some y → Held w1 xb (xo + i * 4) (n + 3) y ∧ In B w1 (n + 3) y) := fun w1 h1 => by
          rcases (HIX.out w1 h1).2.2 with e | ⟨b, o, e1, e2, e3⟩
          · rw [hx5] at e; cases e
          · rw [hxa] at e1
            injection e1 with e1
            injection e1 with e4 e5
            subst e4 e5
            exact e3
        rw [hxa, hx4] at HX3
        have HB3w : Hid (Below w.heap.size w w3) := HBW.out.trans (HB3.out.mono HBW.out.size)
        have x3 : w3.cell? ⟨wr.heap.size, 3, none⟩ = some (.slice (some ⟨xb, xo, none⟩) 5 x.2.1.2) := box_cell HX3.out 3
        have HPW : Hid (∀ w1, Below w.heap.size w w1 → ((w1.cell? ⟨xb, xo + 4, none⟩ = some (.int .i64 st.1.1) ∧ w1.cell? ⟨xb, xo + 4 + 1, none⟩ = some (.int .i64 st.1.2.1) ∧ w1.cell? ⟨xb, xo + 4 + 2, none⟩ = some (.string st.1.2.2) ∧ w1.cell? ⟨xb, xo + 4 + 3, none⟩ = some (.slice st.2.1.1 st.2.2.length st.2.1.2)) ∧ (w1.cell? ⟨xb, xo + 8, none⟩ = some (.int .i64 ms.1.1) ∧ w1.cell? ⟨xb, xo + 8 + 1, none⟩ = some (.int .i64 ms.1.2.1) ∧ w1.cell? ⟨xb, xo + 8 + 2, none⟩ = some (.string ms.1.2.2) ∧ w1.cell? ⟨xb, xo + 8 + 3, none⟩ = some (.slice ms.2.1.1 ms.2.2.length ms.2.1.2)) ∧ (w1.cell? ⟨xb, xo + 16, none⟩ = some (.int .i64 nx.1.1) ∧ w1.cell? ⟨xb, xo + 16 + 1, none⟩ = some (.int .i64 nx.1.2.1) ∧ w1.cell? ⟨xb, xo + 16 + 2, none⟩ = some (.string nx.1.2.2) ∧ w1.cell? ⟨xb, xo + 16 + 3, none⟩ = some (.slice nx.2.1.1 nx.2.2.length nx.2.1.2)) ∧ w1.cell? ⟨xb, xo + 12, none⟩ = some (.int .i64 ac.1.1) ∧ w1.cell? ⟨xb, xo + 12 + 3, none⟩ = some (.slice ac.2.1.1 ac.2.2.length ac.2.1.2)) ∧ In B w1 (n + 3) st ∧ In B w1 (n + 3) ms ∧ In B w1 (n + 3) ac ∧ In B w1 (n + 3) nx) := fun w1 h1 => by
          have g := HXS.out w1 h1
          rw [hx5] at g
          have g1 := g 1 st (by simp)
          have g2 := g 2 ms (by simp)
          have g3 := g 3 ac (by simp)
          have g4 := g 4 nx (by simp)
          exact ⟨⟨g1.1, g2.1, g4.1, g3.1.1, g3.1.2.2.2⟩, g1.2, g2.2, g3.2, g4.2⟩
        clear HXS hx5 hps hq4 hx4 hxs
        obtain ⟨⟨s1, s2, s3, a0, a3⟩, _⟩ := HPW.out w3 HB3w.out
        by_cases hk4 : ac.1.1 = 4
        rotate_left
        · have hk4' : (ac.1.1 != 4) = true := by simp [hk4]
          have HBw := hide (show Below wr.heap.size wr w3 from HB3.out)
          have HB0 : Hid (w3.heap[w.heap.size + 1 + 1]? = some (.cells #[.string nm, .slice ba cl bc] 127)) := (HBw.out.block _ (by omega)).trans HR2.out
          have HQ9 : Hid (w3.heap[w.heap.size + 1]? = some (.cells #[.string ⟨#[]⟩, .slice none 0 0] 127)) := (HBw.out.block _ (by omega)).trans HQ1.out
          have n0 : w3.cell? ⟨w.heap.size + 1 + 1, 0, none⟩ = some (.string nm) := box_cell HB0.out 0
          have n1 : w3.cell? ⟨w.heap.size + 1 + 1, 1, none⟩ = some (.slice ba cl bc) := box_cell HB0.out 1
          have m0 : w3.cell? ⟨w.heap.size + 1, 0, none⟩ = some (.string ⟨#[]⟩) := box_cell HQ9.out 0
          have m1 : w3.cell? ⟨w.heap.size + 1, 1, none⟩ = some (.slice none 0 0) := box_cell HQ9.out 1
          have mf0 := box_free HQ9.out 0
          have mf1 := box_free HQ9.out 1
          have HNO : Hid (o = none) := HO1.out j x hj2 HX.out (by rw [rdC_is M n x HON.out HP.out.2, if_neg hk4])
          go_wp2_with fail
          refine bodyPost_ret (v := .tuple #[.agg #[.string nm, .slice ba cl bc], .bool false]) (by simp [results, Try.results75, go_sem, m0, m1]) rfl ?_
          have hk : Keeps (w.heap.size + 1) w3 ((w3.setCell ⟨w.heap.size + 1, 0, none⟩ (.string nm)).setCell ⟨w.heap.size + 1, 1, none⟩ (.slice ba cl bc)) := Keeps.set (Keeps.set (Keeps.refl _ _) _ _) _ _
          exact rb_none HNO.out (hk.below (HBW.out.trans (HBw.out.mono HBW.out.size)) (by omega))
        · have hk4' : (ac.1.1 != 4) = false := by simp [hk4]
          have HK12 : Hid (∀ w', Below w3.heap.size w3 w' → w'.cell? ⟨wr.heap.size, 3, none⟩ = some (.slice (some ⟨xb, xo, none⟩) 5 x.2.1.2) ∧ (w'.cell? ⟨xb, xo + 4, none⟩ = some (.int .i64 st.1.1) ∧ w'.cell? ⟨xb, xo + 4 + 1, none⟩ = some (.int .i64 st.1.2.1) ∧ w'.cell? ⟨xb, xo + 4 + 2, none⟩ = some (.string st.1.2.2) ∧ w'.cell? ⟨xb, xo + 4 + 3, none⟩ = some (.slice st.2.1.1 st.2.2.length st.2.1.2)) ∧ (w'.cell? ⟨xb, xo + 8, none⟩ = some (.int .i64 ms.1.1) ∧ w'.cell? ⟨xb, xo + 8 + 1, none⟩ = some (.int .i64 ms.1.2.1) ∧ w'.cell? ⟨xb, xo + 8 + 2, none⟩ = some (.string ms.1.2.2) ∧ w'.cell? ⟨xb, xo + 8 + 3, none⟩ = some (.slice ms.2.1.1 ms.2.2.length ms.2.1.2)) ∧ (w'.cell? ⟨xb, xo + 16, none⟩ = some (.int .i64 nx.1.1) ∧ w'.cell? ⟨xb, xo + 16 + 1, none⟩ = some (.int .i64 nx.1.2.1) ∧ w'.cell? ⟨xb, xo + 16 + 2, none⟩ = some (.string nx.1.2.2) ∧ w'.cell? ⟨xb, xo + 16 + 3, none⟩ = some (.slice nx.2.1.1 nx.2.2.length nx.2.1.2))) := fun w' h => by
            have g := (HPW.out w' (HB3w.out.trans (h.mono HB3w.out.size))).1
            exact ⟨box_cell ((h.block _ hz3).trans HX3.out) 3, g.1, g.2.1, g.2.2.1⟩
          obtain ⟨s11, s12, s13, s14⟩ := s1
          obtain ⟨s21, s22, s23, s24⟩ := s2
          obtain ⟨s31, s32, s33, s34⟩ := s3
          have hxw : xb < w3.heap.size := by omega
          go_wp2_with fail
          go_region_held3 (fun w' => w'.cell? ⟨wr.heap.size, 3, none⟩ = some (.slice (some ⟨xb, xo, none⟩) 5 x.2.1.2) ∧ (w'.cell? ⟨xb, xo + 4, none⟩ = some (.int .i64 st.1.1) ∧ w'.cell? ⟨xb, xo + 4 + 1, none⟩ = some (.int .i64 st.1.2.1) ∧ w'.cell? ⟨xb, xo + 4 + 2, none⟩ = some (.string st.1.2.2) ∧ w'.cell? ⟨xb, xo + 4 + 3, none⟩ = some (.slice st.2.1.1 st.2.2.length st.2.1.2)) ∧ (w'.cell? ⟨xb, xo + 8, none⟩ = some (.int .i64 ms.1.1) ∧ w'.cell? ⟨xb, xo + 8 + 1, none⟩ = some (.int .i64 ms.1.2.1) ∧ w'.cell? ⟨xb, xo + 8 + 2, none⟩ = some (.string ms.1.2.2) ∧ w'.cell? ⟨xb, xo + 8 + 3, none⟩ = some (.slice ms.2.1.1 ms.2.2.length ms.2.1.2)) ∧ (w'.cell? ⟨xb, xo + 16, none⟩ = some (.int .i64 nx.1.1) ∧ w'.cell? ⟨xb, xo + 16 + 1, none⟩ = some (.int .i64 nx.1.2.1) ∧ w'.cell? ⟨xb, xo + 16 + 2, none⟩ = some (.string nx.1.2.2) ∧ w'.cell? ⟨xb, xo + 16 + 3, none⟩ = some (.slice nx.2.1.1 nx.2.2.length nx.2.1.2))) (first | (go_keep; done) | (refine HK12.out _ ?_; go_grown; done)) (fail)
          go_wp2_with fail
          have HZ : Hid (Below w3.heap.size w3 (w3.alloc (.cells #[.int .i64 st.1.1, .int .i64 st.1.2.1, .string st.1.2.2, .slice st.2.1.1 st.2.2.length st.2.1.2, .int .i64 ms.1.1, .int .i64 ms.1.2.1, .string ms.1.2.2, .slice ms.2.1.1 ms.2.2.length ms.2.1.2, .slice none 0 0, .int .i64 nx.1.1, .int .i64 nx.1.2.1, .string nx.1.2.2, .slice nx.2.1.1 nx.2.2.length nx.2.1.2] 135)).drew ∧ (w3.alloc (.cells #[.int .i64 st.1.1, .int .i64 st.1.2.1, .string st.1.2.2, .slice st.2.1.1 st.2.2.length st.2.1.2, .int .i64 ms.1.1, .int .i64 ms.1.2.1, .string ms.1.2.2, .slice ms.2.1.1 ms.2.2.length ms.2.1.2, .slice none 0 0, .int .i64 nx.1.1, .int .i64 nx.1.2.1, .string nx.1.2.2, .slice nx.2.1.1 nx.2.2.length nx.2.1.2] 135)).drew.heap.size = w3.heap.size + 1 ∧ (w3.alloc (.cells #[.int .i64 st.1.1, .int .i64 st.1.2.1, .string st.1.2.2, .slice st.2.1.1 st.2.2.length st.2.1.2, .int .i64 ms.1.1, .int .i64 ms.1.2.1, .string ms.1.2.2, .slice ms.2.1.1 ms.2.2.length ms.2.1.2, .slice none 0 0, .int .i64 nx.1.1, .int .i64 nx.1.2.1, .string nx.1.2.2, .slice nx.2.1.1 nx.2.2.length nx.2.1.2] 135)).drew.heap[w3.heap.size]? = some (.cells #[.int .i64 st.1.1, .int .i64 st.1.2.1, .string st.1.2.2, .slice st.2.1.1 st.2.2.length st.2.1.2, .int .i64 ms.1.1, .int .i64 ms.1.2.1, .string ms.1.2.2, .slice ms.2.1.1 ms.2.2.length ms.2.1.2, .slice none 0 0, .int .i64 nx.1.1, .int .i64 nx.1.2.1, .string nx.1.2.2, .slice nx.2.1.1 nx.2.2.length nx.2.1.2] 135)) := ⟨by go_grown, by simp, new_last w3 _ rfl⟩
          generalize hWz : (w3.alloc _).drew = Wz
          rw [hWz] at HZ
          clear hWz s11 s12 s13 s14 s21 s22 s23 s24 s31 s32 s33 s34 a0 a3 x3 HK12
          have HWR : Hid (Below wr.heap.size wr Wz) := HB3.out.trans (HZ.out.1.mono HB3.out.size)
          have HRA : Hid (RightA ⟨n + 3, ac⟩) := right_args HRX.out (by rw [HP.out.1]; simp)
          have hm3 : ac.2.2.length ≤ 8 := right_len HRA.out hk4
          have HTO : Hid (∀ w1, Below w3.heap.size Wz w1 → Below w.heap.size w w1) := fun w1 h1 => HBW.out.trans ((HWR.out.trans (h1.mono (by omega))).mono HBW.out.size)
          refine rb_acts M n (by omega) ac.2.2 st ms nx B wr.heap.size w3.heap.size (w.heap.size + 1 + 1) (w.heap.size + 1) xb xo x.2.1.2 ac.2.1.2 ac.2.2.length ac.2.1.1 nm ba cl bc Wz (by omega) (by omega) (by omega) hz3 HZ.out.2.1 hm3 rfl hxb
            (box_cell ((HZ.out.1.block _ hz3).trans HX3.out) 3) HZ.out.2.2 ((HWR.out.block _ (by omega)).trans HR2.out) ((HWR.out.block _ (by omega)).trans HQ1.out)
            (fun w1 h1 => ⟨(HPW.out w1 (HTO.out w1 h1)).1.2.2.2.2, fun i y hy => ⟨right_args HRA.out (List.mem_of_getElem? hy), ?ys⟩⟩) (fun x3 x10 x73 x74 x75 x76 x77 x78 x79 x80 x81 x82 x83 x84 x85 x86 x87 x88 x89 x90 x91 x92 x93 x94 x95 x96 x97 x98 x99 x100 x101 x102 x103 x104 x105 x106 x107 x108 x109 x110 x111 x112 x113 x114 x115 x116 x117 x118 x119 x120 x121 x122 x123 x124 x125 x126 x127 x128 x129 x130 x131 x132 x133 x134 x135 x136 x137 x138 x139 x140 x141 x142 x143 x144 x145 x146 x147 x148 x149 x150 x151 x152 x153 x154 x155 x156 x157 x158 x159 x160 x161 x162 x163 x164 x165 x166 x167 x168 x169 wq HA => ?go) (fun x9 x10 x73 x74 x75 x76 x77 x78 x79 x80 x81 x82 x83 x84 x85 x86 x87 x88 x89 x90 x91 x92 x93 x94 x95 x96 x97 x98 x99 x100 x101 x102 x103 x104 x105 x106 x107 x108 x109 x110 x111 x112 x113 x114 x115 x116 x117 x118 x119 x120 x121 x122 x123 x124 x125 x126 x127 x128 x129 x130 x131 x132 x133 x134 x135 x136 x137 x138 x139 x140 x141 x142 x143 x144 x145 x146 x147 x148 x149 x150 x151 x152 x153 x154 x155 x156 x157 x158 x159 x160 x161 x162 x163 x164 x165 x166 x167 x168 x169 wq HA => ?no)
          case ys =>
            rcases (HPW.out w1 (HTO.out w1 h1)).2.2.2.1.2 with e | ⟨b, o, e1, e2, e3⟩
            · rw [e] at hy; simp at hy
            · exact ⟨b, o, e1, e2, (e3 i y hy).1, (e3 i y hy).2⟩
          case no =>
            have HNO : Hid (o = none) := HO1.out j x hj2 HX.out (by rw [rdC_is M n x HON.out HP.out.2, if_pos hk4, HA.out.2.1]; rfl)
            have m0 : wq.cell? ⟨w.heap.size + 1, 0, none⟩ = some (.string nm) := box_cell HA.out.2.2 0
            have m1 : wq.cell? ⟨w.heap.size + 1, 1, none⟩ = some (.slice ba cl bc) := box_cell HA.out.2.2 1
            change bodyPost Try.prog Try.f75 (RbOut M o B w) Exit.ret _ wq
            refine bodyPost_ret (v := .tuple #[.agg #[.string nm, .slice ba cl bc], .bool false]) (by simp [results, Try.results75, go_sem, m0, m1]) rfl ?_
            exact rb_none HNO.out (HBW.out.trans ((HWR.out.mono HBW.out.size).trans (HA.out.1.mono (show w.heap.size ≤ w.heap.size + 1 by omega))))
          case go =>
            obtain ⟨aa, acap, acts, q1', q2', q3', q4'⟩ := HA.out
            clear HA
            obtain ⟨al, hal⟩ : ∃ al, acts.length = al := ⟨_, rfl⟩
            rw [hal] at q2' q3'
            have HC1' := hide q1'
            have HC2 := hide q2'
            have HC3 := hide q3'
            have HAL := hide hal
            have HRC : Hid (rdC M (n + 4) x = some ((lift (M + 1) (n + 3) st, lift (M + 1) (n + 3) ms, lift (M + 1) (n + 3) nx), (none, 0), acts)) := (by
              show _ = _
              rw [List.take_of_length_le (Nat.le_refl _)] at q4'
              rw [rdC_is M n x HON.out HP.out.2, if_pos hk4, q4']
              rfl)
            clear q1' q2' q3' q4' hal
            have HBQ : Hid (Below wr.heap.size wr wq) := HWR.out.trans (HC1'.out.mono (by omega))
            have hzq : wr.heap.size < wq.heap.size := by have := HC1'.out.size; have := HZ.out.2.1; omega
            have HBS : Hid (Below wq.heap.size wq (wq.alloc (.cells #[.int .i64 st.1.1, .int .i64 st.1.2.1, .string st.1.2.2, .slice st.2.1.1 st.2.2.length st.2.1.2, .int .i64 ms.1.1, .int .i64 ms.1.2.1, .string ms.1.2.2, .slice ms.2.1.1 ms.2.2.length ms.2.1.2, .slice aa al acap, .int .i64 nx.1.1, .int .i64 nx.1.2.1, .string nx.1.2.2, .slice nx.2.1.1 nx.2.2.length nx.2.1.2] 135)) ∧ (wq.alloc (.cells #[.int .i64 st.1.1, .int .i64 st.1.2.1, .string st.1.2.2, .slice st.2.1.1 st.2.2.length st.2.1.2, .int .i64 ms.1.1, .int .i64 ms.1.2.1, .string ms.1.2.2, .slice ms.2.1.1 ms.2.2.length ms.2.1.2, .slice aa al acap, .int .i64 nx.1.1, .int .i64 nx.1.2.1, .string nx.1.2.2, .slice nx.2.1.1 nx.2.2.length nx.2.1.2] 135)).heap.size = wq.heap.size + 1 ∧ (wq.alloc (.cells #[.int .i64 st.1.1, .int .i64 st.1.2.1, .string st.1.2.2, .slice st.2.1.1 st.2.2.length st.2.1.2, .int .i64 ms.1.1, .int .i64 ms.1.2.1, .string ms.1.2.2, .slice ms.2.1.1 ms.2.2.length ms.2.1.2, .slice aa al acap, .int .i64 nx.1.1, .int .i64 nx.1.2.1, .string nx.1.2.2, .slice nx.2.1.1 nx.2.2.length nx.2.1.2] 135)).heap[wq.heap.size]? = some (.cells #[.int .i64 st.1.1, .int .i64 st.1.2.1, .string st.1.2.2, .slice st.2.1.1 st.2.2.length st.2.1.2, .int .i64 ms.1.1, .int .i64 ms.1.2.1, .string ms.1.2.2, .slice ms.2.1.1 ms.2.2.length ms.2.1.2, .slice aa al acap, .int .i64 nx.1.1, .int .i64 nx.1.2.1, .string nx.1.2.2, .slice nx.2.1.1 nx.2.2.length nx.2.1.2] 135)) := ⟨by go_grown, by simp, new_last0 _ _ rfl⟩
            have HBB : Hid (Below wr.heap.size wr (wq.alloc (.cells #[.int .i64 st.1.1, .int .i64 st.1.2.1, .string st.1.2.2, .slice st.2.1.1 st.2.2.length st.2.1.2, .int .i64 ms.1.1, .int .i64 ms.1.2.1, .string ms.1.2.2, .slice ms.2.1.1 ms.2.2.length ms.2.1.2, .slice aa al acap, .int .i64 nx.1.1, .int .i64 nx.1.2.1, .string nx.1.2.2, .slice nx.2.1.1 nx.2.2.length nx.2.1.2] 135))) := HBQ.out.trans (HBS.out.1.mono HBQ.out.size)
            have HLY : Hid (((acts.length ≤ acap ∧ acap ≤ maxLen) ∧ Lay (wq.alloc (.cells #[.int .i64 st.1.1, .int .i64 st.1.2.1, .string st.1.2.2, .slice st.2.1.1 st.2.2.length st.2.1.2, .int .i64 ms.1.1, .int .i64 ms.1.2.1, .string ms.1.2.2, .slice ms.2.1.1 ms.2.2.length ms.2.1.2, .slice aa al acap, .int .i64 nx.1.1, .int .i64 nx.1.2.1, .string nx.1.2.2, .slice nx.2.1.1 nx.2.2.length nx.2.1.2] 135)).heap.size (wq.alloc (.cells #[.int .i64 st.1.1, .int .i64 st.1.2.1, .string st.1.2.2, .slice st.2.1.1 st.2.2.length st.2.1.2, .int .i64 ms.1.1, .int .i64 ms.1.2.1, .string ms.1.2.2, .slice ms.2.1.1 ms.2.2.length ms.2.1.2, .slice aa al acap, .int .i64 nx.1.1, .int .i64 nx.1.2.1, .string nx.1.2.2, .slice nx.2.1.1 nx.2.2.length nx.2.1.2] 135)) 11 (ac11 (M + 1)) (AcIn (M + 1) (wq.alloc (.cells #[.int .i64 st.1.1, .int .i64 st.1.2.1, .string st.1.2.2, .slice st.2.1.1 st.2.2.length st.2.1.2, .int .i64 ms.1.1, .int .i64 ms.1.2.1, .string ms.1.2.2, .slice ms.2.1.1 ms.2.2.length ms.2.1.2, .slice aa al acap, .int .i64 nx.1.1, .int .i64 nx.1.2.1, .string nx.1.2.2, .slice nx.2.1.1 nx.2.2.length nx.2.1.2] 135)).heap.size (wq.alloc (.cells #[.int .i64 st.1.1, .int .i64 st.1.2.1, .string st.1.2.2, .slice st.2.1.1 st.2.2.length st.2.1.2, .int .i64 ms.1.1, .int .i64 ms.1.2.1, .string ms.1.2.2, .slice ms.2.1.1 ms.2.2.length ms.2.1.2, .slice aa al acap, .int .i64 nx.1.1, .int .i64 nx.1.2.1, .string nx.1.2.2, .slice nx.2.1.1 nx.2.2.length nx.2.1.2] 135))) aa acts) ∧ OffL (AcOff (M + 1) (fun b => b < B ∨ wr.heap.size ≤ b)) (fun b => b < B ∨ wr.heap.size ≤ b) aa acts ∧ RelL (acS (M + 1)) acts acts) := (by
              obtain ⟨la, lc, lv, lh, ll, lo⟩ := (HC3.out.later (ac_stays (M + 1)) (by have := HC1'.out.size; have := HZ.out.2.1; omega) HBS.out.1).lay (ac_stays (M + 1)) (fun a => (rfl : (ac11 (M + 1) a).length = 11))
              injection lv with l1 l2 l3
              subst l1 l3
              refine ⟨⟨lh, ll⟩, (lay_stays (ac_stays (M + 1)) 11 (ac11 (M + 1)) aa).1 _ _ acts (fun b hb => by omega) lo, relL_refl acts fun a ha => ?_⟩
              exact acS_refl (HC3.out.2.2 a ha).1)
            have HIN : Hid (∀ y : Tm (n + 3), In B (wq.alloc (.cells #[.int .i64 st.1.1, .int .i64 st.1.2.1, .string st.1.2.2, .slice st.2.1.1 st.2.2.length st.2.1.2, .int .i64 ms.1.1, .int .i64 ms.1.2.1, .string ms.1.2.2, .slice ms.2.1.1 ms.2.2.length ms.2.1.2, .slice aa al acap, .int .i64 nx.1.1, .int .i64 nx.1.2.1, .string nx.1.2.2, .slice nx.2.1.1 nx.2.2.length nx.2.1.2] 135)) (n + 3) y → In (wq.alloc (.cells #[.int .i64 st.1.1, .int .i64 st.1.2.1, .string st.1.2.2, .slice st.2.1.1 st.2.2.length st.2.1.2, .int .i64 ms.1.1, .int .i64 ms.1.2.1, .string ms.1.2.2, .slice ms.2.1.1 ms.2.2.length ms.2.1.2, .slice aa al acap, .int .i64 nx.1.1, .int .i64 nx.1.2.1, .string nx.1.2.2, .slice nx.2.1.1 nx.2.2.length nx.2.1.2] 135)).heap.size (wq.alloc (.cells #[.int .i64 st.1.1, .int .i64 st.1.2.1, .string st.1.2.2, .slice st.2.1.1 st.2.2.length st.2.1.2, .int .i64 ms.1.1, .int .i64 ms.1.2.1, .string ms.1.2.2, .slice ms.2.1.1 ms.2.2.length ms.2.1.2, .slice aa al acap, .int .i64 nx.1.1, .int .i64 nx.1.2.1, .string nx.1.2.2, .slice nx.2.1.1 nx.2.2.length nx.2.1.2] 135)) (M + 1) (lift (M + 1) (n + 3) y) ∧ Off (fun b => b < B ∨ wr.heap.size ≤ b) (M + 1) (lift (M + 1) (n + 3) y) ∧ same (M + 1) (lift (M + 1) (n + 3) y) (M + 1) (lift (M + 1) (n + 3) y) = true) := fun y hy => by
              have h := lift_in (M + 1) (n + 3) hM y B _ hy
              exact ⟨h.mono (by have := HBB.out.size; omega), (in_offLow h).mono fun b hb => Or.inl hb, in_self h⟩
            have HPB := hide (HPW.out (wq.alloc (.cells #[.int .i64 st.1.1, .int .i64 st.1.2.1, .string st.1.2.2, .slice st.2.1.1 st.2.2.length st.2.1.2, .int .i64 ms.1.1, .int .i64 ms.1.2.1, .string ms.1.2.2, .slice ms.2.1.1 ms.2.2.length ms.2.1.2, .slice aa al acap, .int .i64 nx.1.1, .int .i64 nx.1.2.1, .string nx.1.2.2, .slice nx.2.1.1 nx.2.2.length nx.2.1.2] 135)) (HBW.out.trans (HBB.out.mono HBW.out.size))).2
            have HXI : Hid (ClIn (M + 1) (wq.alloc (.cells #[.int .i64 st.1.1, .int .i64 st.1.2.1, .string st.1.2.2, .slice st.2.1.1 st.2.2.length st.2.1.2, .int .i64 ms.1.1, .int .i64 ms.1.2.1, .string ms.1.2.2, .slice ms.2.1.1 ms.2.2.length ms.2.1.2, .slice aa al acap, .int .i64 nx.1.1, .int .i64 nx.1.2.1, .string nx.1.2.2, .slice nx.2.1.1 nx.2.2.length nx.2.1.2] 135)).heap.size (wq.alloc (.cells #[.int .i64 st.1.1, .int .i64 st.1.2.1, .string st.1.2.2, .slice st.2.1.1 st.2.2.length st.2.1.2, .int .i64 ms.1.1, .int .i64 ms.1.2.1, .string ms.1.2.2, .slice ms.2.1.1 ms.2.2.length ms.2.1.2, .slice aa al acap, .int .i64 nx.1.1, .int .i64 nx.1.2.1, .string nx.1.2.2, .slice nx.2.1.1 nx.2.2.length nx.2.1.2] 135)) ((lift (M + 1) (n + 3) st, lift (M + 1) (n + 3) ms, lift (M + 1) (n + 3) nx), (aa, acap), acts) ∧ ClOff (M + 1) (fun b => b < B ∨ wr.heap.size ≤ b) ((lift (M + 1) (n + 3) st, lift (M + 1) (n + 3) ms, lift (M + 1) (n + 3) nx), (aa, acap), acts)) := ⟨⟨⟨(HIN.out st HPB.out.1).1, (HIN.out ms HPB.out.2.1).1, (HIN.out nx HPB.out.2.2.2).1⟩, HLY.out.1.1, HLY.out.1.2⟩, ⟨⟨(HIN.out st HPB.out.1).2.1, (HIN.out ms HPB.out.2.1).2.1, (HIN.out nx HPB.out.2.2.2).2.1⟩, HLY.out.2.1⟩⟩
            have HXS : Hid (clS (M + 1) ((lift (M + 1) (n + 3) st, lift (M + 1) (n + 3) ms, lift (M + 1) (n + 3) nx), (aa, acap), acts) ((lift (M + 1) (n + 3) st, lift (M + 1) (n + 3) ms, lift (M + 1) (n + 3) nx), (none, 0), acts)) := ⟨⟨(HIN.out st HPB.out.1).2.2, (HIN.out ms HPB.out.2.1).2.2, (HIN.out nx HPB.out.2.2.2).2.2⟩, HLY.out.2.2⟩
            have HXC : Hid (cl13 (M + 1) ((lift (M + 1) (n + 3) st, lift (M + 1) (n + 3) ms, lift (M + 1) (n + 3) nx), (aa, acap), acts) = [.int .i64 st.1.1, .int .i64 st.1.2.1, .string st.1.2.2, .slice st.2.1.1 st.2.2.length st.2.1.2, .int .i64 ms.1.1, .int .i64 ms.1.2.1, .string ms.1.2.2, .slice ms.2.1.1 ms.2.2.length ms.2.1.2, .slice aa al acap, .int .i64 nx.1.1, .int .i64 nx.1.2.1, .string nx.1.2.2, .slice nx.2.1.1 nx.2.2.length nx.2.1.2]) := (by
              show _ = _
              simp only [cl13, tm4_lift, HAL.out]
              rfl)
            have HST := fun (w4 : World) (gg gc : Nat) (hown : w4.ownsRow (w.heap.size + 1 + 1 + 1) 135 13 (.slice (some ⟨gg, 0, none⟩) (cl + 1) gc) (cl + 1) (cls.flatMap (cl13 (M + 1)) ++ [.int .i64 st.1.1, .int .i64 st.1.2.1, .string st.1.2.2, .slice st.2.1.1 st.2.2.length st.2.1.2, .int .i64 ms.1.1, .int .i64 ms.1.2.1, .string ms.1.2.2, .slice ms.2.1.1 ms.2.2.length ms.2.1.2, .slice aa al acap, .int .i64 nx.1.1, .int .i64 nx.1.2.1, .string nx.1.2.2, .slice nx.2.1.1 nx.2.2.length nx.2.1.2])) hgrow hat => hide (cls_step (w4 := w4) (g := gg) (c := gc) hB hj2 HCL.out HR1.out HR2.out HR3.out HR45.out.1 HR45.out.2 HX.out HRC.out HXS.out HBB.out hz2 HXI.out.1 HXI.out.2 (by rw [HXC.out]; exact hown) hgrow hat)
            have HOW : Hid ((wq.alloc (.cells #[.int .i64 st.1.1, .int .i64 st.1.2.1, .string st.1.2.2, .slice st.2.1.1 st.2.2.length st.2.1.2, .int .i64 ms.1.1, .int .i64 ms.1.2.1, .string ms.1.2.2, .slice ms.2.1.1 ms.2.2.length ms.2.1.2, .slice aa al acap, .int .i64 nx.1.1, .int .i64 nx.1.2.1, .string nx.1.2.2, .slice nx.2.1.1 nx.2.2.length nx.2.1.2] 135)).ownsRow (w.heap.size + 1 + 1 + 1) 135 13 (.slice ba cl bc) cl (cls.flatMap (cl13 (M + 1)))) := (by have h := own_below HR3.out.2.1 HBB.out; rw [HCL.out] at h; exact h)
            have hcl8 : cl ≤ 8 := by
              have h := (allV_len _ _ _ HR45.out.1).1
              have h2 := HR45.out.2.1
              rw [HCL.out] at h2
              rw [List.length_take, List.length_drop, hL.out] at h
              omega
            have b1 : wq.cell? ⟨w.heap.size + 1 + 1, 1, none⟩ = some (.slice ba cl bc) := box_cell ((HBQ.out.block _ hz2).trans HR2.out) 1
            have e0 : wq.cell? ⟨w3.heap.size, 0, none⟩ = some (.int .i64 st.1.1) := box_cell HC2.out 0
            have e1 : wq.cell? ⟨w3.heap.size, 1, none⟩ = some (.int .i64 st.1.2.1) := box_cell HC2.out 1
            have e2 : wq.cell? ⟨w3.heap.size, 2, none⟩ = some (.string st.1.2.2) := box_cell HC2.out 2
            have e3 : wq.cell? ⟨w3.heap.size, 3, none⟩ = some (.slice st.2.1.1 st.2.2.length st.2.1.2) := box_cell HC2.out 3
            have e4 : wq.cell? ⟨w3.heap.size, 4, none⟩ = some (.int .i64 ms.1.1) := box_cell HC2.out 4
            have e5 : wq.cell? ⟨w3.heap.size, 5, none⟩ = some (.int .i64 ms.1.2.1) := box_cell HC2.out 5
            have e6 : wq.cell? ⟨w3.heap.size, 6, none⟩ = some (.string ms.1.2.2) := box_cell HC2.out 6
            have e7 : wq.cell? ⟨w3.heap.size, 7, none⟩ = some (.slice ms.2.1.1 ms.2.2.length ms.2.1.2) := box_cell HC2.out 7
            have e8 : wq.cell? ⟨w3.heap.size, 8, none⟩ = some (.slice aa al acap) := box_cell HC2.out 8
            have e9 : wq.cell? ⟨w3.heap.size, 9, none⟩ = some (.int .i64 nx.1.1) := box_cell HC2.out 9
            have e10 : wq.cell? ⟨w3.heap.size, 10, none⟩ = some (.int .i64 nx.1.2.1) := box_cell HC2.out 10
            have e11 : wq.cell? ⟨w3.heap.size, 11, none⟩ = some (.string nx.1.2.2) := box_cell HC2.out 11
            have e12 : wq.cell? ⟨w3.heap.size, 12, none⟩ = some (.slice nx.2.1.1 nx.2.2.length nx.2.1.2) := box_cell HC2.out 12
            have hz3q : w3.heap.size < wq.heap.size := (Array.getElem?_eq_some_iff.1 HC2.out).1
            obtain ⟨it, hit, htz0, htz1, htz2⟩ := info_parts infoClause
            have HT := hide (⟨hit, htz0, htz1, htz2⟩ : _ ∧ _ ∧ _ ∧ _)
            clear hit htz0 htz1 htz2
            go_wp2_with (at_builtin; refine wpList_append_lies _ rfl _ _ 125 rfl (w.heap.size + 1 + 1 + 1) 135 it _ 13 192 Try.underlying125 HT.out.1 HT.out.2.1 HT.out.2.2.1 HT.out.2.2.2 rfl (by decide) (.slice ba cl bc) cl (cls.flatMap (cl13 (M + 1))) (by simp [Act.eval]) HOW.out ⟨wq.heap.size, 0, none⟩ 1 1 [.int .i64 st.1.1, .int .i64 st.1.2.1, .string st.1.2.2, .slice st.2.1.1 st.2.2.length st.2.1.2, .int .i64 ms.1.1, .int .i64 ms.1.2.1, .string ms.1.2.2, .slice ms.2.1.1 ms.2.2.length ms.2.1.2, .slice aa al acap, .int .i64 nx.1.1, .int .i64 nx.1.2.1, .string nx.1.2.2, .slice nx.2.1.1 nx.2.2.length nx.2.1.2] (by simp [Act.eval]) rfl (World.news_of_block (cs := #[.int .i64 st.1.1, .int .i64 st.1.2.1, .string st.1.2.2, .slice st.2.1.1 st.2.2.length st.2.1.2, .int .i64 ms.1.1, .int .i64 ms.1.2.1, .string ms.1.2.2, .slice ms.2.1.1 ms.2.2.length ms.2.1.2, .slice aa al acap, .int .i64 nx.1.1, .int .i64 nx.1.2.1, .string nx.1.2.2, .slice nx.2.1.1 nx.2.2.length nx.2.1.2]) (t := 135) (fr := (0, 0)) HBS.out.2.2) (by simp [Value.oneCell']) (by decide) (by unfold maxLen; omega) (by omega) (by have := HBS.out.2.1; omega) (wq.heap.size + 1) HBS.out.2.1 ?_; intro g4 c4 w4 hown4 hgrow4 hat4 hlt4; have HS4 := HST w4 g4 c4 hown4 hgrow4 (by rw [HBS.out.2.1]; exact hat4); have d1 : w4.cell? ⟨w.heap.size + 1 + 1, 1, none⟩ = some (.slice ba cl bc) := box_cell HS4.out.1 1; have f1 := box_free HS4.out.1 1; clear hown4 hgrow4 hat4 hlt4 HST HOW b1 e0 e1 e2 e3 e4 e5 e6 e7 e8 e9 e10 e11 e12)
            refine ⟨?rel, ?measure⟩
            case rel => exact ⟨j + 1, by omega, by omega, by go_num, HS4.out.2⟩
            case measure => simp [intOf]; omega
end Go.Proofs.Ytpehdgbdinjbaaa
namespace Go.Proofs.Ytpehdgbdinjbaaa
open Go.RowKit

theorem sB_is (M n : Nat) (x : Tm (n + 5)) : sB M (n + 5) x = if 3 ≤ x.2.2.length ∧ isT (n + 4) x wBeh (x.2.2.length - 1) = true then (x.2.2[1]?).bind fun a => if kindA ⟨n + 4, a⟩ = 2 then (allV (rdC M (n + 4)) (x.2.2.drop 2)).map fun l => (nameA (n + 4) a, (none, 0), l) else none else none := by
  have hw := fun k => isT_word (n + 4) x wBeh k (word_lit [98, 101, 104] (by simp))
  unfold sB
  show (rdBq M (n + 4) (wordT (n + 4) x) (partsT (n + 4) x)).bind _ = _
  unfold rdBq
  cases hb : isB (wordT (n + 4) x) wBeh with
  | false =>
    rw [if_neg (by simp), if_neg (by rw [hw, hb]; simp)]
    rfl
  | true =>
    rw [if_pos rfl]
    have h1 : isT (n + 4) x wBeh (partsT (n + 4) x).length = true := by rw [hw, hb]; simp
    obtain ⟨h0, e, _, hl⟩ := isT_parts h1
    generalize partsT (n + 4) x = q at *
    have hT : isT (n + 4) x wBeh (x.2.2.length - 1) = true := by rw [hl]; exact h1
    rw [hT, e]
    match q with
    | [] => simp
    | [a] => by_cases hk : kindA ⟨n + 4, a⟩ = 2 <;> simp [hk, allV]
    | a :: b :: q =>
      simp only [List.getElem?_cons_zero, List.getElem?_cons_succ, List.drop_succ_cons, List.drop_zero, Option.bind_some, List.length_cons]
      rw [if_pos (show 3 ≤ q.length + 1 + 1 + 1 ∧ True from ⟨by omega, trivial⟩)]
      by_cases hk : kindA ⟨n + 4, a⟩ = 2
      · rw [if_pos hk]
        cases hq : allV (rdC M (n + 4)) (b :: q) with
        | none => rfl
        | some l =>
          have := (allV_len _ _ _ hq).1
          simp only [List.length_cons] at this
          simp only [Option.map_some, Option.bind_some]
          rw [if_pos (by omega)]
      · rw [if_neg hk]
        rfl

set_option maxHeartbeats 1000000 in
set_option maxRecDepth 100000 in
theorem rbeh_short (M : Nat) (k0 u0 : Int) (s0 : ByteArray) (a0 : Option Addr) (c0 L : Nat) (B : Nat) (w : World) (h3 : L < 3) : Calls Try.prog 75 #[.agg #[.int .i64 k0, .int .i64 u0, .string s0, .slice a0 L c0]] w (RbOut M none B w) := by
  have hL3 : decide ((L : Int) < 3) = true := by simp; omega
  go_enter Try.func75, Try.ntmps75
  go_wp2_with fail
  refine bodyPost_ret (v := .tuple #[.agg #[.string ⟨#[]⟩, .slice none 0 0], .bool false]) (by simp [results, Try.results75, go_sem]) rfl ?_
  exact rb_none rfl (by go_grown)
set_option maxHeartbeats 1000000 in
set_option maxRecDepth 100000 in
theorem rbeh_no (M : Nat) (k0 u0 : Int) (s0 : ByteArray) (a0 : Option Addr) (c0 L : Nat) (B : Nat) (w : World) (h3 : 3 ≤ L) (h8 : L ≤ 8)
    (HIS : Hid (∀ w1, Below w.heap.size w w1 → Calls Try.prog 74 #[.agg #[.int .i64 k0, .int .i64 u0, .string s0, .slice a0 L c0], .string ⟨#[98, 101, 104]⟩, .int .i64 ((L : Int) - 1)] w1 fun e w' => e = .returned (.bool false) ∧ Below w1.heap.size w1 w')) :
    Calls Try.prog 75 #[.agg #[.int .i64 k0, .int .i64 u0, .string s0, .slice a0 L c0]] w (RbOut M none B w) := by
  have hL3 : decide ((L : Int) < 3) = false := by simp; omega
  go_enter Try.func75, Try.ntmps75
  go_wp2_with fail
  have HN := hide (three_new w (.cells #[.int .i64 k0, .int .i64 u0, .string s0, .slice a0 L c0] 24) (.cells #[.string ⟨#[]⟩, .slice none 0 0] 127) (.cells #[.string ⟨#[]⟩, .slice none 0 0] 127))
  generalize hW0 : ((w.alloc _).alloc _).alloc _ = W0
  rw [hW0] at HN
  clear hW0
  refine (HIS.out _ HN.out.2.1).mono ?_
  rintro e w1 ⟨rfl, hb1⟩
  have hz0 : W0.heap.size = w.heap.size + 1 + 1 + 1 := HN.out.2.2
  have HQ1 := hide ((hb1.block (w.heap.size + 1) (by omega)).trans HN.out.1.2.1)
  have HQ2 := hide ((hb1.block (w.heap.size + 1 + 1) (by omega)).trans HN.out.1.2.2)
  have HB1 : Hid (Below w.heap.size w w1) := HN.out.2.1.trans (hb1.mono HN.out.2.1.size)
  clear hb1 HN hz0
  have b0 : w1.cell? ⟨w.heap.size + 1 + 1, 0, none⟩ = some (.string ⟨#[]⟩) := box_cell HQ2.out 0
  have b1 : w1.cell? ⟨w.heap.size + 1 + 1, 1, none⟩ = some (.slice none 0 0) := box_cell HQ2.out 1
  have m0 : w1.cell? ⟨w.heap.size + 1, 0, none⟩ = some (.string ⟨#[]⟩) := box_cell HQ1.out 0
  have m1 : w1.cell? ⟨w.heap.size + 1, 1, none⟩ = some (.slice none 0 0) := box_cell HQ1.out 1
  have mf0 := box_free HQ1.out 0
  have mf1 := box_free HQ1.out 1
  go_wp2_with fail
  refine bodyPost_ret (v := .tuple #[.agg #[.string ⟨#[]⟩, .slice none 0 0], .bool false]) (by simp [results, Try.results75, go_sem, m0, m1]) rfl ?_
  have hk : Keeps (w.heap.size + 1) w1 ((w1.setCell ⟨w.heap.size + 1, 0, none⟩ (.string ⟨#[]⟩)).setCell ⟨w.heap.size + 1, 1, none⟩ (.slice none 0 0)) := Keeps.set (Keeps.set (Keeps.refl _ _) _ _) _ _
  exact rb_none rfl (hk.below HB1.out (by omega))
set_option maxHeartbeats 1000000 in
set_option maxRecDepth 100000 in
theorem rbeh_kind (M : Nat) (k0 u0 : Int) (s0 : ByteArray) (c0 L : Nat) (B : Nat) (w : World) (h3 : 3 ≤ L) (h8 : L ≤ 8) (pb po : Nat) (hpb : pb < w.heap.size) (k1 : Int) (hk1 : (k1 != 2) = true)
    (HIS : Hid (∀ w1, Below w.heap.size w w1 → Calls Try.prog 74 #[.agg #[.int .i64 k0, .int .i64 u0, .string s0, .slice (some ⟨pb, po, none⟩) L c0], .string ⟨#[98, 101, 104]⟩, .int .i64 ((L : Int) - 1)] w1 fun e w' => e = .returned (.bool true) ∧ Below w1.heap.size w1 w'))
    (HC1 : Hid (w.cell? ⟨pb, po + 4, none⟩ = some (.int .i64 k1))) :
    Calls Try.prog 75 #[.agg #[.int .i64 k0, .int .i64 u0, .string s0, .slice (some ⟨pb, po, none⟩) L c0]] w (RbOut M none B w) := by
  have hL3 : decide ((L : Int) < 3) = false := by simp; omega
  have hL1 : (1 : Int) < (L : Int) := by omega
  go_enter Try.func75, Try.ntmps75
  go_wp2_with fail
  have HN := hide (three_new w (.cells #[.int .i64 k0, .int .i64 u0, .string s0, .slice (some ⟨pb, po, none⟩) L c0] 24) (.cells #[.string ⟨#[]⟩, .slice none 0 0] 127) (.cells #[.string ⟨#[]⟩, .slice none 0 0] 127))
  generalize hW0 : ((w.alloc _).alloc _).alloc _ = W0
  rw [hW0] at HN
  clear hW0
  refine (HIS.out _ HN.out.2.1).mono ?_
  rintro e w1 ⟨rfl, hb1⟩
  have hz0 : W0.heap.size = w.heap.size + 1 + 1 + 1 := HN.out.2.2
  have HQ0 := hide ((hb1.block w.heap.size (by omega)).trans HN.out.1.1)
  have HQ1 := hide ((hb1.block (w.heap.size + 1) (by omega)).trans HN.out.1.2.1)
  have HQ2 := hide ((hb1.block (w.heap.size + 1 + 1) (by omega)).trans HN.out.1.2.2)
  have HB1 : Hid (Below w.heap.size w w1) := HN.out.2.1.trans (hb1.mono HN.out.2.1.size)
  clear hb1 HN hz0
  have t3 : w1.cell? ⟨w.heap.size, 3, none⟩ = some (.slice (some ⟨pb, po, none⟩) L c0) := box_cell HQ0.out 3
  have k2 : w1.cell? ⟨pb, po + 4, none⟩ = some (.int .i64 k1) := (below_cells HB1.out _ _ hpb).trans HC1.out
  have b0 : w1.cell? ⟨w.heap.size + 1 + 1, 0, none⟩ = some (.string ⟨#[]⟩) := box_cell HQ2.out 0
  have b1 : w1.cell? ⟨w.heap.size + 1 + 1, 1, none⟩ = some (.slice none 0 0) := box_cell HQ2.out 1
  have m0 : w1.cell? ⟨w.heap.size + 1, 0, none⟩ = some (.string ⟨#[]⟩) := box_cell HQ1.out 0
  have m1 : w1.cell? ⟨w.heap.size + 1, 1, none⟩ = some (.slice none 0 0) := box_cell HQ1.out 1
  have mf0 := box_free HQ1.out 0
  have mf1 := box_free HQ1.out 1
  go_wp2_with fail
  refine bodyPost_ret (v := .tuple #[.agg #[.string ⟨#[]⟩, .slice none 0 0], .bool false]) (by simp [results, Try.results75, go_sem, m0, m1]) rfl ?_
  have hk : Keeps (w.heap.size + 1) w1 ((w1.setCell ⟨w.heap.size + 1, 0, none⟩ (.string ⟨#[]⟩)).setCell ⟨w.heap.size + 1, 1, none⟩ (.slice none 0 0)) := Keeps.set (Keeps.set (Keeps.refl _ _) _ _) _ _
  exact rb_none rfl (hk.below HB1.out (by omega))

theorem rbeh_any (M n : Nat) (hM : n + 3 ≤ M + 1) (x : Tm (n + 5)) (B : Nat) (w : World) (hx : In B w (n + 5) x) (hr : RightA ⟨n + 5, x⟩) (hB : B ≤ w.heap.size) :
    Calls Try.prog 75 #[.agg #[.int .i64 x.1.1, .int .i64 x.1.2.1, .string x.1.2.2, .slice x.2.1.1 x.2.2.length x.2.1.2]] w (RbOut M (sB M (n + 5) x) B w) := by
  rw [sB_is]
  by_cases h3 : 3 ≤ x.2.2.length
  · have h4 : x.1.1 = 4 := by
      by_cases h4 : x.1.1 = 4
      · exact h4
      · have hg := hr (hdOf (n + 4) x) (by simp [nodes, hdOf])
        simp only [good, hdOf, Bool.and_eq_true, Bool.or_eq_true, beq_iff_eq] at hg
        have h5 := hg.2.resolve_left h4
        simp at h5
        rw [h5] at h3
        simp at h3
    have h8 := right_len hr h4
    have HIS : ∀ w1, Below w.heap.size w w1 → Calls Try.prog 74 #[.agg #[.int .i64 x.1.1, .int .i64 x.1.2.1, .string x.1.2.2, .slice x.2.1.1 x.2.2.length x.2.1.2], .string ⟨#[98, 101, 104]⟩, .int .i64 ((x.2.2.length : Int) - 1)] w1 fun e w' => e = .returned (.bool (isT (n + 4) x wBeh (x.2.2.length - 1))) ∧ Below w1.heap.size w1 w' := fun w1 h1 => by
      have h := ris_any (n + 4) x B wBeh (x.2.2.length - 1) w1 (hx.below (h1.mono hB)) (Nat.le_trans hB h1.size) hr (by omega)
      rw [show ((x.2.2.length - 1 : Nat) : Int) = (x.2.2.length : Int) - 1 by omega] at h
      exact h
    cases hb : isT (n + 4) x wBeh (x.2.2.length - 1) with
    | false =>
      rw [if_neg (by simp)]
      rw [hb] at HIS
      exact rbeh_no M _ _ _ _ _ _ B w h3 h8 HIS
    | true =>
      rw [if_pos ⟨h3, rfl⟩]
      rw [hb] at HIS
      obtain ⟨a, ha⟩ : ∃ a, x.2.2[1]? = some a := ⟨x.2.2[1]'(by omega), List.getElem?_eq_getElem _⟩
      rw [ha]
      obtain ⟨pb, po, he, hpb, hh⟩ : ∃ pb po, x.2.1.1 = some ⟨pb, po, none⟩ ∧ pb < B ∧ ∀ w1, Below w.heap.size w w1 → ∀ (i : Nat) (y : Tm (n + 4)), x.2.2[i]? = some y → Held w1 pb (po + i * 4) (n + 4) y ∧ In B w1 (n + 4) y := by
        rcases hx.2 with e | ⟨b, o, e1, e2, _⟩
        · rw [e] at h3; simp at h3
        · refine ⟨b, o, e1, e2, fun w1 h1 i y hy => ?_⟩
          rcases (hx.below (h1.mono hB)).2 with e | ⟨b', o', e3, _, e4⟩
          · rw [e] at h3; simp at h3
          · rw [e1] at e3
            injection e3 with e3
            injection e3 with e5 e6
            subst e5 e6
            exact e4 i y hy
      rw [he] at HIS ⊢
      obtain ⟨⟨a0, a1, a2, a3⟩, ai⟩ := hh w (Below.refl _ _) 1 a ha
      by_cases hk : a.1.1 = 2
      · rw [show (some a).bind (fun a => if kindA ⟨n + 4, a⟩ = 2 then (allV (rdC M (n + 4)) (x.2.2.drop 2)).map fun l => (nameA (n + 4) a, (none, 0), l) else none) = (allV (rdC M (n + 4)) (x.2.2.drop 2)).map fun l => (a.1.2.2, (none, 0), l) from by
          show (if a.1.1 = 2 then _ else _) = _
          rw [if_pos hk]
          rfl]
        refine rbeh_walk M n hM x.1.1 x.1.2.1 x.1.2.2 x.2.1.2 x.2.2.length x.2.2 rfl B w _ hB h3 h8 pb po hpb a.1.2.2 HIS (fun w1 h1 => ?_) (fun i y hy => ⟨right_args hr (List.mem_of_getElem? hy), fun w1 h1 => hh w1 h1 i y hy⟩) (fun j y hj hy hn => ?_) (fun zs hz => ?_) ai.1.2.2.1
        · obtain ⟨b0, _, b2, _⟩ := (hh w1 h1 1 a ha).1
          rw [hk] at b0
          exact ⟨b0, b2⟩
        · have hd : (x.2.2.drop 2)[j - 2]? = some y := by rw [List.getElem?_drop, show 2 + (j - 2) = j by omega]; exact hy
          rw [allV_none _ _ _ _ hd hn]
          rfl
        · rw [hz]
          rfl
      · rw [show (some a).bind (fun a => if kindA ⟨n + 4, a⟩ = 2 then (allV (rdC M (n + 4)) (x.2.2.drop 2)).map fun l => (nameA (n + 4) a, (none, 0), l) else none) = none from by
          show (if a.1.1 = 2 then _ else _) = _
          rw [if_neg hk]]
        exact rbeh_kind M _ _ _ _ _ B w h3 h8 pb po (by omega) a.1.1 (by simpa using hk) HIS a0
  · rw [if_neg (fun h => h3 h.1)]
    exact rbeh_short M _ _ _ _ _ _ B w (by omega)
end Go.Proofs.Ytpehdgbdinjbaaa
namespace Go.Proofs.Ytpehdgbdinjbaaa
open Go.RowKit

def sameP (n : Nat) (p : List (Bh (n + 1))) (m : Nat) (q : List (Bh (m + 1))) : Bool := toE n p == toE m q && (same (n + 6) (toT n p) (m + 6) (toT m q) && (p.length : Int) == (q.length : Int))
theorem same_congr {n m n' m' : Nat} {x : Tm n} {y : Tm m} {x' : Tm n'} {y' : Tm m'} (h : same n x n' x' = true) (k : same m y m' y' = true) : same n x m y = same n' x' m' y' := by
  cases h1 : same n' x' m' y' with
  | true => exact same_trans _ _ _ _ _ _ h (same_trans _ _ _ _ _ _ h1 (same_symm _ _ _ _ k))
  | false =>
    cases h2 : same n x m y with
    | false => rfl
    | true =>
      have := same_trans _ _ _ _ _ _ (same_symm _ _ _ _ h) (same_trans _ _ _ _ _ _ h2 k)
      rw [h1] at this
      cases this
theorem samePrograms_any (n m : Nat) (p : List (Bh (n + 1))) (q : List (Bh (m + 1))) (a c : Option Addr) (pl pc ql qc : Nat) (hpl : Hid (p.length = pl)) (hql : Hid (q.length = ql)) (B : Nat) (w : World) (_hl1 : pl ≤ 9223372036854775807) (_hl2 : ql ≤ 9223372036854775807)
    (HA : Hid (∀ w1, Below w.heap.size w w1 → Calls Try.prog 39 #[.slice a pl pc] w1 (ToOut B n p w1))) (HB : Hid (∀ w1, Below w.heap.size w w1 → Calls Try.prog 39 #[.slice c ql qc] w1 (ToOut B m q w1))) :
    Calls Try.prog 40 #[.slice a pl pc, .slice c ql qc] w fun e w' => e = .returned (.bool (sameP n p m q)) ∧ Below w.heap.size w w' := by
  have HR : Hid (sameP n p m q = (toE n p == toE m q && (same (n + 6) (toT n p) (m + 6) (toT m q) && (pl : Int) == (ql : Int)))) := by
    show _ = _
    rw [← hpl.out, ← hql.out]
    rfl
  rw [HR.out]
  clear HR
  go_enter Try.func40, Try.ntmps40
  go_wp2_with fail
  refine (HA.out _ (Below.refl _ _)).mono ?_
  rintro e w1 ⟨x, rfl, HX⟩
  have e3 : val (n + 6) x = .agg #[.int .i64 x.1.1, .int .i64 x.1.2.1, .string x.1.2.2, .slice x.2.1.1 x.2.2.length x.2.1.2] := rfl
  rw [e3]
  clear e3 HA
  have HB1 := hide HX.out.1
  generalize hE : toE n p = E at *
  go_wp2_with fail
  have hal : Below w.heap.size w (w1.alloc (.cells #[.int .i64 x.1.1, .int .i64 x.1.2.1, .string x.1.2.2, .slice x.2.1.1 x.2.2.length x.2.1.2] 24)) := HB1.out.trans (one_alloc.mono HB1.out.size)
  refine (HB.out _ hal).mono ?_
  rintro e w2 ⟨y, rfl, HY⟩
  have e3 : val (m + 6) y = .agg #[.int .i64 y.1.1, .int .i64 y.1.2.1, .string y.1.2.2, .slice y.2.1.1 y.2.2.length y.2.1.2] := rfl
  rw [e3]
  clear e3 HB
  generalize hF : toE m q = F at *
  have HX2 := hide (box4_new w1 _ _ _ _ _ HY.out.1)
  have hq2 : w1.heap.size < w2.heap.size := (Array.getElem?_eq_some_iff.1 HX2.out).1
  have HB2 : Hid (Below w.heap.size w w2) := hal.trans (HY.out.1.mono hal.size)
  have HB12 : Hid (Below w1.heap.size w1 w2) := one_alloc.trans (HY.out.1.mono (by simp))
  have c0 : w2.cell? ⟨w1.heap.size, 0, none⟩ = some (.int .i64 x.1.1) := box_cell HX2.out 0
  have c1 : w2.cell? ⟨w1.heap.size, 1, none⟩ = some (.int .i64 x.1.2.1) := box_cell HX2.out 1
  have c2 : w2.cell? ⟨w1.heap.size, 2, none⟩ = some (.string x.1.2.2) := box_cell HX2.out 2
  have c3 : w2.cell? ⟨w1.heap.size, 3, none⟩ = some (.slice x.2.1.1 x.2.2.length x.2.1.2) := box_cell HX2.out 3
  have HS : Hid (∀ w3, Below w2.heap.size w2 w3 → Calls Try.prog 14 #[.agg #[.int .i64 x.1.1, .int .i64 x.1.2.1, .string x.1.2.2, .slice x.2.1.1 x.2.2.length x.2.1.2], .agg #[.int .i64 y.1.1, .int .i64 y.1.2.1, .string y.1.2.2, .slice y.2.1.1 y.2.2.length y.2.1.2]] w3 fun e w' => e = .returned (.bool (same (n + 6) (toT n p) (m + 6) (toT m q))) ∧ Below w3.heap.size w3 w') := fun w3 h3 => by
    rw [← same_congr HX.out.2.2.2 HY.out.2.2.2]
    exact same_any (n + 6) x (m + 6) y w2.heap.size w3 (((HX.out.2.1.below HB12.out).mono HB12.out.size).below h3) (HY.out.2.1.below h3) h3.size
  generalize hr : same (n + 6) (toT n p) (m + 6) (toT m q) = r at *
  clear HX HY hal HX2
  cases hef : E == F
  · go_wp2_with fail
    go_ret
    exact ⟨ret_bool (by rw [hE, hF, hef]; rfl), by have := HB2.out; exact this.trans (one_alloc.mono this.size)⟩
  · cases r
    · go_wp2_with (go_at_call 14; refine (HS.out _ one_alloc).mono ?_; rintro e w3 ⟨rfl, hb3⟩; have HB3 := hide (show Below w.heap.size w w3 from (HB2.out.trans (one_alloc.mono HB2.out.size)).trans (hb3.mono (by have := HB2.out.size; simp; omega))); clear hb3)
      go_ret
      exact ⟨ret_bool (by rw [hE, hF, hef, hr]; rfl), HB3.out⟩
    · go_wp2_with (go_at_call 14; refine (HS.out _ one_alloc).mono ?_; rintro e w3 ⟨rfl, hb3⟩; have HB3 := hide (show Below w.heap.size w w3 from (HB2.out.trans (one_alloc.mono HB2.out.size)).trans (hb3.mono (by have := HB2.out.size; simp; omega))); clear hb3)
      go_ret
      exact ⟨ret_bool (by rw [hE, hF, hef, hr]; rfl), HB3.out⟩
end Go.Proofs.Ytpehdgbdinjbaaa
