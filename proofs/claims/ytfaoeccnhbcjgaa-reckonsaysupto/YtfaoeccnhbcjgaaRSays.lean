/- What is proved here: clerklaw.ReckonSays of a term, a list of terms that lie in memory, and a number returns true, and turns no memory that was there. Condition: at most 2097152 terms in each. -/
import Derived.Test.YtfaoeccnhbcjgaaRv5
namespace Go.Proofs.Ytfaoeccnhbcjgaa
open Go.RowKit

theorem BoxT.put {q : Nat} {u0 u1 u2 u3 : Value} {w : World} (h : BoxT q u0 u1 u2 u3 w) (v0 v1 v2 v3 : Value) : BoxT q v0 v1 v2 v3 (put4 w q 0 v0 v1 v2 v3) := by
  unfold BoxT at *
  simp [put4, World.setCell, Array.getElem?_modify, h]

set_option maxHeartbeats 2000000 in
set_option maxRecDepth 100000 in
theorem rsays_walk (B N : Nat) (o : Option (Tm (N + 1))) (a : Option Addr) (ql c : Nat) (self : Int) (x0 x1 : Int) (x2 : ByteArray) (xa : Option Addr) (xl xc : Nat) (ck : Int) (bd : Bool) (w : World) (hB : B ≤ w.heap.size)
    (HK : Hid (∀ w1, Below w.heap.size w w1 → Calls Try.prog 9 #[.agg #[.int .i64 x0, .int .i64 x1, .string x2, .slice xa xl xc]] w1 fun e w' => e = .returned (.int .i64 ck) ∧ Below w1.heap.size w1 w'))
    (HA : Hid (∀ w1, Below w.heap.size w w1 → Calls Try.prog 29 #[.slice a ql c] w1 fun e w' => e = .returned (.bool bd) ∧ Below w1.heap.size w1 w'))
    (HV : Hid (rvE ck bd self = 0 → ∀ w1, Below w.heap.size w w1 → Calls Try.prog 33 #[.agg #[.int .i64 x0, .int .i64 x1, .string x2, .slice xa xl xc], .slice a ql c, .int .i64 self] w1 (DvvOut B N o w1)))
    (HM : Hid (∀ w1, Below w.heap.size w w1 → Calls Try.prog 34 #[.agg #[.int .i64 x0, .int .i64 x1, .string x2, .slice xa xl xc], .slice a ql c, .int .i64 self] w1 (RvOut N (rvE ck bd self) o w1)))
    (HS : Hid (∀ (y z t : Tm (N + 1)) (w1 : World), same (N + 1) y (N + 1) t = true → same (N + 1) z (N + 1) t = true → In w1.heap.size w1 (N + 1) y → In w1.heap.size w1 (N + 1) z → Calls Try.prog 13 #[.agg #[.int .i64 y.1.1, .int .i64 y.1.2.1, .string y.1.2.2, .slice y.2.1.1 y.2.2.length y.2.1.2], .agg #[.int .i64 z.1.1, .int .i64 z.1.2.1, .string z.1.2.2, .slice z.2.1.1 z.2.2.length z.2.1.2]] w1 fun e w' => e = .returned (.bool true) ∧ Below w1.heap.size w1 w')) :
    Calls Try.prog 7 #[.agg #[.int .i64 x0, .int .i64 x1, .string x2, .slice xa xl xc], .slice a ql c, .int .i64 self] w fun e w' => e = .returned (.bool true) ∧ Below w.heap.size w w' := by
  go_enter Try.func7, Try.ntmps7
  go_wp2_with fail
  refine (HK.out _ ((Below.refl _ _).alloc (Nat.le_refl _) _)).mono ?_
  rintro e w1 ⟨rfl, hb1⟩
  have HX1 := hide (boxed hb1).1
  have HB1 : Hid (Below w.heap.size w w1) := ((Below.refl _ _).alloc (Nat.le_refl _) _).trans (hb1.mono (by simp))
  have hlt1 : w.heap.size < w1.heap.size := by have := hb1.size; simp at this; omega
  clear hb1 HK
  by_cases hck : ck = 0
  case neg =>
    have hc1 : (ck != 0) = true := by simpa using hck
    have hc2 : (ck == 0) = false := by simpa using hck
    have HEN : Hid (rvE ck bd self = ck ∧ ck ≠ 0) := ⟨by simp [rvE, hck], hck⟩
    obtain ⟨x0', x1', x2', x3'⟩ := HX1.out
    clear hck HV HA
    have HMK := hide (HM.out _ ((HB1.out).alloc (HB1.out).size (.cells #[.int .i64 0, .int .i64 0, .string ⟨#[]⟩, .slice none 0 0] 24)))
    go_wp2_with fail
    refine HMK.out.mono ?_
    rintro e w5 ⟨y, rfl, H⟩
    obtain ⟨⟨t0, t1, t2, t3⟩, _⟩ := boxed H.out.1
    have HN : Hid (rvO (rvE ck bd self) o = none) := by rw [Hid]; simp [rvO, HEN.out.1, HEN.out.2]
    have HCD : Hid (rvC (rvE ck bd self) (rvO (rvE ck bd self) o) = ck) := by rw [Hid]; simp [rvC, HEN.out.1, HEN.out.2]
    rw [HCD.out]
    have e3 : val (N + 1) y = .agg #[.int .i64 y.1.1, .int .i64 y.1.2.1, .string y.1.2.2, .slice y.2.1.1 y.2.2.length y.2.1.2] := rfl
    rw [e3]
    have HB5 : Hid (Below w.heap.size w w5) := ((HB1.out).alloc (HB1.out).size _).trans (H.out.1.mono (Nat.le_trans (HB1.out).size (by simp)))
    have hw5 : w1.heap.size < w5.heap.size := by have := H.out.1.size; simp at this; omega
    have HSK : Hid (∀ w6, Below w5.heap.size w5 w6 → Calls Try.prog 13 #[.agg #[.int .i64 y.1.1, .int .i64 y.1.2.1, .string y.1.2.2, .slice y.2.1.1 y.2.2.length y.2.1.2], .agg #[.int .i64 0, .int .i64 0, .string ⟨#[]⟩, .slice none 0 0]] w6 fun e w' => e = .returned (.bool true) ∧ Below w6.heap.size w6 w') := by
      intro w6 h6
      have hs := H.out.2.2.2
      rw [HN.out] at hs
      exact HS.out y (zeroV N) (zeroV N) w6 hs (leaf_same N 0 0) ((H.out.2.1.below h6).mono h6.size) (leaf_out N 0 0 i64_zero i64_zero _ _ (fun _ => True)).1
    clear e3 H HMK HM HS HN HCD
    go_wp2_with fail
    refine (HSK.out _ ((Below.refl _ _).alloc (Nat.le_refl _) _)).mono ?_
    rintro e w6 ⟨rfl, hb6⟩
    have HB6 : Hid (Below w.heap.size w w6) := ((HB5.out).alloc (HB5.out).size _).trans (hb6.mono (Nat.le_trans (HB5.out).size (by simp)))
    clear hb6 HSK
    go_wp2_with fail
    go_ret
    exact ⟨rfl, HB6.out⟩
  have hc1 : (ck != 0) = false := by simp [hck]
  have hc2 : (ck == 0) = true := by simp [hck]
  go_wp2_with fail
  refine (HA.out _ HB1.out).mono ?_
  rintro e w2 ⟨rfl, hb2⟩
  have HX2 := hide (cells_nx hlt1 hb2 HX1.out)
  have HB2 : Hid (Below w.heap.size w w2) := HB1.out.trans (hb2.mono HB1.out.size)
  have hlt2 : w.heap.size < w2.heap.size := Nat.lt_of_lt_of_le hlt1 hb2.size
  obtain ⟨x0', x1', x2', x3'⟩ := HX2.out
  clear hb2 HA HB1 HX1
  cases bd
  · have HEN : Hid (rvE ck false self = 5 ∧ (5 : Int) ≠ 0) := ⟨by simp [rvE, hck], by decide⟩
    clear hck HV
    have HMK := hide (HM.out _ ((HB2.out).alloc (HB2.out).size (.cells #[.int .i64 0, .int .i64 0, .string ⟨#[]⟩, .slice none 0 0] 24)))
    go_wp2_with fail
    refine HMK.out.mono ?_
    rintro e w5 ⟨y, rfl, H⟩
    obtain ⟨⟨t0, t1, t2, t3⟩, _⟩ := boxed H.out.1
    have HN : Hid (rvO (rvE ck false self) o = none) := by rw [Hid]; simp [rvO, HEN.out.1, HEN.out.2]
    have HCD : Hid (rvC (rvE ck false self) (rvO (rvE ck false self) o) = 5) := by rw [Hid]; simp [rvC, HEN.out.1, HEN.out.2]
    rw [HCD.out]
    have e3 : val (N + 1) y = .agg #[.int .i64 y.1.1, .int .i64 y.1.2.1, .string y.1.2.2, .slice y.2.1.1 y.2.2.length y.2.1.2] := rfl
    rw [e3]
    have HB5 : Hid (Below w.heap.size w w5) := ((HB2.out).alloc (HB2.out).size _).trans (H.out.1.mono (Nat.le_trans (HB2.out).size (by simp)))
    have hw5 : w2.heap.size < w5.heap.size := by have := H.out.1.size; simp at this; omega
    have HSK : Hid (∀ w6, Below w5.heap.size w5 w6 → Calls Try.prog 13 #[.agg #[.int .i64 y.1.1, .int .i64 y.1.2.1, .string y.1.2.2, .slice y.2.1.1 y.2.2.length y.2.1.2], .agg #[.int .i64 0, .int .i64 0, .string ⟨#[]⟩, .slice none 0 0]] w6 fun e w' => e = .returned (.bool true) ∧ Below w6.heap.size w6 w') := by
      intro w6 h6
      have hs := H.out.2.2.2
      rw [HN.out] at hs
      exact HS.out y (zeroV N) (zeroV N) w6 hs (leaf_same N 0 0) ((H.out.2.1.below h6).mono h6.size) (leaf_out N 0 0 i64_zero i64_zero _ _ (fun _ => True)).1
    clear e3 H HMK HM HS HN HCD
    go_wp2_with fail
    refine (HSK.out _ ((Below.refl _ _).alloc (Nat.le_refl _) _)).mono ?_
    rintro e w6 ⟨rfl, hb6⟩
    have HB6 : Hid (Below w.heap.size w w6) := ((HB5.out).alloc (HB5.out).size _).trans (hb6.mono (Nat.le_trans (HB5.out).size (by simp)))
    clear hb6 HSK
    go_wp2_with fail
    go_ret
    exact ⟨rfl, HB6.out⟩
  · cases hI : inB self 1 99
    · have HEN : Hid (rvE ck true self = 1 ∧ (1 : Int) ≠ 0) := by
        refine ⟨?_, by decide⟩
        have : ¬ (1 ≤ self ∧ self ≤ 99) := by simp [inB] at hI; omega
        simp [rvE, hck, this]
      have HIN : Hid (∀ w1, Calls Try.prog 15 #[.int .i64 self, .int .i64 1, .int .i64 99] w1 fun e w' => e = .returned (.bool false) ∧ w' = w1) := fun w1 => by have := in_any self 1 99 w1; rw [hI] at this; exact this
      clear hck HV hI
      go_wp2_with fail
      refine (HIN.out _).mono ?_
      rintro e w' ⟨rfl, rfl⟩
      have HMK := hide (HM.out _ ((HB2.out).alloc (HB2.out).size (.cells #[.int .i64 0, .int .i64 0, .string ⟨#[]⟩, .slice none 0 0] 24)))
      go_wp2_with fail
      refine HMK.out.mono ?_
      rintro e w5 ⟨y, rfl, H⟩
      obtain ⟨⟨t0, t1, t2, t3⟩, _⟩ := boxed H.out.1
      have HN : Hid (rvO (rvE ck true self) o = none) := by rw [Hid]; simp [rvO, HEN.out.1, HEN.out.2]
      have HCD : Hid (rvC (rvE ck true self) (rvO (rvE ck true self) o) = 1) := by rw [Hid]; simp [rvC, HEN.out.1, HEN.out.2]
      rw [HCD.out]
      have e3 : val (N + 1) y = .agg #[.int .i64 y.1.1, .int .i64 y.1.2.1, .string y.1.2.2, .slice y.2.1.1 y.2.2.length y.2.1.2] := rfl
      rw [e3]
      have HB5 : Hid (Below w.heap.size w w5) := ((HB2.out).alloc (HB2.out).size _).trans (H.out.1.mono (Nat.le_trans (HB2.out).size (by simp)))
      have hw5 : w'.heap.size < w5.heap.size := by have := H.out.1.size; simp at this; omega
      have HSK : Hid (∀ w6, Below w5.heap.size w5 w6 → Calls Try.prog 13 #[.agg #[.int .i64 y.1.1, .int .i64 y.1.2.1, .string y.1.2.2, .slice y.2.1.1 y.2.2.length y.2.1.2], .agg #[.int .i64 0, .int .i64 0, .string ⟨#[]⟩, .slice none 0 0]] w6 fun e w' => e = .returned (.bool true) ∧ Below w6.heap.size w6 w') := by
        intro w6 h6
        have hs := H.out.2.2.2
        rw [HN.out] at hs
        exact HS.out y (zeroV N) (zeroV N) w6 hs (leaf_same N 0 0) ((H.out.2.1.below h6).mono h6.size) (leaf_out N 0 0 i64_zero i64_zero _ _ (fun _ => True)).1
      clear e3 H HMK HM HS HN HCD
      go_wp2_with fail
      refine (HSK.out _ ((Below.refl _ _).alloc (Nat.le_refl _) _)).mono ?_
      rintro e w6 ⟨rfl, hb6⟩
      have HB6 : Hid (Below w.heap.size w w6) := ((HB5.out).alloc (HB5.out).size _).trans (hb6.mono (Nat.le_trans (HB5.out).size (by simp)))
      clear hb6 HSK
      go_wp2_with fail
      go_ret
      exact ⟨rfl, HB6.out⟩
    · have HE0 : Hid (rvE ck true self = 0) := by
        have : (1 ≤ self ∧ self ≤ 99) := by simp [inB] at hI; omega
        simp [Hid, rvE, hck, this]
      have HIN : Hid (∀ w1, Calls Try.prog 15 #[.int .i64 self, .int .i64 1, .int .i64 99] w1 fun e w' => e = .returned (.bool true) ∧ w' = w1) := fun w1 => by have := in_any self 1 99 w1; rw [hI] at this; exact this
      have HVK := hide (HV.out HE0.out _ ((HB2.out).alloc (HB2.out).size (.cells #[.int .i64 0, .int .i64 0, .string ⟨#[]⟩, .slice none 0 0] 24)))
      clear hck HV hI
      go_wp2_with fail
      refine (HIN.out _).mono ?_
      rintro e w' ⟨rfl, rfl⟩
      go_wp2_with fail
      refine HVK.out.mono ?_
      rintro e w4 ⟨y, r, rfl, H⟩
      have e3 : val (N + 1) y = .agg #[.int .i64 y.1.1, .int .i64 y.1.2.1, .string y.1.2.2, .slice y.2.1.1 y.2.2.length y.2.1.2] := rfl
      rw [e3]
      have HBA : Hid (Below w.heap.size w w4) := ((HB2.out).alloc (HB2.out).size _).trans (H.out.1.mono (Nat.le_trans (HB2.out).size (by simp)))
      have HBT : Hid (BoxT w'.heap.size (.int .i64 0) (.int .i64 0) (.string .empty) (.slice none 0 0) w4) := (box_alloc w' _ _ _ _).below H.out.1
      obtain ⟨⟨z0, z1, z2, z3⟩, hzf⟩ := HBT.out.cells
      have hcc := below_cells H.out.1
      have hxa : w.heap.size < (w'.alloc (.cells #[.int .i64 0, .int .i64 0, .string ⟨#[]⟩, .slice none 0 0] 24)).heap.size := by simp; omega
      have hxb : ∀ j, (w'.alloc (.cells #[.int .i64 0, .int .i64 0, .string ⟨#[]⟩, .slice none 0 0] 24)).cell? ⟨w.heap.size, j, none⟩ = w'.cell? ⟨w.heap.size, j, none⟩ := fun j => below_cells ((Below.refl w'.heap.size w').alloc (Nat.le_refl _) _) _ _ hlt2
      replace x0' := ((hcc _ _ hxa).trans (hxb 0)).trans x0'
      replace x1' := ((hcc _ _ hxa).trans (hxb 1)).trans x1'
      replace x2' := ((hcc _ _ hxa).trans (hxb 2)).trans x2'
      replace x3' := ((hcc _ _ hxa).trans (hxb 3)).trans x3'
      have hq4 : w'.heap.size < w4.heap.size := HBT.out.lt
      have hne1 : ¬ (w'.heap.size = w.heap.size) := by omega
      have hne2 : ¬ (w.heap.size = w'.heap.size) := by omega
      clear hcc hxb hxa HVK HX2 HIN e3
      cases r
      · have HSO : Hid (rvO 0 o = none) := by
          have := H.out.2.2.2.1
          cases hh : rvO 0 o with
          | none => rfl
          | some z => rw [hh] at this; cases this
        have HBQ : Hid (BoxT w'.heap.size (.int .i64 0) (.int .i64 0) (.string ⟨#[]⟩) (.slice none 0 0) (put4 (put4 w4 w'.heap.size 0 (.int .i64 y.1.1) (.int .i64 y.1.2.1) (.string y.1.2.2) (.slice y.2.1.1 y.2.2.length y.2.1.2)) w'.heap.size 0 (.int .i64 0) (.int .i64 0) (.string ⟨#[]⟩) (.slice none 0 0))) := (HBT.out.put _ _ _ _).put _ _ _ _
        have HBP : Hid (Below w.heap.size w (put4 (put4 w4 w'.heap.size 0 (.int .i64 y.1.1) (.int .i64 y.1.2.1) (.string y.1.2.2) (.slice y.2.1.1 y.2.2.length y.2.1.2)) w'.heap.size 0 (.int .i64 0) (.int .i64 0) (.string ⟨#[]⟩) (.slice none 0 0))) := put_below (put_below HBA.out (by omega) _ _ _ _) (by omega) _ _ _ _
        have HSW : Hid (same (N + 1) (zeroV N) (N + 1) ((rvO 0 o).getD (zeroV N)) = true) := by rw [Hid, HSO.out]; exact leaf_same N 0 0
        have HIW : Hid (∀ w6, Below (put4 (put4 w4 w'.heap.size 0 (.int .i64 y.1.1) (.int .i64 y.1.2.1) (.string y.1.2.2) (.slice y.2.1.1 y.2.2.length y.2.1.2)) w'.heap.size 0 (.int .i64 0) (.int .i64 0) (.string ⟨#[]⟩) (.slice none 0 0)).heap.size (put4 (put4 w4 w'.heap.size 0 (.int .i64 y.1.1) (.int .i64 y.1.2.1) (.string y.1.2.2) (.slice y.2.1.1 y.2.2.length y.2.1.2)) w'.heap.size 0 (.int .i64 0) (.int .i64 0) (.string ⟨#[]⟩) (.slice none 0 0)) w6 → In w6.heap.size w6 (N + 1) (zeroV N)) := fun w6 _ => (leaf_out N 0 0 i64_zero i64_zero _ _ (fun _ => True)).1
        clear H HBT
        have HMK := hide (HM.out _ HBP.out)
        rw [HE0.out] at HMK
        go_wp2_with fail
        refine HMK.out.mono ?_
        rintro e w5 ⟨y2, rfl, H2⟩
        obtain ⟨⟨t0, t1, t2, t3⟩, _⟩ := (HBQ.out.below H2.out.1).cells
        have HCD : Hid (rvC 0 (rvO 0 o) = 7) := by rw [Hid]; simp [rvC, HSO.out]
        rw [HCD.out]
        have e4 : val (N + 1) y2 = .agg #[.int .i64 y2.1.1, .int .i64 y2.1.2.1, .string y2.1.2.2, .slice y2.2.1.1 y2.2.2.length y2.2.1.2] := rfl
        rw [e4]
        have HB5 : Hid (Below w.heap.size w w5) := HBP.out.trans (H2.out.1.mono HBP.out.size)
        have hw5 : w'.heap.size < w5.heap.size := Nat.lt_of_lt_of_le HBQ.out.lt H2.out.1.size
        have HSK : Hid (∀ w6, Below w5.heap.size w5 w6 → Calls Try.prog 13 #[.agg #[.int .i64 y2.1.1, .int .i64 y2.1.2.1, .string y2.1.2.2, .slice y2.2.1.1 y2.2.2.length y2.2.1.2], .agg #[.int .i64 0, .int .i64 0, .string ⟨#[]⟩, .slice none 0 0]] w6 fun e w' => e = .returned (.bool true) ∧ Below w6.heap.size w6 w') := by
          intro w6 h6
          exact HS.out y2 (zeroV N) _ w6 H2.out.2.2.2 HSW.out ((H2.out.2.1.below h6).mono h6.size) (HIW.out w6 (H2.out.1.trans (h6.mono H2.out.1.size)))
        clear e4 H2 HMK HM HS HCD
        go_wp2_with fail
        refine (HSK.out _ ((Below.refl _ _).alloc (Nat.le_refl _) _)).mono ?_
        rintro e w6 ⟨rfl, hb6⟩
        have HB6 : Hid (Below w.heap.size w w6) := ((HB5.out).alloc (HB5.out).size _).trans (hb6.mono (Nat.le_trans (HB5.out).size (by simp)))
        clear hb6 HSK
        go_wp2_with fail
        go_ret
        exact ⟨rfl, HB6.out⟩
      · obtain ⟨z, hz⟩ : ∃ z, rvO 0 o = some z := by
          have := H.out.2.2.2.1
          cases hh : rvO 0 o with
          | none => rw [hh] at this; cases this
          | some z => exact ⟨z, rfl⟩
        have HSO := hide hz
        have HBQ : Hid (BoxT w'.heap.size (.int .i64 y.1.1) (.int .i64 y.1.2.1) (.string y.1.2.2) (.slice y.2.1.1 y.2.2.length y.2.1.2) (put4 w4 w'.heap.size 0 (.int .i64 y.1.1) (.int .i64 y.1.2.1) (.string y.1.2.2) (.slice y.2.1.1 y.2.2.length y.2.1.2))) := HBT.out.put _ _ _ _
        have HBP : Hid (Below w.heap.size w (put4 w4 w'.heap.size 0 (.int .i64 y.1.1) (.int .i64 y.1.2.1) (.string y.1.2.2) (.slice y.2.1.1 y.2.2.length y.2.1.2))) := put_below HBA.out (by omega) _ _ _ _
        have HSW := hide H.out.2.2.2.2
        have HIW : Hid (∀ w6, Below (put4 w4 w'.heap.size 0 (.int .i64 y.1.1) (.int .i64 y.1.2.1) (.string y.1.2.2) (.slice y.2.1.1 y.2.2.length y.2.1.2)).heap.size (put4 w4 w'.heap.size 0 (.int .i64 y.1.1) (.int .i64 y.1.2.1) (.string y.1.2.2) (.slice y.2.1.1 y.2.2.length y.2.1.2)) w6 → In w6.heap.size w6 (N + 1) y) := fun w6 h6 => by
          have h0 : In (put4 w4 w'.heap.size 0 (.int .i64 y.1.1) (.int .i64 y.1.2.1) (.string y.1.2.2) (.slice y.2.1.1 y.2.2.length y.2.1.2)).heap.size (put4 w4 w'.heap.size 0 (.int .i64 y.1.1) (.int .i64 y.1.2.1) (.string y.1.2.2) (.slice y.2.1.1 y.2.2.length y.2.1.2)) (N + 1) y := by
            rw [put4_size]
            exact In.off (P := fun b => b < B ∨ (w'.alloc (.cells #[.int .i64 0, .int .i64 0, .string ⟨#[]⟩, .slice none 0 0] 24)).heap.size ≤ b) (fun b hh => put4_block (by have := HB2.out.size; simp at hh; omega) _ _ _ _) H.out.2.2.1 H.out.2.1
          exact (h0.below h6).mono h6.size
        clear H HBT hz
        have HMK := hide (HM.out _ HBP.out)
        rw [HE0.out] at HMK
        go_wp2_with fail
        refine HMK.out.mono ?_
        rintro e w5 ⟨y2, rfl, H2⟩
        obtain ⟨⟨t0, t1, t2, t3⟩, _⟩ := (HBQ.out.below H2.out.1).cells
        have HCD : Hid (rvC 0 (rvO 0 o) = 0) := by rw [Hid]; simp [rvC, HSO.out]
        rw [HCD.out]
        have e4 : val (N + 1) y2 = .agg #[.int .i64 y2.1.1, .int .i64 y2.1.2.1, .string y2.1.2.2, .slice y2.2.1.1 y2.2.2.length y2.2.1.2] := rfl
        rw [e4]
        have HB5 : Hid (Below w.heap.size w w5) := HBP.out.trans (H2.out.1.mono HBP.out.size)
        have hw5 : w'.heap.size < w5.heap.size := Nat.lt_of_lt_of_le HBQ.out.lt H2.out.1.size
        have HSK : Hid (∀ w6, Below w5.heap.size w5 w6 → Calls Try.prog 13 #[.agg #[.int .i64 y2.1.1, .int .i64 y2.1.2.1, .string y2.1.2.2, .slice y2.2.1.1 y2.2.2.length y2.2.1.2], .agg #[.int .i64 y.1.1, .int .i64 y.1.2.1, .string y.1.2.2, .slice y.2.1.1 y.2.2.length y.2.1.2]] w6 fun e w' => e = .returned (.bool true) ∧ Below w6.heap.size w6 w') := by
          intro w6 h6
          exact HS.out y2 y _ w6 H2.out.2.2.2 HSW.out ((H2.out.2.1.below h6).mono h6.size) (HIW.out w6 (H2.out.1.trans (h6.mono H2.out.1.size)))
        clear e4 H2 HMK HM HS HCD
        go_wp2_with fail
        refine (HSK.out _ ((Below.refl _ _).alloc (Nat.le_refl _) _)).mono ?_
        rintro e w6 ⟨rfl, hb6⟩
        have HB6 : Hid (Below w.heap.size w w6) := ((HB5.out).alloc (HB5.out).size _).trans (hb6.mono (Nat.le_trans (HB5.out).size (by simp)))
        clear hb6 HSK
        go_wp2_with fail
        go_ret
        exact ⟨rfl, HB6.out⟩

theorem rsays_any (n m : Nat) (x : Tm (n + 1)) (b : List (Tm m)) (a : Option Addr) (c B : Nat) (self : Int) (w : World) (hx : In B w (n + 1) x) (hb : Lies B w m b a) (hB : B ≤ w.heap.size) (hN : (nodes (n + 1) x).length ≤ 2097152) (hbl : b.length ≤ 9223372036854775807) (hNb : ∀ y ∈ b, (nodes m y).length ≤ 2097152) :
    Calls Try.prog 7 #[val (n + 1) x, .slice a b.length c, .int .i64 self] w fun e w' => e = .returned (.bool true) ∧ Below w.heap.size w w' := by
  refine rsays_walk B (m + n) (vl m b self (n + 1) x) a b.length c self x.1.1 x.1.2.1 x.1.2.2 x.2.1.1 x.2.2.length x.2.1.2 (chk (n + 1) x) (bndB m b) w hB ?_ ?_ ?_ ?_ ?_
  · intro w1 h1
    exact rcheck_any (n + 1) x B w1 (hx.below (h1.mono hB)) (Nat.le_trans hB h1.size) hN
  · intro w1 h1
    exact rbound_any m b a c B w1 (hb.below (h1.mono hB)) hbl hNb (Nat.le_trans hB h1.size)
  · intro hE w1 h1
    obtain ⟨e1, e2, e3⟩ := rvE_zero hE
    exact dvv_any n m x b a c B self w1 (hx.below (h1.mono hB)) (hb.below (h1.mono hB)) (Nat.le_trans hB h1.size) e1 e2 e3
  · intro w1 h1
    exact rvalue_any n m x b a c B self w1 (hx.below (h1.mono hB)) (hb.below (h1.mono hB)) (Nat.le_trans hB h1.size) hN hbl hNb
  · intro y z t w1 h1 h2 h3 h4
    have h := same_any (m + n + 1) y (m + n + 1) z w1.heap.size w1 h3 h4 (Nat.le_refl _)
    rw [same_trans _ _ _ _ _ _ h1 (same_symm _ _ _ _ h2)] at h
    exact h
end Go.Proofs.Ytfaoeccnhbcjgaa
