/- What is proved here: plain facts and contracts that the claimed theorem stands on, several texts in one: clerkkeep.OrderLaws, called with three terms that lie in memory, each with at most 2097152 terms in it, returns true and turns no memory that was there. a plain fact: a term has at most as many terms in it as it holds terms and letters. No condition. whatever reads as a term is a tree that lies in memory, no larger than the reading's bulk; and a row over terms follows from what the call does. No condition. -/
import Derived.Test.YtpehdgbdinjbaabG03
import Derived.Test.YtpehdgbdinjbaabG01
import Derived.ProofKit
import Derived.OpenShut
import Derived.JoinedCond
namespace Go.Proofs.Ytpehdgbdinjbaab
open Go.RowKit

theorem ord_num_two (g : Nat) : ord 1 (numT 2) 2 (twoT g) = -1 := by simp [ord, numT, twoT, cmpI]
theorem ord_two_two (g h : Nat) : ord 2 (twoT g) 2 (twoT h) = 0 := by
  simp [ord, twoT, ordL, wordT, numT, cmpI, cmpS, bl_irrefl]

/-- Is a small number less than a small tuple, and that the same as itself? -/
theorem num_two (w1 : World) (g : Nat) (h : In w1.heap.size w1 2 (twoT g)) :
    Calls Try.prog 9 #[.agg #[.int .i64 1, .int .i64 2, .string ⟨#[]⟩, .slice none 0 0], .agg #[.int .i64 4, .int .i64 0, .string ⟨#[]⟩, .slice (some ⟨g, 0, none⟩) 2 2]] w1 fun e w' => e = .returned (.int .i64 (-1)) ∧ Below w1.heap.size w1 w' := by
  have := order_any 1 (numT 2) 2 (twoT g) w1.heap.size w1 (num_in 2 (by simp [I64]) _ _) h (Nat.le_refl _)
  rw [ord_num_two] at this
  exact this
theorem two_two (w1 : World) (g g' : Nat) (h : In w1.heap.size w1 2 (twoT g)) (h' : In w1.heap.size w1 2 (twoT g')) :
    Calls Try.prog 9 #[.agg #[.int .i64 4, .int .i64 0, .string ⟨#[]⟩, .slice (some ⟨g, 0, none⟩) 2 2], .agg #[.int .i64 4, .int .i64 0, .string ⟨#[]⟩, .slice (some ⟨g', 0, none⟩) 2 2]] w1 fun e w' => e = .returned (.int .i64 0) ∧ Below w1.heap.size w1 w' := by
  have := order_any 2 (twoT g) 2 (twoT g') w1.heap.size w1 h h' (Nat.le_refl _)
  rw [ord_two_two] at this
  exact this

set_option maxRecDepth 100000 in
set_option maxHeartbeats 1000000 in
theorem laws_walk (w : World) (k u k' u' k2 u2 : Int) (s s' s2 : ByteArray) (a a' a2 : Option Addr) (l c l' c' l2 c2 : Nat) (rxy ryx ryz rxz p q p2 : Int) (sb : Bool)
    (HXY : Hid (∀ w1, Below w.heap.size w w1 → Calls Try.prog 9 #[.agg #[.int .i64 k, .int .i64 u, .string s, .slice a l c], .agg #[.int .i64 k', .int .i64 u', .string s', .slice a' l' c']] w1 fun e w' => e = .returned (.int .i64 rxy) ∧ Below w1.heap.size w1 w'))
    (HYX : Hid (∀ w1, Below w.heap.size w w1 → Calls Try.prog 9 #[.agg #[.int .i64 k', .int .i64 u', .string s', .slice a' l' c'], .agg #[.int .i64 k, .int .i64 u, .string s, .slice a l c]] w1 fun e w' => e = .returned (.int .i64 ryx) ∧ Below w1.heap.size w1 w'))
    (HYZ : Hid (∀ w1, Below w.heap.size w w1 → Calls Try.prog 9 #[.agg #[.int .i64 k', .int .i64 u', .string s', .slice a' l' c'], .agg #[.int .i64 k2, .int .i64 u2, .string s2, .slice a2 l2 c2]] w1 fun e w' => e = .returned (.int .i64 ryz) ∧ Below w1.heap.size w1 w'))
    (HXZ : Hid (∀ w1, Below w.heap.size w w1 → Calls Try.prog 9 #[.agg #[.int .i64 k, .int .i64 u, .string s, .slice a l c], .agg #[.int .i64 k2, .int .i64 u2, .string s2, .slice a2 l2 c2]] w1 fun e w' => e = .returned (.int .i64 rxz) ∧ Below w1.heap.size w1 w'))
    (HSA : Hid (∀ w1, Below w.heap.size w w1 → Calls Try.prog 13 #[.agg #[.int .i64 k, .int .i64 u, .string s, .slice a l c], .agg #[.int .i64 k', .int .i64 u', .string s', .slice a' l' c']] w1 fun e w' => e = .returned (.bool sb) ∧ Below w1.heap.size w1 w'))
    (HP : Hid (∀ w1, Below w.heap.size w w1 → Calls Try.prog 12 #[.agg #[.int .i64 k, .int .i64 u, .string s, .slice a l c]] w1 fun e w' => e = .returned (.int .i64 p) ∧ Below w1.heap.size w1 w'))
    (HQ : Hid (∀ w1, Below w.heap.size w w1 → Calls Try.prog 12 #[.agg #[.int .i64 k', .int .i64 u', .string s', .slice a' l' c']] w1 fun e w' => e = .returned (.int .i64 q) ∧ Below w1.heap.size w1 w'))
    (HR : Hid (∀ w1, Below w.heap.size w w1 → Calls Try.prog 12 #[.agg #[.int .i64 k2, .int .i64 u2, .string s2, .slice a2 l2 c2]] w1 fun e w' => e = .returned (.int .i64 p2) ∧ Below w1.heap.size w1 w'))
    (HE : Hid (p = 0 → q = 0 → p2 = 0 → rxy = -ryx ∧ ((rxy == 0) = sb) ∧ (0 < rxy ∨ 0 < ryz ∨ rxz ≤ 0))) (hlo : -1 ≤ ryx) (hhi : ryx ≤ 1) :
    Calls Try.prog 3 #[.agg #[.int .i64 k, .int .i64 u, .string s, .slice a l c], .agg #[.int .i64 k', .int .i64 u', .string s', .slice a' l' c'], .agg #[.int .i64 k2, .int .i64 u2, .string s2, .slice a2 l2 c2]] w fun e w' => e = .returned (.bool true) ∧ Below w.heap.size w w' := by
  go_enter Try.func3, Try.ntmps3
  go_wp2_with fail
  refine (num_any _ _).mono ?_
  rintro e w1 ⟨rfl, hb1⟩
  have HB1 := hide hb1
  clear hb1
  go_wp2_with fail
  refine (two_any _).mono ?_
  rintro e w2 ⟨g, rfl, H2⟩
  have HB2 := hide (HB1.out.trans (H2.out.1.mono HB1.out.size))
  clear HB1
  go_wp2_with fail
  refine (num_two _ g H2.out.2).mono ?_
  rintro e w3 ⟨rfl, hb3⟩
  have HB3 := hide (HB2.out.trans (hb3.mono HB2.out.size))
  clear HB2 H2 hb3
  go_wp2_with fail
  refine (two_any _).mono ?_
  rintro e w4 ⟨g4, rfl, H4⟩
  have HB4 := hide (HB3.out.trans (H4.out.1.mono HB3.out.size))
  clear HB3
  go_wp2_with fail
  refine (two_any _).mono ?_
  rintro e w5 ⟨g5, rfl, H5⟩
  have HB5 := hide (HB4.out.trans (H5.out.1.mono HB4.out.size))
  clear HB4
  go_wp2_with fail
  refine (two_two _ g4 g5 ((H4.out.2.below H5.out.1).mono H5.out.1.size) H5.out.2).mono ?_
  rintro e w6 ⟨rfl, hb6⟩
  have HB6 := hide (HB5.out.trans (hb6.mono HB5.out.size))
  clear HB5 H4 H5 hb6
  have b00 := (HB6.out.cell (p := ⟨w.heap.size, 0, none⟩) (by simp only [World.size_alloc]; omega)).trans (by simp [go_sem] : _ = some (Value.int .i64 k))
  have b01 := (HB6.out.cell (p := ⟨w.heap.size, 1, none⟩) (by simp only [World.size_alloc]; omega)).trans (by simp [go_sem] : _ = some (Value.int .i64 u))
  have b02 := (HB6.out.cell (p := ⟨w.heap.size, 2, none⟩) (by simp only [World.size_alloc]; omega)).trans (by simp [go_sem] : _ = some (Value.string s))
  have b03 := (HB6.out.cell (p := ⟨w.heap.size, 3, none⟩) (by simp only [World.size_alloc]; omega)).trans (by simp [go_sem] : _ = some (Value.slice a l c))
  have b10 := (HB6.out.cell (p := ⟨w.heap.size + 1, 0, none⟩) (by simp only [World.size_alloc]; omega)).trans (by simp [go_sem] : _ = some (Value.int .i64 k'))
  have b11 := (HB6.out.cell (p := ⟨w.heap.size + 1, 1, none⟩) (by simp only [World.size_alloc]; omega)).trans (by simp [go_sem] : _ = some (Value.int .i64 u'))
  have b12 := (HB6.out.cell (p := ⟨w.heap.size + 1, 2, none⟩) (by simp only [World.size_alloc]; omega)).trans (by simp [go_sem] : _ = some (Value.string s'))
  have b13 := (HB6.out.cell (p := ⟨w.heap.size + 1, 3, none⟩) (by simp only [World.size_alloc]; omega)).trans (by simp [go_sem] : _ = some (Value.slice a' l' c'))
  have b20 := (HB6.out.cell (p := ⟨w.heap.size + 1 + 1, 0, none⟩) (by simp only [World.size_alloc]; omega)).trans (by simp [go_sem] : _ = some (Value.int .i64 k2))
  have b21 := (HB6.out.cell (p := ⟨w.heap.size + 1 + 1, 1, none⟩) (by simp only [World.size_alloc]; omega)).trans (by simp [go_sem] : _ = some (Value.int .i64 u2))
  have b22 := (HB6.out.cell (p := ⟨w.heap.size + 1 + 1, 2, none⟩) (by simp only [World.size_alloc]; omega)).trans (by simp [go_sem] : _ = some (Value.string s2))
  have b23 := (HB6.out.cell (p := ⟨w.heap.size + 1 + 1, 3, none⟩) (by simp only [World.size_alloc]; omega)).trans (by simp [go_sem] : _ = some (Value.slice a2 l2 c2))
  have HBW : Hid (Below w.heap.size w w6 ∧ w.heap.size + 3 ≤ w6.heap.size) := ⟨((((Below.refl _ _).alloc (Nat.le_refl _) _).alloc (by simp) _).alloc (by simp; omega) _).trans (HB6.out.mono (by simp; omega)), by have := HB6.out.size; simp at this; omega⟩
  clear HB6
  go_wp2_with fail
  have HBX : Hid (Below w.heap.size w (w6.alloc (.cells #[.int .i64 k, .int .i64 u, .string s, .slice a l c, .int .i64 k', .int .i64 u', .string s', .slice a' l' c', .int .i64 k2, .int .i64 u2, .string s2, .slice a2 l2 c2] 24))) := HBW.out.1.alloc HBW.out.1.size _
  go_loopw [25] (fun i wr => ∃ j : Nat, j ≤ 3 ∧ i = .int .i64 j ∧ Hid (Below (w6.heap.size + 1) (w6.alloc (.cells #[.int .i64 k, .int .i64 u, .string s, .slice a l c, .int .i64 k', .int .i64 u', .string s', .slice a' l' c', .int .i64 k2, .int .i64 u2, .string s2, .slice a2 l2 c2] 24)) wr) ∧ Hid ((0 < j → p = 0) ∧ (1 < j → q = 0) ∧ (2 < j → p2 = 0))) (fun i _ => 3 - (intOf i).toNat)
  case atStart => exact ⟨0, by omega, rfl, Below.refl _ _, by simp [Hid]⟩
  case round =>
    obtain ⟨j, hj, rfl, HB, HJ⟩ := hrel
    have HBR : Hid (Below w.heap.size w wr) := HBX.out.trans (HB.out.mono (by have := HBW.out.2; omega))
    have hcc := below_cells HB.out
    have hz := HBW.out.2
    have g0 := (hcc w6.heap.size 0 (by omega)).trans (by simp [go_sem] : _ = some (Value.int .i64 k))
    have g1 := (hcc w6.heap.size 1 (by omega)).trans (by simp [go_sem] : _ = some (Value.int .i64 u))
    have g2 := (hcc w6.heap.size 2 (by omega)).trans (by simp [go_sem] : _ = some (Value.string s))
    have g3 := (hcc w6.heap.size 3 (by omega)).trans (by simp [go_sem] : _ = some (Value.slice a l c))
    have g4 := (hcc w6.heap.size 4 (by omega)).trans (by simp [go_sem] : _ = some (Value.int .i64 k'))
    have g5 := (hcc w6.heap.size 5 (by omega)).trans (by simp [go_sem] : _ = some (Value.int .i64 u'))
    have g6 := (hcc w6.heap.size 6 (by omega)).trans (by simp [go_sem] : _ = some (Value.string s'))
    have g7 := (hcc w6.heap.size 7 (by omega)).trans (by simp [go_sem] : _ = some (Value.slice a' l' c'))
    have g8 := (hcc w6.heap.size 8 (by omega)).trans (by simp [go_sem] : _ = some (Value.int .i64 k2))
    have g9 := (hcc w6.heap.size 9 (by omega)).trans (by simp [go_sem] : _ = some (Value.int .i64 u2))
    have g10 := (hcc w6.heap.size 10 (by omega)).trans (by simp [go_sem] : _ = some (Value.string s2))
    have g11 := (hcc w6.heap.size 11 (by omega)).trans (by simp [go_sem] : _ = some (Value.slice a2 l2 c2))
    have HB6R : Hid (Below w6.heap.size w6 wr) := ((Below.refl _ _).alloc (Nat.le_refl _) _).trans (HB.out.mono (by omega))
    have HBA : Hid (∀ wn, Below wr.heap.size wr wn → Below (w6.heap.size + 1) (w6.alloc (.cells #[.int .i64 k, .int .i64 u, .string s, .slice a l c, .int .i64 k', .int .i64 u', .string s', .slice a' l' c', .int .i64 k2, .int .i64 u2, .string s2, .slice a2 l2 c2] 24)) wn) := fun wn hn => HB.out.trans (hn.mono (by have := HB.out.size; simpa using this))
    clear hcc
    match j, hj with
    | 0, _ =>
      clear hz b00 b01 b02 b03 b10 b11 b12 b13 b20 b21 b22 b23
      go_wp2_with fail
      refine (HP.out _ (HBR.out.alloc HBR.out.size _)).mono ?_
      rintro e w7 ⟨rfl, hb7⟩
      have HB7 : Hid (Below wr.heap.size wr w7) := ((Below.refl _ _).alloc (Nat.le_refl _) _).trans (hb7.mono (by simp))
      clear hb7
      by_cases hv : p = 0
      · have HV : Hid ((0 < 1 → p = 0) ∧ (1 < 1 → q = 0) ∧ (2 < 1 → p2 = 0)) := ⟨fun _ => hv, fun h => by omega, fun h => by omega⟩
        have hv1 : (p != 0) = false := by simpa using hv
        clear hv
        go_wp2_with fail
        go_roundw
        case rel => exact ⟨1, by omega, by go_num, HBA.out _ HB7.out, HV⟩
        case measure => simp [intOf]
      · have hv1 : (p != 0) = true := by simpa using hv
        clear hv
        go_wp2_with fail
        go_ret
        exact ⟨rfl, HBR.out.trans (HB7.out.mono HBR.out.size)⟩
    | 1, _ =>
      clear hz b00 b01 b02 b03 b10 b11 b12 b13 b20 b21 b22 b23
      go_wp2_with fail
      refine (HQ.out _ (HBR.out.alloc HBR.out.size _)).mono ?_
      rintro e w7 ⟨rfl, hb7⟩
      have HB7 : Hid (Below wr.heap.size wr w7) := ((Below.refl _ _).alloc (Nat.le_refl _) _).trans (hb7.mono (by simp))
      clear hb7
      by_cases hv : q = 0
      · have HV : Hid ((0 < 2 → p = 0) ∧ (1 < 2 → q = 0) ∧ (2 < 2 → p2 = 0)) := ⟨fun _ => HJ.out.1 (by omega), fun _ => hv, fun h => by omega⟩
        have hv1 : (q != 0) = false := by simpa using hv
        clear hv
        go_wp2_with fail
        go_roundw
        case rel => exact ⟨2, by omega, by go_num, HBA.out _ HB7.out, HV⟩
        case measure => simp [intOf]
      · have hv1 : (q != 0) = true := by simpa using hv
        clear hv
        go_wp2_with fail
        go_ret
        exact ⟨rfl, HBR.out.trans (HB7.out.mono HBR.out.size)⟩
    | 2, _ =>
      clear hz b00 b01 b02 b03 b10 b11 b12 b13 b20 b21 b22 b23
      go_wp2_with fail
      refine (HR.out _ (HBR.out.alloc HBR.out.size _)).mono ?_
      rintro e w7 ⟨rfl, hb7⟩
      have HB7 : Hid (Below wr.heap.size wr w7) := ((Below.refl _ _).alloc (Nat.le_refl _) _).trans (hb7.mono (by simp))
      clear hb7
      by_cases hv : p2 = 0
      · have HV : Hid ((0 < 3 → p = 0) ∧ (1 < 3 → q = 0) ∧ (2 < 3 → p2 = 0)) := ⟨fun _ => HJ.out.1 (by omega), fun _ => HJ.out.2.1 (by omega), fun _ => hv⟩
        have hv1 : (p2 != 0) = false := by simpa using hv
        clear hv
        go_wp2_with fail
        go_roundw
        case rel => exact ⟨3, by omega, by go_num, HBA.out _ HB7.out, HV⟩
        case measure => simp [intOf]
      · have hv1 : (p2 != 0) = true := by simpa using hv
        clear hv
        go_wp2_with fail
        go_ret
        exact ⟨rfl, HBR.out.trans (HB7.out.mono HBR.out.size)⟩
    | 3, _ =>
      clear g0 g1 g2 g3 g4 g5 g6 g7 g8 g9 g10 g11
      obtain ⟨h1, h2, h3⟩ := HE.out (HJ.out.1 (by omega)) (HJ.out.2.1 (by omega)) (HJ.out.2.2 (by omega))
      have H1 := hide h1
      have H3 := hide h3
      have hcc := below_cells HB6R.out
      replace b00 := (hcc (w.heap.size) 0 (by omega)).trans b00
      replace b01 := (hcc (w.heap.size) 1 (by omega)).trans b01
      replace b02 := (hcc (w.heap.size) 2 (by omega)).trans b02
      replace b03 := (hcc (w.heap.size) 3 (by omega)).trans b03
      replace b10 := (hcc (w.heap.size + 1) 0 (by omega)).trans b10
      replace b11 := (hcc (w.heap.size + 1) 1 (by omega)).trans b11
      replace b12 := (hcc (w.heap.size + 1) 2 (by omega)).trans b12
      replace b13 := (hcc (w.heap.size + 1) 3 (by omega)).trans b13
      replace b20 := (hcc (w.heap.size + 1 + 1) 0 (by omega)).trans b20
      replace b21 := (hcc (w.heap.size + 1 + 1) 1 (by omega)).trans b21
      replace b22 := (hcc (w.heap.size + 1 + 1) 2 (by omega)).trans b22
      replace b23 := (hcc (w.heap.size + 1 + 1) 3 (by omega)).trans b23
      have hz7 : w.heap.size + 3 ≤ wr.heap.size := by have := HB6R.out.size; omega
      clear hcc h1 h3 hz
      go_wp2_with fail
      refine (HXY.out _ HBR.out).mono ?_
      rintro e w7 ⟨rfl, hb7⟩
      have HB7 : Hid (Below w.heap.size w w7) := HBR.out.trans (hb7.mono HBR.out.size)
      have hcc := below_cells hb7
      replace b00 := (hcc (w.heap.size) 0 (by omega)).trans b00
      replace b01 := (hcc (w.heap.size) 1 (by omega)).trans b01
      replace b02 := (hcc (w.heap.size) 2 (by omega)).trans b02
      replace b03 := (hcc (w.heap.size) 3 (by omega)).trans b03
      replace b10 := (hcc (w.heap.size + 1) 0 (by omega)).trans b10
      replace b11 := (hcc (w.heap.size + 1) 1 (by omega)).trans b11
      replace b12 := (hcc (w.heap.size + 1) 2 (by omega)).trans b12
      replace b13 := (hcc (w.heap.size + 1) 3 (by omega)).trans b13
      replace b20 := (hcc (w.heap.size + 1 + 1) 0 (by omega)).trans b20
      replace b21 := (hcc (w.heap.size + 1 + 1) 1 (by omega)).trans b21
      replace b22 := (hcc (w.heap.size + 1 + 1) 2 (by omega)).trans b22
      replace b23 := (hcc (w.heap.size + 1 + 1) 3 (by omega)).trans b23
      have hz8 : w.heap.size + 3 ≤ w7.heap.size := by have := hb7.size; omega
      clear hcc hb7 hz7
      go_wp2_with fail
      refine (HYX.out _ HB7.out).mono ?_
      rintro e w8 ⟨rfl, hb8⟩
      have HB8 : Hid (Below w.heap.size w w8) := HB7.out.trans (hb8.mono HB7.out.size)
      have hcc := below_cells hb8
      replace b00 := (hcc (w.heap.size) 0 (by omega)).trans b00
      replace b01 := (hcc (w.heap.size) 1 (by omega)).trans b01
      replace b02 := (hcc (w.heap.size) 2 (by omega)).trans b02
      replace b03 := (hcc (w.heap.size) 3 (by omega)).trans b03
      replace b10 := (hcc (w.heap.size + 1) 0 (by omega)).trans b10
      replace b11 := (hcc (w.heap.size + 1) 1 (by omega)).trans b11
      replace b12 := (hcc (w.heap.size + 1) 2 (by omega)).trans b12
      replace b13 := (hcc (w.heap.size + 1) 3 (by omega)).trans b13
      replace b20 := (hcc (w.heap.size + 1 + 1) 0 (by omega)).trans b20
      replace b21 := (hcc (w.heap.size + 1 + 1) 1 (by omega)).trans b21
      replace b22 := (hcc (w.heap.size + 1 + 1) 2 (by omega)).trans b22
      replace b23 := (hcc (w.heap.size + 1 + 1) 3 (by omega)).trans b23
      have hz9 : w.heap.size + 3 ≤ w8.heap.size := by have := hb8.size; omega
      clear hcc hb8 hz8
      have hn : (rxy != -ryx) = false := by simpa using H1.out
      go_wp2_with fail
      refine (HSA.out _ HB8.out).mono ?_
      rintro e w9 ⟨rfl, hb9⟩
      have HB9 : Hid (Below w.heap.size w w9) := HB8.out.trans (hb9.mono HB8.out.size)
      have hcc := below_cells hb9
      replace b00 := (hcc (w.heap.size) 0 (by omega)).trans b00
      replace b01 := (hcc (w.heap.size) 1 (by omega)).trans b01
      replace b02 := (hcc (w.heap.size) 2 (by omega)).trans b02
      replace b03 := (hcc (w.heap.size) 3 (by omega)).trans b03
      replace b10 := (hcc (w.heap.size + 1) 0 (by omega)).trans b10
      replace b11 := (hcc (w.heap.size + 1) 1 (by omega)).trans b11
      replace b12 := (hcc (w.heap.size + 1) 2 (by omega)).trans b12
      replace b13 := (hcc (w.heap.size + 1) 3 (by omega)).trans b13
      replace b20 := (hcc (w.heap.size + 1 + 1) 0 (by omega)).trans b20
      replace b21 := (hcc (w.heap.size + 1 + 1) 1 (by omega)).trans b21
      replace b22 := (hcc (w.heap.size + 1 + 1) 2 (by omega)).trans b22
      replace b23 := (hcc (w.heap.size + 1 + 1) 3 (by omega)).trans b23
      have hz10 : w.heap.size + 3 ≤ w9.heap.size := by have := hb9.size; omega
      clear hcc hb9 hz9
      by_cases r1 : 0 < rxy
      · go_wp2_with fail
        go_ret
        exact ⟨rfl, HB9.out⟩
      · have R1 := hide r1
        go_wp2_with fail
        refine (HYZ.out _ HB9.out).mono ?_
        rintro e w10 ⟨rfl, hb10⟩
        have HB10 : Hid (Below w.heap.size w w10) := HB9.out.trans (hb10.mono HB9.out.size)
        have hcc := below_cells hb10
        replace b00 := (hcc (w.heap.size) 0 (by omega)).trans b00
        replace b01 := (hcc (w.heap.size) 1 (by omega)).trans b01
        replace b02 := (hcc (w.heap.size) 2 (by omega)).trans b02
        replace b03 := (hcc (w.heap.size) 3 (by omega)).trans b03
        replace b10 := (hcc (w.heap.size + 1) 0 (by omega)).trans b10
        replace b11 := (hcc (w.heap.size + 1) 1 (by omega)).trans b11
        replace b12 := (hcc (w.heap.size + 1) 2 (by omega)).trans b12
        replace b13 := (hcc (w.heap.size + 1) 3 (by omega)).trans b13
        replace b20 := (hcc (w.heap.size + 1 + 1) 0 (by omega)).trans b20
        replace b21 := (hcc (w.heap.size + 1 + 1) 1 (by omega)).trans b21
        replace b22 := (hcc (w.heap.size + 1 + 1) 2 (by omega)).trans b22
        replace b23 := (hcc (w.heap.size + 1 + 1) 3 (by omega)).trans b23
        clear hcc hb10 hz10
        by_cases r2 : 0 < ryz
        · go_wp2_with fail
          go_ret
          exact ⟨rfl, HB10.out⟩
        · have r3 : rxz ≤ 0 := by
            have h3 := H3.out
            have h4 := R1.out
            omega
          go_wp2_with fail
          refine (HXZ.out _ HB10.out).mono ?_
          rintro e w11 ⟨rfl, hb11⟩
          have HB11 : Hid (Below w.heap.size w w11) := HB10.out.trans (hb11.mono HB10.out.size)
          clear hb11
          go_wp2_with fail
          go_ret
          exact ⟨rfl, HB11.out⟩

theorem laws_any (n m o : Nat) (x : Tm n) (y : Tm m) (z : Tm o) (B : Nat) (w : World) (hx : In B w n x) (hy : In B w m y) (hz : In B w o z) (hB : B ≤ w.heap.size) (hN : (nodes n x).length ≤ 2097152) (hM : (nodes m y).length ≤ 2097152) (hO : (nodes o z).length ≤ 2097152) :
    Calls Try.prog 3 #[val n x, val m y, val o z] w fun e w' => e = .returned (.bool true) ∧ Below w.heap.size w w' := by
  cases n with
  | zero => exact hx.elim
  | succ n =>
  cases m with
  | zero => exact hy.elim
  | succ m =>
  cases o with
  | zero => exact hz.elim
  | succ o =>
  have hr : -1 ≤ ord (m + 1) y (n + 1) x ∧ ord (m + 1) y (n + 1) x ≤ 1 := ord_range _ _ _ _
  exact laws_walk w x.1.1 x.1.2.1 y.1.1 y.1.2.1 z.1.1 z.1.2.1 x.1.2.2 y.1.2.2 z.1.2.2 x.2.1.1 y.2.1.1 z.2.1.1 x.2.2.length x.2.1.2 y.2.2.length y.2.1.2 z.2.2.length z.2.1.2
    (ord (n + 1) x (m + 1) y) (ord (m + 1) y (n + 1) x) (ord (m + 1) y (o + 1) z) (ord (n + 1) x (o + 1) z) (chk (n + 1) x) (chk (m + 1) y) (chk (o + 1) z) (same (n + 1) x (m + 1) y)
    (fun w1 hw => order_any (n + 1) x (m + 1) y B w1 (hx.below (hw.mono hB)) (hy.below (hw.mono hB)) (Nat.le_trans hB hw.size))
    (fun w1 hw => order_any (m + 1) y (n + 1) x B w1 (hy.below (hw.mono hB)) (hx.below (hw.mono hB)) (Nat.le_trans hB hw.size))
    (fun w1 hw => order_any (m + 1) y (o + 1) z B w1 (hy.below (hw.mono hB)) (hz.below (hw.mono hB)) (Nat.le_trans hB hw.size))
    (fun w1 hw => order_any (n + 1) x (o + 1) z B w1 (hx.below (hw.mono hB)) (hz.below (hw.mono hB)) (Nat.le_trans hB hw.size))
    (fun w1 hw => same_any (n + 1) x (m + 1) y B w1 (hx.below (hw.mono hB)) (hy.below (hw.mono hB)) (Nat.le_trans hB hw.size))
    (fun w1 hw => rcheck_any (n + 1) x B w1 (hx.below (hw.mono hB)) (Nat.le_trans hB hw.size) hN)
    (fun w1 hw => rcheck_any (m + 1) y B w1 (hy.below (hw.mono hB)) (Nat.le_trans hB hw.size) hM)
    (fun w1 hw => rcheck_any (o + 1) z B w1 (hz.below (hw.mono hB)) (Nat.le_trans hB hw.size) hO)
    (fun h0 h1 h2 => by
      have gx := chk_good (n + 1) x h0
      have gy := chk_good (m + 1) y h1
      have gz := chk_good (o + 1) z h2
      have hs := ord_same (n + 1) x (m + 1) y gx gy
      have hc := ord_C3 (n + 1) x (m + 1) y (o + 1) z gx gy gz
      refine ⟨ord_anti _ _ _ _, ?_, ?_⟩
      · rw [Bool.eq_iff_iff, beq_iff_eq]; exact hs
      · unfold C3 at hc; omega) hr.1 hr.2
end Go.Proofs.Ytpehdgbdinjbaab
namespace Go.Proofs.Ytpehdgbdinjbaab

/-- How much a term holds: its terms, and the letters of their names. -/
def wt : (n : Nat) → Tm n → Nat
  | 0, _ => 1
  | n + 1, x => 1 + x.1.2.2.size + (x.2.2.map fun y => wt n y).sum

theorem nodes_wt : (n : Nat) → (x : Tm n) → (nodes n x).length ≤ wt n x
  | 0, _ => by simp [nodes, wt]
  | n + 1, x => by
    have key : ∀ l : List (Tm n), (l.flatMap fun y => nodes n y).length ≤ (l.map fun y => wt n y).sum := by
      intro l
      induction l with
      | nil => simp
      | cons y l ih =>
        have := nodes_wt n y
        simp only [List.flatMap_cons, List.length_append, List.map_cons, List.sum_cons]
        omega
    have := key x.2.2
    simp only [nodes, wt, List.length_cons]
    omega
end Go.Proofs.Ytpehdgbdinjbaab
namespace Go.Proofs.Ytpehdgbdinjbaab
open Go.ChangeShapes Go.WideShapes Go.ChangeAt Go.RowKit

theorem own : ownKnob Try.prog.godebug = none := by kernel_rfl
theorem laidOut : laidOutB Try.prog = true := by kernel_rfl
theorem cellsTerm : Try.prog.cellsOf 24 = 4 := by kernel_rfl
theorem cellsInt : Try.prog.cellsOf 3 = 1 := by kernel_rfl
theorem cellsString : Try.prog.cellsOf 9 = 1 := by kernel_rfl
theorem cellsTerms : Try.prog.cellsOf 22 = 1 := by kernel_rfl

theorem list_of {α : Type} {P : Nat → α → Prop} : (len : Nat) → (∀ i, i < len → ∃ y, P i y) → ∃ l : List α, l.length = len ∧ ∀ i y, l[i]? = some y → P i y
  | 0, _ => ⟨[], rfl, fun i y h => by simp at h⟩
  | len + 1, h => by
    obtain ⟨l, hl, hp⟩ := list_of len (fun i hi => h i (by omega))
    obtain ⟨z, hz⟩ := h len (by omega)
    refine ⟨l ++ [z], by simp [hl], fun i y hy => ?_⟩
    by_cases hi : i < l.length
    · rw [List.getElem?_append_left hi] at hy
      exact hp i y hy
    · rw [List.getElem?_append_right (by omega)] at hy
      have h0 : i - l.length = 0 := by
        by_cases h0 : i - l.length = 0
        · exact h0
        · rw [List.getElem?_eq_none (by simp; omega)] at hy; cases hy
      rw [h0] at hy
      have e1 : z = y := by simpa using hy
      have e2 : i = len := by omega
      rw [e2, ← e1]
      exact hz

theorem wt_le {H : Type} {n : Nat} : (p : List (Tm n)) → (es : List (DataW H)) → (∀ (i : Nat) (y : Tm n) (e : DataW H), p[i]? = some y → es[i]? = some e → wt n y ≤ Rows.uptoBulk e) → p.length = es.length → (p.map fun y => wt n y).sum ≤ Rows.uptoBulkAll es
  | [], es, _, h => by simp
  | y :: p, [], _, h => by simp at h
  | y :: p, e :: es, hp, h => by
    have h0 := hp 0 y e (by simp) (by simp)
    have h1 := wt_le p es (fun i y' e' hy he => hp (i + 1) y' e' (by simpa using hy) (by simpa using he)) (by simpa using h)
    simp only [List.map_cons, List.sum_cons, Rows.uptoBulkAll]
    omega

theorem add_add (b o i j : Nat) : ((⟨b, o, none⟩ : Addr).add i).add j = ⟨b, o + i + j, none⟩ := by
  unfold Addr.add
  split <;> split <;> simp_all
theorem spot_none {w : World} {a : Addr} {v : Value} (h : w.cell? ((a.add 0).add 0) = some v) : a = ⟨a.block, a.off, none⟩ := by
  have e : (a.add 0).add 0 = a := rfl
  rw [e] at h
  unfold World.cell? at h
  split at h
  · split at h
    · cases h
    · rename_i hs
      cases a with
      | mk b o s => cases s with
        | none => rfl
        | some q => simp at hs
  · cases h

theorem wf64 {k : Int} (h : (Lit.int .i64 k).wf = true) : I64 k := by
  have : -9223372036854775808 ≤ k ∧ k ≤ 9223372036854775807 := by simpa [Lit.wf, IntKind.min, IntKind.max, IntKind.signed, IntKind.bits] using h
  exact this

set_option maxRecDepth 100000 in
theorem tree_of {H : Type} (enc : TypeId × Value → H) (w : World) (sp : Nat → Bool) : (n f : Nat) → f ≤ 2 * n + 1 → (cs : List Value) → (x : DataW H × List MemPlace) →
    DataW.trod enc Try.prog w 0 sp true f 24 cs = some x →
    ∃ t : Tm (n + 1), cs = [.int .i64 t.1.1, .int .i64 t.1.2.1, .string t.1.2.2, .slice t.2.1.1 t.2.2.length t.2.1.2] ∧ In w.heap.size w (n + 1) t ∧ wt (n + 1) t ≤ Rows.uptoBulk x.1 := by
  intro n
  induction n with
  | zero =>
    intro f hf cs x h
    obtain ⟨xs, m, rfl, rfl, hl, hx, hg⟩ := DataW.trod_struct Try.underlying24 h
    have h0 : DataW.trod enc Try.prog w 0 sp true m 3 ((cs.drop 0).take (Try.prog.cellsOf 3)) = xs[0]? := hg 0 _ rfl
    obtain rfl : m = 0 := by omega
    have hx' : xs.length = 4 := hx
    rw [List.getElem?_eq_getElem (by omega)] at h0
    cases h0
  | succ n ih =>
    intro f hf cs x h
    obtain ⟨xs, m, rfl, rfl, hl, hx, hg⟩ := DataW.trod_struct Try.underlying24 h
    have h0 : DataW.trod enc Try.prog w 0 sp true m 3 ((cs.drop 0).take (Try.prog.cellsOf 3)) = xs[0]? := hg 0 _ rfl
    have h1 : DataW.trod enc Try.prog w 0 sp true m 3 ((cs.drop 1).take (Try.prog.cellsOf 3)) = xs[1]? := hg 1 _ rfl
    have h2 : DataW.trod enc Try.prog w 0 sp true m 9 ((cs.drop 2).take (Try.prog.cellsOf 9)) = xs[2]? := hg 2 _ rfl
    have h3 : DataW.trod enc Try.prog w 0 sp true m 22 ((cs.drop 3).take (Try.prog.cellsOf 22)) = xs[3]? := hg 3 _ rfl
    rw [cellsInt] at h0 h1
    rw [cellsString] at h2
    rw [cellsTerms] at h3
    rw [cellsTerm] at hl
    obtain ⟨c0, c1, c2, c3, rfl⟩ : ∃ c0 c1 c2 c3, cs = [c0, c1, c2, c3] := by
      match cs, hl with
      | [c0, c1, c2, c3], _ => exact ⟨c0, c1, c2, c3, rfl⟩
    obtain ⟨y0, y1, y2, y3, rfl⟩ : ∃ y0 y1 y2 y3, xs = [y0, y1, y2, y3] := by
      match xs, hx with
      | [y0, y1, y2, y3], _ => exact ⟨y0, y1, y2, y3, rfl⟩
    obtain ⟨k, e0, z0, w0⟩ := DataW.trod_int Try.underlying3 (x := y0) (by simpa using h0)
    obtain ⟨u, e1, z1, w1⟩ := DataW.trod_int Try.underlying3 (x := y1) (by simpa using h1)
    obtain ⟨s, e2, z2, w2⟩ := DataW.trod_string Try.underlying9 (x := y2) (by simpa using h2)
    have h3' : DataW.trod enc Try.prog w 0 sp true m 22 [c3] = some y3 := by simpa using h3
    simp at e0 e1 e2
    subst e0 e1 e2 z0 z1 z2
    rcases DataW.trod_slice Try.underlying22 h3' with ⟨e3, rfl⟩ | ⟨a, len, cap, elems, rest, m', rfl, e3, rfl, _, hlc, hcm, hel, hat, _, _⟩
    · simp at e3
      subst e3
      refine ⟨((k, u, s), (none, 0), []), rfl, ⟨⟨wf64 w0, wf64 w1, w2, Nat.le_refl _, Nat.zero_le _⟩, Or.inl rfl⟩, ?_⟩
      have es : s.data.toList.length = s.size := by rw [Array.length_toList]; rfl
      simp only [wt, Rows.uptoBulk, Rows.uptoBulkAll, List.map_cons, List.map_nil, List.sum_nil]
      omega
    · simp at e3
      subst e3
      simp only [cellsTerm] at hat
      have key : ∀ i, i < len → ∃ t : Tm (n + 1), (∃ b o, a = ⟨b, o, none⟩ ∧ b < w.heap.size ∧ Held w b (o + i * 4) (n + 1) t) ∧ In w.heap.size w (n + 1) t ∧ ∀ e, (elems.map (·.1))[i]? = some e → wt (n + 1) t ≤ Rows.uptoBulk e := by
        intro i hi
        have hi' := hat i hi
        have hi0 := hat 0 (by omega)
        rw [List.getElem?_eq_getElem (by omega)] at hi' hi0
        obtain ⟨cs', hcs, htr⟩ := Option.bind_eq_some_iff.1 hi'
        obtain ⟨cs0, hcs0, htr0⟩ := Option.bind_eq_some_iff.1 hi0
        obtain ⟨_, hlen, hcell⟩ := World.cells?_some hcs
        obtain ⟨_, hlen0, hcell0⟩ := World.cells?_some hcs0
        obtain ⟨t, rfl, hin, hb⟩ := ih m' (by omega) cs' _ htr
        have ha := spot_none (w := w) (a := a) (v := cs0[0]'(by omega)) (by have := hcell0 0 (by omega); rw [List.getElem?_eq_getElem (by omega)] at this; simpa using this)
        have hadd : ∀ j, (a.add (i * 4)).add j = ⟨a.block, a.off + i * 4 + j, none⟩ := fun j => by
          have := add_add a.block a.off (i * 4) j
          rw [← ha] at this
          exact this
        have c0 := hcell 0 (by omega)
        have c1 := hcell 1 (by omega)
        have c2 := hcell 2 (by omega)
        have c3 := hcell 3 (by omega)
        rw [hadd] at c0 c1 c2 c3
        simp at c0 c1 c2 c3
        refine ⟨t, ⟨a.block, a.off, ha, World.block_lt_of_cell? w ⟨a.block, a.off + i * 4, none⟩ c0, c0, c1, c2, c3⟩, hin, fun e he => ?_⟩
        rw [List.getElem?_map, List.getElem?_eq_getElem (by omega)] at he
        have : (elems[i]).1 = e := by simpa using he
        rw [← this]
        exact hb
      obtain ⟨p, hpl, hp⟩ := list_of len key
      refine ⟨((k, u, s), (some a, cap), p), by simp [hpl], ⟨⟨wf64 w0, wf64 w1, w2, by simp only; omega, hcm⟩, ?_⟩, ?_⟩
      · rcases Nat.eq_zero_or_pos len with h | h
        · exact Or.inl (List.eq_nil_of_length_eq_zero (hpl.trans h))
        · obtain ⟨⟨b, o, rfl, hb, _⟩, _, _⟩ := hp 0 (p[0]'(by rw [hpl]; exact h)) (List.getElem?_eq_getElem (by rw [hpl]; exact h))
          refine Or.inr ⟨b, o, rfl, hb, fun i y hy => ?_⟩
          obtain ⟨⟨b', o', e, _, hh⟩, hin, _⟩ := hp i y hy
          simp at e
          obtain ⟨rfl, rfl⟩ := e
          exact ⟨hh, hin⟩
      · have hs := wt_le p (elems.map (·.1)) (fun i y e hy he => (hp i y hy).2.2 e he) (by simp; omega)
        have es : s.data.toList.length = s.size := by rw [Array.length_toList]; rfl
        simp only [wt, Rows.uptoBulk, Rows.uptoBulkAll, List.map_cons, List.map_nil] at hs ⊢
        omega

set_option maxRecDepth 100000 in
theorem open_term {H : Type} {enc : TypeId × Value → H} {W : World} {r : Reach} {b0 : Nat} {v : Value} {d : DataW H} {p : List MemPlace} (hv : Value.okWide Try.prog W r b0 24 v)
    (h : DataW.Trod enc Try.prog W 0 (fun _ => true) true 24 v d p) : ∃ n, ∃ t : Tm (n + 1), v = val (n + 1) t ∧ In W.heap.size W (n + 1) t ∧ wt (n + 1) t ≤ Rows.uptoBulk d := by
  obtain ⟨cs, rfl, _⟩ := okWide_struct Try.underlying24 hv
  obtain ⟨f, hf⟩ := h
  obtain ⟨t, e, hin, hb⟩ := tree_of enc W (fun _ => true) f f (by omega) _ _ hf
  refine ⟨f, t, ?_, hin, hb⟩
  have : cs = #[.int .i64 t.1.1, .int .i64 t.1.2.1, .string t.1.2.2, .slice t.2.1.1 t.2.2.length t.2.1.2] := by
    simp [Value.cells] at e
    exact Array.toList_inj.1 e
  rw [this]
  rfl
end Go.Proofs.Ytpehdgbdinjbaab
