/- What is proved here: the program's reader goes on to the next word. Only the reader's own block turns. Condition: the reader lies in memory, its places within the text. -/
import Derived.Test.YtdlplmpjcemnoabDoorRdr
namespace Go.Proofs.YtdlplmpjcemnoabDoor
open Go.RowKit

theorem moved_heap {w w1 w2 : World} {q : Option Nat} (h : w.grownBy w1 q) (h1 : w2.os = w1.os) (h2 : w2.tape = w1.tape) (h3 : w2.output = w1.output) (h4 : w2.heap = w1.heap) : w.grownBy w2 q :=
  ⟨h1.trans h.os, h2.trans h.tape, h3.trans h.output, by rw [h4]; exact h.size, fun k hk hne => by rw [h4]; exact h.block k hk hne⟩
theorem ends_is (c : UInt8) (w : World) (b : Bool) (h : enB c = b) : Calls Tryd.prog 26 #[.int .u8 c.toNat] w fun e w' => e = .returned (.bool b) ∧ w' = w := by
  rw [← h]; exact ends_any c w

set_option maxHeartbeats 8000000 in
theorem next_any (r : Nat) (s : ByteArray) (b0 e0 : Nat) (w : World) (h : Rd r s b0 e0 w) (he : e0 ≤ s.size) (hs : s.size ≤ 2048) :
    Calls Tryd.prog 14 #[.pointer (some ⟨r, 0, none⟩)] w fun e' w' => e' = .returned (.tuple #[]) ∧ Hid (Rd r s (wordB s e0) (wordE s e0) w' ∧ w.grownBy w' (some r)) := by
  obtain ⟨⟨c0, c1, c2⟩, f1, f2⟩ := h.cells
  have H0 := hide (⟨h.set1 e0, moved_set w r 1 (.int .i64 e0)⟩ : _ ∧ _)
  clear h
  go_enter Tryd.func14, Tryd.ntmps14
  go_wp2_with fail
  go_loopw [] (fun wr => ∃ k : Nat, k ≤ s.size ∧ Hid (Rd r s k e0 wr ∧ w.grownBy wr (some r) ∧ skipTo blB s k = wordB s e0) ∧ True) (fun wr => s.size - (intOf ((wr.cell? ⟨r, 1, none⟩).getD undef)).toNat)
  case atStart => exact ⟨e0, he, ⟨H0.out.1, H0.out.2, rfl⟩, trivial⟩
  case round =>
    obtain ⟨k, hk, HR, _⟩ := hrel
    obtain ⟨⟨c0, c1, c2⟩, f1, f2⟩ := HR.out.1.cells
    by_cases hst : ∃ h : k < s.size, s[k] = 32
    · obtain ⟨hlt, hb⟩ := hst
      have hlt' : (k : Int) < s.size := by omega
      have hg : decide ((k : Int) < s.size) = true := by simp; omega
      have HS := hide (skip_step (p := blB) hlt (by simp [blB, hb]))
      go_wp2_with fail
      go_quiet (fail)
      go_wp2_with fail
      go_roundw
      case rel => exact ⟨k + 1, by omega, ⟨(HR.out.1.drew nq).set1 (k + 1), moved_trans HR.out.2.1 (moved_trans (moved_drew wr nq _) (moved_set _ _ _ _)), by rw [HS.out]; exact HR.out.2.2⟩, trivial⟩
      case measure => simp [go_sem, c1, intOf]; omega
    · have HK : Hid (wordB s e0 = k) := by
        rw [← HR.out.2.2]
        by_cases hlt : k < s.size
        · exact skip_stop (p := blB) hlt (by simp [blB]; exact fun h => hst ⟨hlt, h⟩)
        · exact skip_end (p := blB) hlt
      have hcase : ((¬ k < s.size) ∧ decide ((k : Int) < s.size) = false) ∨ ((k : Int) < s.size ∧ decide ((k : Int) < s.size) = true ∧ ∃ h : k < s.size, ((s[k].toNat : Int) == 32) = false) := by
        by_cases hlt : k < s.size
        · have hb' := byte_ne (k := 32) (d := 32) rfl (fun h => hst ⟨hlt, h⟩)
          exact Or.inr ⟨by omega, by simp; omega, hlt, by simp; omega⟩
        · exact Or.inl ⟨hlt, by simp; omega⟩
      clear hst
      rcases hcase with ⟨hlt, hg⟩ | ⟨hlt', hg, hlt, hbb⟩
      all_goals
        go_wp2_with fail
        go_quiet (fail)
        have HR2 := hide (show Rd r s k k ((wr.drewN nq).setCell ⟨r, 2, none⟩ (.int .i64 k)) ∧ w.grownBy ((wr.drewN nq).setCell ⟨r, 2, none⟩ (.int .i64 k)) (some r) from ⟨(HR.out.1.drew nq).set2 k, moved_trans HR.out.2.1 (moved_trans (moved_drew wr nq _) (moved_set _ _ _ _))⟩)
        go_wp2_with fail
        go_loopw [] (fun wq => ∃ q : Nat, q ≤ s.size ∧ k ≤ q ∧ Hid (Rd r s k q wq ∧ w.grownBy wq (some r) ∧ skipTo (fun c => !enB c) s q = skipTo (fun c => !enB c) s k) ∧ True) (fun wq => s.size - (intOf ((wq.cell? ⟨r, 2, none⟩).getD undef)).toNat)
        case atStart => exact ⟨k, hk, Nat.le_refl _, ⟨HR2.out.1, HR2.out.2, rfl⟩, trivial⟩
        case round =>
          obtain ⟨q, hq, hkq, HQ, _⟩ := hrel
          obtain ⟨⟨c0, c1, c2⟩, f1, f2⟩ := HQ.out.1.cells
          by_cases hst : ∃ h : q < s.size, enB s[q] = false
          · obtain ⟨qlt, qb⟩ := hst
            have hno : k < s.size := Nat.lt_of_le_of_lt hkq qlt
            first | exact absurd hno hlt | skip
            all_goals
              have qlt' : (q : Int) < s.size := by omega
              have qg : decide ((q : Int) < s.size) = true := by simp; omega
              have HS := hide (skip_step (p := fun c => !enB c) qlt (by simp [qb]))
              go_wp2_with fail
              go_quiet ((go_at_call 26; exact Calls.quiet_of_same (ends_is s[q] _ _ qb)))
              go_wp2_with fail
              go_roundw
              case rel => exact ⟨q + 1, by omega, by omega, ⟨(HQ.out.1.drew _).set2 (q + 1), moved_trans HQ.out.2.1 (moved_trans (moved_drew _ _ _) (moved_set _ _ _ _)), by rw [HS.out]; exact HQ.out.2.2⟩, trivial⟩
              case measure => simp [go_sem, c2, intOf]; omega
          · have HK2 : Hid (skipTo (fun c => !enB c) s k = q) := by
              rw [← HQ.out.2.2]
              by_cases hlt : q < s.size
              · exact skip_stop (p := fun c => !enB c) hlt (by simp; cases h : enB s[q]; exact absurd ⟨hlt, h⟩ hst; rfl)
              · exact skip_end (p := fun c => !enB c) hlt
            have qcase : ((¬ q < s.size) ∧ decide ((q : Int) < s.size) = false) ∨ ((q : Int) < s.size ∧ decide ((q : Int) < s.size) = true ∧ ∃ h : q < s.size, enB s[q] = true) := by
              by_cases hlt : q < s.size
              · exact Or.inr ⟨by omega, by simp; omega, hlt, by cases h : enB s[q]; exact absurd ⟨hlt, h⟩ hst; rfl⟩
              · exact Or.inl ⟨hlt, by simp; omega⟩
            clear hst
            rcases qcase with ⟨qlt, qg⟩ | ⟨qlt', qg, qlt, qb⟩
            · have HE : Hid (wordE s e0 = q) := by
                simp only [Hid, wordE, HK.out, HK2.out]
                rw [if_neg (by omega)]
              go_wp2_with fail
              go_quiet (fail)
              go_wp2_with fail
              by_cases hqk : q = k
              · first | exact absurd (show q < s.size by omega) qlt | skip
                all_goals
                  subst hqk
                  go_quiet (fail)
                  go_wp2_with fail
                  go_end0
                  refine ⟨rfl, ?_, moved_heap HQ.out.2.1 rfl rfl rfl rfl⟩
                  rw [HK.out, HE.out]
                  exact HQ.out.1
              · first | exact absurd (show q = k by omega) hqk | skip
                all_goals
                  have hq1 : ((q : Int) == k) = false := by simp; omega
                  have hq2 : (q == k) = false := by simp; omega
                  have hq3 : decide (q = k) = false := by simp; omega
                  have hq4 : decide ((q : Int) = k) = false := by simp; omega
                  clear hqk
                  go_quiet (fail)
                  go_wp2_with fail
                  go_end0
                  refine ⟨rfl, ?_, moved_heap HQ.out.2.1 rfl rfl rfl rfl⟩
                  rw [HK.out, HE.out]
                  exact HQ.out.1
            · have hno : k < s.size := Nat.lt_of_le_of_lt hkq qlt
              first | exact absurd hno hlt | skip
              all_goals
                go_wp2_with fail
                go_quiet ((go_at_call 26; exact Calls.quiet_of_same (ends_is s[q] _ _ qb)))
                go_wp2_with fail
                by_cases hqk : q = k
                · have HE : Hid (wordE s e0 = q + 1) := by
                    simp only [Hid, wordE, HK.out, HK2.out]
                    rw [if_pos ⟨hqk, by omega⟩]
                    omega
                  subst hqk
                  go_quiet (fail)
                  go_wp2_with fail
                  go_end0
                  refine ⟨rfl, ?_, moved_trans HQ.out.2.1 (moved_trans (moved_drew _ _ _) (moved_set _ _ _ _))⟩
                  rw [HK.out, HE.out]
                  exact Rd.set2 HQ.out.1 (q + 1)
                · have HE : Hid (wordE s e0 = q) := by
                    simp only [Hid, wordE, HK.out, HK2.out]
                    rw [if_neg (by omega)]
                  have hq1 : ((q : Int) == k) = false := by simp; omega
                  have hq2 : (q == k) = false := by simp; omega
                  have hq3 : decide (q = k) = false := by simp; omega
                  have hq4 : decide ((q : Int) = k) = false := by simp; omega
                  clear hqk
                  go_quiet (fail)
                  go_wp2_with fail
                  go_end0
                  refine ⟨rfl, ?_, moved_heap HQ.out.2.1 rfl rfl rfl rfl⟩
                  rw [HK.out, HE.out]
                  exact HQ.out.1
end Go.Proofs.YtdlplmpjcemnoabDoor
