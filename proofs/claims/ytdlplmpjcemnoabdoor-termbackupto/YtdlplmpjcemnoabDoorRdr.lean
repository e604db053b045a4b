/- What is proved here: the program's reader: word is the text between its two places. No memory turns. Condition: the reader lies in memory, its places within the text. -/
import Derived.Test.YtdlplmpjcemnoabDoorToks
import Derived.BigQuiet
namespace Go.Proofs.YtdlplmpjcemnoabDoor
open Go.RowKit

/-- A reader of text s, at the word from b to e, lies in block r. -/
def Rd (r : Nat) (s : ByteArray) (b e : Nat) (w : World) : Prop := w.heap[r]? = some (.cells #[.string s, .int .i64 b, .int .i64 e] 44)

theorem Rd.cells {r : Nat} {s : ByteArray} {b e : Nat} {w : World} (h : Rd r s b e w) :
    (w.cell? ⟨r, 0, none⟩ = some (.string s) ∧ w.cell? ⟨r, 1, none⟩ = some (.int .i64 b) ∧ w.cell? ⟨r, 2, none⟩ = some (.int .i64 e)) ∧ w.frozen? ⟨r, 1, none⟩ = false ∧ w.frozen? ⟨r, 2, none⟩ = false := by
  unfold Rd at h
  exact ⟨⟨by simp [World.cell?, h], by simp [World.cell?, h], by simp [World.cell?, h]⟩, by simp [World.frozen?, h], by simp [World.frozen?, h]⟩
theorem Rd.set1 {r : Nat} {s : ByteArray} {b e : Nat} {w : World} (h : Rd r s b e w) (k : Nat) : Rd r s k e (w.setCell ⟨r, 1, none⟩ (.int .i64 k)) := by
  unfold Rd at *
  simp [World.setCell, Array.getElem?_modify, h]
theorem Rd.set2 {r : Nat} {s : ByteArray} {b e : Nat} {w : World} (h : Rd r s b e w) (k : Nat) : Rd r s b k (w.setCell ⟨r, 2, none⟩ (.int .i64 k)) := by
  unfold Rd at *
  simp [World.setCell, Array.getElem?_modify, h]
theorem Rd.drew {r : Nat} {s : ByteArray} {b e : Nat} {w : World} (h : Rd r s b e w) (n : Nat) : Rd r s b e (w.drewN n) := h
theorem Rd.lt {r : Nat} {s : ByteArray} {b e : Nat} {w : World} (h : Rd r s b e w) : r < w.heap.size := (Array.getElem?_eq_some_iff.1 h).1

theorem moved_set (w : World) (r o : Nat) (v : Value) : w.grownBy (w.setCell ⟨r, o, none⟩ v) (some r) :=
  ⟨rfl, rfl, rfl, by simp [World.setCell], fun k _ hk => Below.heap_setCell w _ v k (fun e => hk (by rw [e]))⟩
theorem moved_drew (w : World) (n : Nat) (q : Option Nat) : w.grownBy (w.drewN n) q := ⟨rfl, rfl, rfl, Nat.le_refl _, fun _ _ _ => rfl⟩
theorem moved_trans {w w1 w2 : World} {q : Option Nat} (h : w.grownBy w1 q) (k : w1.grownBy w2 q) : w.grownBy w2 q :=
  ⟨k.os.trans h.os, k.tape.trans h.tape, k.output.trans h.output, Nat.le_trans h.size k.size, fun i hi hne => (k.block i (Nat.lt_of_lt_of_le hi h.size) hne).trans (h.block i hi hne)⟩

theorem ends_any (c : UInt8) (w : World) : Calls Tryd.prog 26 #[.int .u8 c.toNat] w fun e w' => e = .returned (.bool (enB c)) ∧ w' = w := by
  by_cases h1 : c = 32
  · subst h1
    go_enter Tryd.func26, Tryd.ntmps26
    go_wp2_with fail
    all_goals go_ret
    all_goals exact ⟨rfl, rfl⟩
  · have d1 := byte_ne (k := 32) (d := 32) rfl h1
    by_cases h2 : c = 40
    · subst h2
      go_enter Tryd.func26, Tryd.ntmps26
      go_wp2_with fail
      all_goals go_ret
      all_goals exact ⟨rfl, rfl⟩
    · have d2 := byte_ne (k := 40) (d := 40) rfl h2
      by_cases h3 : c = 41
      · subst h3
        go_enter Tryd.func26, Tryd.ntmps26
        go_wp2_with fail
        all_goals go_ret
        all_goals exact ⟨rfl, rfl⟩
      · have d3 := byte_ne (k := 41) (d := 41) rfl h3
        go_enter Tryd.func26, Tryd.ntmps26
        go_wp2_with fail
        all_goals go_ret
        all_goals exact ⟨ret_bool (by rw [show enB c = false by simp [enB, h1, h2, h3]]; simp; omega), rfl⟩

theorem word_any (r : Nat) (s : ByteArray) (b e : Nat) (w : World) (h : Rd r s b e w) (hb : b ≤ e) (he : e ≤ s.size) :
    Calls Tryd.prog 16 #[.pointer (some ⟨r, 0, none⟩)] w fun e' w' => e' = .returned (.string (s.extract b e)) ∧ ∃ n, w' = w.drewN n := by
  obtain ⟨⟨c0, c1, c2⟩, f1, f2⟩ := h.cells
  clear h
  have hb' : (b : Int) ≤ e := by omega
  have he' : (e : Int) ≤ s.size := by omega
  go_enter Tryd.func16, Tryd.ntmps16
  go_wp2_with fail
  go_quiet (fail)
  go_wp2_with fail
  go_ret
  exact ⟨by simp, _, rfl⟩
end Go.Proofs.YtdlplmpjcemnoabDoor
