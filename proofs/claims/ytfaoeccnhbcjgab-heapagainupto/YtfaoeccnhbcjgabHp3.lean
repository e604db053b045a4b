/- What is proved here: the small functions of a heap: New, Used, hasFree, begins, has, name: what they return; they turn no memory that was there. No other condition than the sizes. -/
import Derived.Test.YtfaoeccnhbcjgabHp2
import Derived.Deep.QuietTactic
import Derived.BigQuiet
namespace Go.Proofs.Ytfaoeccnhbcjgab
open Go.RowKit

/-- What New leaves. -/
def NewOut (room : Int) (w : World) (e : Ending) (w' : World) : Prop :=
    (¬ (0 ≤ room ∧ room ≤ 1000) → e = .returned (.tuple #[.pointer none, .int .i64 1]) ∧ w' = w) ∧
    (0 ≤ room ∧ room ≤ 1000 → e = .returned (.tuple #[.pointer (some ⟨w.heap.size, 0, none⟩), .int .i64 0]) ∧ HB w.heap.size room (.slice none 0 0) (.slice none 0 0) (.map none) w' ∧ w'.heap.size = w.heap.size + 1 ∧ Below w.heap.size w w')
theorem new_any (room : Int) (w : World) : Calls Try.prog 14 #[.int .i64 room] w (NewOut room w) := by
  by_cases h0 : room < 0
  · have b0 : decide (room < 0) = true := by simpa using h0
    go_enter Try.func14, Try.ntmps14
    go_wp2_with fail
    go_ret2
    exact ⟨fun _ => ⟨rfl, rfl⟩, fun h => by omega⟩
  · by_cases h1 : 1000 < room
    · have b0 : decide (room < 0) = false := by simpa using h0
      have b1 : decide (1000 < room) = true := by simpa using h1
      go_enter Try.func14, Try.ntmps14
      go_wp2_with fail
      go_ret2
      exact ⟨fun _ => ⟨rfl, rfl⟩, fun h => by omega⟩
    · have b0 : decide (room < 0) = false := by simpa using h0
      have b1 : decide (1000 < room) = false := by simpa using h1
      go_enter Try.func14, Try.ntmps14
      go_wp2_with fail
      go_ret2
      exact ⟨fun h => by omega, fun _ => ⟨rfl, heap_alloc_new w _, by simp, (Below.refl _ _).alloc (Nat.le_refl _) _⟩⟩

theorem used_any (hp : Nat) (room : Int) (ta : Option Addr) (L tc : Nat) (lv mv : Value) (w : World) (HBX : Hid (HB hp room (.slice ta L tc) lv mv w)) :
    Calls Try.prog 23 #[.pointer (some ⟨hp, 0, none⟩)] w fun e w' => e = .returned (.int .i64 L) ∧ w' = w := by
  obtain ⟨⟨c0, c1, c2, c3⟩, hf⟩ := HBX.out.cells
  go_enter Try.func23, Try.ntmps23
  go_wp2_with fail
  go_ret
  exact ⟨rfl, rfl⟩

def beginsB (ws : List Wd) (i : Int) : Bool := decide (0 ≤ i) && match ws[i.toNat]? with
  | some x => x.1 == 0
  | none => false

theorem word_cells {base g c L : Nat} {ws : List Wd} {w : World} (h : w.ownsRow base 37 2 (.slice (some ⟨g, 0, none⟩) L c) L (wCells ws)) (k : Nat) (x : Wd) (hx : ws[k]? = some x) : w.cell? ⟨g, k * 2, none⟩ = some (.int .i64 x.1) ∧ w.cell? ⟨g, k * 2 + 1, none⟩ = some (.int .i64 x.2) := by
  have hc := h.cells (g := g) rfl
  refine ⟨?_, ?_⟩
  · have := hc (k * 2 + 0) (.int .i64 x.1) (by rw [wCells_at ws k x hx 0 (by omega)]; rfl)
    rw [add_none] at this; exact this
  · have := hc (k * 2 + 1) (.int .i64 x.2) (by rw [wCells_at ws k x hx 1 (by omega)]; rfl)
    rw [add_none] at this; exact this

theorem begins_any (base : Nat) (ta : Option Addr) (L tc : Nat) (ws : List Wd) (i : Int) (w : World) (HL : Hid (ws.length = L)) (hL : L ≤ 100000) (HR : Hid (w.ownsRow base 37 2 (.slice ta L tc) L (wCells ws))) :
    Calls Try.prog 68 #[.slice ta L tc, .int .i64 i] w fun e w' => e = .returned (.bool (beginsB ws i)) ∧ w' = w := by
  by_cases h0 : 0 ≤ i
  · obtain ⟨k, rfl⟩ : ∃ k : Nat, i = k := ⟨i.toNat, by omega⟩
    by_cases hlt : k < L
    · obtain ⟨x, hx⟩ : ∃ x, ws[k]? = some x := ⟨ws[k]'(by rw [HL.out]; exact hlt), List.getElem?_eq_getElem _⟩
      obtain ⟨g, c, hv, _, _⟩ := HR.out.form (by omega)
      simp at hv
      obtain ⟨rfl, rfl⟩ := hv
      obtain ⟨x0, x1⟩ := word_cells HR.out k x hx
      have HB : Hid (beginsB ws k = (x.1 == 0)) := by simp [Hid, beginsB, hx]
      have b0 : decide ((0 : Int) ≤ (k : Int)) = true := by simp
      have b1 : decide ((k : Int) < (L : Int)) = true := by simp; omega
      have hk1 : (0 : Int) ≤ (k : Int) := by omega
      have hk2 : (k : Int) < (L : Int) := by omega
      clear hx
      go_enter Try.func68, Try.ntmps68
      go_wp2_with fail
      go_ret
      exact ⟨ret_same HB.out.symm, rfl⟩
    · have HB : Hid (beginsB ws k = false) := by
        have : ws[k]? = none := List.getElem?_eq_none (by rw [HL.out]; omega)
        simp [Hid, beginsB, this]
      have b0 : decide ((0 : Int) ≤ (k : Int)) = true := by simp
      have b1 : decide ((k : Int) < (L : Int)) = false := by simp; omega
      go_enter Try.func68, Try.ntmps68
      go_wp2_with fail
      go_ret
      exact ⟨ret_same HB.out.symm, rfl⟩
  · have HB : Hid (beginsB ws i = false) := by simp [Hid, beginsB, h0]
    have b0 : decide (0 ≤ i) = false := by simpa using h0
    go_enter Try.func68, Try.ntmps68
    go_wp2_with fail
    go_ret
    exact ⟨ret_same HB.out.symm, rfl⟩
end Go.Proofs.Ytfaoeccnhbcjgab
