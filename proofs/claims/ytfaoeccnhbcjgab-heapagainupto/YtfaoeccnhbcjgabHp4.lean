/- What is proved here: the small functions of a heap that only read: has, name, parts, hasFree: what they return. No other condition than the sizes. -/
import Derived.Test.YtfaoeccnhbcjgabHp3
namespace Go.Proofs.Ytfaoeccnhbcjgab
open Go.RowKit

def hasB (L : Nat) (i : Int) : Bool := decide (0 ≤ i) && decide (i < L)
theorem has_any (hp : Nat) (room : Int) (tv : Value) (la : Option Addr) (L lc : Nat) (mv : Value) (i : Int) (w : World) (HBX : Hid (HB hp room tv (.slice la L lc) mv w)) :
    Calls Try.prog 67 #[.pointer (some ⟨hp, 2, none⟩), .int .i64 i] w fun e w' => e = .returned (.bool (hasB L i)) ∧ w' = w := by
  obtain ⟨⟨c0, c1, c2, c3⟩, hf⟩ := HBX.out.cells
  by_cases h0 : 0 ≤ i
  · have HB : Hid (hasB L i = decide (i < L)) := by simp [Hid, hasB, h0]
    have b0 : decide (0 ≤ i) = true := by simpa using h0
    go_enter Try.func67, Try.ntmps67
    go_wp2_with fail
    go_ret
    exact ⟨ret_same HB.out.symm, rfl⟩
  · have HB : Hid (hasB L i = false) := by simp [Hid, hasB, h0]
    have b0 : decide (0 ≤ i) = false := by simpa using h0
    go_enter Try.func67, Try.ntmps67
    go_wp2_with fail
    go_ret
    exact ⟨ret_same HB.out.symm, rfl⟩

theorem str_at (l : List ByteArray) (k : Nat) (s : ByteArray) (h : l[k]? = some s) : (strCells l)[k]? = some (.string s) := by simp [strCells, h]

set_option maxHeartbeats 1000000 in
theorem nameOf_any (base hp : Nat) (room : Int) (tv lv mv : Value) (nm : List ByteArray) (i : Nat) (s : ByteArray) (w : World) (HBX : Hid (HB hp room tv lv mv w)) (HR : Hid (w.ownsRow base 9 1 lv nm.length (strCells nm))) (hi : Hid (nm[i]? = some s)) (hL : nm.length ≤ 100000) (hsz : s.size ≤ 2048) :
    Calls Try.prog 69 #[.pointer (some ⟨hp, 2, none⟩), .int .i64 i] w fun e w' => e = .returned (.string s) ∧ Below w.heap.size w w' := by
  have hlt : i < nm.length := (List.getElem?_eq_some_iff.1 hi.out).1
  obtain ⟨g, c, rfl, _, _⟩ := HR.out.form (by omega)
  have x0 : w.cell? ⟨g, i, none⟩ = some (.string s) := by
    have := HR.out.cells (g := g) rfl i (.string s) (str_at nm i s hi.out)
    rw [add_none] at this; exact this
  obtain ⟨⟨c0, c1, c2, c3⟩, hf⟩ := HBX.out.cells
  generalize nm.length = L at *
  have hk1 : (0 : Int) ≤ (i : Int) := by omega
  have hk2 : (i : Int) < (L : Int) := by omega
  go_enter Try.func69, Try.ntmps69
  go_wp2_with fail
  refine (strcopy_any s _ hsz).mono ?_
  rintro e w1 ⟨rfl, hb1⟩
  go_wp2_with fail
  go_ret
  exact ⟨rfl, hb1⟩

theorem hasFree_any (hp : Nat) (room n : Int) (ta : Option Addr) (L tc : Nat) (lv mv : Value) (w : World) (hL : L ≤ 100000) (hr0 : 0 ≤ room) (hr : room ≤ 1000) (HBX : Hid (HB hp room (.slice ta L tc) lv mv w)) :
    Calls Try.prog 43 #[.pointer (some ⟨hp, 0, none⟩), .int .i64 n] w fun e w' => e = .returned (.bool (decide (n ≤ room - L))) ∧ Below w.heap.size w w' := by
  obtain ⟨⟨c0, c1, c2, c3⟩, hf⟩ := HBX.out.cells
  go_enter Try.func43, Try.ntmps43
  go_wp2_with fail
  go_quiet (fail)
  go_wp2_with fail
  go_ret
  exact ⟨rfl, ⟨rfl, rfl, rfl, Nat.le_refl _, fun _ _ => rfl⟩⟩

theorem wCells_part (ws : List Wd) (k n j : Nat) (hj : j < n * 2) : (wCells ((ws.drop k).take n))[j]? = (wCells ws)[k * 2 + j]? := by
  by_cases hl : k + j / 2 < ws.length
  · obtain ⟨x, hx⟩ : ∃ x, ws[k + j / 2]? = some x := ⟨_, List.getElem?_eq_getElem hl⟩
    have h1 : ((ws.drop k).take n)[j / 2]? = some x := by
      rw [List.getElem?_take_of_lt (by omega), List.getElem?_drop]
      exact hx
    have e1 : j = j / 2 * 2 + j % 2 := by omega
    have e2 : k * 2 + j = (k + j / 2) * 2 + j % 2 := by omega
    rw [e2, wCells_at ws (k + j / 2) x hx (j % 2) (by omega)]
    conv => lhs; rw [e1]
    rw [wCells_at _ (j / 2) x h1 (j % 2) (by omega)]
  · rw [List.getElem?_eq_none (l := wCells ws) (by rw [wCells_length]; omega), List.getElem?_eq_none (by rw [wCells_length, List.length_take, List.length_drop]; omega)]

/-- Where the parts of a tuple at k lie. -/
def PartsAt (ws : List Wd) (k n g : Nat) (w : World) (e : Ending) (w' : World) : Prop := w' = w ∧ ∃ pa pc, e = .returned (.slice (some pa) n pc) ∧ pa.block = g ∧ WordsAt w ((ws.drop (k + 1)).take n) (some pa) ∧ ∃ o, pa = ⟨g, o, none⟩

theorem row_cap {base g L c : Nat} {xs : List Value} {ty : TypeId} {sz : Nat} {w : World} (h : w.ownsRow base ty sz (.slice (some ⟨g, 0, none⟩) L c) L xs) : L ≤ c ∧ c ≤ maxLen := by
  rcases h.2 with ⟨h, _⟩ | ⟨g', cap, cur, h, _, _, h3, h4, _⟩
  · simp at h
  · injection h with _ _ h
    subst h
    exact ⟨h3, h4⟩

theorem parts_any (base : Nat) (g L tc k n : Nat) (ws : List Wd) (w : World) (hL : L ≤ 100000) (HR : Hid (w.ownsRow base 37 2 (.slice (some ⟨g, 0, none⟩) L tc) L (wCells ws))) (hx : Hid (ws[k]? = some (0, (n : Int)))) (hk : k + 1 + n ≤ L) :
    Calls Try.prog 70 #[.slice (some ⟨g, 0, none⟩) L tc, .int .i64 k] w (PartsAt ws k n g w) := by
  obtain ⟨x0, x1⟩ := word_cells HR.out k _ hx.out
  obtain ⟨htc, hmx⟩ := row_cap HR.out
  have HW : Hid (∀ o, (n = 0 ∨ o = (k + 1) * 2) → WordsAt w ((ws.drop (k + 1)).take n) (some ⟨g, o, none⟩)) := by
    rintro o (rfl | rfl)
    · exact Or.inl (by simp)
    · refine Or.inr ⟨_, rfl, fun j u hj => ?_⟩
      have hjn : j < n * 2 := by
        have := (List.getElem?_eq_some_iff.1 hj).1
        rw [wCells_length, List.length_take] at this
        omega
      rw [wCells_part ws (k + 1) n j hjn] at hj
      have := HR.out.cells (g := g) rfl _ u hj
      rw [add_none] at this
      have e : (⟨g, (k + 1) * 2, none⟩ : Addr).add j = ⟨g, (k + 1) * 2 + j, none⟩ := by
        unfold Addr.add
        by_cases h : j = 0 <;> simp [h]
      rw [e]
      exact this
  have hmx' : (tc : Int) ≤ 9223372036854775807 := by unfold maxLen at hmx; omega
  clear hmx
  by_cases hc : tc = k + 1
  · subst hc
    have hn : n = 0 := by omega
    subst hn
    go_enter Try.func70, Try.ntmps70
    go_wp2_with fail
    go_ret
    exact ⟨rfl, _, _, rfl, rfl, HW.out _ (by simp), _, rfl⟩
  · go_enter Try.func70, Try.ntmps70
    go_wp2_with fail
    go_ret
    exact ⟨rfl, _, _, rfl, rfl, HW.out _ (Or.inr rfl), _, rfl⟩
end Go.Proofs.Ytfaoeccnhbcjgab
