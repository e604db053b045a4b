/- What is proved here: whatever reads as a list of numbers is a row of numbers in memory. No condition. -/
import Derived.Test.YtfaoeccnhbcjgabOpenL
namespace Go.Proofs.Ytfaoeccnhbcjgab
open Go.ChangeShapes Go.WideShapes Go.ChangeAt Go.RowKit

set_option maxRecDepth 100000 in
theorem open_nums {H : Type} {enc : TypeId × Value → H} {W : World} {r : Reach} {b0 : Nat} {v : Value} {d : DataW H} {p : List MemPlace} (hv : Value.okWide Try.prog W r b0 54 v)
    (h : DataW.Trod enc Try.prog W 0 (fun _ => true) true 54 v d p) : ∃ a len cap, v = .slice a len cap ∧ len ≤ cap ∧ cap ≤ maxLen ∧ (len = 0 ∨ ∃ b o, a = some ⟨b, o, none⟩ ∧ b < W.heap.size ∧ ∀ i, i < len → ∃ u, W.cell? ⟨b, o + i, none⟩ = some (.int .i64 u)) := by
  obtain ⟨a, len, cap, rfl⟩ := okWide_slice Try.underlying54 hv
  obtain ⟨f, hf⟩ := h
  have hf' : DataW.trod enc Try.prog W 0 (fun _ => true) true f 54 [.slice a len cap] = some (d, p) := hf
  rcases DataW.trod_slice Try.underlying54 hf' with ⟨e, e2⟩ | ⟨a, len, cap, elems, rest, m, rfl, e, e2, _, hlc, hcm, hel, hat, _, _⟩
  · simp at e e2
    obtain ⟨rfl, rfl, rfl⟩ := e
    exact ⟨none, 0, 0, rfl, Nat.le_refl _, Nat.zero_le _, Or.inl rfl⟩
  · simp at e e2
    obtain ⟨rfl, rfl, rfl⟩ := e
    simp only [cellsInt] at hat
    refine ⟨some a, len, cap, rfl, by omega, hcm, ?_⟩
    rcases Nat.eq_zero_or_pos len with h0 | h0
    · exact Or.inl h0
    · have key : ∀ i, i < len → ∃ u, W.cell? (a.add i) = some (.int .i64 u) := by
        intro i hi
        have hi' := hat i hi
        rw [List.getElem?_eq_getElem (by omega)] at hi'
        obtain ⟨cs', hcs, htr⟩ := Option.bind_eq_some_iff.1 hi'
        obtain ⟨_, hlen, hcell⟩ := World.cells?_some hcs
        obtain ⟨u, rfl, _, _⟩ := DataW.trod_int Try.underlying3 htr
        have c0 := hcell 0 (by omega)
        simp at c0
        exact ⟨u, c0⟩
      obtain ⟨u0, hu0⟩ := key 0 h0
      have ha := spot_none (w := W) (a := a) (v := .int .i64 u0) (by have h9 := hu0; unfold Addr.add at h9 ⊢; simpa using h9)
      have hadd : ∀ j, a.add j = ⟨a.block, a.off + j, none⟩ := fun j => by
        have := Addr.add_lit a.block a.off j
        rw [← ha] at this
        exact this
      refine Or.inr ⟨a.block, a.off, by rw [← ha], World.block_lt_of_cell? W ⟨a.block, a.off, none⟩ (u := .int .i64 u0) (by have := hu0; rw [hadd] at this; simpa using this), fun i hi => ?_⟩
      obtain ⟨u, hu⟩ := key i hi
      rw [hadd] at hu
      exact ⟨u, hu⟩
end Go.Proofs.Ytfaoeccnhbcjgab
