/- What is proved here: the document's Check, for every term that lies in memory, with at most 2097152 terms in it, returns what the plain function chk says; where that is 0, each term in it is right by itself. -/
import Derived.Test.YtdfpjpmdldigdabG02
namespace Go.Proofs.Ytdfpjpmdldigdab
open Go.RowKit

theorem rcheck_any (n : Nat) (x : Tm n) (B : Nat) (w : World) (hx : In B w n x) (hB : B ≤ w.heap.size) (hN : (nodes n x).length ≤ 2097152) :
    Calls Try.prog 14 #[val n x] w fun e w' => e = .returned (.int .i64 (chk n x)) ∧ Below w.heap.size w w' := by
  cases n with
  | zero => exact hx.elim
  | succ n =>
  refine rcheck_walk w x.1.1 x.1.2.1 x.1.2.2 x.2.1.1 x.2.2.length x.2.1.2 (nodes (n + 1) x) (deeps (n + 1) x 0) (nodes (n + 1) x).length (sz (n + 1) x) (chk (n + 1) x) rfl (deeps_length (n + 1) x 0) hN
    (nodes_len (n + 1) x B w hx) (fun e he => by have := deeps_bound (n + 1) x 0 e he; omega) rfl ?_ ?_
  · exact fun w1 hw => all_any (n + 1) x 0 B w1 (hx.below (hw.mono hB)) (Nat.le_trans hB hw.size) (by omega) (by omega)
  · exact fun w1 hw => rsize_any (n + 1) x B w1 (hx.below (hw.mono hB)) (Nat.le_trans hB hw.size) hN

theorem chkL_good (z : Int) : (l : List Nd) → (ds : List Int) → (m : Int) → l.length = ds.length → chkL z l ds m = 0 → ∀ y ∈ l, good y = true
  | [], _, _, _, _ => by simp
  | x :: l, [], _, h, _ => by simp at h
  | x :: l, d :: ds, m, h, h0 => by
    simp only [chkL] at h0
    by_cases hg : good x = true
    · rw [if_pos hg] at h0
      intro y hy
      rcases List.mem_cons.1 hy with rfl | hy
      · exact hg
      · exact chkL_good z l ds _ (by simpa using h) h0 y hy
    · rw [if_neg hg] at h0
      cases h0
theorem chk_good (n : Nat) (x : Tm n) (h : chk n x = 0) : ∀ y ∈ nodes n x, good y = true :=
  chkL_good _ _ _ _ (deeps_length n x 0).symm h

theorem nodes_mem {n : Nat} {x : Tm (n + 1)} {y : Tm n} (h : y ∈ x.2.2) {a : Nd} (ha : a ∈ nodes n y) : a ∈ nodes (n + 1) x := by
  simp only [nodes, List.mem_cons, List.mem_flatMap]
  exact Or.inr ⟨y, h, ha⟩

theorem good_kind (x : Nd) (h : good x = true) : x.1.1 = 1 ∨ x.1.1 = 2 ∨ x.1.1 = 3 ∨ x.1.1 = 4 ∨ x.1.1 = 5 ∨ (x.1.1 = 6 ∧ x.1.2.1 = 0) := by
  by_cases h1 : x.1.1 = 1
  · exact Or.inl h1
  by_cases h2 : x.1.1 = 2
  · exact Or.inr (Or.inl h2)
  by_cases h3 : x.1.1 = 3
  · exact Or.inr (Or.inr (Or.inl h3))
  by_cases h4 : x.1.1 = 4
  · exact Or.inr (Or.inr (Or.inr (Or.inl h4)))
  by_cases h5 : x.1.1 = 5
  · exact Or.inr (Or.inr (Or.inr (Or.inr (Or.inl h5))))
  by_cases h6 : x.1.1 = 6
  · refine Or.inr (Or.inr (Or.inr (Or.inr (Or.inr ⟨h6, ?_⟩))))
    unfold good at h
    rw [if_neg h1, if_neg h2, if_neg h3, if_neg h4, if_neg h5, if_pos h6] at h
    simp only [Bool.and_eq_true, beq_iff_eq] at h
    exact h.1.2
  · unfold good at h
    rw [if_neg h1, if_neg h2, if_neg h3, if_neg h4, if_neg h5, if_neg h6] at h
    cases h
end Go.Proofs.Ytdfpjpmdldigdab
