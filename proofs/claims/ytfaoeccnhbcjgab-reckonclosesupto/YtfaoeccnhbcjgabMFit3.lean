/- What is proved here: match.Fits of two terms and a list of terms that lie in memory returns what the plain functions say. Condition: at most 2097152 terms in each. -/
import Derived.Test.YtfaoeccnhbcjgabMFit2
namespace Go.Proofs.Ytfaoeccnhbcjgab
open Go.RowKit

theorem errF_zero {cp ct : Int} {cl bd : Bool} (h : errF cp ct cl bd = 0) : cp = 0 ∧ ct = 0 ∧ cl = true ∧ bd = true := by
  unfold errF at h
  split at h
  · split at h
    · split at h
      · rename_i h1 h2 h3
        simp at h3
        exact ⟨h1, h2, h3.1, h3.2⟩
      · cases h
    · rename_i h1 h2; exact absurd h h2
  · rename_i h1; exact absurd h h1

theorem bnd_four {n : Nat} {q : List (Tm n)} (h : bndB n q = true) : q.length = 4 := by
  unfold bndB at h
  simp at h
  exact h.1
theorem bnd_right {n : Nat} {q : List (Tm n)} (h : bndB n q = true) : ∀ y ∈ anL n q, RightA y := by
  intro y hy
  simp only [anL, List.mem_map] at hy
  obtain ⟨x, hx, rfl⟩ := hy
  unfold bndB at h
  simp only [Bool.and_eq_true, List.all_eq_true] at h
  have h2 := h.2 x hx
  unfold okB at h2
  simp only [Bool.and_eq_true, beq_iff_eq] at h2
  exact chk_good n x h2.1
theorem lies_in {B : Nat} {w : World} {n : Nat} {q : List (Tm n)} {a : Option Addr} (h : Lies B w n q a) : ∀ y ∈ anL n q, InA B w y := by
  intro y hy
  simp only [anL, List.mem_map] at hy
  obtain ⟨x, hx, rfl⟩ := hy
  rcases h with h | ⟨b, o, _, _, h⟩
  · rw [h] at hx; cases hx
  · obtain ⟨i, hi⟩ := List.getElem?_of_mem hx
    exact (h i x hi).2
theorem lies_bnd {B : Nat} {w : World} {n : Nat} {q : List (Tm n)} {a : Option Addr} (h : Lies B w n q a) (k : bndB n q = true) : Bnd B w (anL n q) :=
  ⟨by rw [anL_length]; exact bnd_four k, fun y hy => ⟨lies_in h y hy, bnd_right k y hy⟩⟩

theorem mfits_any (n m o : Nat) (p : Tm n) (t : Tm m) (q : List (Tm o)) (a : Option Addr) (c B : Nat) (w : World) (hp : In B w n p) (ht : In B w m t) (hq : Lies B w o q a) (hB : B ≤ w.heap.size)
    (hNp : (nodes n p).length ≤ 2097152) (hNt : (nodes m t).length ≤ 2097152) (hNq : ∀ y ∈ q, (nodes o y).length ≤ 2097152) (hql : q.length ≤ 9223372036854775807) :
    Calls Try.prog 26 #[val n p, val m t, .slice a q.length c] w (FitOut (errF (chk n p) (chk m t) (closedB m t) (bndB o q)) (fit n p m t (anL o q)) w) := by
  cases n with
  | zero => exact hp.elim
  | succ n =>
  cases m with
  | zero => exact ht.elim
  | succ m =>
  refine mfits_walk w p.1.1 p.1.2.1 t.1.1 t.1.2.1 p.1.2.2 t.1.2.2 p.2.1.1 t.2.1.1 p.2.2.length p.2.1.2 t.2.2.length t.2.1.2 a q.length c _ _ _ _ _ (anL o q) ?_ ?_ ?_ ?_ ?_ ?_ ?_
  · exact fun w1 h1 => tcheck_any (n + 1) p B w1 (hp.below (h1.mono hB)) (Nat.le_trans hB h1.size) hNp
  · exact fun w1 h1 => tcheck_any (m + 1) t B w1 (ht.below (h1.mono hB)) (Nat.le_trans hB h1.size) hNt
  · intro w1 h1
    rw [← closed_eq]
    exact closed_any (m + 1) t B w1 (ht.below (h1.mono hB)) (Nat.le_trans hB h1.size)
  · exact fun w1 h1 => areB_any o q a c B w1 (hq.below (h1.mono hB)) hql hNq (Nat.le_trans hB h1.size)
  · intro hbd w1 h1
    have h4 := bnd_four hbd
    rcases hq with hq | ⟨pb, po, rfl, hb, hq⟩
    · rw [hq] at h4; simp at h4
    · have hc := clone_list o q 4 pb po c w1 h4 (by decide) (by decide) (fun w2 h2 => held_cells fun i y hy => ((hq i y hy).1.below (h1.mono hB) hb).below (h2.mono (Nat.le_trans hB h1.size)) hb)
      rw [h4]
      exact hc
  · intro he w1 base g c1 h1 hba hh
    obtain ⟨e1, e2, e3, e4⟩ := errF_zero he
    exact fits_any (n + 1) p (m + 1) t (anL o q) base g c1 B w1 (hp.below (h1.mono hB)) (ht.below (h1.mono hB)) (chk_good _ _ e1) (chk_good _ _ e2) ((lies_bnd hq e4).below (h1.mono hB)) (Nat.le_trans hB hba) hh
  · intro he w1 base g c1 b hf h1 hh
    obtain ⟨e1, e2, e3, e4⟩ := errF_zero he
    have hb1 := ((lies_bnd hq e4).fit ht (chk_good _ _ e2) hf).below (h1.mono hB)
    have hl := uni_lies hh (fun y hy => (hb1.2 y hy).1) (Nat.le_trans hB h1.size)
    have hlen : (uni b).length = 4 := by simp [uni, hb1.1]
    have hc := copyAll_any (top b) (copy_any _) (uni b) (some ⟨g, 0, none⟩) c1 w1.heap.size w1 hl (by omega) (uni_right fun y hy => ⟨(hb1.2 y hy).2, fun h0 => by
      have hin := (hb1.2 y hy).1
      obtain ⟨n', x⟩ := y
      simp only at h0
      subst h0
      exact hin.elim⟩) (Nat.le_refl _)
    rw [hlen] at hc
    exact ⟨hb1.1, hc⟩
end Go.Proofs.Ytfaoeccnhbcjgab
