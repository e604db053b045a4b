/- What is proved here: heap.copying's one and all of words that stand for right terms: what cpF and cpL say. No condition but sizes. -/
import Derived.Test.YtfaoeccnhbcjgabHp18
namespace Go.Proofs.Ytfaoeccnhbcjgab
open Go.RowKit Go.Maps

/-- The parts of a tuple that begins at p. -/
def partsOf (ws : List Wd) (p n : Nat) : List Wd := (ws.drop (p + 1)).take n
theorem partsOf_at {ws : List Wd} {p n i : Nat} (hi : i < n) : (partsOf ws p n)[i]? = ws[p + 1 + i]? := by
  unfold partsOf
  rw [List.getElem?_take_of_lt hi, List.getElem?_drop]
theorem partsOf_length {ws : List Wd} {p n : Nat} (h : p + 1 + n ≤ ws.length) : (partsOf ws p n).length = n := by
  unfold partsOf
  rw [List.length_take, List.length_drop]
  omega
/-- Words that stand for terms, one by one. -/
def StandL (ws : List Wd) (nm : List ByteArray) (n : Nat) (l : List Wd) (p : List (Tm n)) : Prop := l.length = p.length ∧ ∀ (i : Nat) (v : Wd) (y : Tm n), l[i]? = some v → p[i]? = some y → Stands ws nm n y v
theorem cpF_leaf {ws : List Wd} {n : Nat} {v : Wd} {S : List Wd × Went} (h : v.1 ≠ 4) : cpF ws n v S = (v, S) := by
  cases n with
  | zero => rfl
  | succ n => simp [cpF, h]
theorem cpF_old {ws : List Wd} {n p q : Nat} {S : List Wd × Went} (h : look S.2 p = some q) : cpF ws (n + 1) (4, (p : Int)) S = ((4, (q : Int)), S) := by
  simp [cpF, h]
theorem cpF_new {ws : List Wd} {n p m : Nat} {S : List Wd × Went} (h : look S.2 p = none) (hp : ws[p]? = some (0, (m : Int))) : cpF ws (n + 1) (4, (p : Int)) S =
    ((4, ((cpL (cpF ws n) (partsOf ws p m) S).2.1.length : Int)), (cpL (cpF ws n) (partsOf ws p m) S).2.1 ++ (0, (m : Int)) :: (cpL (cpF ws n) (partsOf ws p m) S).1, (p, (cpL (cpF ws n) (partsOf ws p m) S).2.1.length) :: (cpL (cpF ws n) (partsOf ws p m) S).2.2) := by
  simp [cpF, h, hp, partsOf]

theorem cpL_sizes {ws : List Wd} {nm : List ByteArray} {n : Nat} (ih : ∀ (x : Tm n) (v : Wd) (S : List Wd × Went), Stands ws nm n x v → ((cpF ws n v S).2.1.length : Int) ≤ S.1.length + sz n x ∧ (cpF ws n v S).2.2.length ≤ S.2.length + (nodes n x).length) :
    (l : List Wd) → (p : List (Tm n)) → (S : List Wd × Went) → StandL ws nm n l p → ((cpL (cpF ws n) l S).2.1.length : Int) + p.length ≤ S.1.length + (p.map fun y => 1 + sz n y).sum ∧ (cpL (cpF ws n) l S).2.2.length ≤ S.2.length + (p.flatMap fun y => nodes n y).length
  | [], [], S, _ => by simp [cpL]
  | [], _ :: _, _, h => by have := h.1; simp at this
  | _ :: _, [], _, h => by have := h.1; simp at this
  | v :: l, y :: p, S, h => by
    obtain ⟨a1, a2⟩ := ih y v S (h.2 0 v y rfl rfl)
    obtain ⟨b1, b2⟩ := cpL_sizes ih l p (cpF ws n v S).2 ⟨by have := h.1; simpa using this, fun i v' y' hv hy => h.2 (i + 1) v' y' (by simpa using hv) (by simpa using hy)⟩
    simp only [cpL, List.map_cons, List.sum_cons, List.flatMap_cons, List.length_append, List.length_cons]
    exact ⟨by omega, by omega⟩
theorem tuple_parts {ws : List Wd} {nm : List ByteArray} {n : Nat} {x : Tm (n + 1)} {v : Wd} (h : Stands ws nm (n + 1) x v) (h4 : x.1.1 = 4) : ∃ p : Nat, v = (4, (p : Int)) ∧ ws[p]? = some (0, (x.2.2.length : Int)) ∧ p + 1 + x.2.2.length ≤ ws.length ∧ StandL ws nm n (partsOf ws p x.2.2.length) x.2.2 := by
  obtain ⟨p, e1, e2, e3, e4⟩ := h.2.1 h4
  refine ⟨p, e1, e2, e3, partsOf_length e3, fun i v' y hv hy => ?_⟩
  obtain ⟨u, e5, e6⟩ := e4 i y hy
  rw [partsOf_at (List.getElem?_eq_some_iff.1 hy).1, e5] at hv
  obtain rfl := Option.some.inj hv
  exact e6
theorem leaf_not4 {ws : List Wd} {nm : List ByteArray} {n : Nat} {x : Tm (n + 1)} {v : Wd} (h : Stands ws nm (n + 1) x v) (h4 : x.1.1 ≠ 4) : v.1 ≠ 4 := by
  by_cases h2 : x.1.1 = 2
  · obtain ⟨i, rfl, _⟩ := h.1 h2
    simp
  · rw [h.2.2 h2 h4]
    exact h4
theorem cpF_sizes {ws : List Wd} {nm : List ByteArray} : (n : Nat) → (x : Tm n) → (v : Wd) → (S : List Wd × Went) → Stands ws nm n x v → ((cpF ws n v S).2.1.length : Int) ≤ S.1.length + sz n x ∧ (cpF ws n v S).2.2.length ≤ S.2.length + (nodes n x).length
  | 0, _, _, _, h => h.elim
  | n + 1, x, v, S, h => by
    have hz := (sz_bound (n + 1) x).1
    by_cases h4 : x.1.1 = 4
    · obtain ⟨p, rfl, hp, hl, hs⟩ := tuple_parts h h4
      cases hk : look S.2 p with
      | some q =>
        rw [cpF_old hk]
        exact ⟨by simp only; omega, by simp only; omega⟩
      | none =>
        rw [cpF_new hk hp]
        obtain ⟨a, b⟩ := cpL_sizes (fun x v S hh => cpF_sizes n x v S hh) (partsOf ws p x.2.2.length) x.2.2 S hs
        have e := cpL_length (cpF ws n) (partsOf ws p x.2.2.length) S
        rw [partsOf_length hl] at e
        have k5 : (nodes (n + 1) x).length = 1 + (x.2.2.flatMap fun y => nodes n y).length := by simp [nodes]; omega
        simp only [List.length_append, List.length_cons, e, sz, if_pos h4, k5]
        exact ⟨by omega, by omega⟩
    · rw [cpF_leaf (leaf_not4 h h4)]
      exact ⟨by simp only; omega, by simp only; omega⟩
end Go.Proofs.Ytfaoeccnhbcjgab
