/- What is proved here: plain facts on pairs of terms that are still to be asked: how they lie in memory, and what is left of them. No condition. -/
import Derived.Test.YtfaoeccnhbcjgaaMFit3
namespace Go.Proofs.Ytfaoeccnhbcjgaa
open Go.RowKit

def pr8 (x : An × An) : List Value := nd4 (ndA x.1) ++ nd4 (ndA x.2)
def prCells (l : List (An × An)) : List Value := l.flatMap pr8
theorem prCells_length (l : List (An × An)) : (prCells l).length = l.length * 8 := by
  induction l with
  | nil => rfl
  | cons a l ih =>
    have : prCells (a :: l) = pr8 a ++ prCells l := rfl
    rw [this, List.length_append, ih, List.length_cons]
    have : (pr8 a).length = 8 := rfl
    omega
theorem prCells_append (l r : List (An × An)) : prCells (l ++ r) = prCells l ++ prCells r := by simp [prCells]
theorem prCells_one (l : List (An × An)) : ∀ u ∈ prCells l, u.oneCell' = true := by
  intro u hu
  simp only [prCells, List.mem_flatMap] at hu
  obtain ⟨a, _, hu⟩ := hu
  simp [pr8, nd4] at hu
  rcases hu with rfl | rfl | rfl | rfl | rfl | rfl | rfl | rfl <;> rfl

/-- What is good of a pair. -/
def PrIn (B : Nat) (w : World) (x : An × An) : Prop := (InA B w x.1 ∧ RightA x.1) ∧ InA B w x.2 ∧ RightA x.2
/-- The pairs lie there, in another block than g. -/
def TdAt (B g : Nat) (w : World) (td : List (An × An)) (ta : Option Addr) : Prop :=
  (∀ x ∈ td, PrIn B w x) ∧ (td = [] ∨ ∃ h o, ta = some ⟨h, o, none⟩ ∧ B ≤ h ∧ h < w.heap.size ∧ h ≠ g ∧ ∀ j u, (prCells td)[j]? = some u → w.cell? ⟨h, o + j, none⟩ = some u)
theorem TdAt.grown {B g : Nat} {w w' : World} {td : List (An × An)} {ta : Option Addr} (h : TdAt B g w td ta) (hg : w.grownBy w' (some g)) (hB : B ≤ g) (hgw : g < w.heap.size) : TdAt B g w' td ta := by
  obtain ⟨h1, h2⟩ := h
  have hb := grown_below hg hB hgw
  refine ⟨fun x hx => ⟨⟨(h1 x hx).1.1.below hb, (h1 x hx).1.2⟩, (h1 x hx).2.1.below hb, (h1 x hx).2.2⟩, ?_⟩
  rcases h2 with h2 | ⟨b, o, e, k1, k2, k3, k4⟩
  · exact Or.inl h2
  · exact Or.inr ⟨b, o, e, k1, Nat.lt_of_lt_of_le k2 hg.size, k3, fun j u hj => (grown_cells hg b (o + j) k2 k3).trans (k4 j u hj)⟩
/-- The first pair's eight cells. -/
theorem TdAt.first {B g : Nat} {w : World} {x : An × An} {td : List (An × An)} {ta : Option Addr} (h : TdAt B g w (x :: td) ta) : ∃ h o, ta = some ⟨h, o, none⟩ ∧ B ≤ h ∧ h < w.heap.size ∧ h ≠ g ∧
    (w.cell? ⟨h, o, none⟩ = some (.int .i64 (ndA x.1).1.1) ∧ w.cell? ⟨h, o + 1, none⟩ = some (.int .i64 (ndA x.1).1.2.1) ∧ w.cell? ⟨h, o + 2, none⟩ = some (.string (ndA x.1).1.2.2) ∧ w.cell? ⟨h, o + 3, none⟩ = some (.slice (ndA x.1).2.1 (ndA x.1).2.2.1 (ndA x.1).2.2.2)) ∧
    (w.cell? ⟨h, o + 4, none⟩ = some (.int .i64 (ndA x.2).1.1) ∧ w.cell? ⟨h, o + 4 + 1, none⟩ = some (.int .i64 (ndA x.2).1.2.1) ∧ w.cell? ⟨h, o + 4 + 2, none⟩ = some (.string (ndA x.2).1.2.2) ∧ w.cell? ⟨h, o + 4 + 3, none⟩ = some (.slice (ndA x.2).2.1 (ndA x.2).2.2.1 (ndA x.2).2.2.2)) := by
  rcases h.2 with h2 | ⟨b, o, e, k1, k2, k3, k4⟩
  · cases h2
  · have e0 : prCells (x :: td) = pr8 x ++ prCells td := rfl
    rw [e0] at k4
    have hc : ∀ j v, (pr8 x)[j]? = some v → w.cell? ⟨b, o + j, none⟩ = some v := fun j v hv => k4 j v (by
      rw [List.getElem?_append_left (List.getElem?_eq_some_iff.1 hv).1]; exact hv)
    exact ⟨b, o, e, k1, k2, k3, ⟨hc 0 _ rfl, hc 1 _ rfl, hc 2 _ rfl, hc 3 _ rfl⟩, hc 4 _ rfl, hc 5 _ rfl, hc 6 _ rfl, hc 7 _ rfl⟩
/-- What is left, behind the first. -/
theorem TdAt.rest {B g : Nat} {w : World} {x : An × An} {td : List (An × An)} {h o cap : Nat} (k : TdAt B g w (x :: td) (some ⟨h, o, none⟩)) (hcap : td.length + 1 ≤ cap) :
    TdAt B g w td (if cap = 1 then some ⟨h, o, none⟩ else some ⟨h, o + 8, none⟩) := by
  refine ⟨fun y hy => k.1 y (List.mem_cons_of_mem _ hy), ?_⟩
  by_cases hc : cap = 1
  · exact Or.inl (List.eq_nil_of_length_eq_zero (by omega))
  · rw [if_neg hc]
    rcases k.2 with h2 | ⟨b, o', e, k1, k2, k3, k4⟩
    · cases h2
    · simp at e
      obtain ⟨rfl, rfl⟩ := e
      refine Or.inr ⟨h, o + 8, rfl, k1, k2, k3, fun j u hj => ?_⟩
      have e0 : prCells (x :: td) = pr8 x ++ prCells td := rfl
      have := k4 (8 + j) u (by rw [e0, List.getElem?_append_right (by show 8 ≤ 8 + j; omega)]; show (prCells td)[8 + j - 8]? = some u; rw [Nat.add_sub_cancel_left]; exact hj)
      rw [show o + 8 + j = o + (8 + j) by omega]
      exact this

/-- How much is still to be asked. -/
def todoN (td : List (An × An)) : Nat := (td.map fun x => (nodes x.1.1 x.1.2).length).sum
theorem todo_pairs (n m : Nat) (p : List (Tm n)) (q : List (Tm m)) (r : List (An × An)) : todoN (pairs n m p q ++ r) ≤ (p.flatMap fun y => nodes n y).length + todoN r := by
  induction p generalizing q with
  | nil => simp [pairs, todoN]
  | cons x p ih =>
    cases q with
    | nil => simp [pairs, todoN]
    | cons y q =>
      have := ih q
      simp only [pairs, List.zipWith_cons_cons, List.cons_append, todoN, List.map_cons, List.sum_cons, List.flatMap_cons, List.length_append] at this ⊢
      omega
theorem pairs_in {B : Nat} {w : World} {n m : Nat} {x : Tm (n + 1)} {y : Tm (m + 1)} (h : PrIn B w (⟨n + 1, x⟩, ⟨m + 1, y⟩)) : ∀ z ∈ pairs n m x.2.2 y.2.2, PrIn B w z := by
  intro z hz
  simp only [pairs] at hz
  obtain ⟨i, hi⟩ := List.getElem?_of_mem hz
  rw [List.getElem?_zipWith] at hi
  cases h1 : x.2.2[i]? with
  | none => rw [h1] at hi; simp at hi
  | some a =>
    cases h2 : y.2.2[i]? with
    | none => rw [h1, h2] at hi; simp at hi
    | some b =>
      rw [h1, h2] at hi
      simp at hi
      subst hi
      exact ⟨⟨parts_in B w n x a h.1.1 (List.mem_of_getElem? h1), parts_right n x a h.1.2 (List.mem_of_getElem? h1)⟩, parts_in B w m y b h.2.1 (List.mem_of_getElem? h2), parts_right m y b h.2.2 (List.mem_of_getElem? h2)⟩
end Go.Proofs.Ytfaoeccnhbcjgaa
