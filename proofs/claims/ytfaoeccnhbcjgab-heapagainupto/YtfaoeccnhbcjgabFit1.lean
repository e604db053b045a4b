/- What is proved here: plain facts on rows of terms of whatever depth that a call owns: their cells, and what one that is put in leaves. No condition. -/
import Derived.Test.YtfaoeccnhbcjgabFit0
import Derived.Test.YtfaoeccnhbcjgabOff
namespace Go.Proofs.Ytfaoeccnhbcjgab
open Go.RowKit

def ndA (a : An) : Nd := hdT a.1 a.2
def anCells (l : List An) : List Value := ndCells (l.map ndA)
theorem anCells_length (l : List An) : (anCells l).length = l.length * 4 := by simp [anCells, ndCells_length]
theorem anCells_one (l : List An) : ∀ u ∈ anCells l, u.oneCell' = true := ndCells_one _
theorem anCells_append (l r : List An) : anCells (l ++ r) = anCells l ++ anCells r := by simp [anCells, ndCells_append]

/-- A row of such terms that is owned. -/
def Has (base : Nat) (g c : Nat) (b : List An) (w : World) : Prop := w.ownsRow base 24 4 (.slice (some ⟨g, 0, none⟩) b.length c) b.length (anCells b)

theorem Has.cells {base g c : Nat} {b : List An} {w : World} (h : Has base g c b w) (i : Nat) (y : An) (hy : b[i]? = some y) :
    w.cell? ⟨g, i * 4, none⟩ = some (.int .i64 (ndA y).1.1) ∧ w.cell? ⟨g, i * 4 + 1, none⟩ = some (.int .i64 (ndA y).1.2.1) ∧ w.cell? ⟨g, i * 4 + 2, none⟩ = some (.string (ndA y).1.2.2) ∧ w.cell? ⟨g, i * 4 + 3, none⟩ = some (.slice (ndA y).2.1 (ndA y).2.2.1 (ndA y).2.2.2) :=
  own_nd (l := b.map ndA) h i (ndA y) (by simp [hy])
theorem Has.lt {base g c : Nat} {b : List An} {w : World} (h : Has base g c b w) : base ≤ g ∧ g < w.heap.size := World.ownsRow.lt h g rfl
theorem Has.kept {base g c : Nat} {b : List An} {w w' : World} (h : Has base g c b w) {row : Option Nat} (hg : w.grownBy w' row) (hne : row ≠ some g) : Has base g c b w' :=
  World.ownsRow.kept h hg (Or.inr fun e => hne e.symm)
theorem grown_of_below {w w' : World} (h : Below w.heap.size w w') (row : Option Nat) : w.grownBy w' row := ⟨h.os, h.tape, h.output, h.size, fun k hk _ => h.block k hk⟩
theorem Has.below {base g c : Nat} {b : List An} {w w' : World} (h : Has base g c b w) (hb : Below w.heap.size w w') : Has base g c b w' := h.kept (grown_of_below hb none) (by simp)
theorem grown_below {w w' : World} {g B : Nat} (h : w.grownBy w' (some g)) (hB : B ≤ g) (hg : g < w.heap.size) : Below B w w' := ⟨h.os, h.tape, h.output, h.size, fun k hk => h.block k (by omega) (by simp; omega)⟩
theorem grown_trans {w w1 w2 : World} {row : Option Nat} (h : w.grownBy w1 row) (k : w1.grownBy w2 row) : w.grownBy w2 row :=
  ⟨k.os.trans h.os, k.tape.trans h.tape, k.output.trans h.output, Nat.le_trans h.size k.size, fun b hb hne => (k.block b (Nat.lt_of_lt_of_le hb h.size) hne).trans (h.block b hb hne)⟩
theorem Has.free {base g c : Nat} {b : List An} {w : World} (h : Has base g c b w) (j : Nat) : w.frozen? ⟨g, j, none⟩ = false := by
  obtain ⟨h1, h2⟩ := h
  rcases h2 with ⟨h2, _⟩ | ⟨g', cap, cur, hv, hg, hh, hc, hm, hz, he⟩
  · simp at h2
  · injection hv with e1 e2 e3
    injection e1 with e1
    injection e1 with e1 _
    subst e1
    simp [World.frozen?, hh]

def put4 (w : World) (g o : Nat) (v0 v1 v2 v3 : Value) : World := (((w.setCell ⟨g, o, none⟩ v0).setCell ⟨g, o + 1, none⟩ v1).setCell ⟨g, o + 2, none⟩ v2).setCell ⟨g, o + 3, none⟩ v3
def putNd (w : World) (g o : Nat) (x : Nd) : World := put4 w g o (.int .i64 x.1.1) (.int .i64 x.1.2.1) (.string x.1.2.2) (.slice x.2.1 x.2.2.1 x.2.2.2)

theorem cell_set {w : World} {base e size g L c : Nat} {xs : List Value} (h : w.ownsRow base e size (.slice (some ⟨g, 0, none⟩) L c) L xs) (j : Nat) (u : Value) :
    (w.setCell ⟨g, j, none⟩ u).ownsRow base e size (.slice (some ⟨g, 0, none⟩) L c) L (xs.set j u) := by
  obtain ⟨h1, h2⟩ := h
  refine ⟨by simpa using h1, ?_⟩
  rcases h2 with ⟨h2, _⟩ | ⟨g', cap, cur, hv, hg, hh, hc, hm, hz, he⟩
  · simp at h2
  · injection hv with e1 e2 e3
    injection e1 with e1
    injection e1 with e1 _
    subst e1 e3
    refine Or.inr ⟨g, c, cur.setIfInBounds j u, rfl, hg, ?_, hc, hm, by simpa using hz, ?_⟩
    · simp [World.setCell, Array.getElem?_modify, hh]
    · rw [← he]
      simp [List.take_set]

theorem ndCells_set : (l : List Nd) → (i : Nat) → (x : Nd) → i < l.length →
    ((((ndCells l).set (i * 4) (.int .i64 x.1.1)).set (i * 4 + 1) (.int .i64 x.1.2.1)).set (i * 4 + 2) (.string x.1.2.2)).set (i * 4 + 3) (.slice x.2.1 x.2.2.1 x.2.2.2) = ndCells (l.set i x)
  | [], i, x, h => by simp at h
  | y :: l, 0, x, _ => by simp [ndCells, nd4]
  | y :: l, i + 1, x, h => by
    have ih := ndCells_set l i x (by simpa using h)
    have e : ndCells (y :: l) = nd4 y ++ ndCells l := rfl
    have e' : ndCells ((y :: l).set (i + 1) x) = nd4 y ++ ndCells (l.set i x) := rfl
    have hy : (nd4 y).length = 4 := rfl
    rw [e, e', ← ih]
    rw [List.set_append_right _ _ (by rw [hy]; omega), List.set_append_right _ _ (by rw [hy]; omega), List.set_append_right _ _ (by rw [hy]; omega), List.set_append_right _ _ (by rw [hy]; omega), hy]
    rw [show (i + 1) * 4 - 4 = i * 4 by omega, show (i + 1) * 4 + 1 - 4 = i * 4 + 1 by omega, show (i + 1) * 4 + 2 - 4 = i * 4 + 2 by omega, show (i + 1) * 4 + 3 - 4 = i * 4 + 3 by omega]

theorem Has.put {base g c : Nat} {b : List An} {w : World} (h : Has base g c b w) (i : Nat) (t : An) (hi : i < b.length) : Has base g c (b.set i t) (putNd w g (i * 4) (ndA t)) := by
  have h4 := cell_set (cell_set (cell_set (cell_set h (i * 4) (.int .i64 (ndA t).1.1)) (i * 4 + 1) (.int .i64 (ndA t).1.2.1)) (i * 4 + 2) (.string (ndA t).1.2.2)) (i * 4 + 3) (.slice (ndA t).2.1 (ndA t).2.2.1 (ndA t).2.2.2)
  unfold anCells at h4
  rw [ndCells_set (b.map ndA) i (ndA t) (by simpa using hi)] at h4
  unfold Has anCells
  rw [List.map_set, List.length_set]
  exact h4

theorem put4_block {w : World} {g b o : Nat} (h : b ≠ g) (v0 v1 v2 v3 : Value) : (put4 w g o v0 v1 v2 v3).heap[b]? = w.heap[b]? := by
  have hne : g ≠ b := fun e => h e.symm
  simp [put4, World.setCell, Array.getElem?_modify, hne]
theorem put4_size {w : World} {g o : Nat} (v0 v1 v2 v3 : Value) : (put4 w g o v0 v1 v2 v3).heap.size = w.heap.size := by simp [put4, World.setCell]
theorem put4_grown {w : World} {g o : Nat} (v0 v1 v2 v3 : Value) : w.grownBy (put4 w g o v0 v1 v2 v3) (some g) :=
  ⟨rfl, rfl, rfl, Nat.le_of_eq (put4_size _ _ _ _).symm, fun k _ hne => put4_block (fun e => hne (by rw [e])) _ _ _ _⟩

theorem val_nd (n : Nat) (x : Tm (n + 1)) : val (n + 1) x = .agg #[.int .i64 (ndA ⟨n + 1, x⟩).1.1, .int .i64 (ndA ⟨n + 1, x⟩).1.2.1, .string (ndA ⟨n + 1, x⟩).1.2.2, .slice (ndA ⟨n + 1, x⟩).2.1 (ndA ⟨n + 1, x⟩).2.2.1 (ndA ⟨n + 1, x⟩).2.2.2] := rfl

theorem boxed {w w' : World} {v0 v1 v2 v3 : Value} {t : TypeId} (hb : Below (w.alloc (.cells #[v0, v1, v2, v3] t)).heap.size (w.alloc (.cells #[v0, v1, v2, v3] t)) w') :
    (w'.cell? ⟨w.heap.size, 0, none⟩ = some v0 ∧ w'.cell? ⟨w.heap.size, 1, none⟩ = some v1 ∧ w'.cell? ⟨w.heap.size, 2, none⟩ = some v2 ∧ w'.cell? ⟨w.heap.size, 3, none⟩ = some v3) ∧
    (w'.frozen? ⟨w.heap.size, 0, none⟩ = false ∧ w'.frozen? ⟨w.heap.size, 1, none⟩ = false ∧ w'.frozen? ⟨w.heap.size, 2, none⟩ = false ∧ w'.frozen? ⟨w.heap.size, 3, none⟩ = false) := by
  have hc := fun o => hb.cell (p := ⟨w.heap.size, o, none⟩) (by simp)
  have hf := fun o => hb.frozen (p := ⟨w.heap.size, o, none⟩) (by simp)
  exact ⟨⟨(hc 0).trans (by simp [go_sem]), (hc 1).trans (by simp [go_sem]), (hc 2).trans (by simp [go_sem]), (hc 3).trans (by simp [go_sem])⟩, (hf 0).trans (by simp [go_sem]), (hf 1).trans (by simp [go_sem]), (hf 2).trans (by simp [go_sem]), (hf 3).trans (by simp [go_sem])⟩

theorem cells_nx {w1 w2 : World} {q : Nat} {u0 u1 u2 u3 : Value} (hq : q < w1.heap.size) (h : Below w1.heap.size w1 w2)
    (k : w1.cell? ⟨q, 0, none⟩ = some u0 ∧ w1.cell? ⟨q, 1, none⟩ = some u1 ∧ w1.cell? ⟨q, 2, none⟩ = some u2 ∧ w1.cell? ⟨q, 3, none⟩ = some u3) :
    w2.cell? ⟨q, 0, none⟩ = some u0 ∧ w2.cell? ⟨q, 1, none⟩ = some u1 ∧ w2.cell? ⟨q, 2, none⟩ = some u2 ∧ w2.cell? ⟨q, 3, none⟩ = some u3 := by
  obtain ⟨b0, b1, b2, b3⟩ := k
  have hcc := below_cells h
  exact ⟨(hcc _ _ hq).trans b0, (hcc _ _ hq).trans b1, (hcc _ _ hq).trans b2, (hcc _ _ hq).trans b3⟩

/-- What a walk on what fits leaves. -/
def FitPost (base g c : Nat) (o : Option (List An)) (w : World) (e : Ending) (w' : World) : Prop :=
  e = .returned (.bool o.isSome) ∧ w.grownBy w' (some g) ∧ ∀ b, o = some b → Has base g c b w'
def Bnd (B : Nat) (w : World) (b : List An) : Prop := b.length = 4 ∧ ∀ y ∈ b, InA B w y ∧ RightA y
theorem InA.below {B : Nat} {w w' : World} (h : Below B w w') {x : An} (k : InA B w x) : InA B w' x := In.below h k
theorem Bnd.below {B : Nat} {w w' : World} (h : Below B w w') {b : List An} (k : Bnd B w b) : Bnd B w' b := ⟨k.1, fun y hy => ⟨(k.2 y hy).1.below h, (k.2 y hy).2⟩⟩
theorem Bnd.fit {B : Nat} {w : World} {b b' : List An} (k : Bnd B w b) {n m : Nat} {p : Tm n} {t : Tm m} (ht : In B w m t) (hr : RightA ⟨m, t⟩) (h : fit n p m t b = some b') : Bnd B w b' :=
  fit_keep (fun x => InA B w x ∧ RightA x) (parts_and (parts_in B w) parts_right) n p m t ⟨ht, hr⟩ b b' k h
def FFit (n : Nat) : Prop := ∀ (p : Tm n) (m : Nat) (t : Tm m) (b : List An) (base g c B : Nat) (w : World), In B w n p → In B w m t → RightA ⟨n, p⟩ → RightA ⟨m, t⟩ → Bnd B w b → B ≤ base → Has base g c b w →
  Calls Try.prog 55 #[.slice (some ⟨g, 0, none⟩) 4 c, val n p, val m t] w (FitPost base g c (fit n p m t b) w)
end Go.Proofs.Ytfaoeccnhbcjgab
