/- What is proved here: plain facts and contracts that the claimed theorem stands on, several texts in one: plain facts on terms that a call builds: which blocks they lie in (Off), that they stay where those blocks stay, and that a row of terms that is owned holds its terms. No condition. plain facts on rows of terms of whatever depth that a call owns: their cells, and what one that is put in leaves. No condition. plain facts on copies of terms: a term is the same as itself, a row that was made is a row of zero terms, and a row of copies grows by one. No condition. -/
import Derived.Test.YtpehdgbdinjbaabG04
import Derived.Test.YtpehdgbdinjbaabG03
import Derived.Laws.MakeOwn
namespace Go.Proofs.Ytpehdgbdinjbaab
open Go.RowKit

/-- Every block that a term leads to is one of these. -/
def Off (P : Nat → Prop) : (n : Nat) → Tm n → Prop
  | 0, _ => False
  | n + 1, x => x.2.2 = [] ∨ ∃ b o, x.2.1.1 = some ⟨b, o, none⟩ ∧ P b ∧ ∀ (i : Nat) (y : Tm n), x.2.2[i]? = some y → Off P n y

theorem Off.mono {P Q : Nat → Prop} (h : ∀ b, P b → Q b) : {n : Nat} → {x : Tm n} → Off P n x → Off Q n x
  | 0, _, k => k
  | _ + 1, _, k => by
    rcases k with k | ⟨b, o, e, hb, k⟩
    · exact Or.inl k
    · exact Or.inr ⟨b, o, e, h b hb, fun i y hy => (k i y hy).mono h⟩

theorem block_cell {w w' : World} {b : Nat} (h : w'.heap[b]? = w.heap[b]?) (o : Nat) : w'.cell? ⟨b, o, none⟩ = w.cell? ⟨b, o, none⟩ := by
  simp [World.cell?, h]
theorem Held.block {w w' : World} {b o : Nat} (h : w'.heap[b]? = w.heap[b]?) : {n : Nat} → {x : Tm n} → Held w b o n x → Held w' b o n x
  | 0, _, k => k
  | _ + 1, _, k => by
    obtain ⟨k0, k1, k2, k3⟩ := k
    exact ⟨(block_cell h _).trans k0, (block_cell h _).trans k1, (block_cell h _).trans k2, (block_cell h _).trans k3⟩
theorem In.off {P : Nat → Prop} {w w' : World} (h : ∀ b, P b → w'.heap[b]? = w.heap[b]?) {B : Nat} : {n : Nat} → {x : Tm n} → Off P n x → In B w n x → In B w' n x
  | 0, _, _, k => k
  | _ + 1, _, p, k => by
    obtain ⟨k0, k1⟩ := k
    refine ⟨k0, ?_⟩
    rcases k1 with k1 | ⟨b, o, e, hb, k1⟩
    · exact Or.inl k1
    · rcases p with p | ⟨b', o', e', hb', p⟩
      · exact Or.inl p
      · rw [e] at e'
        injection e' with e'
        injection e' with e1 e2
        subst e1 e2
        exact Or.inr ⟨b, o, e, hb, fun i y hy => ⟨(k1 i y hy).1.block (h b hb'), (k1 i y hy).2.off h (p i y hy)⟩⟩
theorem In.offB {P : Nat → Prop} {B : Nat} {w : World} : {n : Nat} → {x : Tm n} → Off P n x → In B w n x → Off (fun b => P b ∧ b < B) n x
  | 0, _, p, _ => p
  | _ + 1, _, p, k => by
    obtain ⟨_, k1⟩ := k
    rcases p with p | ⟨b, o, e, hb, p⟩
    · exact Or.inl p
    · rcases k1 with k1 | ⟨b', o', e', hb', k1⟩
      · exact Or.inl k1
      · rw [e] at e'
        injection e' with e'
        injection e' with e1 e2
        subst e1 e2
        exact Or.inr ⟨b, o, e, ⟨hb, hb'⟩, fun i y hy => In.offB (p i y hy) (k1 i y hy).2⟩

/-- A term's own four cells. -/
def hdT : (n : Nat) → Tm n → Nd
  | 0, _ => ((0, 0, ⟨#[]⟩), (none, 0, 0))
  | n + 1, x => hdOf n x
theorem hd_held {w : World} {base g c L : Nat} {n : Nat} {l : List (Tm (n + 1))} (h : w.ownsRow base 24 4 (.slice (some ⟨g, 0, none⟩) L c) L (ndCells (l.map (hdT (n + 1))))) (k : Nat) (x : Tm (n + 1)) (hx : l[k]? = some x) :
    Held w g (0 + k * 4) (n + 1) x := by
  have h1 := own_nd h k (hdT (n + 1) x) (by simp [hx])
  rw [Nat.zero_add]
  exact h1

/-- What a tuple's reading has so far: terms l, in a row of blocks from base on; no term lies in the row's own block. -/
def RowOf (base : Nat) (n : Nat) (l : List (Tm n)) (v : Value) (w : World) : Prop :=
  w.ownsRow base 24 4 v l.length (ndCells (l.map (hdT n))) ∧ ∀ y ∈ l, In w.heap.size w n y ∧ Off (fun b => base ≤ b ∧ v.ownBlock ≠ some b) n y

/-- The row is a tuple. -/
theorem RowOf.tup {base n : Nat} {l : List (Tm (n + 1))} {v : Value} {w : World} (h : RowOf base (n + 1) l v w) : ∃ a c, v = .slice a l.length c ∧ Off (fun b => base ≤ b) (n + 2) ((4, 0, ⟨#[]⟩), (a, c), l) ∧ In w.heap.size w (n + 2) ((4, 0, ⟨#[]⟩), (a, c), l) := by
  obtain ⟨h1, h2⟩ := h
  have hI : I64 4 ∧ I64 0 ∧ (⟨#[]⟩ : ByteArray).size ≤ maxLen := ⟨⟨by omega, by omega⟩, ⟨by omega, by omega⟩, Nat.zero_le _⟩
  have h3 := h1
  obtain ⟨h3a, h3⟩ := h3
  rcases h3 with ⟨h3, h4⟩ | ⟨g, cap, cur, rfl, hg, hh, hc, hm, hz, he⟩
  · have : l = [] := List.eq_nil_of_length_eq_zero h4
    subst this
    refine ⟨none, 0, by rw [h3]; rfl, Or.inl rfl, ⟨hI.1, hI.2.1, hI.2.2, Nat.zero_le _, Nat.zero_le _⟩, Or.inl rfl⟩
  · have hlt : g < w.heap.size := (Array.getElem?_eq_some_iff.1 hh).1
    refine ⟨some ⟨g, 0, none⟩, cap, rfl, Or.inr ⟨g, 0, rfl, hg, fun i y hy => ((h2 y (List.mem_of_getElem? hy)).2).mono fun b hb => hb.1⟩, ⟨hI.1, hI.2.1, hI.2.2, hc, hm⟩, Or.inr ⟨g, 0, rfl, hlt, fun i y hy => ⟨hd_held h1 i y hy, (h2 y (List.mem_of_getElem? hy)).1⟩⟩⟩
end Go.Proofs.Ytpehdgbdinjbaab
namespace Go.Proofs.Ytpehdgbdinjbaab
open Go.RowKit

def ndA (a : An) : Nd := hdT a.1 a.2
def anCells (l : List An) : List Value := ndCells (l.map ndA)
theorem anCells_length (l : List An) : (anCells l).length = l.length * 4 := by simp [anCells, ndCells_length]
theorem anCells_one (l : List An) : ∀ u ∈ anCells l, u.oneCell' = true := ndCells_one _
theorem anCells_append (l r : List An) : anCells (l ++ r) = anCells l ++ anCells r := by simp [anCells, ndCells_append]

/-- A row of such terms that is owned. -/
def Has (base : Nat) (g c : Nat) (b : List An) (w : World) : Prop := w.ownsRow base 24 4 (.slice (some ⟨g, 0, none⟩) b.length c) b.length (anCells b)

theorem Has.cells {base g c : Nat} {b : List An} {w : World} (h : Has base g c b w) (i : Nat) (y : An) (hy : b[i]? = some y) :
    w.cell? ⟨g, i * 4, none⟩ = some (.int .i64 (ndA y).1.1) ∧ w.cell? ⟨g, i * 4 + 1, none⟩ = some (.int .i64 (ndA y).1.2.1) ∧ w.cell? ⟨g, i * 4 + 2, none⟩ = some (.string (ndA y).1.2.2) ∧ w.cell? ⟨g, i * 4 + 3, none⟩ = some (.slice (ndA y).2.1 (ndA y).2.2.1 (ndA y).2.2.2) :=
  own_nd (l := b.map ndA) h i (ndA y) (by simp [hy])
theorem Has.lt {base g c : Nat} {b : List An} {w : World} (h : Has base g c b w) : base ≤ g ∧ g < w.heap.size := World.ownsRow.lt h g rfl
theorem Has.kept {base g c : Nat} {b : List An} {w w' : World} (h : Has base g c b w) {row : Option Nat} (hg : w.grownBy w' row) (hne : row ≠ some g) : Has base g c b w' :=
  World.ownsRow.kept h hg (Or.inr fun e => hne e.symm)
theorem grown_of_below {w w' : World} (h : Below w.heap.size w w') (row : Option Nat) : w.grownBy w' row := ⟨h.os, h.tape, h.output, h.size, fun k hk _ => h.block k hk⟩
theorem Has.below {base g c : Nat} {b : List An} {w w' : World} (h : Has base g c b w) (hb : Below w.heap.size w w') : Has base g c b w' := h.kept (grown_of_below hb none) (by simp)
theorem grown_below {w w' : World} {g B : Nat} (h : w.grownBy w' (some g)) (hB : B ≤ g) (hg : g < w.heap.size) : Below B w w' := ⟨h.os, h.tape, h.output, h.size, fun k hk => h.block k (by omega) (by simp; omega)⟩
theorem grown_trans {w w1 w2 : World} {row : Option Nat} (h : w.grownBy w1 row) (k : w1.grownBy w2 row) : w.grownBy w2 row :=
  ⟨k.os.trans h.os, k.tape.trans h.tape, k.output.trans h.output, Nat.le_trans h.size k.size, fun b hb hne => (k.block b (Nat.lt_of_lt_of_le hb h.size) hne).trans (h.block b hb hne)⟩
theorem Has.free {base g c : Nat} {b : List An} {w : World} (h : Has base g c b w) (j : Nat) : w.frozen? ⟨g, j, none⟩ = false := by
  obtain ⟨h1, h2⟩ := h
  rcases h2 with ⟨h2, _⟩ | ⟨g', cap, cur, hv, hg, hh, hc, hm, hz, he⟩
  · simp at h2
  · injection hv with e1 e2 e3
    injection e1 with e1
    injection e1 with e1 _
    subst e1
    simp [World.frozen?, hh]

def put4 (w : World) (g o : Nat) (v0 v1 v2 v3 : Value) : World := (((w.setCell ⟨g, o, none⟩ v0).setCell ⟨g, o + 1, none⟩ v1).setCell ⟨g, o + 2, none⟩ v2).setCell ⟨g, o + 3, none⟩ v3
def putNd (w : World) (g o : Nat) (x : Nd) : World := put4 w g o (.int .i64 x.1.1) (.int .i64 x.1.2.1) (.string x.1.2.2) (.slice x.2.1 x.2.2.1 x.2.2.2)

theorem cell_set {w : World} {base e size g L c : Nat} {xs : List Value} (h : w.ownsRow base e size (.slice (some ⟨g, 0, none⟩) L c) L xs) (j : Nat) (u : Value) :
    (w.setCell ⟨g, j, none⟩ u).ownsRow base e size (.slice (some ⟨g, 0, none⟩) L c) L (xs.set j u) := by
  obtain ⟨h1, h2⟩ := h
  refine ⟨by simpa using h1, ?_⟩
  rcases h2 with ⟨h2, _⟩ | ⟨g', cap, cur, hv, hg, hh, hc, hm, hz, he⟩
  · simp at h2
  · injection hv with e1 e2 e3
    injection e1 with e1
    injection e1 with e1 _
    subst e1 e3
    refine Or.inr ⟨g, c, cur.setIfInBounds j u, rfl, hg, ?_, hc, hm, by simpa using hz, ?_⟩
    · simp [World.setCell, Array.getElem?_modify, hh]
    · rw [← he]
      simp [List.take_set]

theorem ndCells_set : (l : List Nd) → (i : Nat) → (x : Nd) → i < l.length →
    ((((ndCells l).set (i * 4) (.int .i64 x.1.1)).set (i * 4 + 1) (.int .i64 x.1.2.1)).set (i * 4 + 2) (.string x.1.2.2)).set (i * 4 + 3) (.slice x.2.1 x.2.2.1 x.2.2.2) = ndCells (l.set i x)
  | [], i, x, h => by simp at h
  | y :: l, 0, x, _ => by simp [ndCells, nd4]
  | y :: l, i + 1, x, h => by
    have ih := ndCells_set l i x (by simpa using h)
    have e : ndCells (y :: l) = nd4 y ++ ndCells l := rfl
    have e' : ndCells ((y :: l).set (i + 1) x) = nd4 y ++ ndCells (l.set i x) := rfl
    have hy : (nd4 y).length = 4 := rfl
    rw [e, e', ← ih]
    rw [List.set_append_right _ _ (by rw [hy]; omega), List.set_append_right _ _ (by rw [hy]; omega), List.set_append_right _ _ (by rw [hy]; omega), List.set_append_right _ _ (by rw [hy]; omega), hy]
    rw [show (i + 1) * 4 - 4 = i * 4 by omega, show (i + 1) * 4 + 1 - 4 = i * 4 + 1 by omega, show (i + 1) * 4 + 2 - 4 = i * 4 + 2 by omega, show (i + 1) * 4 + 3 - 4 = i * 4 + 3 by omega]

theorem Has.put {base g c : Nat} {b : List An} {w : World} (h : Has base g c b w) (i : Nat) (t : An) (hi : i < b.length) : Has base g c (b.set i t) (putNd w g (i * 4) (ndA t)) := by
  have h4 := cell_set (cell_set (cell_set (cell_set h (i * 4) (.int .i64 (ndA t).1.1)) (i * 4 + 1) (.int .i64 (ndA t).1.2.1)) (i * 4 + 2) (.string (ndA t).1.2.2)) (i * 4 + 3) (.slice (ndA t).2.1 (ndA t).2.2.1 (ndA t).2.2.2)
  unfold anCells at h4
  rw [ndCells_set (b.map ndA) i (ndA t) (by simpa using hi)] at h4
  unfold Has anCells
  rw [List.map_set, List.length_set]
  exact h4

theorem put4_block {w : World} {g b o : Nat} (h : b ≠ g) (v0 v1 v2 v3 : Value) : (put4 w g o v0 v1 v2 v3).heap[b]? = w.heap[b]? := by
  have hne : g ≠ b := fun e => h e.symm
  simp [put4, World.setCell, Array.getElem?_modify, hne]
theorem put4_size {w : World} {g o : Nat} (v0 v1 v2 v3 : Value) : (put4 w g o v0 v1 v2 v3).heap.size = w.heap.size := by simp [put4, World.setCell]
theorem put4_grown {w : World} {g o : Nat} (v0 v1 v2 v3 : Value) : w.grownBy (put4 w g o v0 v1 v2 v3) (some g) :=
  ⟨rfl, rfl, rfl, Nat.le_of_eq (put4_size _ _ _ _).symm, fun k _ hne => put4_block (fun e => hne (by rw [e])) _ _ _ _⟩

theorem val_nd (n : Nat) (x : Tm (n + 1)) : val (n + 1) x = .agg #[.int .i64 (ndA ⟨n + 1, x⟩).1.1, .int .i64 (ndA ⟨n + 1, x⟩).1.2.1, .string (ndA ⟨n + 1, x⟩).1.2.2, .slice (ndA ⟨n + 1, x⟩).2.1 (ndA ⟨n + 1, x⟩).2.2.1 (ndA ⟨n + 1, x⟩).2.2.2] := rfl

theorem boxed {w w' : World} {v0 v1 v2 v3 : Value} {t : TypeId} (hb : Below (w.alloc (.cells #[v0, v1, v2, v3] t)).heap.size (w.alloc (.cells #[v0, v1, v2, v3] t)) w') :
    (w'.cell? ⟨w.heap.size, 0, none⟩ = some v0 ∧ w'.cell? ⟨w.heap.size, 1, none⟩ = some v1 ∧ w'.cell? ⟨w.heap.size, 2, none⟩ = some v2 ∧ w'.cell? ⟨w.heap.size, 3, none⟩ = some v3) ∧
    (w'.frozen? ⟨w.heap.size, 0, none⟩ = false ∧ w'.frozen? ⟨w.heap.size, 1, none⟩ = false ∧ w'.frozen? ⟨w.heap.size, 2, none⟩ = false ∧ w'.frozen? ⟨w.heap.size, 3, none⟩ = false) := by
  have hc := fun o => hb.cell (p := ⟨w.heap.size, o, none⟩) (by simp)
  have hf := fun o => hb.frozen (p := ⟨w.heap.size, o, none⟩) (by simp)
  exact ⟨⟨(hc 0).trans (by simp [go_sem]), (hc 1).trans (by simp [go_sem]), (hc 2).trans (by simp [go_sem]), (hc 3).trans (by simp [go_sem])⟩, (hf 0).trans (by simp [go_sem]), (hf 1).trans (by simp [go_sem]), (hf 2).trans (by simp [go_sem]), (hf 3).trans (by simp [go_sem])⟩

theorem cells_nx {w1 w2 : World} {q : Nat} {u0 u1 u2 u3 : Value} (hq : q < w1.heap.size) (h : Below w1.heap.size w1 w2)
    (k : w1.cell? ⟨q, 0, none⟩ = some u0 ∧ w1.cell? ⟨q, 1, none⟩ = some u1 ∧ w1.cell? ⟨q, 2, none⟩ = some u2 ∧ w1.cell? ⟨q, 3, none⟩ = some u3) :
    w2.cell? ⟨q, 0, none⟩ = some u0 ∧ w2.cell? ⟨q, 1, none⟩ = some u1 ∧ w2.cell? ⟨q, 2, none⟩ = some u2 ∧ w2.cell? ⟨q, 3, none⟩ = some u3 := by
  obtain ⟨b0, b1, b2, b3⟩ := k
  have hcc := below_cells h
  exact ⟨(hcc _ _ hq).trans b0, (hcc _ _ hq).trans b1, (hcc _ _ hq).trans b2, (hcc _ _ hq).trans b3⟩

/-- What a walk on what fits leaves. -/
def FitPost (base g c : Nat) (o : Option (List An)) (w : World) (e : Ending) (w' : World) : Prop :=
  e = .returned (.bool o.isSome) ∧ w.grownBy w' (some g) ∧ ∀ b, o = some b → Has base g c b w'
def Bnd (B : Nat) (w : World) (b : List An) : Prop := b.length = 4 ∧ ∀ y ∈ b, InA B w y ∧ RightA y
theorem InA.below {B : Nat} {w w' : World} (h : Below B w w') {x : An} (k : InA B w x) : InA B w' x := In.below h k
theorem Bnd.below {B : Nat} {w w' : World} (h : Below B w w') {b : List An} (k : Bnd B w b) : Bnd B w' b := ⟨k.1, fun y hy => ⟨(k.2 y hy).1.below h, (k.2 y hy).2⟩⟩
theorem Bnd.fit {B : Nat} {w : World} {b b' : List An} (k : Bnd B w b) {n m : Nat} {p : Tm n} {t : Tm m} (ht : In B w m t) (hr : RightA ⟨m, t⟩) (h : fit n p m t b = some b') : Bnd B w b' :=
  fit_keep (fun x => InA B w x ∧ RightA x) (parts_and (parts_in B w) parts_right) n p m t ⟨ht, hr⟩ b b' k h
def FFit (n : Nat) : Prop := ∀ (p : Tm n) (m : Nat) (t : Tm m) (b : List An) (base g c B : Nat) (w : World), In B w n p → In B w m t → RightA ⟨n, p⟩ → RightA ⟨m, t⟩ → Bnd B w b → B ≤ base → Has base g c b w →
  Calls Try.prog 65 #[.slice (some ⟨g, 0, none⟩) 4 c, val n p, val m t] w (FitPost base g c (fit n p m t b) w)
end Go.Proofs.Ytpehdgbdinjbaab
namespace Go.Proofs.Ytpehdgbdinjbaab
open Go.RowKit

theorem sameL_snoc {α β : Type} (f : α → β → Bool) : (p : List α) → (q : List β) → (x : α) → (y : β) → sameL f p q = true → f x y = true → sameL f (p ++ [x]) (q ++ [y]) = true
  | [], [], x, y, _, h => by simp [sameL, h]
  | [], _ :: _, _, _, h, _ => by simp [sameL] at h
  | _ :: _, [], _, _, h, _ => by simp [sameL] at h
  | a :: p, b :: q, x, y, h, k => by
    simp only [sameL, Bool.and_eq_true, List.cons_append] at h ⊢
    exact ⟨h.1, sameL_snoc f p q x y h.2 k⟩
theorem sameL_length {α β : Type} (f : α → β → Bool) : (p : List α) → (q : List β) → sameL f p q = true → p.length = q.length
  | [], [], _ => rfl
  | [], _ :: _, h => by simp [sameL] at h
  | _ :: _, [], h => by simp [sameL] at h
  | a :: p, b :: q, h => by
    simp only [sameL, Bool.and_eq_true] at h
    simp [sameL_length f p q h.2]

def zA : An := ⟨1, ((0, 0, .empty), (none, 0), [])⟩
theorem made_zero (n : Nat) : (madeCells #[.int .i64 0, .int .i64 0, .string .empty, .slice none 0 0] (n * 4)).toList = anCells (List.replicate n zA) := by
  apply List.ext_getElem?
  intro i
  by_cases h : i < n * 4
  · obtain ⟨k, j, hj, rfl⟩ : ∃ k j, j < 4 ∧ i = k * 4 + j := ⟨i / 4, i % 4, Nat.mod_lt _ (by decide), by omega⟩
    have hk : k < n := by omega
    have e : (anCells (List.replicate n zA))[k * 4 + j]? = (nd4 (ndA zA))[j]? := ndCells_at _ k (ndA zA) (by simp [hk]) j hj
    rw [e]
    have e2 : (madeCells #[.int .i64 0, .int .i64 0, .string .empty, .slice none 0 0] (n * 4))[k * 4 + j]? = some ((#[.int .i64 0, .int .i64 0, .string .empty, .slice none 0 0] : Array Value)[(k * 4 + j) % 4]!) := by
      simp [madeCells, h]
    rw [Array.getElem?_toList, e2, show (k * 4 + j) % 4 = j by omega]
    have : j = 0 ∨ j = 1 ∨ j = 2 ∨ j = 3 := by omega
    rcases this with rfl | rfl | rfl | rfl <;> rfl
  · rw [List.getElem?_eq_none (by simp [size_madeCells]; omega), List.getElem?_eq_none (by rw [anCells_length]; simp; omega)]

/-- Copies l of the first k terms of p, in a row of len at block g; they lie in blocks behind g. -/
def CpP (n : Nat) (p : List (Tm n)) (len g k : Nat) (l : List (Tm n)) (wr : World) : Prop :=
  l.length = k ∧ Has g g len (l.map (fun x => (⟨n, x⟩ : An)) ++ List.replicate (len - k) zA) wr ∧ (∀ y ∈ l, In wr.heap.size wr n y ∧ Off (fun q => g < q) n y) ∧ sameL (fun a b => same n a n b) l (p.take k) = true

theorem CpP.step {n : Nat} {p : List (Tm n)} {len g k : Nat} {l : List (Tm n)} {wr w1 : World} (h : CpP n p len g k l wr) (hk : k < len) (x : Tm n) (hx : p[k]? = some x) (hb : Below wr.heap.size wr w1) (y : Tm n) (hy : In w1.heap.size w1 n y) (ho : Off (fun q => g < q) n y) (hs : same n y n x = true) :
    CpP n p len g (k + 1) (l ++ [y]) (putNd w1 g (k * 4) (hdT n y)) := by
  obtain ⟨h1, h2, h3, h4⟩ := h
  have hg := (h2.below hb).put k ⟨n, y⟩ (by simp; omega)
  have e : (l.map (fun x => (⟨n, x⟩ : An)) ++ List.replicate (len - k) zA).set k ⟨n, y⟩ = (l ++ [y]).map (fun x => (⟨n, x⟩ : An)) ++ List.replicate (len - (k + 1)) zA := by
    rw [List.set_append_right _ _ (by simp; omega)]
    have : len - k = (len - (k + 1)) + 1 := by omega
    rw [this, List.replicate_succ]
    simp [h1]
  rw [e] at hg
  refine ⟨by simp [h1], hg, ?_, ?_⟩
  · intro z hz
    have hsz : (putNd w1 g (k * 4) (hdT n y)).heap.size = w1.heap.size := put4_size _ _ _ _
    rw [hsz]
    rcases List.mem_append.1 hz with hz | hz
    · exact ⟨In.off (fun q hq => put4_block (by omega) _ _ _ _) (h3 z hz).2 (((h3 z hz).1.below hb).mono hb.size), (h3 z hz).2⟩
    · simp only [List.mem_singleton] at hz
      subst hz
      exact ⟨In.off (fun q hq => put4_block (by omega) _ _ _ _) ho hy, ho⟩
  · rw [List.take_add_one, hx]
    exact sameL_snoc _ _ _ _ _ h4 hs

/-- What copying a list leaves. -/
def CpRow (n : Nat) (p : List (Tm n)) (w w' : World) (a : Option Addr) (c : Nat) (l : List (Tm n)) : Prop :=
  Below w.heap.size w w' ∧ l.length = p.length ∧ l.length ≤ c ∧ c ≤ maxLen ∧ sameL (fun a b => same n a n b) l p = true ∧
  (l = [] ∨ ∃ b o, a = some ⟨b, o, none⟩ ∧ w.heap.size ≤ b ∧ b < w'.heap.size ∧ ∀ (i : Nat) (y : Tm n), l[i]? = some y → Held w' b (o + i * 4) n y ∧ In w'.heap.size w' n y ∧ Off (fun q => w.heap.size ≤ q) n y)

theorem CpP.done {n : Nat} {p : List (Tm n)} {len k : Nat} {l : List (Tm n)} {w wr : World} (h : CpP n p len w.heap.size k l wr) (hl : p.length = len) (hk : k = len) (hb : Below w.heap.size w wr) (hm : len ≤ maxLen) :
    CpRow n p w wr (some ⟨w.heap.size, 0, none⟩) len l := by
  obtain ⟨h1, h2, h3, h4⟩ := h
  subst hk
  rw [List.take_of_length_le (by omega)] at h4
  rw [Nat.sub_self, List.replicate_zero, List.append_nil] at h2
  refine ⟨hb, by omega, by omega, hm, h4, Or.inr ⟨w.heap.size, 0, rfl, Nat.le_refl _, h2.lt.2, fun i y hy => ⟨?_, (h3 y (List.mem_of_getElem? hy)).1, (h3 y (List.mem_of_getElem? hy)).2.mono fun q hq => by omega⟩⟩⟩
  have hc := h2.cells i ⟨n, y⟩ (by simp [hy])
  have hin := (h3 y (List.mem_of_getElem? hy)).1
  cases n with
  | zero => exact hin.elim
  | succ n =>
    rw [Nat.zero_add]
    exact hc

def FCp (n : Nat) : Prop := ∀ (x : Tm n) (B : Nat) (w : World), In B w n x → B ≤ w.heap.size → RightA ⟨n, x⟩ →
  Calls Try.prog 95 #[val n x] w fun e w' => ∃ y : Tm n, e = .returned (val n y) ∧ Hid (Below w.heap.size w w' ∧ In w'.heap.size w' n y ∧ Off (fun q => w.heap.size ≤ q) n y ∧ same n y n x = true)
end Go.Proofs.Ytpehdgbdinjbaab
