/- What is proved here: plain facts and contracts that the claimed theorem stands on, several texts in one: plain facts on terms that a call builds: which blocks they lie in (Off), that they stay where those blocks stay, and that a row of terms that is owned holds its terms. No condition. plain facts on rows of terms of whatever depth that a call owns: their cells, and what one that is put in leaves. No condition. cmp.Compare of two ints, and of two strings, returns -1, 0 or 1 as they stand to each other, and turns nothing. No condition but that the ints are ints. term.Order of two terms that lie in memory returns what the plain function ord says of them, and turns no memory that was there; likewise orderArgs of two lists. No condition but that the terms lie in memory. match.bindings' fits, of right terms that lie in memory and four right terms that are owned: it returns whether the plain function fit finds something, leaves that in the owned row, and turns no other memory that was there. No condition but those. term.Closed, and the document's Closed, of a term that lies in memory: both return whether no term in it is a variable or the wild one, and turn no memory that was there. Condition of the document's: at most 2097152 terms in it. term.depth, term.Size and term.Check of a term that lies in memory return what plain functions say, and turn no memory that was there; Check is the document's Check. Condition: at most 2097152 terms in it. match.AreBindings, and the document's Bound, of a list of terms that lies in memory: both return whether there are four, each right, and each closed or the wild one; they turn no memory that was there. Condition: at most 2097152 terms in each. plain facts on lists of terms of whatever depth, each taken to one depth: they are the same terms, in the same memory. No condition. -/
import Derived.Test.YtdlckjjfbobmpaaG04
import Derived.Test.YtdlckjjfbobmpaaG03
import Derived.Test.YtdlckjjfbobmpaaG01
import Derived.Deep.RegionHeld3
import Derived.Deep.DrawnRows
namespace Go.Proofs.Ytdlckjjfbobmpaa
open Go.RowKit

/-- Every block that a term leads to is one of these. -/
def Off (P : Nat → Prop) : (n : Nat) → Tm n → Prop
  | 0, _ => False
  | n + 1, x => x.2.2 = [] ∨ ∃ b o, x.2.1.1 = some ⟨b, o, none⟩ ∧ P b ∧ ∀ (i : Nat) (y : Tm n), x.2.2[i]? = some y → Off P n y

theorem Off.mono {P Q : Nat → Prop} (h : ∀ b, P b → Q b) : {n : Nat} → {x : Tm n} → Off P n x → Off Q n x
  | 0, _, k => k
  | _ + 1, _, k => by
    rcases k with k | ⟨b, o, e, hb, k⟩
    · exact Or.inl k
    · exact Or.inr ⟨b, o, e, h b hb, fun i y hy => (k i y hy).mono h⟩

theorem block_cell {w w' : World} {b : Nat} (h : w'.heap[b]? = w.heap[b]?) (o : Nat) : w'.cell? ⟨b, o, none⟩ = w.cell? ⟨b, o, none⟩ := by
  simp [World.cell?, h]
theorem Held.block {w w' : World} {b o : Nat} (h : w'.heap[b]? = w.heap[b]?) : {n : Nat} → {x : Tm n} → Held w b o n x → Held w' b o n x
  | 0, _, k => k
  | _ + 1, _, k => by
    obtain ⟨k0, k1, k2, k3⟩ := k
    exact ⟨(block_cell h _).trans k0, (block_cell h _).trans k1, (block_cell h _).trans k2, (block_cell h _).trans k3⟩
theorem In.off {P : Nat → Prop} {w w' : World} (h : ∀ b, P b → w'.heap[b]? = w.heap[b]?) {B : Nat} : {n : Nat} → {x : Tm n} → Off P n x → In B w n x → In B w' n x
  | 0, _, _, k => k
  | _ + 1, _, p, k => by
    obtain ⟨k0, k1⟩ := k
    refine ⟨k0, ?_⟩
    rcases k1 with k1 | ⟨b, o, e, hb, k1⟩
    · exact Or.inl k1
    · rcases p with p | ⟨b', o', e', hb', p⟩
      · exact Or.inl p
      · rw [e] at e'
        injection e' with e'
        injection e' with e1 e2
        subst e1 e2
        exact Or.inr ⟨b, o, e, hb, fun i y hy => ⟨(k1 i y hy).1.block (h b hb'), (k1 i y hy).2.off h (p i y hy)⟩⟩
theorem In.offB {P : Nat → Prop} {B : Nat} {w : World} : {n : Nat} → {x : Tm n} → Off P n x → In B w n x → Off (fun b => P b ∧ b < B) n x
  | 0, _, p, _ => p
  | _ + 1, _, p, k => by
    obtain ⟨_, k1⟩ := k
    rcases p with p | ⟨b, o, e, hb, p⟩
    · exact Or.inl p
    · rcases k1 with k1 | ⟨b', o', e', hb', k1⟩
      · exact Or.inl k1
      · rw [e] at e'
        injection e' with e'
        injection e' with e1 e2
        subst e1 e2
        exact Or.inr ⟨b, o, e, ⟨hb, hb'⟩, fun i y hy => In.offB (p i y hy) (k1 i y hy).2⟩

/-- A term's own four cells. -/
def hdT : (n : Nat) → Tm n → Nd
  | 0, _ => ((0, 0, ⟨#[]⟩), (none, 0, 0))
  | n + 1, x => hdOf n x
theorem hd_held {w : World} {base g c L : Nat} {n : Nat} {l : List (Tm (n + 1))} (h : w.ownsRow base 32 4 (.slice (some ⟨g, 0, none⟩) L c) L (ndCells (l.map (hdT (n + 1))))) (k : Nat) (x : Tm (n + 1)) (hx : l[k]? = some x) :
    Held w g (0 + k * 4) (n + 1) x := by
  have h1 := own_nd h k (hdT (n + 1) x) (by simp [hx])
  rw [Nat.zero_add]
  exact h1

/-- What a tuple's reading has so far: terms l, in a row of blocks from base on; no term lies in the row's own block. -/
def RowOf (base : Nat) (n : Nat) (l : List (Tm n)) (v : Value) (w : World) : Prop :=
  w.ownsRow base 32 4 v l.length (ndCells (l.map (hdT n))) ∧ ∀ y ∈ l, In w.heap.size w n y ∧ Off (fun b => base ≤ b ∧ v.ownBlock ≠ some b) n y

/-- The row is a tuple. -/
theorem RowOf.tup {base n : Nat} {l : List (Tm (n + 1))} {v : Value} {w : World} (h : RowOf base (n + 1) l v w) : ∃ a c, v = .slice a l.length c ∧ Off (fun b => base ≤ b) (n + 2) ((4, 0, ⟨#[]⟩), (a, c), l) ∧ In w.heap.size w (n + 2) ((4, 0, ⟨#[]⟩), (a, c), l) := by
  obtain ⟨h1, h2⟩ := h
  have hI : I64 4 ∧ I64 0 ∧ (⟨#[]⟩ : ByteArray).size ≤ maxLen := ⟨⟨by omega, by omega⟩, ⟨by omega, by omega⟩, Nat.zero_le _⟩
  have h3 := h1
  obtain ⟨h3a, h3⟩ := h3
  rcases h3 with ⟨h3, h4⟩ | ⟨g, cap, cur, rfl, hg, hh, hc, hm, hz, he⟩
  · have : l = [] := List.eq_nil_of_length_eq_zero h4
    subst this
    refine ⟨none, 0, by rw [h3]; rfl, Or.inl rfl, ⟨hI.1, hI.2.1, hI.2.2, Nat.zero_le _, Nat.zero_le _⟩, Or.inl rfl⟩
  · have hlt : g < w.heap.size := (Array.getElem?_eq_some_iff.1 hh).1
    refine ⟨some ⟨g, 0, none⟩, cap, rfl, Or.inr ⟨g, 0, rfl, hg, fun i y hy => ((h2 y (List.mem_of_getElem? hy)).2).mono fun b hb => hb.1⟩, ⟨hI.1, hI.2.1, hI.2.2, hc, hm⟩, Or.inr ⟨g, 0, rfl, hlt, fun i y hy => ⟨hd_held h1 i y hy, (h2 y (List.mem_of_getElem? hy)).1⟩⟩⟩
end Go.Proofs.Ytdlckjjfbobmpaa
namespace Go.Proofs.Ytdlckjjfbobmpaa
open Go.RowKit

def ndA (a : An) : Nd := hdT a.1 a.2
def anCells (l : List An) : List Value := ndCells (l.map ndA)
theorem anCells_length (l : List An) : (anCells l).length = l.length * 4 := by simp [anCells, ndCells_length]
theorem anCells_one (l : List An) : ∀ u ∈ anCells l, u.oneCell' = true := ndCells_one _
theorem anCells_append (l r : List An) : anCells (l ++ r) = anCells l ++ anCells r := by simp [anCells, ndCells_append]

/-- A row of such terms that is owned. -/
def Has (base : Nat) (g c : Nat) (b : List An) (w : World) : Prop := w.ownsRow base 32 4 (.slice (some ⟨g, 0, none⟩) b.length c) b.length (anCells b)

theorem Has.cells {base g c : Nat} {b : List An} {w : World} (h : Has base g c b w) (i : Nat) (y : An) (hy : b[i]? = some y) :
    w.cell? ⟨g, i * 4, none⟩ = some (.int .i64 (ndA y).1.1) ∧ w.cell? ⟨g, i * 4 + 1, none⟩ = some (.int .i64 (ndA y).1.2.1) ∧ w.cell? ⟨g, i * 4 + 2, none⟩ = some (.string (ndA y).1.2.2) ∧ w.cell? ⟨g, i * 4 + 3, none⟩ = some (.slice (ndA y).2.1 (ndA y).2.2.1 (ndA y).2.2.2) :=
  own_nd (l := b.map ndA) h i (ndA y) (by simp [hy])
theorem Has.lt {base g c : Nat} {b : List An} {w : World} (h : Has base g c b w) : base ≤ g ∧ g < w.heap.size := World.ownsRow.lt h g rfl
theorem Has.kept {base g c : Nat} {b : List An} {w w' : World} (h : Has base g c b w) {row : Option Nat} (hg : w.grownBy w' row) (hne : row ≠ some g) : Has base g c b w' :=
  World.ownsRow.kept h hg (Or.inr fun e => hne e.symm)
theorem grown_of_below {w w' : World} (h : Below w.heap.size w w') (row : Option Nat) : w.grownBy w' row := ⟨h.os, h.tape, h.output, h.size, fun k hk _ => h.block k hk⟩
theorem Has.below {base g c : Nat} {b : List An} {w w' : World} (h : Has base g c b w) (hb : Below w.heap.size w w') : Has base g c b w' := h.kept (grown_of_below hb none) (by simp)
theorem grown_below {w w' : World} {g B : Nat} (h : w.grownBy w' (some g)) (hB : B ≤ g) (hg : g < w.heap.size) : Below B w w' := ⟨h.os, h.tape, h.output, h.size, fun k hk => h.block k (by omega) (by simp; omega)⟩
theorem grown_trans {w w1 w2 : World} {row : Option Nat} (h : w.grownBy w1 row) (k : w1.grownBy w2 row) : w.grownBy w2 row :=
  ⟨k.os.trans h.os, k.tape.trans h.tape, k.output.trans h.output, Nat.le_trans h.size k.size, fun b hb hne => (k.block b (Nat.lt_of_lt_of_le hb h.size) hne).trans (h.block b hb hne)⟩
theorem Has.free {base g c : Nat} {b : List An} {w : World} (h : Has base g c b w) (j : Nat) : w.frozen? ⟨g, j, none⟩ = false := by
  obtain ⟨h1, h2⟩ := h
  rcases h2 with ⟨h2, _⟩ | ⟨g', cap, cur, hv, hg, hh, hc, hm, hz, he⟩
  · simp at h2
  · injection hv with e1 e2 e3
    injection e1 with e1
    injection e1 with e1 _
    subst e1
    simp [World.frozen?, hh]

def put4 (w : World) (g o : Nat) (v0 v1 v2 v3 : Value) : World := (((w.setCell ⟨g, o, none⟩ v0).setCell ⟨g, o + 1, none⟩ v1).setCell ⟨g, o + 2, none⟩ v2).setCell ⟨g, o + 3, none⟩ v3
def putNd (w : World) (g o : Nat) (x : Nd) : World := put4 w g o (.int .i64 x.1.1) (.int .i64 x.1.2.1) (.string x.1.2.2) (.slice x.2.1 x.2.2.1 x.2.2.2)

theorem cell_set {w : World} {base e size g L c : Nat} {xs : List Value} (h : w.ownsRow base e size (.slice (some ⟨g, 0, none⟩) L c) L xs) (j : Nat) (u : Value) :
    (w.setCell ⟨g, j, none⟩ u).ownsRow base e size (.slice (some ⟨g, 0, none⟩) L c) L (xs.set j u) := by
  obtain ⟨h1, h2⟩ := h
  refine ⟨by simpa using h1, ?_⟩
  rcases h2 with ⟨h2, _⟩ | ⟨g', cap, cur, hv, hg, hh, hc, hm, hz, he⟩
  · simp at h2
  · injection hv with e1 e2 e3
    injection e1 with e1
    injection e1 with e1 _
    subst e1 e3
    refine Or.inr ⟨g, c, cur.setIfInBounds j u, rfl, hg, ?_, hc, hm, by simpa using hz, ?_⟩
    · simp [World.setCell, Array.getElem?_modify, hh]
    · rw [← he]
      simp [List.take_set]

theorem ndCells_set : (l : List Nd) → (i : Nat) → (x : Nd) → i < l.length →
    ((((ndCells l).set (i * 4) (.int .i64 x.1.1)).set (i * 4 + 1) (.int .i64 x.1.2.1)).set (i * 4 + 2) (.string x.1.2.2)).set (i * 4 + 3) (.slice x.2.1 x.2.2.1 x.2.2.2) = ndCells (l.set i x)
  | [], i, x, h => by simp at h
  | y :: l, 0, x, _ => by simp [ndCells, nd4]
  | y :: l, i + 1, x, h => by
    have ih := ndCells_set l i x (by simpa using h)
    have e : ndCells (y :: l) = nd4 y ++ ndCells l := rfl
    have e' : ndCells ((y :: l).set (i + 1) x) = nd4 y ++ ndCells (l.set i x) := rfl
    have hy : (nd4 y).length = 4 := rfl
    rw [e, e', ← ih]
    rw [List.set_append_right _ _ (by rw [hy]; omega), List.set_append_right _ _ (by rw [hy]; omega), List.set_append_right _ _ (by rw [hy]; omega), List.set_append_right _ _ (by rw [hy]; omega), hy]
    rw [show (i + 1) * 4 - 4 = i * 4 by omega, show (i + 1) * 4 + 1 - 4 = i * 4 + 1 by omega, show (i + 1) * 4 + 2 - 4 = i * 4 + 2 by omega, show (i + 1) * 4 + 3 - 4 = i * 4 + 3 by omega]

theorem Has.put {base g c : Nat} {b : List An} {w : World} (h : Has base g c b w) (i : Nat) (t : An) (hi : i < b.length) : Has base g c (b.set i t) (putNd w g (i * 4) (ndA t)) := by
  have h4 := cell_set (cell_set (cell_set (cell_set h (i * 4) (.int .i64 (ndA t).1.1)) (i * 4 + 1) (.int .i64 (ndA t).1.2.1)) (i * 4 + 2) (.string (ndA t).1.2.2)) (i * 4 + 3) (.slice (ndA t).2.1 (ndA t).2.2.1 (ndA t).2.2.2)
  unfold anCells at h4
  rw [ndCells_set (b.map ndA) i (ndA t) (by simpa using hi)] at h4
  unfold Has anCells
  rw [List.map_set, List.length_set]
  exact h4

theorem put4_block {w : World} {g b o : Nat} (h : b ≠ g) (v0 v1 v2 v3 : Value) : (put4 w g o v0 v1 v2 v3).heap[b]? = w.heap[b]? := by
  have hne : g ≠ b := fun e => h e.symm
  simp [put4, World.setCell, Array.getElem?_modify, hne]
theorem put4_size {w : World} {g o : Nat} (v0 v1 v2 v3 : Value) : (put4 w g o v0 v1 v2 v3).heap.size = w.heap.size := by simp [put4, World.setCell]
theorem put4_grown {w : World} {g o : Nat} (v0 v1 v2 v3 : Value) : w.grownBy (put4 w g o v0 v1 v2 v3) (some g) :=
  ⟨rfl, rfl, rfl, Nat.le_of_eq (put4_size _ _ _ _).symm, fun k _ hne => put4_block (fun e => hne (by rw [e])) _ _ _ _⟩

theorem val_nd (n : Nat) (x : Tm (n + 1)) : val (n + 1) x = .agg #[.int .i64 (ndA ⟨n + 1, x⟩).1.1, .int .i64 (ndA ⟨n + 1, x⟩).1.2.1, .string (ndA ⟨n + 1, x⟩).1.2.2, .slice (ndA ⟨n + 1, x⟩).2.1 (ndA ⟨n + 1, x⟩).2.2.1 (ndA ⟨n + 1, x⟩).2.2.2] := rfl

theorem boxed {w w' : World} {v0 v1 v2 v3 : Value} {t : TypeId} (hb : Below (w.alloc (.cells #[v0, v1, v2, v3] t)).heap.size (w.alloc (.cells #[v0, v1, v2, v3] t)) w') :
    (w'.cell? ⟨w.heap.size, 0, none⟩ = some v0 ∧ w'.cell? ⟨w.heap.size, 1, none⟩ = some v1 ∧ w'.cell? ⟨w.heap.size, 2, none⟩ = some v2 ∧ w'.cell? ⟨w.heap.size, 3, none⟩ = some v3) ∧
    (w'.frozen? ⟨w.heap.size, 0, none⟩ = false ∧ w'.frozen? ⟨w.heap.size, 1, none⟩ = false ∧ w'.frozen? ⟨w.heap.size, 2, none⟩ = false ∧ w'.frozen? ⟨w.heap.size, 3, none⟩ = false) := by
  have hc := fun o => hb.cell (p := ⟨w.heap.size, o, none⟩) (by simp)
  have hf := fun o => hb.frozen (p := ⟨w.heap.size, o, none⟩) (by simp)
  exact ⟨⟨(hc 0).trans (by simp [go_sem]), (hc 1).trans (by simp [go_sem]), (hc 2).trans (by simp [go_sem]), (hc 3).trans (by simp [go_sem])⟩, (hf 0).trans (by simp [go_sem]), (hf 1).trans (by simp [go_sem]), (hf 2).trans (by simp [go_sem]), (hf 3).trans (by simp [go_sem])⟩

theorem cells_nx {w1 w2 : World} {q : Nat} {u0 u1 u2 u3 : Value} (hq : q < w1.heap.size) (h : Below w1.heap.size w1 w2)
    (k : w1.cell? ⟨q, 0, none⟩ = some u0 ∧ w1.cell? ⟨q, 1, none⟩ = some u1 ∧ w1.cell? ⟨q, 2, none⟩ = some u2 ∧ w1.cell? ⟨q, 3, none⟩ = some u3) :
    w2.cell? ⟨q, 0, none⟩ = some u0 ∧ w2.cell? ⟨q, 1, none⟩ = some u1 ∧ w2.cell? ⟨q, 2, none⟩ = some u2 ∧ w2.cell? ⟨q, 3, none⟩ = some u3 := by
  obtain ⟨b0, b1, b2, b3⟩ := k
  have hcc := below_cells h
  exact ⟨(hcc _ _ hq).trans b0, (hcc _ _ hq).trans b1, (hcc _ _ hq).trans b2, (hcc _ _ hq).trans b3⟩

/-- What a walk on what fits leaves. -/
def FitPost (base g c : Nat) (o : Option (List An)) (w : World) (e : Ending) (w' : World) : Prop :=
  e = .returned (.bool o.isSome) ∧ w.grownBy w' (some g) ∧ ∀ b, o = some b → Has base g c b w'
def Bnd (B : Nat) (w : World) (b : List An) : Prop := b.length = 4 ∧ ∀ y ∈ b, InA B w y ∧ RightA y
theorem InA.below {B : Nat} {w w' : World} (h : Below B w w') {x : An} (k : InA B w x) : InA B w' x := In.below h k
theorem Bnd.below {B : Nat} {w w' : World} (h : Below B w w') {b : List An} (k : Bnd B w b) : Bnd B w' b := ⟨k.1, fun y hy => ⟨(k.2 y hy).1.below h, (k.2 y hy).2⟩⟩
theorem Bnd.fit {B : Nat} {w : World} {b b' : List An} (k : Bnd B w b) {n m : Nat} {p : Tm n} {t : Tm m} (ht : In B w m t) (hr : RightA ⟨m, t⟩) (h : fit n p m t b = some b') : Bnd B w b' :=
  fit_keep (fun x => InA B w x ∧ RightA x) (parts_and (parts_in B w) parts_right) n p m t ⟨ht, hr⟩ b b' k h
end Go.Proofs.Ytdlckjjfbobmpaa
namespace Go.Proofs.Ytdlckjjfbobmpaa
open Go.RowKit

end Go.Proofs.Ytdlckjjfbobmpaa
namespace Go.Proofs.Ytdlckjjfbobmpaa
open Go.RowKit
attribute [local go_sem ↓] Go.wp_at_zero Go.wp_at_succ

/-- The value of a tree, its parts named. -/
def agg (k u : Int) (s : ByteArray) (a : Option Addr) (l c : Nat) : Value := .agg #[.int .i64 k, .int .i64 u, .string s, .slice a l c]

end Go.Proofs.Ytdlckjjfbobmpaa
namespace Go.Proofs.Ytdlckjjfbobmpaa
open Go.RowKit

end Go.Proofs.Ytdlckjjfbobmpaa
namespace Go.Proofs.Ytdlckjjfbobmpaa
open Go.RowKit

/-- Neither a variable nor the wild one, by itself. -/
def shut (x : Nd) : Bool := !(x.1.1 == 5) && !(x.1.1 == 6)
def closedB (n : Nat) (x : Tm n) : Bool := (nodes n x).all shut
def closedT : (n : Nat) → Tm n → Bool
  | 0, _ => true
  | n + 1, x => !(x.1.1 == 5) && !(x.1.1 == 6) && x.2.2.all fun y => closedT n y
theorem closed_eq : (n : Nat) → (x : Tm n) → closedT n x = closedB n x
  | 0, _ => by simp [closedT, closedB, nodes, shut]
  | n + 1, x => by
    have key : ∀ l : List (Tm n), (l.all fun y => closedT n y) = (l.flatMap fun y => nodes n y).all shut := by
      intro l
      induction l with
      | nil => rfl
      | cons y l ih =>
        have := closed_eq n y
        unfold closedB at this
        simp only [List.all_cons, List.flatMap_cons, List.all_append, ih, this]
    show (!(x.1.1 == 5) && !(x.1.1 == 6) && x.2.2.all fun y => closedT n y) = (shut (x.1, (x.2.1.1, x.2.2.length, x.2.1.2)) && (x.2.2.flatMap fun y => nodes n y).all shut)
    rw [key]
    rfl

def FClo (n : Nat) : Prop := ∀ (x : Tm n) (B : Nat) (w : World), In B w n x → B ≤ w.heap.size →
  Calls Try.prog 22 #[val n x] w fun e w' => e = .returned (.bool (closedT n x)) ∧ Below w.heap.size w w'

set_option maxHeartbeats 400000 in
theorem closed_walk (n : Nat) (ih : FClo n) (k0 u0 : Int) (s : ByteArray) (a : Option Addr) (pc len : Nat) (p : List (Tm n)) (hpl : Hid (p.length = len)) (B : Nat) (w : World)
    (hp : Hid (p = [] ∨ ∃ b o, a = some ⟨b, o, none⟩ ∧ b < B ∧ ∀ (i : Nat) (y : Tm n), p[i]? = some y → Held w b (o + i * 4) n y ∧ In B w n y))
    (hlen : len ≤ 9223372036854775807) (hB : B ≤ w.heap.size) :
    Calls Try.prog 22 #[.agg #[.int .i64 k0, .int .i64 u0, .string s, .slice a len pc]] w fun e w' => e = .returned (.bool (!(k0 == 5) && !(k0 == 6) && p.all fun y => closedT n y)) ∧ Below w.heap.size w w' := by
  cases h5 : k0 == 5
  case true =>
    go_enter Try.func22, Try.ntmps22
    go_wp2_with fail
    go_ret
    exact ⟨ret_bool (by simp), (Below.refl _ _).alloc (Nat.le_refl _) _⟩
  cases h6 : k0 == 6
  case true =>
    go_enter Try.func22, Try.ntmps22
    go_wp2_with fail
    go_ret
    exact ⟨ret_bool (by simp), (Below.refl _ _).alloc (Nat.le_refl _) _⟩
  have e0 : (!false && !false && p.all fun y => closedT n y) = p.all fun y => closedT n y := by simp
  rw [e0]
  clear e0
  go_enter Try.func22, Try.ntmps22
  go_wp2_with fail
  go_loopw [16] (fun i wr => ∃ k : Nat, k ≤ len ∧ i = .int .i64 k ∧ Below w.heap.size w wr ∧ Hid (((p.drop k).all fun y => closedT n y) = p.all fun y => closedT n y)) (fun i _ => len - (intOf i).toNat)
  case atStart => exact ⟨0, by omega, rfl, (Below.refl _ _).alloc (Nat.le_refl _) _, rfl⟩
  case round =>
    obtain ⟨k, hk, rfl, hb, hd⟩ := hrel
    by_cases hlt : k < len
    · obtain ⟨x, hx⟩ : ∃ x, p[k]? = some x := ⟨p[k]'(by rw [hpl.out]; exact hlt), List.getElem?_eq_getElem _⟩
      have HS : Hid (((p.drop k).all fun y => closedT n y) = (closedT n x && (p.drop (k + 1)).all fun y => closedT n y)) := by
        obtain ⟨h1, e1⟩ := List.getElem?_eq_some_iff.1 hx
        rw [List.drop_eq_getElem_cons h1, e1]
        rfl
      rcases hp.out with hp | ⟨pb, po, rfl, hpb, hp⟩
      · subst hp; simp at hx
      obtain ⟨hx1, hx2⟩ := hp k x hx
      replace hx1 := hx1.below (hb.mono hB) hpb
      replace hx2 := hx2.below (hb.mono hB)
      clear hp hx
      cases n with
      | zero => exact hx1.elim
      | succ n =>
      obtain ⟨x0, x1, x2, x3⟩ := hx1
      have hB' : B ≤ wr.heap.size := Nat.le_trans hB hb.size
      have HC : Hid (∀ w1, Below wr.heap.size wr w1 → Calls Try.prog 22 #[.agg #[.int .i64 x.1.1, .int .i64 x.1.2.1, .string x.1.2.2, .slice x.2.1.1 x.2.2.length x.2.1.2]] w1 fun e w' => e = .returned (.bool (closedT (n + 1) x)) ∧ Below w1.heap.size w1 w') :=
        fun w1 h1 => ih x B w1 (hx2.below (h1.mono hB')) (Nat.le_trans hB' h1.size)
      clear ih hx2
      generalize x.2.2.length = xl at *
      generalize closedT (n + 1) x = r at *
      have hk1 : (0 : Int) ≤ (k : Int) := by omega
      have hk2 : (k : Int) < (len : Int) := by omega
      go_wp2_with fail
      refine (HC.out _ ((Below.refl _ _).alloc (Nat.le_refl _) _)).mono ?_
      rintro e w1 ⟨rfl, hb1⟩
      have hb2 : Below w.heap.size w w1 := (hb.trans (((Below.refl _ _).alloc (Nat.le_refl _) _).mono hb.size)).trans (hb1.mono (by have := hb.size; simp; omega))
      clear hb1
      cases r with
      | true =>
        go_wp2_with fail
        go_roundw
        case rel => exact ⟨k + 1, by omega, by go_num, hb2, by rw [← hd.out, HS.out]; rfl⟩
        case measure => simp [intOf]; omega
      | false =>
        go_wp2_with fail
        go_ret
        exact ⟨ret_bool (by rw [← hd.out, HS.out]; rfl), hb2⟩
    · go_wp2_with fail
      go_ret
      refine ⟨ret_bool ?_, hb⟩
      rw [← hd.out, List.drop_eq_nil_of_le (by rw [hpl.out]; omega)]
      rfl

theorem closed_any (n : Nat) : FClo n := by
  induction n with
  | zero => intro x B w hx; exact hx.elim
  | succ n ih =>
    intro x B w hx hB
    obtain ⟨⟨k, u, s⟩, ⟨a, pc⟩, p⟩ := x
    obtain ⟨⟨_, _, _, hpl, hpc⟩, hp⟩ := hx
    simp only at hpl hpc hp
    unfold maxLen at hpc
    exact closed_walk n ih k u s a pc p.length p rfl B w hp (by omega) hB

set_option maxHeartbeats 1000000 in
theorem rclosed_walk (w : World) (c0 c1 : Int) (c2 : ByteArray) (xa : Option Addr) (xl xc : Nat) (N : List Nd) (D : List Int) (L : Nat) (HL : Hid (N.length = L)) (hL : L ≤ 2097152)
    (HALL : Hid (∀ w1, Below w.heap.size w w1 → Calls Try.prog 26 #[.agg #[.int .i64 c0, .int .i64 c1, .string c2, .slice xa xl xc], .int .i64 0] w1 fun e w' =>
      ∃ g c h c', e = .returned (.tuple #[.slice (some ⟨g, 0, none⟩) L c, .slice (some ⟨h, 0, none⟩) L c']) ∧
        Hid (g ≠ h ∧ Below w1.heap.size w1 w' ∧ w'.ownsRow w1.heap.size 32 4 (.slice (some ⟨g, 0, none⟩) L c) L (ndCells N) ∧ w'.ownsRow w1.heap.size 3 1 (.slice (some ⟨h, 0, none⟩) L c') L (ints D)))) :
    Calls Try.prog 20 #[.agg #[.int .i64 c0, .int .i64 c1, .string c2, .slice xa xl xc]] w fun e w' => e = .returned (.bool (N.all shut)) ∧ Below w.heap.size w w' := by
  go_enter Try.func20, Try.ntmps20
  go_wp2_with fail
  refine (HALL.out _ ((Below.refl _ _).alloc (Nat.le_refl _) _)).mono ?_
  rintro e w1 ⟨g, c, h, c', rfl, HO⟩
  have HB1 : Hid (Below w.heap.size w w1) := ((Below.refl _ _).alloc (Nat.le_refl _) _).trans (HO.out.2.1.mono (by simp))
  have HOW := hide HO.out.2.2.1
  clear HO
  go_wp2_with fail
  go_loop [5] (fun i => ∃ k : Nat, k ≤ L ∧ i = .int .i64 k ∧ Hid ((N.drop k).all shut = N.all shut)) (fun i => L - (intOf i).toNat)
  case atStart => exact ⟨0, by omega, rfl, rfl⟩
  case round =>
    obtain ⟨k, hk, rfl, HD⟩ := hrel
    by_cases hlt : k < L
    · obtain ⟨x, hx⟩ : ∃ x, N[k]? = some x := ⟨N[k]'(by rw [HL.out]; exact hlt), List.getElem?_eq_getElem _⟩
      have HS : Hid ((N.drop k).all shut = (shut x && (N.drop (k + 1)).all shut)) := by
        obtain ⟨h1, e1⟩ := List.getElem?_eq_some_iff.1 hx
        rw [List.drop_eq_getElem_cons h1, e1]
        rfl
      obtain ⟨x0, _, _, _⟩ := own_nd HOW.out k x hx
      obtain ⟨⟨kk, uu, ss⟩, ⟨aa, ll, cc⟩⟩ := x
      simp only at x0
      clear hx
      have hk1 : (0 : Int) ≤ (k : Int) := by omega
      have hk2 : (k : Int) < (L : Int) := by omega
      cases h5 : kk == 5
      case true =>
        have HX : Hid (shut ((kk, uu, ss), (aa, ll, cc)) = false) := by simp [Hid, shut, h5]
        go_wp2_with fail
        go_ret
        exact ⟨ret_bool (by rw [← HD.out, HS.out, HX.out]; rfl), HB1.out⟩
      cases h6 : kk == 6
      case true =>
        have HX : Hid (shut ((kk, uu, ss), (aa, ll, cc)) = false) := by simp [Hid, shut, h6]
        go_wp2_with fail
        go_ret
        exact ⟨ret_bool (by rw [← HD.out, HS.out, HX.out]; rfl), HB1.out⟩
      have HX : Hid (shut ((kk, uu, ss), (aa, ll, cc)) = true) := by simp [Hid, shut, h5, h6]
      go_wp2_with fail
      go_round
      case rel => exact ⟨k + 1, by omega, by go_num, by simp only [Hid]; rw [← HD.out, HS.out, HX.out]; rfl⟩
      case measure => simp [intOf]; omega
    · go_wp2_with fail
      go_ret
      refine ⟨ret_bool ?_, HB1.out⟩
      rw [← HD.out, List.drop_eq_nil_of_le (by rw [HL.out]; omega)]
      rfl

theorem rclosed_any (n : Nat) (x : Tm n) (B : Nat) (w : World) (hx : In B w n x) (hB : B ≤ w.heap.size) (hN : (nodes n x).length ≤ 2097152) :
    Calls Try.prog 20 #[val n x] w fun e w' => e = .returned (.bool (closedB n x)) ∧ Below w.heap.size w w' := by
  cases n with
  | zero => exact hx.elim
  | succ n =>
  exact rclosed_walk w x.1.1 x.1.2.1 x.1.2.2 x.2.1.1 x.2.2.length x.2.1.2 (nodes (n + 1) x) (deeps (n + 1) x 0) (nodes (n + 1) x).length rfl hN
    (fun w1 hw => all_any (n + 1) x 0 B w1 (hx.below (hw.mono hB)) (Nat.le_trans hB hw.size) (by omega) (by omega))
end Go.Proofs.Ytdlckjjfbobmpaa
namespace Go.Proofs.Ytdlckjjfbobmpaa
open Go.RowKit

def dep : (n : Nat) → Tm n → Int
  | 0, _ => 0
  | n + 1, x => if x.1.1 = 4 then 1 + x.2.2.foldl (fun m y => max m (dep n y)) 0 else 0
def depTo (n : Nat) (p : List (Tm n)) (k : Nat) : Int := (p.take k).foldl (fun m y => max m (dep n y)) 0
theorem depTo_succ (n : Nat) (p : List (Tm n)) (k : Nat) (x : Tm n) (h : p[k]? = some x) : depTo n p (k + 1) = max (depTo n p k) (dep n x) := by
  obtain ⟨h1, e1⟩ := List.getElem?_eq_some_iff.1 h
  unfold depTo
  rw [List.take_succ_eq_append_getElem h1, e1, List.foldl_append]
  rfl
theorem fold_bound {n : Nat} (N : Int) : (l : List (Tm n)) → (m : Int) → 0 ≤ m → m ≤ N → (∀ y ∈ l, 0 ≤ dep n y ∧ dep n y ≤ N) → 0 ≤ l.foldl (fun m y => max m (dep n y)) m ∧ l.foldl (fun m y => max m (dep n y)) m ≤ N
  | [], _, h0, h1, _ => ⟨h0, h1⟩
  | y :: l, m, h0, h1, h => by
    have hy := h y (by simp)
    exact fold_bound N l (max m (dep n y)) (by omega) (by omega) (fun z hz => h z (by simp [hz]))
theorem mem_nodes_le {n : Nat} (l : List (Tm n)) (y : Tm n) (h : y ∈ l) : (nodes n y).length ≤ (l.flatMap fun y => nodes n y).length := by
  obtain ⟨i, hi⟩ := List.getElem?_of_mem h
  have e4 := take_le (fun y => nodes n y) l (i + 1)
  rw [take_flat _ l i y hi, List.length_append] at e4
  omega
theorem dep_bound : (n : Nat) → (x : Tm n) → 0 ≤ dep n x ∧ dep n x ≤ (nodes n x).length
  | 0, _ => by simp [dep]
  | n + 1, x => by
    have hb := fold_bound ((x.2.2.flatMap fun y => nodes n y).length : Int) x.2.2 0 (by omega) (by omega) (fun y hy => by
      have h1 := dep_bound n y
      have h2 := mem_nodes_le x.2.2 y hy
      omega)
    simp only [dep, nodes, List.length_cons]
    by_cases h4 : x.1.1 = 4
    · rw [if_pos h4]; omega
    · rw [if_neg h4]; omega
theorem depTo_bound (n : Nat) (p : List (Tm n)) (k : Nat) : 0 ≤ depTo n p k ∧ depTo n p k ≤ (p.flatMap fun y => nodes n y).length :=
  fold_bound _ (p.take k) 0 (by omega) (by omega) (fun y hy => by
    have h1 := dep_bound n y
    have h2 := mem_nodes_le p y (List.mem_of_mem_take hy)
    omega)

def FDep (n : Nat) : Prop := ∀ (x : Tm n) (B : Nat) (w : World), In B w n x → B ≤ w.heap.size → (nodes n x).length ≤ 2097152 →
  Calls Try.prog 37 #[val n x] w fun e w' => e = .returned (.int .i64 (dep n x)) ∧ Below w.heap.size w w'

theorem depth_else (k0 u0 : Int) (s : ByteArray) (a : Option Addr) (len pc : Nat) (w : World) (h : ¬ k0 = 4) :
    Calls Try.prog 37 #[.agg #[.int .i64 k0, .int .i64 u0, .string s, .slice a len pc]] w fun e w' => e = .returned (.int .i64 0) ∧ Below w.heap.size w w' := by
  have h4 : (k0 != 4) = true := by simpa using h
  clear h
  go_enter Try.func37, Try.ntmps37
  go_wp2_with fail
  go_ret
  exact ⟨rfl, (Below.refl _ _).alloc (Nat.le_refl _) _⟩

set_option maxHeartbeats 400000 in
theorem depth_tup (n : Nat) (ih : FDep n) (u0 : Int) (s : ByteArray) (a : Option Addr) (pc len : Nat) (p : List (Tm n)) (hpl : Hid (p.length = len)) (B : Nat) (w : World)
    (hp : Hid (p = [] ∨ ∃ b o, a = some ⟨b, o, none⟩ ∧ b < B ∧ ∀ (i : Nat) (y : Tm n), p[i]? = some y → Held w b (o + i * 4) n y ∧ In B w n y))
    (hlen : len ≤ 9223372036854775807) (hB : B ≤ w.heap.size) (hsum : Hid (1 + (p.flatMap fun y => nodes n y).length ≤ 2097152)) :
    Calls Try.prog 37 #[.agg #[.int .i64 4, .int .i64 u0, .string s, .slice a len pc]] w fun e w' =>
      e = .returned (.int .i64 (1 + p.foldl (fun m y => max m (dep n y)) 0)) ∧ Below w.heap.size w w' := by
  go_enter Try.func37, Try.ntmps37
  go_wp2_with fail
  go_loopw [3, 12] (fun t i wr => ∃ k : Nat, ∃ r : Int, k ≤ len ∧ i = .int .i64 k ∧ t = .int .i64 r ∧ Hid (r = depTo n p k) ∧ Below w.heap.size w wr) (fun _ i _ => len - (intOf i).toNat)
  case atStart => exact ⟨0, 0, by omega, rfl, rfl, by simp [Hid, depTo], (Below.refl _ _).alloc (Nat.le_refl _) _⟩
  case round =>
    obtain ⟨k, r, hk, rfl, rfl, hr, hb⟩ := hrel
    have e1 := depTo_bound n p k
    rw [← hr.out] at e1
    have e5 := hsum.out
    have r1 : 0 ≤ r := e1.1
    have r2 : r ≤ 2097152 := by omega
    clear e1
    by_cases hlt : k < len
    · obtain ⟨x, hx⟩ : ∃ x, p[k]? = some x := ⟨p[k]'(by rw [hpl.out]; exact hlt), List.getElem?_eq_getElem _⟩
      have HS := hide (depTo_succ n p k x hx)
      have e3 := mem_nodes_le p x (List.mem_of_getElem? hx)
      have hx9 : (nodes n x).length ≤ 2097152 := by omega
      clear e3 e5
      rcases hp.out with hp | ⟨pb, po, rfl, hpb, hp⟩
      · subst hp; simp at hx
      obtain ⟨hx1, hx2⟩ := hp k x hx
      replace hx1 := hx1.below (hb.mono hB) hpb
      replace hx2 := hx2.below (hb.mono hB)
      clear hp hx
      cases n with
      | zero => exact hx1.elim
      | succ n =>
      obtain ⟨x0, x1, x2, x3⟩ := hx1
      have hB' : B ≤ wr.heap.size := Nat.le_trans hB hb.size
      have HC : Hid (∀ w1, Below wr.heap.size wr w1 → Calls Try.prog 37 #[.agg #[.int .i64 x.1.1, .int .i64 x.1.2.1, .string x.1.2.2, .slice x.2.1.1 x.2.2.length x.2.1.2]] w1 fun e w' => e = .returned (.int .i64 (dep (n + 1) x)) ∧ Below w1.heap.size w1 w') :=
        fun w1 h1 => ih x B w1 (hx2.below (h1.mono hB')) (Nat.le_trans hB' h1.size) hx9
      clear ih hx2 hx9
      generalize x.2.2.length = xl at *
      generalize dep (n + 1) x = z at *
      have hk1 : (0 : Int) ≤ (k : Int) := by omega
      have hk2 : (k : Int) < (len : Int) := by omega
      go_wp2_with fail
      refine (HC.out _ ((Below.refl _ _).alloc (Nat.le_refl _) _)).mono ?_
      rintro e w1 ⟨rfl, hb1⟩
      have hb2 : Below w.heap.size w w1 := (hb.trans (((Below.refl _ _).alloc (Nat.le_refl _) _).mono hb.size)).trans (hb1.mono (by have := hb.size; simp; omega))
      clear hb1
      have hmx : max r z = if r < z then z else r := by split <;> omega
      have HMX := hide hmx
      clear hmx
      go_wp2_with fail
      go_roundw
      case rel => exact ⟨k + 1, _, by omega, by go_num, rfl, by simp only [Hid]; rw [HS.out, ← hr.out, HMX.out], hb2⟩
      case measure => simp [intOf]; omega
    · go_wp2_with fail
      go_ret
      refine ⟨ret_int ?_, hb⟩
      rw [hr.out]
      unfold depTo
      rw [List.take_of_length_le (by rw [hpl.out]; omega)]

theorem depth_any (n : Nat) : FDep n := by
  induction n with
  | zero => intro x B w hx; exact hx.elim
  | succ n ih =>
    intro x B w hx hB hsum
    obtain ⟨⟨k, u, s⟩, ⟨a, pc⟩, p⟩ := x
    obtain ⟨⟨_, _, _, hpl, hpc⟩, hp⟩ := hx
    simp only at hpl hpc hp
    unfold maxLen at hpc
    have hL : (nodes (n + 1) ((k, u, s), (a, pc), p)).length = 1 + (p.flatMap fun y => nodes n y).length := by simp only [nodes, List.length_cons]; omega
    rw [hL] at hsum
    show Calls Try.prog 37 #[.agg #[.int .i64 k, .int .i64 u, .string s, .slice a p.length pc]] w fun e w' => e = .returned (.int .i64 (if k = 4 then 1 + p.foldl (fun m y => max m (dep n y)) 0 else 0)) ∧ Below w.heap.size w w'
    by_cases h4 : k = 4
    · subst h4
      exact depth_tup n ih u s a pc p.length p rfl B w hp (by omega) hB hsum
    · rw [if_neg h4]
      exact depth_else k u s a p.length pc w h4

/-- So many words behind k of the parts, as term.Size counts them. -/
def tszTo (n : Nat) (p : List (Tm n)) (k : Nat) : Int := 1 + p.length + ((p.take k).map fun y => sz n y).sum
theorem tszTo_succ (n : Nat) (p : List (Tm n)) (k : Nat) (x : Tm n) (h : p[k]? = some x) : tszTo n p (k + 1) = tszTo n p k + sz n x := by
  obtain ⟨h1, e1⟩ := List.getElem?_eq_some_iff.1 h
  unfold tszTo
  rw [List.take_succ_eq_append_getElem h1, e1]
  simp
  omega
theorem sum_split (n : Nat) (l : List (Tm n)) : (l.map fun y => 1 + sz n y).sum = l.length + (l.map fun y => sz n y).sum := by
  induction l with
  | nil => simp
  | cons y l ih => simp only [List.map_cons, List.sum_cons, List.length_cons, ih]; omega
theorem tszTo_all (n : Nat) (p : List (Tm n)) (k : Nat) (h : p.length ≤ k) : tszTo n p k = 1 + (p.map fun y => 1 + sz n y).sum := by
  unfold tszTo
  rw [List.take_of_length_le h, sum_split]
  omega
theorem len_nodes (n : Nat) (p : List (Tm n)) : p.length ≤ (p.flatMap fun y => nodes n y).length := by
  induction p with
  | nil => simp
  | cons y l ih =>
    have : 1 ≤ (nodes n y).length := by cases n <;> simp [nodes]
    simp only [List.flatMap_cons, List.length_append, List.length_cons]
    omega
theorem tszTo_bound (n : Nat) (p : List (Tm n)) (k : Nat) : 0 ≤ tszTo n p k ∧ tszTo n p k ≤ 3 * (1 + (p.flatMap fun y => nodes n y).length : Int) := by
  have h0 := len_nodes n p
  have h := take_le (fun y => nodes n y) p k
  have key : ∀ l : List (Tm n), 0 ≤ (l.map fun y => sz n y).sum ∧ (l.map fun y => sz n y).sum ≤ 2 * ((l.flatMap fun y => nodes n y).length : Int) := by
    intro l
    induction l with
    | nil => exact ⟨by simp, by simp⟩
    | cons y l ih =>
      have hy := sz_bound n y
      simp only [List.map_cons, List.sum_cons, List.flatMap_cons, List.length_append]
      exact ⟨by omega, by omega⟩
  have k := key (p.take k)
  unfold tszTo
  exact ⟨by omega, by omega⟩

def FSz (n : Nat) : Prop := ∀ (x : Tm n) (B : Nat) (w : World), In B w n x → B ≤ w.heap.size → (nodes n x).length ≤ 2097152 →
  Calls Try.prog 24 #[val n x] w fun e w' => e = .returned (.int .i64 (sz n x)) ∧ Below w.heap.size w w'

theorem tsize_else (k0 u0 : Int) (s : ByteArray) (a : Option Addr) (len pc : Nat) (w : World) (h : ¬ k0 = 4) :
    Calls Try.prog 24 #[.agg #[.int .i64 k0, .int .i64 u0, .string s, .slice a len pc]] w fun e w' => e = .returned (.int .i64 0) ∧ Below w.heap.size w w' := by
  have h4 : (k0 != 4) = true := by simpa using h
  clear h
  go_enter Try.func24, Try.ntmps24
  go_wp2_with fail
  go_ret
  exact ⟨rfl, (Below.refl _ _).alloc (Nat.le_refl _) _⟩

set_option maxHeartbeats 400000 in
theorem tsize_tup (n : Nat) (ih : FSz n) (u0 : Int) (s : ByteArray) (a : Option Addr) (pc len : Nat) (p : List (Tm n)) (hpl : Hid (p.length = len)) (B : Nat) (w : World)
    (hp : Hid (p = [] ∨ ∃ b o, a = some ⟨b, o, none⟩ ∧ b < B ∧ ∀ (i : Nat) (y : Tm n), p[i]? = some y → Held w b (o + i * 4) n y ∧ In B w n y))
    (hB : B ≤ w.heap.size) (hsum : Hid (1 + (p.flatMap fun y => nodes n y).length ≤ 2097152)) :
    Calls Try.prog 24 #[.agg #[.int .i64 4, .int .i64 u0, .string s, .slice a len pc]] w fun e w' =>
      e = .returned (.int .i64 (1 + (p.map fun y => 1 + sz n y).sum)) ∧ Below w.heap.size w w' := by
  have hlen : len ≤ 2097152 := by have h1 := len_nodes n p; have h2 := hsum.out; rw [← hpl.out]; omega
  go_enter Try.func24, Try.ntmps24
  go_wp2_with fail
  go_loopw [3, 16] (fun t i wr => ∃ k : Nat, ∃ r : Int, k ≤ len ∧ i = .int .i64 k ∧ t = .int .i64 r ∧ Hid (r = tszTo n p k) ∧ Below w.heap.size w wr) (fun _ i _ => len - (intOf i).toNat)
  case atStart => exact ⟨0, 1 + len, by omega, rfl, rfl, by simp only [Hid, tszTo]; rw [hpl.out]; simp, (Below.refl _ _).alloc (Nat.le_refl _) _⟩
  case round =>
    obtain ⟨k, r, hk, rfl, rfl, hr, hb⟩ := hrel
    have e1 := tszTo_bound n p k
    rw [← hr.out] at e1
    have e5 := hsum.out
    have r1 : 0 ≤ r := e1.1
    have r2 : r ≤ 6291456 := by omega
    clear e1
    by_cases hlt : k < len
    · obtain ⟨x, hx⟩ : ∃ x, p[k]? = some x := ⟨p[k]'(by rw [hpl.out]; exact hlt), List.getElem?_eq_getElem _⟩
      have HS := hide (tszTo_succ n p k x hx)
      have e3 := mem_nodes_le p x (List.mem_of_getElem? hx)
      have hx9 : (nodes n x).length ≤ 2097152 := by omega
      have e2 := sz_bound n x
      have z1 : 0 ≤ sz n x := e2.1
      have z2 : sz n x ≤ 4194304 := by omega
      clear e3 e5 e2
      rcases hp.out with hp | ⟨pb, po, rfl, hpb, hp⟩
      · subst hp; simp at hx
      obtain ⟨hx1, hx2⟩ := hp k x hx
      replace hx1 := hx1.below (hb.mono hB) hpb
      replace hx2 := hx2.below (hb.mono hB)
      clear hp hx
      cases n with
      | zero => exact hx1.elim
      | succ n =>
      obtain ⟨x0, x1, x2, x3⟩ := hx1
      have hB' : B ≤ wr.heap.size := Nat.le_trans hB hb.size
      have HC : Hid (∀ w1, Below wr.heap.size wr w1 → Calls Try.prog 24 #[.agg #[.int .i64 x.1.1, .int .i64 x.1.2.1, .string x.1.2.2, .slice x.2.1.1 x.2.2.length x.2.1.2]] w1 fun e w' => e = .returned (.int .i64 (sz (n + 1) x)) ∧ Below w1.heap.size w1 w') :=
        fun w1 h1 => ih x B w1 (hx2.below (h1.mono hB')) (Nat.le_trans hB' h1.size) hx9
      clear ih hx2 hx9
      generalize x.2.2.length = xl at *
      generalize sz (n + 1) x = z at *
      have hk1 : (0 : Int) ≤ (k : Int) := by omega
      have hk2 : (k : Int) < (len : Int) := by omega
      go_wp2_with fail
      refine (HC.out _ ((Below.refl _ _).alloc (Nat.le_refl _) _)).mono ?_
      rintro e w1 ⟨rfl, hb1⟩
      have hb2 : Below w.heap.size w w1 := (hb.trans (((Below.refl _ _).alloc (Nat.le_refl _) _).mono hb.size)).trans (hb1.mono (by have := hb.size; simp; omega))
      clear hb1
      go_wp2_with fail
      go_roundw
      case rel => exact ⟨k + 1, r + z, by omega, by go_num, by go_num, by simp only [Hid]; rw [HS.out, ← hr.out], hb2⟩
      case measure => simp [intOf]; omega
    · go_wp2_with fail
      go_ret
      refine ⟨ret_int ?_, hb⟩
      rw [hr.out, tszTo_all n p k (by rw [hpl.out]; omega)]

theorem tsize_any (n : Nat) : FSz n := by
  induction n with
  | zero => intro x B w hx; exact hx.elim
  | succ n ih =>
    intro x B w hx hB hsum
    obtain ⟨⟨k, u, s⟩, ⟨a, pc⟩, p⟩ := x
    obtain ⟨⟨_, _, _, hpl, hpc⟩, hp⟩ := hx
    simp only at hpl hpc hp
    have hL : (nodes (n + 1) ((k, u, s), (a, pc), p)).length = 1 + (p.flatMap fun y => nodes n y).length := by simp only [nodes, List.length_cons]; omega
    rw [hL] at hsum
    show Calls Try.prog 24 #[.agg #[.int .i64 k, .int .i64 u, .string s, .slice a p.length pc]] w fun e w' => e = .returned (.int .i64 (if k = 4 then 1 + (p.map fun y => 1 + sz n y).sum else 0)) ∧ Below w.heap.size w w'
    by_cases h4 : k = 4
    · subst h4
      exact tsize_tup n ih u s a pc p.length p rfl B w hp hB hsum
    · rw [if_neg h4]
      exact tsize_else k u s a p.length pc w h4

set_option maxHeartbeats 400000 in
theorem tcheck_walk (w : World) (k u : Int) (s : ByteArray) (a : Option Addr) (l c : Nat) (fb : Bool) (d z : Int)
    (HF : Hid (∀ w1, Below w.heap.size w w1 → Calls Try.prog 36 #[.agg #[.int .i64 k, .int .i64 u, .string s, .slice a l c]] w1 fun e w' => e = .returned (.bool fb) ∧ Below w1.heap.size w1 w'))
    (HD : Hid (∀ w1, Below w.heap.size w w1 → Calls Try.prog 37 #[.agg #[.int .i64 k, .int .i64 u, .string s, .slice a l c]] w1 fun e w' => e = .returned (.int .i64 d) ∧ Below w1.heap.size w1 w'))
    (HZ : Hid (∀ w1, Below w.heap.size w w1 → Calls Try.prog 24 #[.agg #[.int .i64 k, .int .i64 u, .string s, .slice a l c]] w1 fun e w' => e = .returned (.int .i64 z) ∧ Below w1.heap.size w1 w')) :
    Calls Try.prog 21 #[.agg #[.int .i64 k, .int .i64 u, .string s, .slice a l c]] w fun e w' => e = .returned (.int .i64 (if fb then if 12 < d ∨ 200 < z then 2 else 0 else 5)) ∧ Below w.heap.size w w' := by
  generalize hr : (if fb then if 12 < d ∨ 200 < z then (2 : Int) else 0 else 5) = r
  have HR := hide hr
  clear hr
  go_enter Try.func21, Try.ntmps21
  go_wp2_with fail
  refine (HF.out _ ((Below.refl _ _).alloc (Nat.le_refl _) _)).mono ?_
  rintro e w1 ⟨rfl, hb1⟩
  have HB1 : Hid (Below w.heap.size w w1 ∧ w.heap.size + 1 ≤ w1.heap.size) := ⟨((Below.refl _ _).alloc (Nat.le_refl _) _).trans (hb1.mono (by simp)), by have := hb1.size; simpa using this⟩
  have hcc := below_cells hb1
  simp only [World.size_alloc] at hcc
  have a0 := (hcc w.heap.size 0 (by omega)).trans (by simp [go_sem] : _ = some (Value.int .i64 k))
  have a1 := (hcc w.heap.size 1 (by omega)).trans (by simp [go_sem] : _ = some (Value.int .i64 u))
  have a2 := (hcc w.heap.size 2 (by omega)).trans (by simp [go_sem] : _ = some (Value.string s))
  have a3 := (hcc w.heap.size 3 (by omega)).trans (by simp [go_sem] : _ = some (Value.slice a l c))
  clear hcc hb1
  cases fb with
  | false =>
    go_wp2_with fail
    go_ret
    exact ⟨ret_int (by rw [← HR.out]; rfl), HB1.out.1⟩
  | true =>
    go_wp2_with fail
    refine (HD.out _ HB1.out.1).mono ?_
    rintro e w2 ⟨rfl, hb2⟩
    have HB2 : Hid (Below w.heap.size w w2) := HB1.out.1.trans (hb2.mono HB1.out.1.size)
    have hcc := below_cells hb2
    have hz1 := HB1.out.2
    replace a0 := (hcc w.heap.size 0 (by omega)).trans a0
    replace a1 := (hcc w.heap.size 1 (by omega)).trans a1
    replace a2 := (hcc w.heap.size 2 (by omega)).trans a2
    replace a3 := (hcc w.heap.size 3 (by omega)).trans a3
    clear hcc hb2 hz1
    by_cases h12 : 12 < d
    · have H12 := hide h12
      go_wp2_with fail
      go_ret
      exact ⟨ret_int (by rw [← HR.out, if_pos trivial, if_pos (Or.inl H12.out)]), HB2.out⟩
    · have H12 := hide h12
      go_wp2_with fail
      refine (HZ.out _ HB2.out).mono ?_
      rintro e w3 ⟨rfl, hb3⟩
      have HB3 : Hid (Below w.heap.size w w3) := HB2.out.trans (hb3.mono HB2.out.size)
      clear hb3
      by_cases hz : 200 < z
      · have HZ2 := hide hz
        go_wp2_with fail
        go_ret
        exact ⟨ret_int (by rw [← HR.out, if_pos trivial, if_pos (Or.inr HZ2.out)]), HB3.out⟩
      · have HZ2 := hide hz
        go_wp2_with fail
        go_ret
        exact ⟨ret_int (by rw [← HR.out, if_pos trivial, if_neg (by have := H12.out; have := HZ2.out; omega)]), HB3.out⟩

def tchk (n : Nat) (x : Tm n) : Int := if formedB n x then if 12 < dep n x ∨ 200 < sz n x then 2 else 0 else 5
theorem tcheck_tchk (n : Nat) (x : Tm n) (B : Nat) (w : World) (hx : In B w n x) (hB : B ≤ w.heap.size) (hN : (nodes n x).length ≤ 2097152) :
    Calls Try.prog 21 #[val n x] w fun e w' => e = .returned (.int .i64 (tchk n x)) ∧ Below w.heap.size w w' := by
  cases n with
  | zero => exact hx.elim
  | succ n =>
  exact tcheck_walk w x.1.1 x.1.2.1 x.1.2.2 x.2.1.1 x.2.2.length x.2.1.2 (formedB (n + 1) x) (dep (n + 1) x) (sz (n + 1) x)
    (fun w1 hw => formed_any (n + 1) x B w1 (hx.below (hw.mono hB)) (Nat.le_trans hB hw.size))
    (fun w1 hw => depth_any (n + 1) x B w1 (hx.below (hw.mono hB)) (Nat.le_trans hB hw.size) hN)
    (fun w1 hw => tsize_any (n + 1) x B w1 (hx.below (hw.mono hB)) (Nat.le_trans hB hw.size) hN)

/-- That each term in it is right by itself: the one way and the other. -/
theorem formed_good : (n : Nat) → (x : Tm n) → formedB n x = (nodes n x).all good
  | 0, _ => by simp [formedB, nodes, good]
  | n + 1, x => by
    have e : (nodes (n + 1) x).all good = (good (hdOf n x) && (x.2.2.flatMap fun y => nodes n y).all good) := rfl
    rw [e]
    simp only [formedB]
    cases hg : good (hdOf n x)
    · rfl
    · rw [Bool.true_and, Bool.true_and]
      by_cases h4 : x.1.1 = 4
      · rw [h4]
        have key : ∀ l : List (Tm n), (l.all fun y => formedB n y) = (l.flatMap fun y => nodes n y).all good := by
          intro l
          induction l with
          | nil => rfl
          | cons y l ih => simp only [List.all_cons, List.flatMap_cons, List.all_append, ih, formed_good n y]
        rw [key]
        simp
      · have hl : x.2.2 = [] := by
          unfold good at hg
          simp only [Bool.and_eq_true, Bool.or_eq_true, beq_iff_eq] at hg
          rcases hg.2 with h | h
          · exact (h4 h).elim
          · have : ¬ (0 : Int) < (x.2.2.length : Int) := by simpa [hdOf] using h
            exact List.eq_nil_of_length_eq_zero (by omega)
        rw [hl]
        simp

/-- How deep it is, of what is still to be looked at. -/
def deepL : List Nd → List Int → Int → Int
  | x :: l, d :: ds, m => deepL l ds (deeper x d m)
  | _, _, m => m
theorem chkL_all (z : Int) : (l : List Nd) → (ds : List Int) → (m : Int) → l.length = ds.length → chkL z l ds m = if l.all good then (if 12 < deepL l ds m ∨ 200 < z then 2 else 0) else 5
  | [], _, _, _ => rfl
  | x :: l, [], _, h => by simp at h
  | x :: l, d :: ds, m, h => by
    have ih := chkL_all z l ds (deeper x d m) (by simpa using h)
    simp only [chkL, deepL]
    by_cases hg : good x = true
    · have e : (x :: l).all good = l.all good := by simp [hg]
      rw [if_pos hg, ih]
      by_cases ha : l.all good = true
      · rw [if_pos ha, if_pos (e.trans ha)]; rfl
      · rw [if_neg ha, if_neg (fun h => ha (e.symm.trans h))]
    · rw [if_neg hg, if_neg (fun h => hg (List.all_eq_true.1 h x (by simp)))]

theorem deepL_append : (l r : List Nd) → (ds es : List Int) → (m : Int) → l.length = ds.length → deepL (l ++ r) (ds ++ es) m = deepL r es (deepL l ds m)
  | [], _, [], _, _, _ => rfl
  | [], _, _ :: _, _, _, h => by simp at h
  | _ :: _, _, [], _, _, h => by simp at h
  | x :: l, r, d :: ds, es, m, h => by
    simp only [List.cons_append, deepL]
    exact deepL_append l r ds es _ (by simpa using h)
theorem fold_max {n : Nat} (c : Int) : (p : List (Tm n)) → (m e : Int) → p.foldl (fun m y => max m (c + dep n y)) (max m (c + e)) = max m (c + p.foldl (fun m y => max m (dep n y)) e)
  | [], _, _ => rfl
  | y :: p, m, e => by
    simp only [List.foldl_cons]
    have h : max (max m (c + e)) (c + dep n y) = max m (c + max e (dep n y)) := by omega
    rw [h]
    exact fold_max c p m (max e (dep n y))
theorem deep_dep : (n : Nat) → (x : Tm n) → (d m : Int) → (∀ a ∈ nodes n x, good a = true) → d ≤ m → deepL (nodes n x) (deeps n x d) m = max m (d + dep n x)
  | 0, x, _, _, h, _ => by
    have := h ((0, 0, .empty), (none, 0, 0)) (by simp [nodes])
    rcases good_kind _ this with g | g | g | g | g | ⟨g, _⟩ <;> simp at g
  | n + 1, x, d, m, h, hm => by
    have hg := h (hdOf n x) (by simp [nodes, hdOf])
    have key : ∀ (p : List (Tm n)) (m : Int), (∀ y ∈ p, y ∈ x.2.2) → d + 1 ≤ m → deepL (p.flatMap fun y => nodes n y) (p.flatMap fun y => deeps n y (d + 1)) m = p.foldl (fun m y => max m (d + 1 + dep n y)) m := by
      intro p
      induction p with
      | nil => intro m _ _; rfl
      | cons y p ih =>
        intro m hp hm
        simp only [List.flatMap_cons, List.foldl_cons]
        rw [deepL_append _ _ _ _ _ (deeps_length n y (d + 1)).symm, deep_dep n y (d + 1) m (fun a ha => h a (nodes_mem (hp y (by simp)) ha)) hm]
        exact ih _ (fun z hz => hp z (by simp [hz])) (by omega)
    have e : deepL (nodes (n + 1) x) (deeps (n + 1) x d) m = deepL (x.2.2.flatMap fun y => nodes n y) (x.2.2.flatMap fun y => deeps n y (d + 1)) (deeper (hdOf n x) d m) := rfl
    rw [e]
    simp only [dep]
    by_cases h4 : x.1.1 = 4
    · rw [if_pos h4]
      have e1 : deeper (hdOf n x) d m = max m (d + 1 + 0) := by
        unfold deeper hdOf
        by_cases hlt : m < d + 1
        · rw [if_pos ⟨h4, hlt⟩]; omega
        · rw [if_neg (fun hh => hlt hh.2)]; omega
      rw [e1, key x.2.2 _ (fun _ hy => hy) (by omega), fold_max]
      omega
    · rw [if_neg h4]
      have hl : x.2.2 = [] := by
        unfold good at hg
        simp only [Bool.and_eq_true, Bool.or_eq_true, beq_iff_eq] at hg
        rcases hg.2 with h' | h'
        · exact (h4 h').elim
        · have : ¬ (0 : Int) < (x.2.2.length : Int) := by simpa [hdOf] using h'
          exact List.eq_nil_of_length_eq_zero (by omega)
      have e1 : deeper (hdOf n x) d m = m := deeper_no _ (fun hh => h4 hh.1)
      rw [hl, e1]
      simp only [List.flatMap_nil, deepL]
      omega
theorem tchk_chk (n : Nat) (x : Tm n) : tchk n x = chk n x := by
  unfold tchk chk
  rw [chkL_all _ _ _ _ (deeps_length n x 0).symm, ← formed_good n x]
  by_cases hf : formedB n x = true
  · rw [if_pos hf, if_pos hf]
    have hg : ∀ a ∈ nodes n x, good a = true := by
      rw [formed_good n x] at hf
      exact fun a ha => List.all_eq_true.1 hf a ha
    have hd := dep_bound n x
    rw [deep_dep n x 0 0 hg (by omega)]
    have : max (0 : Int) (0 + dep n x) = dep n x := by omega
    rw [this]
  · rw [if_neg hf, if_neg hf]

/-- term.Check is the document's Check. -/
theorem tcheck_any (n : Nat) (x : Tm n) (B : Nat) (w : World) (hx : In B w n x) (hB : B ≤ w.heap.size) (hN : (nodes n x).length ≤ 2097152) :
    Calls Try.prog 21 #[val n x] w fun e w' => e = .returned (.int .i64 (chk n x)) ∧ Below w.heap.size w w' := by
  rw [← tchk_chk]
  exact tcheck_tchk n x B w hx hB hN
end Go.Proofs.Ytdlckjjfbobmpaa
namespace Go.Proofs.Ytdlckjjfbobmpaa
open Go.RowKit

def okB (n : Nat) (y : Tm n) : Bool := chk n y == 0 && (kindA ⟨n, y⟩ == 6 || closedB n y)
def bndB (n : Nat) (q : List (Tm n)) : Bool := decide (q.length = 4) && q.all (okB n)
/-- A list that lies in memory. -/
def Lies (B : Nat) (w : World) (n : Nat) (q : List (Tm n)) (a : Option Addr) : Prop :=
  q = [] ∨ ∃ b o, a = some ⟨b, o, none⟩ ∧ b < B ∧ ∀ (i : Nat) (y : Tm n), q[i]? = some y → Held w b (o + i * 4) n y ∧ In B w n y
theorem Lies.below {B : Nat} {w w' : World} (h : Below B w w') {n : Nat} {q : List (Tm n)} {a : Option Addr} (k : Lies B w n q a) : Lies B w' n q a := by
  rcases k with hp | ⟨b, o, e, hb, hp⟩
  · exact Or.inl hp
  · exact Or.inr ⟨b, o, e, hb, fun i y hy => ⟨(hp i y hy).1.below h hb, (hp i y hy).2.below h⟩⟩

theorem all_drop {α : Type} (f : α → Bool) (q : List α) (k : Nat) (y : α) (h : q[k]? = some y) : (q.drop k).all f = (f y && (q.drop (k + 1)).all f) := by
  obtain ⟨h1, e1⟩ := List.getElem?_eq_some_iff.1 h
  rw [List.drop_eq_getElem_cons h1, e1]
  rfl
theorem all_take {α : Type} (f : α → Bool) (q : List α) (k : Nat) (y : α) (h : q[k]? = some y) : (q.take (k + 1)).all f = ((q.take k).all f && f y) := by
  rw [List.take_add_one, h]
  simp

end Go.Proofs.Ytdlckjjfbobmpaa
namespace Go.Proofs.Ytdlckjjfbobmpaa
open Go.RowKit

/-- A term, at another depth. -/
def lift : (N : Nat) → (n : Nat) → Tm n → Tm N
  | 0, _, _ => ()
  | _ + 1, 0, _ => ((0, 0, .empty), (none, 0), [])
  | N + 1, n + 1, x => (x.1, x.2.1, x.2.2.map fun y => lift N n y)
theorem lift_hd (N n : Nat) (x : Tm (n + 1)) : hdT (N + 1) (lift (N + 1) (n + 1) x) = hdT (n + 1) x := by simp [hdT, hdOf, lift]
theorem lift_held (N n : Nat) (h : n ≤ N) (x : Tm n) (w : World) (b o : Nat) (k : Held w b o n x) : Held w b o N (lift N n x) := by
  cases n with
  | zero => exact k.elim
  | succ n =>
    obtain ⟨N, rfl⟩ : ∃ M, N = M + 1 := ⟨N - 1, by omega⟩
    obtain ⟨k0, k1, k2, k3⟩ := k
    exact ⟨k0, k1, k2, by simpa [lift] using k3⟩
theorem lift_in : (N n : Nat) → n ≤ N → (x : Tm n) → (B : Nat) → (w : World) → In B w n x → In B w N (lift N n x)
  | _, 0, _, _, _, _, k => k.elim
  | 0, n + 1, h, _, _, _, _ => by omega
  | N + 1, n + 1, h, x, B, w, k => by
    obtain ⟨k0, k1⟩ := k
    refine ⟨by simpa [lift] using k0, ?_⟩
    rcases k1 with k1 | ⟨b, o, e, hb, k1⟩
    · exact Or.inl (by simp [lift, k1])
    · refine Or.inr ⟨b, o, e, hb, fun i y hy => ?_⟩
      simp only [lift, List.getElem?_map] at hy
      obtain ⟨z, hz, rfl⟩ := Option.map_eq_some_iff.1 hy
      exact ⟨lift_held N n (by omega) z w b _ (k1 i z hz).1, lift_in N n (by omega) z B w (k1 i z hz).2⟩
theorem lift_nodes : (N n : Nat) → n ≤ N → (x : Tm (n + 1)) → nodes (N + 1) (lift (N + 1) (n + 1) x) = nodes (n + 1) x
  | N, 0, _, x => by
    have : ∀ l : List (Tm 0), (l.map fun y => lift N 0 y).flatMap (fun y => nodes N y) = l.flatMap fun y => nodes 0 y := by
      intro l
      induction l with
      | nil => rfl
      | cons a l ih =>
        simp only [List.map_cons, List.flatMap_cons, ih]
        congr 1
        cases N with
        | zero => rfl
        | succ N => simp [lift, nodes]
    simp only [nodes, lift, List.length_map, this]
  | 0, n + 1, h, _ => by omega
  | N + 1, n + 1, h, x => by
    have : ∀ l : List (Tm (n + 1)), (l.map fun y => lift (N + 1) (n + 1) y).flatMap (fun y => nodes (N + 1) y) = l.flatMap fun y => nodes (n + 1) y := by
      intro l
      induction l with
      | nil => rfl
      | cons a l ih =>
        simp only [List.map_cons, List.flatMap_cons, ih]
        rw [lift_nodes N n (by omega) a]
    have e : nodes (N + 2) (lift (N + 2) (n + 2) x) = (x.1, (x.2.1.1, (x.2.2.map fun y => lift (N + 1) (n + 1) y).length, x.2.1.2)) :: (x.2.2.map fun y => lift (N + 1) (n + 1) y).flatMap fun y => nodes (N + 1) y := rfl
    rw [e, this]
    simp [nodes]

def top (b : List An) : Nat := b.foldr (fun a m => max a.1 m) 0
theorem top_le (b : List An) : ∀ a ∈ b, a.1 ≤ top b := by
  induction b with
  | nil => intro a h; cases h
  | cons c b ih =>
    intro a h
    simp only [top, List.foldr_cons]
    rcases List.mem_cons.1 h with rfl | h
    · omega
    · have := ih a h
      unfold top at this
      omega
def uni (b : List An) : List (Tm (top b)) := b.map fun a => lift (top b) a.1 a.2
theorem uni_at (b : List An) (i : Nat) (y : Tm (top b)) (h : (uni b)[i]? = some y) : ∃ a, b[i]? = some a ∧ a.1 ≤ top b ∧ y = lift (top b) a.1 a.2 := by
  simp only [uni, List.getElem?_map] at h
  obtain ⟨a, ha, rfl⟩ := Option.map_eq_some_iff.1 h
  exact ⟨a, ha, top_le b a (List.mem_of_getElem? ha), rfl⟩
theorem uni_lies {base g c B : Nat} {b : List An} {w : World} (h : Has base g c b w) (hb : ∀ y ∈ b, InA B w y) (hB : B ≤ w.heap.size) : Lies w.heap.size w (top b) (uni b) (some ⟨g, 0, none⟩) := by
  refine Or.inr ⟨g, 0, rfl, h.lt.2, fun i y hy => ?_⟩
  obtain ⟨a, ha, hle, rfl⟩ := uni_at b i y hy
  have hin := hb a (List.mem_of_getElem? ha)
  refine ⟨?_, (lift_in _ _ hle _ _ _ hin).mono hB⟩
  obtain ⟨n, x⟩ := a
  have hc := h.cells i _ ha
  cases n with
  | zero => exact hin.elim
  | succ n =>
    rw [Nat.zero_add]
    exact lift_held _ _ hle x w g (i * 4) hc
theorem uni_right {b : List An} (h : ∀ y ∈ b, RightA y ∧ y.1 ≠ 0) : ∀ y ∈ uni b, RightA ⟨top b, y⟩ := by
  intro y hy
  obtain ⟨i, hi⟩ := List.getElem?_of_mem hy
  obtain ⟨a, ha, hle, rfl⟩ := uni_at b i y hi
  have hr := h a (List.mem_of_getElem? ha)
  obtain ⟨n, x⟩ := a
  cases n with
  | zero => exact (hr.2 rfl).elim
  | succ n =>
    intro z hz
    clear hi hy ha h
    generalize top b = T at *
    obtain ⟨M, rfl⟩ : ∃ M, T = M + 1 := ⟨T - 1, by simp only at hle; omega⟩
    have e := lift_nodes M n (by simp only at hle; omega) x
    simp only at hz
    rw [e] at hz
    exact hr.1 z hz
end Go.Proofs.Ytdlckjjfbobmpaa
