/- What is proved here: the document's list of all terms in a term ('all'): for every term that lies in memory, with at most 2097152 terms in it, it returns two new slices, of the terms and of how deep they stand, and turns no memory that was there. -/
import Derived.Test.YtdlplmpjcemnoabDoorTree
import Derived.Deep.AppendLies
namespace Go.Proofs.YtdlplmpjcemnoabDoor
open Go.RowKit

/-- One term of the list: its own cells, its Args as a slice. -/
abbrev Nd : Type := (Int × Int × ByteArray) × (Option Addr × Nat × Nat)
def nd4 (x : Nd) : List Value := [.int .i64 x.1.1, .int .i64 x.1.2.1, .string x.1.2.2, .slice x.2.1 x.2.2.1 x.2.2.2]
def ndCells (l : List Nd) : List Value := l.flatMap nd4
def ints (l : List Int) : List Value := l.map fun d => .int .i64 d

def nodes : (n : Nat) → Tm n → List Nd
  | 0, _ => [((0, 0, .empty), (none, 0, 0))]
  | n + 1, x => (x.1, (x.2.1.1, x.2.2.length, x.2.1.2)) :: x.2.2.flatMap fun y => nodes n y
def deeps : (n : Nat) → Tm n → Int → List Int
  | 0, _, d => [d]
  | n + 1, x, d => d :: x.2.2.flatMap fun y => deeps n y (d + 1)

theorem flat_length {α β γ : Type} (f : α → List β) (g : α → List γ) (h : ∀ a, (f a).length = (g a).length) (l : List α) : (l.flatMap f).length = (l.flatMap g).length := by
  induction l with
  | nil => rfl
  | cons a l ih => simp only [List.flatMap_cons, List.length_append, ih, h]
theorem deeps_length : (n : Nat) → (x : Tm n) → (d : Int) → (deeps n x d).length = (nodes n x).length
  | 0, _, _ => rfl
  | n + 1, x, d => by
    simp only [deeps, nodes, List.length_cons]
    rw [flat_length (fun y => deeps n y (d + 1)) (fun y => nodes n y) (fun y => deeps_length n y (d + 1))]
theorem ndCells_length (l : List Nd) : (ndCells l).length = l.length * 4 := by
  induction l with
  | nil => rfl
  | cons a l ih => simp only [ndCells, List.flatMap_cons, List.length_append, List.length_cons] at ih ⊢; rw [ih]; simp [nd4]; omega
theorem ndCells_append (l r : List Nd) : ndCells (l ++ r) = ndCells l ++ ndCells r := by simp [ndCells]
theorem ints_append (l r : List Int) : ints (l ++ r) = ints l ++ ints r := by simp [ints]
theorem ndCells_one (l : List Nd) : ∀ u ∈ ndCells l, u.oneCell' = true := by
  intro u hu
  simp only [ndCells, List.mem_flatMap, nd4] at hu
  obtain ⟨a, _, hu⟩ := hu
  simp at hu
  rcases hu with rfl | rfl | rfl | rfl <;> rfl
theorem ints_one (l : List Int) : ∀ u ∈ ints l, u.oneCell' = true := by
  intro u hu
  simp only [ints, List.mem_map] at hu
  obtain ⟨a, _, rfl⟩ := hu
  rfl
theorem take_flat {α β : Type} (f : α → List β) (l : List α) (k : Nat) (x : α) (h : l[k]? = some x) : (l.take (k + 1)).flatMap f = (l.take k).flatMap f ++ f x := by
  obtain ⟨h1, e1⟩ := List.getElem?_eq_some_iff.1 h
  rw [List.take_succ_eq_append_getElem h1, e1]
  simp
theorem take_le {α β : Type} (f : α → List β) (l : List α) (k : Nat) : ((l.take k).flatMap f).length ≤ (l.flatMap f).length := by
  conv => rhs; rw [← List.take_append_drop k l]
  rw [List.flatMap_append, List.length_append]
  omega

theorem own_one {w : World} {base e size : Nat} (cs : Array Value) (hb : base ≤ w.heap.size) (hs : cs.size = size) :
    (w.alloc (.cells cs e)).ownsRow base e size (.slice (some ⟨w.heap.size, 0, none⟩) 1 1) 1 cs.toList :=
  ⟨by simp [hs], .inr ⟨w.heap.size, 1, cs, rfl, hb, heap_alloc_new w _, Nat.le_refl _, by unfold maxLen; omega, by omega, by rw [List.take_of_length_le]; simp [hs]⟩⟩
theorem own_below {w w' : World} {base e size : Nat} {v : Value} {n : Nat} {xs : List Value} (h : w.ownsRow base e size v n xs) (hb : Below w.heap.size w w') : w'.ownsRow base e size v n xs :=
  h.kept (row := none) ⟨hb.os, hb.tape, hb.output, hb.size, fun k hk _ => hb.block k hk⟩ (by cases v.ownBlock <;> simp)
theorem own_base {w : World} {base base' e size : Nat} {v : Value} {n : Nat} {xs : List Value} (h : w.ownsRow base e size v n xs) (hb : base' ≤ base) : w.ownsRow base' e size v n xs := by
  obtain ⟨h1, h2⟩ := h
  refine ⟨h1, ?_⟩
  rcases h2 with h2 | ⟨g, cap, cur, hv, hg, hh, r⟩
  · exact Or.inl h2
  · exact Or.inr ⟨g, cap, cur, hv, by omega, hh, r⟩
theorem own_lt {w : World} {base e size : Nat} {g n cap : Nat} {xs : List Value} (h : w.ownsRow base e size (.slice (some ⟨g, 0, none⟩) n cap) n xs) : base ≤ g ∧ g < w.heap.size := h.lt g rfl

theorem infoTerm : (Tryd.prog.info? 24).map (fun i => (i.zero, i.size, i.bytes)) = some (some (.agg #[.int .i64 0, .int .i64 0, .string .empty, .slice none 0 0]), 4, 56) := by kernel_rfl
theorem infoInt : (Tryd.prog.info? 3).map (fun i => (i.zero, i.size, i.bytes)) = some (some (.int .i64 0), 1, 8) := by kernel_rfl

/-- What holds behind k rounds. -/
def AllP (n : Nat) (p : List (Tm n)) (hd : Nd) (d : Int) (w : World) (k g c h c' L : Nat) (wr : World) : Prop :=
  L = 1 + ((p.take k).flatMap fun y => nodes n y).length ∧ g ≠ h ∧ Below w.heap.size w wr ∧
    wr.ownsRow (w.heap.size + 1) 24 4 (.slice (some ⟨g, 0, none⟩) L c) L (ndCells (hd :: (p.take k).flatMap fun y => nodes n y)) ∧
    wr.ownsRow (w.heap.size + 1) 3 1 (.slice (some ⟨h, 0, none⟩) L c') L (ints (d :: (p.take k).flatMap fun y => deeps n y (d + 1)))

theorem all_start (n : Nat) (p : List (Tm n)) (hd : Nd) (d : Int) (w : World) (o : Obj) :
    AllP n p hd d w 0 (w.heap.size + 1) 1 (w.heap.size + 1 + 1) 1 1 (((w.alloc o).alloc (.cells (nd4 hd).toArray 24)).alloc (.cells #[.int .i64 d] 3)) := by
  refine ⟨by simp, by omega, (((Below.refl _ _).alloc (Nat.le_refl _) _).alloc (by simp) _).alloc (by simp; omega) _, ?_, ?_⟩
  · have h := own_one (w := w.alloc o) (base := w.heap.size + 1) (e := 24) (size := 4) (nd4 hd).toArray (by simp) (by simp [nd4])
    have h2 := h.alloc (.cells #[.int .i64 d] 3)
    have e : (w.alloc o).heap.size = w.heap.size + 1 := by simp
    rw [e] at h2
    simpa [ndCells] using h2
  · have h := own_one (w := (w.alloc o).alloc (.cells (nd4 hd).toArray 24)) (base := w.heap.size + 1) (e := 3) (size := 1) #[.int .i64 d] (by simp) (by simp)
    have e : ((w.alloc o).alloc (.cells (nd4 hd).toArray 24)).heap.size = w.heap.size + 1 + 1 := by simp
    rw [e] at h
    simpa [ints] using h

/-- Behind the call of itself, and behind the first append: what the second append needs. -/
theorem all_mid {n : Nat} {p : List (Tm n)} {hd : Nd} {d : Int} {w wr w1 w2 : World} {k g c h c' L : Nat} (H : AllP n p hd d w k g c h c' L wr) (hb : Below wr.heap.size wr w1) {h1 M c1 : Nat} {zs : List Value}
    (hr : w1.ownsRow wr.heap.size 3 1 (.slice (some ⟨h1, 0, none⟩) M c1) M zs) (hg : w1.grownBy w2 (some g)) :
    w2.ownsRow (w.heap.size + 1) 3 1 (.slice (some ⟨h, 0, none⟩) L c') L (ints (d :: (p.take k).flatMap fun y => deeps n y (d + 1))) ∧
      w2.ownsRow wr.heap.size 3 1 (.slice (some ⟨h1, 0, none⟩) M c1) M zs := by
  obtain ⟨_, hne, _, o1, o2⟩ := H
  have l1 := own_lt o1
  have l3 := own_lt hr
  refine ⟨(own_below o2 hb).kept hg (Or.inr (by simp [Value.ownBlock]; omega)), hr.kept hg (Or.inr (by simp [Value.ownBlock]; omega))⟩

/-- A round's end. -/
theorem all_end {n : Nat} {p : List (Tm n)} {hd : Nd} {d : Int} {w wr w1 w2 w3 : World} {k g c h c' L : Nat} (H : AllP n p hd d w k g c h c' L wr) (hb : Below wr.heap.size wr w1) (x : Tm n) (hx : p[k]? = some x)
    {g2 c2 g3 c3 : Nat} (h2 : w2.ownsRow (w.heap.size + 1) 24 4 (.slice (some ⟨g2, 0, none⟩) (L + (nodes n x).length) c2) (L + (nodes n x).length) (ndCells (hd :: (p.take k).flatMap fun y => nodes n y) ++ ndCells (nodes n x)))
    (gr2 : w1.grownBy w2 (some g)) (at2 : some g = some g2 ∨ g2 = w1.heap.size) (lt2 : g2 < w2.heap.size)
    (h3 : w3.ownsRow (w.heap.size + 1) 3 1 (.slice (some ⟨g3, 0, none⟩) (L + (nodes n x).length) c3) (L + (nodes n x).length) (ints (d :: (p.take k).flatMap fun y => deeps n y (d + 1)) ++ ints (deeps n x (d + 1))))
    (gr3 : w2.grownBy w3 (some h)) (at3 : some h = some g3 ∨ g3 = w2.heap.size) :
    AllP n p hd d w (k + 1) g2 c2 g3 c3 (L + (nodes n x).length) w3 ∧ (∀ o, w3.cell? ⟨w.heap.size, o, none⟩ = wr.cell? ⟨w.heap.size, o, none⟩) := by
  obtain ⟨hL, hne, hb0, o1, o2⟩ := H
  have l1 := own_lt o1
  have l2 := own_lt o2
  have z1 := hb.size
  have z2 := gr2.size
  have z3 := gr3.size
  have hg2h : g2 ≠ h := by
    rcases at2 with e | e
    · have : g = g2 := by simpa using e
      omega
    · omega
  have hne2 : g2 ≠ g3 := by
    rcases at3 with e | e
    · have : h = g3 := by simpa using e
      omega
    · omega
  refine ⟨⟨?_, hne2, ?_, ?_, ?_⟩, ?_⟩
  · rw [take_flat _ p k x hx, List.length_append]; omega
  · have r2 : ∀ j, some g = some j → w.heap.size ≤ j := fun j e => by
      have e' : g = j := by simpa using e
      omega
    have r3 : ∀ j, some h = some j → w.heap.size ≤ j := fun j e => by
      have e' : h = j := by simpa using e
      omega
    have z0 := hb0.size
    exact ((hb0.trans (hb.mono z0)).grown gr2 (by omega) r2).grown gr3 (by omega) r3
  · have e : ndCells (hd :: (p.take (k + 1)).flatMap fun y => nodes n y) = ndCells (hd :: (p.take k).flatMap fun y => nodes n y) ++ ndCells (nodes n x) := by
      rw [take_flat _ p k x hx, ← ndCells_append]; rfl
    rw [e]
    exact h2.kept gr3 (Or.inr (by simp [Value.ownBlock]; omega))
  · have e : ints (d :: (p.take (k + 1)).flatMap fun y => deeps n y (d + 1)) = ints (d :: (p.take k).flatMap fun y => deeps n y (d + 1)) ++ ints (deeps n x (d + 1)) := by
      rw [take_flat _ p k x hx, ← ints_append]; rfl
    rw [e]
    exact h3
  · intro o
    rw [gr3.cell_far _ (by simp; omega) (by simp; omega), gr2.cell_far _ (by simp; omega) (by simp; omega)]
    exact hb.cell (p := ⟨w.heap.size, o, none⟩) (by simp; omega)

end Go.Proofs.YtdlplmpjcemnoabDoor
