/- What is proved here: plain facts on a row of values that the document's value appends to: how it grows, and what stays. No condition. -/
import Derived.Test.YtfaoeccnhbcjgabVl6
namespace Go.Proofs.Ytfaoeccnhbcjgab
open Go.RowKit

theorem alloc_kept (w : World) (o : Obj) {b : Nat} (h : b < w.heap.size) : (w.alloc o).heap[b]? = w.heap[b]? := (World.grownBy_alloc w o none).block b h (by simp)
/-- A box of the call's own. -/
def BoxT (q : Nat) (v0 v1 v2 v3 : Value) (w : World) : Prop := w.heap[q]? = some (.cells #[v0, v1, v2, v3] 24)
theorem BoxT.cells {q : Nat} {v0 v1 v2 v3 : Value} {w : World} (h : BoxT q v0 v1 v2 v3 w) :
    (w.cell? ⟨q, 0, none⟩ = some v0 ∧ w.cell? ⟨q, 1, none⟩ = some v1 ∧ w.cell? ⟨q, 2, none⟩ = some v2 ∧ w.cell? ⟨q, 3, none⟩ = some v3) ∧ ∀ j, w.frozen? ⟨q, j, none⟩ = false := by
  unfold BoxT at h
  refine ⟨⟨?_, ?_, ?_, ?_⟩, fun j => ?_⟩
  all_goals simp [World.cell?, World.frozen?, h]
theorem BoxT.lt {q : Nat} {v0 v1 v2 v3 : Value} {w : World} (h : BoxT q v0 v1 v2 v3 w) : q < w.heap.size := (Array.getElem?_eq_some_iff.1 h).1
theorem BoxT.set3 {q : Nat} {v0 v1 v2 v3 : Value} {w : World} (h : BoxT q v0 v1 v2 v3 w) (v : Value) : BoxT q v0 v1 v2 v (w.setCell ⟨q, 3, none⟩ v) := by
  unfold BoxT at *
  simp [World.setCell, Array.getElem?_modify, h]
theorem BoxT.below {q : Nat} {v0 v1 v2 v3 : Value} {w w' : World} (h : BoxT q v0 v1 v2 v3 w) (hb : Below w.heap.size w w') : BoxT q v0 v1 v2 v3 w' := (hb.block q h.lt).trans h

/-- What parts have come to: xs, in the row v; the box q holds it. -/
def RvP (B N q : Nat) {n : Nat} (Rel : Tm n → Tm N → Prop) (p : List (Tm n)) (w : World) (v0 v1 v2 : Value) (k : Nat) (xs : List (Tm N)) (v : Value) (wr : World) : Prop :=
  Below w.heap.size w wr ∧ BoxT (q) v0 v1 v2 v wr ∧ xs.length = k ∧ wr.ownsRow (q + 1) 24 4 v k (ndCells (xs.map (hdT N))) ∧
  (∀ y ∈ xs, In wr.heap.size wr N y ∧ Off (fun b => (b < B ∨ q < b) ∧ v.ownBlock ≠ some b) N y) ∧
  ∀ (i : Nat) (y : Tm n) (e : Tm N), p[i]? = some y → xs[i]? = some e → Rel y e

theorem RvP.step {B N q n : Nat} {Rel : Tm n → Tm N → Prop} {p : List (Tm n)} {w : World} {v0 v1 v2 : Value} {k : Nat} {xs : List (Tm N)} {v : Value} {wr w1 w2 : World} {o1 : Obj} {g c : Nat} (hB : B ≤ w.heap.size) (hq0 : w.heap.size ≤ q)
    (h : RvP B N q Rel p w v0 v1 v2 k xs v wr) (hb1 : Below wr.heap.size wr w1) (X : Tm N) (hX : In w1.heap.size w1 N X) (hoX : Off (fun b => b < B ∨ wr.heap.size ≤ b) N X) (x : Tm n) (hx : p[k]? = some x) (hp : Rel x X)
    (hown : w2.ownsRow (q + 1) 24 4 (.slice (some ⟨g, 0, none⟩) (k + 1) c) (k + 1) (ndCells (xs.map (hdT N)) ++ nd4 (hdT N X))) (hg : (w1.alloc o1).grownBy w2 v.ownBlock) (hat : v.ownBlock = some g ∨ g = w1.heap.size + 1) :
    RvP B N q Rel p w v0 v1 v2 (k + 1) (xs ++ [X]) (.slice (some ⟨g, 0, none⟩) (k + 1) c) (w2.setCell ⟨q, 3, none⟩ (.slice (some ⟨g, 0, none⟩) (k + 1) c)) ∧ w2.heap.size ≤ (w2.setCell ⟨q, 3, none⟩ (.slice (some ⟨g, 0, none⟩) (k + 1) c)).heap.size ∧
    ∀ r u0 u1 u2 u3, r < q → BoxT r u0 u1 u2 u3 wr → BoxT r u0 u1 u2 u3 (w2.setCell ⟨q, 3, none⟩ (.slice (some ⟨g, 0, none⟩) (k + 1) c)) := by
  obtain ⟨h1, h2, h3, h4, h5, h6⟩ := h
  have hs1 := h1.size
  have hs2 := h2.lt
  have es1 : (w1.alloc o1).heap.size = w1.heap.size + 1 := by simp
  have hb1s := hb1.size
  have hgs := hg.size
  -- blocks that the append leaves: all of w1's but the row's own
  have hold : ∀ b, b < w1.heap.size → v.ownBlock ≠ some b → w2.heap[b]? = w1.heap[b]? := fun b hb hne => (hg.block b (by omega) (fun e => hne e.symm)).trans (alloc_kept w1 o1 hb)
  have hvown : ∀ b, v.ownBlock = some b → q + 1 ≤ b ∧ b < wr.heap.size := fun b e => h4.lt b e
  have hg3 : q + 1 ≤ g := by
    rcases hat with e | e
    · exact (hvown g e).1
    · omega
  have hq : w2.heap[q]? = wr.heap[q]? := (hold _ (by omega) (fun e => by have := (hvown _ e).1; omega)).trans (hb1.block _ (by omega))
  have hbox : BoxT (q) v0 v1 v2 v w2 := hq.trans h2
  have hset : ∀ b, b ≠ q → (w2.setCell ⟨q, 3, none⟩ (.slice (some ⟨g, 0, none⟩) (k + 1) c)).heap[b]? = w2.heap[b]? := fun b hne => by
    have : q ≠ b := fun e => hne e.symm
    simp [World.setCell, Array.getElem?_modify, this]
  have hsz : (w2.setCell ⟨q, 3, none⟩ (.slice (some ⟨g, 0, none⟩) (k + 1) c)).heap.size = w2.heap.size := by simp [World.setCell]
  refine ⟨⟨⟨?_, ?_, ?_, ?_, ?_⟩, hbox.set3 _, by simp [h3], ?_, ?_, ?_⟩, Nat.le_of_eq hsz.symm, fun r u0 u1 u2 u3 hr hbq => ((hset r (by omega)).trans ((hold r (by have := hbq.lt; omega) (fun e => by have := (hvown _ e).1; omega)).trans (hb1.block r hbq.lt))).trans hbq⟩
  · exact (hg.os.trans (hb1.os)).trans h1.os
  · exact (hg.tape.trans (hb1.tape)).trans h1.tape
  · exact (hg.output.trans (hb1.output)).trans h1.output
  · rw [hsz]; omega
  · intro b hb'
    exact (hset b (by omega)).trans ((hold b (by omega) (fun e => by have := (hvown _ e).1; omega)).trans ((hb1.block b (by omega)).trans (h1.block b hb')))
  · have e : ndCells ((xs ++ [X]).map (hdT N)) = ndCells (xs.map (hdT N)) ++ nd4 (hdT N X) := by simp [ndCells]
    rw [e]
    refine World.ownsRow.kept hown (row := some (q)) ⟨rfl, rfl, rfl, Nat.le_of_eq hsz.symm, fun b _ hne => hset b (fun e => hne (by rw [e]))⟩ (Or.inr ?_)
    simp only [Value.ownBlock]
    intro e
    injection e with e
    omega
  · intro y hy
    rw [hsz]
    rcases List.mem_append.1 hy with hy | hy
    · obtain ⟨k1, k2⟩ := h5 y hy
      have k4 : Off (fun b => ((b < B ∨ q < b) ∧ v.ownBlock ≠ some b) ∧ b < wr.heap.size) N y := In.offB k2 k1
      refine ⟨?_, k4.mono fun b hb' => ⟨hb'.1.1, ?_⟩⟩
      · refine In.off (w := w1) (fun b hb' => ?_) k4 ((k1.below hb1).mono (by omega))
        exact (hset b (by have := hb'.1.1; omega)).trans (hold b (by have := hb'.2; omega) hb'.1.2)
      · simp only [Value.ownBlock]
        intro e
        injection e with e
        rcases hat with e2 | e2
        · exact hb'.1.2 (by rw [e2, e])
        · have := hb'.2
          omega
    · simp only [List.mem_singleton] at hy
      subst hy
      have k4 : Off (fun b => (b < B ∨ wr.heap.size ≤ b) ∧ b < w1.heap.size) N y := In.offB hoX hX
      refine ⟨?_, k4.mono fun b hb' => ⟨by rcases hb'.1 with h | h <;> omega, ?_⟩⟩
      · refine In.off (w := w1) (fun b hb' => ?_) k4 (hX.mono (by omega))
        exact (hset b (by have := hb'.1; omega)).trans (hold b hb'.2 (fun e => by have := hvown _ e; have := hb'.1; omega))
      · simp only [Value.ownBlock]
        intro e
        injection e with e
        rcases hat with e2 | e2
        · have := hvown g e2
          have := hb'.1
          omega
        · have := hb'.2
          omega
  · intro i y e hy he
    by_cases hi : i < xs.length
    · rw [List.getElem?_append_left hi] at he
      exact h6 i y e hy he
    · rw [List.getElem?_append_right (by omega)] at he
      have h0 : i - xs.length = 0 := by
        by_cases h0 : i - xs.length = 0
        · exact h0
        · rw [List.getElem?_eq_none (by simp; omega)] at he; cases he
      rw [h0] at he
      have e1 : X = e := by simpa using he
      have e2 : i = k := by omega
      rw [e2, hx] at hy
      obtain rfl := Option.some.inj hy
      rw [← e1]
      exact hp
end Go.Proofs.Ytfaoeccnhbcjgab
