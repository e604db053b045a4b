/- What is proved here: plain facts on a pattern with what is bound put in: how the row of its parts grows. No condition. -/
import Derived.Test.YtfaoeccnhbcjgabPutP2
namespace Go.Proofs.Ytfaoeccnhbcjgab
open Go.RowKit

theorem In.offAll {B : Nat} {w : World} : {n : Nat} → {x : Tm n} → In B w n x → Off (fun b => b < B) n x
  | 0, _, k => k
  | _ + 1, _, k => by
    obtain ⟨_, k1⟩ := k
    rcases k1 with k1 | ⟨b, o, e, hb, k1⟩
    · exact Or.inl k1
    · exact Or.inr ⟨b, o, e, hb, fun i y hy => (k1 i y hy).2.offAll⟩
theorem val_lift (N n : Nat) (x : Tm (n + 1)) : val (N + 1) (lift (N + 1) (n + 1) x) = val (n + 1) x := by simp [val, lift]

theorem alloc_old (w : World) (o : Obj) {b : Nat} (h : b < w.heap.size) : (w.alloc o).heap[b]? = w.heap[b]? := (World.grownBy_alloc w o none).block b h (by simp)
/-- A box of the call's own. -/
def Box4 (q : Nat) (v0 v1 v2 v3 : Value) (w : World) : Prop := w.heap[q]? = some (.cells #[v0, v1, v2, v3] 24)
theorem Box4.cells {q : Nat} {v0 v1 v2 v3 : Value} {w : World} (h : Box4 q v0 v1 v2 v3 w) :
    (w.cell? ⟨q, 0, none⟩ = some v0 ∧ w.cell? ⟨q, 1, none⟩ = some v1 ∧ w.cell? ⟨q, 2, none⟩ = some v2 ∧ w.cell? ⟨q, 3, none⟩ = some v3) ∧ ∀ j, w.frozen? ⟨q, j, none⟩ = false := by
  unfold Box4 at h
  refine ⟨⟨?_, ?_, ?_, ?_⟩, fun j => ?_⟩
  all_goals simp [World.cell?, World.frozen?, h]
theorem Box4.lt {q : Nat} {v0 v1 v2 v3 : Value} {w : World} (h : Box4 q v0 v1 v2 v3 w) : q < w.heap.size := (Array.getElem?_eq_some_iff.1 h).1
theorem Box4.set3 {q : Nat} {v0 v1 v2 v3 : Value} {w : World} (h : Box4 q v0 v1 v2 v3 w) (v : Value) : Box4 q v0 v1 v2 v (w.setCell ⟨q, 3, none⟩ v) := by
  unfold Box4 at *
  simp [World.setCell, Array.getElem?_modify, h]

/-- What a pattern's parts have come to: xs, in the row v; the box q holds it. -/
def PtP (B : Nat) (D : Nat) (l : List (Tm D)) (n : Nat) (p : List (Tm n)) (w : World) (v0 v1 v2 : Value) (k : Nat) (xs : List (Tm (D + n))) (v : Value) (wr : World) : Prop :=
  Below w.heap.size w wr ∧ Box4 (w.heap.size + 2) v0 v1 v2 v wr ∧ xs.length = k ∧ wr.ownsRow (w.heap.size + 3) 24 4 v k (ndCells (xs.map (hdT (D + n)))) ∧
  (∀ y ∈ xs, In wr.heap.size wr (D + n) y ∧ Off (fun b => (b < B ∨ w.heap.size + 2 < b) ∧ v.ownBlock ≠ some b) (D + n) y) ∧
  ∀ (i : Nat) (y : Tm n) (e : Tm (D + n)), p[i]? = some y → xs[i]? = some e → PutR D l n y e

theorem PtP.step {B D : Nat} {l : List (Tm D)} {n : Nat} {p : List (Tm n)} {w : World} {v0 v1 v2 : Value} {k : Nat} {xs : List (Tm (D + n))} {v : Value} {wr w1 w2 : World} {o o1 : Obj} {g c : Nat} (hB : B ≤ w.heap.size)
    (h : PtP B D l n p w v0 v1 v2 k xs v wr) (hb : Below (wr.alloc o).heap.size (wr.alloc o) w1) (X : Tm (D + n)) (hX : In w1.heap.size w1 (D + n) X) (hoX : Off (fun b => b < B ∨ wr.heap.size < b) (D + n) X) (x : Tm n) (hx : p[k]? = some x) (hp : PutR D l n x X)
    (hown : w2.ownsRow (w.heap.size + 3) 24 4 (.slice (some ⟨g, 0, none⟩) (k + 1) c) (k + 1) (ndCells (xs.map (hdT (D + n))) ++ nd4 (hdT (D + n) X))) (hg : (w1.alloc o1).grownBy w2 v.ownBlock) (hat : v.ownBlock = some g ∨ g = w1.heap.size + 1) :
    PtP B D l n p w v0 v1 v2 (k + 1) (xs ++ [X]) (.slice (some ⟨g, 0, none⟩) (k + 1) c) (w2.setCell ⟨w.heap.size + 2, 3, none⟩ (.slice (some ⟨g, 0, none⟩) (k + 1) c)) := by
  obtain ⟨h1, h2, h3, h4, h5, h6⟩ := h
  have hs1 := h1.size
  have hs2 := h2.lt
  have hs3 := hb.size
  have es : (wr.alloc o).heap.size = wr.heap.size + 1 := by simp
  have es1 : (w1.alloc o1).heap.size = w1.heap.size + 1 := by simp
  have hb1 : Below wr.heap.size wr w1 := ((Below.refl _ _).alloc (Nat.le_refl _) o).trans (hb.mono (by omega))
  have hb1s := hb1.size
  have hgs := hg.size
  -- blocks that the append leaves: all of w1's but the row's own
  have hold : ∀ b, b < w1.heap.size → v.ownBlock ≠ some b → w2.heap[b]? = w1.heap[b]? := fun b hb hne => (hg.block b (by omega) (fun e => hne e.symm)).trans (alloc_old w1 o1 hb)
  have hvown : ∀ b, v.ownBlock = some b → w.heap.size + 3 ≤ b ∧ b < wr.heap.size := fun b e => h4.lt b e
  have hg3 : w.heap.size + 3 ≤ g := by
    rcases hat with e | e
    · exact (hvown g e).1
    · omega
  have hq : w2.heap[w.heap.size + 2]? = wr.heap[w.heap.size + 2]? := (hold _ (by omega) (fun e => by have := (hvown _ e).1; omega)).trans (hb1.block _ (by omega))
  have hbox : Box4 (w.heap.size + 2) v0 v1 v2 v w2 := hq.trans h2
  have hset : ∀ b, b ≠ w.heap.size + 2 → (w2.setCell ⟨w.heap.size + 2, 3, none⟩ (.slice (some ⟨g, 0, none⟩) (k + 1) c)).heap[b]? = w2.heap[b]? := fun b hne => by
    have : w.heap.size + 2 ≠ b := fun e => hne e.symm
    simp [World.setCell, Array.getElem?_modify, this]
  have hsz : (w2.setCell ⟨w.heap.size + 2, 3, none⟩ (.slice (some ⟨g, 0, none⟩) (k + 1) c)).heap.size = w2.heap.size := by simp [World.setCell]
  refine ⟨⟨?_, ?_, ?_, ?_, ?_⟩, hbox.set3 _, by simp [h3], ?_, ?_, ?_⟩
  · exact (hg.os.trans (hb1.os)).trans h1.os
  · exact (hg.tape.trans (hb1.tape)).trans h1.tape
  · exact (hg.output.trans (hb1.output)).trans h1.output
  · rw [hsz]; omega
  · intro b hb'
    exact (hset b (by omega)).trans ((hold b (by omega) (fun e => by have := (hvown _ e).1; omega)).trans ((hb1.block b (by omega)).trans (h1.block b hb')))
  · have e : ndCells ((xs ++ [X]).map (hdT (D + n))) = ndCells (xs.map (hdT (D + n))) ++ nd4 (hdT (D + n) X) := by simp [ndCells]
    rw [e]
    refine World.ownsRow.kept hown (row := some (w.heap.size + 2)) ⟨rfl, rfl, rfl, Nat.le_of_eq hsz.symm, fun b _ hne => hset b (fun e => hne (by rw [e]))⟩ (Or.inr ?_)
    simp only [Value.ownBlock]
    intro e
    injection e with e
    omega
  · intro y hy
    rw [hsz]
    rcases List.mem_append.1 hy with hy | hy
    · obtain ⟨k1, k2⟩ := h5 y hy
      have k4 : Off (fun b => ((b < B ∨ w.heap.size + 2 < b) ∧ v.ownBlock ≠ some b) ∧ b < wr.heap.size) (D + n) y := In.offB k2 k1
      refine ⟨?_, k4.mono fun b hb' => ⟨hb'.1.1, ?_⟩⟩
      · refine In.off (w := w1) (fun b hb' => ?_) k4 ((k1.below hb1).mono (by omega))
        exact (hset b (by have := hb'.1.1; omega)).trans (hold b (by have := hb'.2; omega) hb'.1.2)
      · simp only [Value.ownBlock]
        intro e
        injection e with e
        rcases hat with e2 | e2
        · exact hb'.1.2 (by rw [e2, e])
        · have := hb'.2
          omega
    · simp only [List.mem_singleton] at hy
      subst hy
      have k4 : Off (fun b => (b < B ∨ wr.heap.size < b) ∧ b < w1.heap.size) (D + n) y := In.offB hoX hX
      refine ⟨?_, k4.mono fun b hb' => ⟨by rcases hb'.1 with h | h <;> omega, ?_⟩⟩
      · refine In.off (w := w1) (fun b hb' => ?_) k4 (hX.mono (by omega))
        exact (hset b (by have := hb'.1; omega)).trans (hold b hb'.2 (fun e => by have := hvown _ e; have := hb'.1; omega))
      · simp only [Value.ownBlock]
        intro e
        injection e with e
        rcases hat with e2 | e2
        · have := hvown g e2
          have := hb'.1
          omega
        · have := hb'.2
          omega
  · intro i y e hy he
    by_cases hi : i < xs.length
    · rw [List.getElem?_append_left hi] at he
      exact h6 i y e hy he
    · rw [List.getElem?_append_right (by omega)] at he
      have h0 : i - xs.length = 0 := by
        by_cases h0 : i - xs.length = 0
        · exact h0
        · rw [List.getElem?_eq_none (by simp; omega)] at he; cases he
      rw [h0] at he
      have e1 : X = e := by simpa using he
      have e2 : i = k := by omega
      rw [e2, hx] at hy
      obtain rfl := Option.some.inj hy
      rw [← e1]
      exact hp
end Go.Proofs.Ytfaoeccnhbcjgab
