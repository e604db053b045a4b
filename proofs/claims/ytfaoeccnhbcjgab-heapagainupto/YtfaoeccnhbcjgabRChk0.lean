/- What is proved here: plain facts on the document's Check as a function of the list of all terms in a term. No condition. -/
import Derived.Test.YtfaoeccnhbcjgabRSize
namespace Go.Proofs.Ytfaoeccnhbcjgab
open Go.RowKit

/-- Is a term right by itself? -/
def good (x : Nd) : Bool :=
  (if x.1.1 = 1 then x.1.2.2.toList.isEmpty && inB x.1.2.1 (-1099511627776) 1099511627776
   else if x.1.1 = 2 then nameB x.1.2.2 && x.1.2.1 == 0
   else if x.1.1 = 3 then x.1.2.2.toList.isEmpty && inB x.1.2.1 1 99
   else if x.1.1 = 4 then x.1.2.2.toList.isEmpty && x.1.2.1 == 0 && decide ((x.2.2.1 : Int) ≤ 8)
   else if x.1.1 = 5 then x.1.2.2.toList.isEmpty && inB x.1.2.1 0 3
   else if x.1.1 = 6 then x.1.2.2.toList.isEmpty && x.1.2.1 == 0
   else false) && (x.1.1 == 4 || !decide ((0 : Int) < (x.2.2.1 : Int)))
def deeper (x : Nd) (d m : Int) : Int := if x.1.1 = 4 ∧ m < d + 1 then d + 1 else m

/-- What Check says, of what is still to be looked at, so deep as it has been. -/
def chkL (z : Int) : List Nd → List Int → Int → Int
  | x :: l, d :: ds, m => if good x then chkL z l ds (deeper x d m) else 5
  | _, _, m => if 12 < m ∨ 200 < z then 2 else 0
def chk (n : Nat) (x : Tm n) : Int := chkL (sz n x) (nodes n x) (deeps n x 0) 0

theorem chkL_drop (z : Int) (l : List Nd) (ds : List Int) (m : Int) (k : Nat) (x : Nd) (d : Int) (hx : l[k]? = some x) (hd : ds[k]? = some d) :
    chkL z (l.drop k) (ds.drop k) m = if good x then chkL z (l.drop (k + 1)) (ds.drop (k + 1)) (deeper x d m) else 5 := by
  obtain ⟨h1, e1⟩ := List.getElem?_eq_some_iff.1 hx
  obtain ⟨h2, e2⟩ := List.getElem?_eq_some_iff.1 hd
  rw [List.drop_eq_getElem_cons h1, List.drop_eq_getElem_cons h2, e1, e2]
  rfl
theorem chkL_nil (z : Int) (l : List Nd) (ds : List Int) (m : Int) (k : Nat) (h : l.length ≤ k) : chkL z (l.drop k) (ds.drop k) m = if 12 < m ∨ 200 < z then 2 else 0 := by
  rw [List.drop_eq_nil_of_le h]
  cases ds.drop k <;> rfl

theorem deeps_bound : (n : Nat) → (x : Tm n) → (d : Int) → ∀ e ∈ deeps n x d, d ≤ e ∧ e + 1 ≤ d + (nodes n x).length
  | 0, _, d => by
    intro e he
    simp only [deeps, List.mem_singleton] at he
    subst he
    simp [nodes]
  | n + 1, x, d => by
    intro e he
    simp only [deeps, List.mem_cons, List.mem_flatMap] at he
    simp only [nodes, List.length_cons]
    rcases he with rfl | ⟨y, hy, he⟩
    · omega
    · have h1 := deeps_bound n y (d + 1) e he
      have h2 : (nodes n y).length ≤ (x.2.2.flatMap fun y => nodes n y).length := by
        obtain ⟨i, hi⟩ := List.getElem?_of_mem hy
        have e4 := take_le (fun y => nodes n y) x.2.2 (i + 1)
        rw [take_flat _ x.2.2 i y hi, List.length_append] at e4
        omega
      omega

theorem ndCells_at (l : List Nd) (k : Nat) (x : Nd) (hx : l[k]? = some x) (j : Nat) (hj : j < 4) : (ndCells l)[k * 4 + j]? = (nd4 x)[j]? := by
  induction l generalizing k with
  | nil => simp at hx
  | cons y l ih =>
    have e : ndCells (y :: l) = nd4 y ++ ndCells l := rfl
    have hy : (nd4 y).length = 4 := rfl
    rw [e]
    cases k with
    | zero =>
      have : y = x := by simpa using hx
      subst this
      rw [List.getElem?_append_left (by omega)]
      simp
    | succ k =>
      rw [List.getElem?_append_right (by omega), hy, ← ih k (by simpa using hx)]
      congr 1
      omega

theorem add_none (g j : Nat) : (⟨g, 0, none⟩ : Addr).add j = ⟨g, j, none⟩ := by unfold Addr.add; split <;> simp_all

theorem own_nd {w : World} {base g c L : Nat} {l : List Nd} (h : w.ownsRow base 24 4 (.slice (some ⟨g, 0, none⟩) L c) L (ndCells l)) (k : Nat) (x : Nd) (hx : l[k]? = some x) :
    w.cell? ⟨g, k * 4, none⟩ = some (.int .i64 x.1.1) ∧ w.cell? ⟨g, k * 4 + 1, none⟩ = some (.int .i64 x.1.2.1) ∧ w.cell? ⟨g, k * 4 + 2, none⟩ = some (.string x.1.2.2) ∧ w.cell? ⟨g, k * 4 + 3, none⟩ = some (.slice x.2.1 x.2.2.1 x.2.2.2) := by
  have hc := h.cells (g := g) rfl
  refine ⟨?_, ?_, ?_, ?_⟩
  · have := hc (k * 4 + 0) (.int .i64 x.1.1) (by rw [ndCells_at l k x hx 0 (by omega)]; rfl)
    rw [add_none] at this; exact this
  · have := hc (k * 4 + 1) (.int .i64 x.1.2.1) (by rw [ndCells_at l k x hx 1 (by omega)]; rfl)
    rw [add_none] at this; exact this
  · have := hc (k * 4 + 2) (.string x.1.2.2) (by rw [ndCells_at l k x hx 2 (by omega)]; rfl)
    rw [add_none] at this; exact this
  · have := hc (k * 4 + 3) (.slice x.2.1 x.2.2.1 x.2.2.2) (by rw [ndCells_at l k x hx 3 (by omega)]; rfl)
    rw [add_none] at this; exact this
theorem own_int {w : World} {base h c L : Nat} {l : List Int} (o : w.ownsRow base 3 1 (.slice (some ⟨h, 0, none⟩) L c) L (ints l)) (k : Nat) (d : Int) (hd : l[k]? = some d) :
    w.cell? ⟨h, k, none⟩ = some (.int .i64 d) := by
  have := o.cells (g := h) rfl k (.int .i64 d) (by simp [ints, hd])
  rw [add_none] at this; exact this

theorem nodes_len : (n : Nat) → (x : Tm n) → (B : Nat) → (w : World) → In B w n x → ∀ y ∈ nodes n x, y.2.2.1 ≤ 9223372036854775807 ∧ y.1.2.2.size ≤ 9223372036854775807
  | 0, _, _, _, h => h.elim
  | n + 1, x, B, w, h => by
    intro y hy
    obtain ⟨⟨_, _, hs, hl, hc⟩, hk⟩ := h
    simp only [nodes, List.mem_cons, List.mem_flatMap] at hy
    unfold maxLen at hc hs
    rcases hy with rfl | ⟨z, hz, hy⟩
    · exact ⟨by simp only; omega, by simp only; omega⟩
    · rcases hk with hk | ⟨b, o, _, _, hk⟩
      · rw [hk] at hz; cases hz
      · obtain ⟨i, hi⟩ := List.getElem?_of_mem hz
        exact nodes_len n z B w (hk i z hi).2 y hy
end Go.Proofs.Ytfaoeccnhbcjgab
