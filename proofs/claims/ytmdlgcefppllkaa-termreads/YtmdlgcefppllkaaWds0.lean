/- What is proved here: plain facts on the document's words of a text: what stands behind i signs (WP), sign by sign, and on rows of strings and numbers that a call owns. No condition. -/
import Derived.Test.YtmdlgcefppllkaaPar
import Derived.OneCell
namespace Go.Proofs.Ytmdlgcefppllkaa
open Go.RowKit

def nE (c : UInt8) : Bool := !enB c
def strs (l : List Tok) : List Value := l.map fun t => .string t.2
def poss (l : List Tok) : List Value := l.map fun t => .int .i64 t.1

/-- The words dn stand behind i signs; the last is open, or not. -/
def WP (s : ByteArray) (i : Nat) : Bool → List Tok → Prop
  | false, dn => dn ++ toks s i = toks s 0
  | true, dn => ∃ b d, b < i ∧ dn = d ++ [(b, s.extract b i)] ∧ d ++ (b, s.extract b (skipTo nE s i)) :: toks s (skipTo nE s i) = toks s 0

theorem wp_start (s : ByteArray) : WP s 0 false [] := rfl
theorem wp_shut {s : ByteArray} {i : Nat} {o : Bool} {dn : List Tok} (h : WP s i o dn) (he2 : ∀ h : i < s.size, enB s[i] = true) : WP s i false dn := by
  cases o with
  | false => exact h
  | true =>
    obtain ⟨b, d, hb, e1, e2⟩ := h
    have e3 : skipTo nE s i = i := by
      by_cases hi : i < s.size
      · exact skip_stop (p := nE) hi (by simp [nE, he2 hi])
      · exact skip_end (p := nE) hi
    rw [e3] at e2
    show dn ++ toks s i = toks s 0
    rw [e1, ← e2]
    simp
theorem wp_blank {s : ByteArray} {i : Nat} {dn : List Tok} (h : WP s i false dn) (hi : i < s.size) (hb : s[i] = 32) : WP s (i + 1) false dn := by
  have h' : dn ++ toks s i = toks s 0 := h
  rw [tk_blank hi hb] at h'
  exact h'
theorem wp_bracket {s : ByteArray} {i : Nat} {dn : List Tok} (h : WP s i false dn) (hi : i < s.size) (hb : s[i] = 40 ∨ s[i] = 41) : WP s (i + 1) false (dn ++ [(i, s.extract i (i + 1))]) := by
  have h' : dn ++ toks s i = toks s 0 := h
  rw [tk_bracket hi hb] at h'
  show (dn ++ [(i, s.extract i (i + 1))]) ++ toks s (i + 1) = toks s 0
  simpa using h'
theorem wp_new {s : ByteArray} {i : Nat} {dn : List Tok} (h : WP s i false dn) (hi : i < s.size) (hb : enB s[i] = false) : WP s (i + 1) true (dn ++ [(i, s.extract i (i + 1))]) := by
  have h' : dn ++ toks s i = toks s 0 := h
  rw [tk_plain hi hb] at h'
  exact ⟨i, dn, Nat.lt_succ_self _, rfl, h'⟩
theorem wp_more {s : ByteArray} {i : Nat} {dn : List Tok} (h : WP s i true dn) (hi : i < s.size) (hb : enB s[i] = false) :
    ∃ b d x, dn = d ++ [(b, x)] ∧ x.size ≤ s.size ∧ WP s (i + 1) true (d ++ [(b, x ++ s.extract i (i + 1))]) := by
  obtain ⟨b, d, hbi, e1, e2⟩ := h
  have e3 : skipTo nE s (i + 1) = skipTo nE s i := skip_step (p := nE) hi (by simp [nE, hb])
  refine ⟨b, d, _, e1, by simp; omega, b, d, by omega, ?_, by rw [e3]; exact e2⟩
  rw [ByteArray.extract_append_extract]
  rw [Nat.min_eq_left (by omega), Nat.max_eq_right (by omega)]
theorem wp_end {s : ByteArray} {i : Nat} {dn : List Tok} (h : WP s i false dn) (hi : ¬ i < s.size) : dn = toks s 0 := by
  have h' : dn ++ toks s i = toks s 0 := h
  rw [toks_nil s i (by have := wordB_ge s i; omega)] at h'
  simpa using h'

/-- One cell of an owned row is written. -/
theorem own_set {w : World} {base e g L c : Nat} {xs : List Value} (h : w.ownsRow base e 1 (.slice (some ⟨g, 0, none⟩) L c) L xs) (j : Nat) (u : Value) :
    (w.setCell ⟨g, j, none⟩ u).ownsRow base e 1 (.slice (some ⟨g, 0, none⟩) L c) L (xs.set j u) := by
  obtain ⟨h1, h2⟩ := h
  refine ⟨by simpa using h1, ?_⟩
  rcases h2 with ⟨h2, _⟩ | ⟨g', cap, cur, hv, hg, hh, hc, hm, hz, he⟩
  · simp at h2
  · injection hv with e1 e2 e3
    injection e1 with e1
    injection e1 with e1 _
    subst e1 e3
    refine Or.inr ⟨g, c, cur.setIfInBounds j u, rfl, hg, ?_, hc, hm, by simpa using hz, ?_⟩
    · simp [World.setCell, Array.getElem?_modify, hh]
    · rw [← he]
      simp [List.take_set]
theorem own_free {w : World} {base e size g L c : Nat} {xs : List Value} (h : w.ownsRow base e size (.slice (some ⟨g, 0, none⟩) L c) L xs) (j : Nat) : w.frozen? ⟨g, j, none⟩ = false := by
  obtain ⟨h1, h2⟩ := h
  rcases h2 with ⟨h2, _⟩ | ⟨g', cap, cur, hv, hg, hh, hc, hm, hz, he⟩
  · simp at h2
  · injection hv with e1 e2 e3
    injection e1 with e1
    injection e1 with e1 _
    subst e1
    simp [World.frozen?, hh]

/-- What holds behind i signs. -/
def WdsP (s : ByteArray) (w : World) (i : Nat) (o : Bool) (dn : List Tok) (v1 v2 : Value) (wr : World) : Prop :=
  WP s i o dn ∧ dn.length ≤ i ∧ Below w.heap.size w wr ∧ wr.ownsRow w.heap.size 9 1 v1 dn.length (strs dn) ∧ wr.ownsRow w.heap.size 3 1 v2 dn.length (poss dn) ∧ ∀ b, v1.ownBlock = some b → v2.ownBlock ≠ some b
theorem wds_mid {s : ByteArray} {w wr w2 : World} {i : Nat} {o : Bool} {dn : List Tok} {v1 v2 : Value} (h : WdsP s w i o dn v1 v2 wr) {o1 o2 : Obj} (g2 : (wr.alloc o1).grownBy w2 v1.ownBlock) :
    (w2.alloc o2).ownsRow w.heap.size 3 1 v2 dn.length (poss dn) := by
  obtain ⟨_, _, _, _, h5, h6⟩ := h
  refine ((h5.alloc o1).kept g2 ?_).alloc o2
  cases hv : v2.ownBlock with
  | none => exact Or.inl rfl
  | some b => exact Or.inr fun e => h6 b e.symm hv

theorem wds_end {s : ByteArray} {w wr w2 w4 : World} {i : Nat} {o o' : Bool} {dn : List Tok} {v1 v2 : Value} (h : WdsP s w i o dn v1 v2 wr) {o1 o2 : Obj} (g2 : (wr.alloc o1).grownBy w2 v1.ownBlock) (t : Tok) (hw : WP s (i + 1) o' (dn ++ [t]))
    {g c g' c' : Nat} (h1 : w2.ownsRow w.heap.size 9 1 (.slice (some ⟨g, 0, none⟩) (dn.length + 1) c) (dn.length + 1) (strs dn ++ [.string t.2])) (a1 : v1.ownBlock = some g ∨ g = wr.heap.size + 1)
    (g4 : (w2.alloc o2).grownBy w4 v2.ownBlock) (h2 : w4.ownsRow w.heap.size 3 1 (.slice (some ⟨g', 0, none⟩) (dn.length + 1) c') (dn.length + 1) (poss dn ++ [.int .i64 t.1])) (a2 : v2.ownBlock = some g' ∨ g' = w2.heap.size + 1) :
    (dn ++ [t]).length = dn.length + 1 ∧ WdsP s w (i + 1) o' (dn ++ [t]) (.slice (some ⟨g, 0, none⟩) (dn.length + 1) c) (.slice (some ⟨g', 0, none⟩) (dn.length + 1) c') w4 := by
  obtain ⟨k1, k2, k3, k4, k5, k6⟩ := h
  have z2 := g2.size
  have z4 := g4.size
  have z3 := k3.size
  simp at z2 z4
  have lg := own_lt h1
  have hne : g ≠ g' := by
    intro e
    subst e
    rcases a1 with a1 | a1
    · have := k4.lt g a1
      rcases a2 with a2 | a2
      · exact k6 g a1 a2
      · omega
    · rcases a2 with a2 | a2
      · have := k5.lt g a2
        omega
      · omega
  have hg : v2.ownBlock ≠ some g := by
    intro e
    rcases a1 with a1 | a1
    · exact k6 g a1 e
    · have := k5.lt g e
      omega
  refine ⟨by simp, hw, by simp; omega, ?_, ?_, ?_, ?_⟩
  · have b2 : Below w.heap.size w w2 := (k3.alloc k3.size o1).grown g2 (by simp; omega) (fun j e => (k4.lt j e).1)
    exact (b2.alloc b2.size o2).grown g4 (by simp; omega) (fun j e => (k5.lt j e).1)
  · have := (h1.alloc o2).kept g4 (Or.inr (by simp only [Value.ownBlock]; exact fun e => hg e.symm))
    simpa [strs] using this
  · simpa [poss] using h2
  · intro b hb
    have : g = b := by simpa [Value.ownBlock] using hb
    simp [Value.ownBlock]
    omega

/-- The open word gets one more sign. -/
theorem wds_more {s : ByteArray} {w wr : World} {i : Nat} {d : List Tok} {b g c : Nat} {x y : ByteArray} {v2 : Value} {L : Nat} (h : WdsP s w i true (d ++ [(b, x)]) (.slice (some ⟨g, 0, none⟩) L c) v2 wr) (hL : (d ++ [(b, x)]).length = L) (hw : WP s (i + 1) true (d ++ [(b, y)])) (m : Nat) :
    (d ++ [(b, y)]).length = L ∧ WdsP s w (i + 1) true (d ++ [(b, y)]) (.slice (some ⟨g, 0, none⟩) L c) v2 ((wr.drewN m).setCell ⟨g, d.length, none⟩ (.string y)) := by
  obtain ⟨k1, k2, k3, k4, k5, k6⟩ := h
  rw [hL] at k2 k4 k5
  have e : (d ++ [(b, y)]).length = L := by rw [← hL]; simp
  have k4' : (wr.drewN m).ownsRow w.heap.size 9 1 (.slice (some ⟨g, 0, none⟩) L c) L (strs (d ++ [(b, x)])) := k4
  have k5' : (wr.drewN m).ownsRow w.heap.size 3 1 v2 L (poss (d ++ [(b, x)])) := k5
  have k7 := own_set k4' d.length (.string y)
  have lg := own_lt k4
  refine ⟨e, hw, by omega, ?_, ?_, ?_, k6⟩
  · exact ⟨k3.os, k3.tape, k3.output, by simpa [World.setCell] using k3.size, fun q hq => (Below.heap_setCell _ _ _ _ (by simp; omega)).trans (k3.block q hq)⟩
  · rw [e]
    have e2 : (strs (d ++ [(b, x)])).set d.length (.string y) = strs (d ++ [(b, y)]) := by simp [strs]
    rw [← e2]
    exact k7
  · rw [e]
    have e2 : poss (d ++ [(b, x)]) = poss (d ++ [(b, y)]) := by simp [poss]
    rw [← e2]
    exact ownsRow_setCell_other k5' (k6 g rfl) _
theorem wds_cell {s : ByteArray} {w wr : World} {i : Nat} {d : List Tok} {b g c : Nat} {x : ByteArray} {v2 : Value} {L : Nat} (h : WdsP s w i true (d ++ [(b, x)]) (.slice (some ⟨g, 0, none⟩) L c) v2 wr) (hL : (d ++ [(b, x)]).length = L) :
    wr.cell? ⟨g, d.length, none⟩ = some (.string x) ∧ wr.frozen? ⟨g, d.length, none⟩ = false := by
  obtain ⟨k1, k2, k3, k4, k5, k6⟩ := h
  rw [hL] at k4
  refine ⟨?_, own_free k4 _⟩
  have := k4.cells (g := g) rfl d.length (.string x) (by simp [strs])
  rw [add_none] at this
  exact this
theorem infoStr : (Try.prog.info? 9).map (fun i => (i.zero, i.size, i.bytes)) = some (some (.string .empty), 1, 16) := by kernel_rfl
end Go.Proofs.Ytmdlgcefppllkaa
