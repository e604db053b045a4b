/- What is proved here: plain facts for the document's term out of words (built): what holds at its loop, and that a round keeps it. No condition. -/
import Derived.Test.YtmdlgcefppllkaaWds
namespace Go.Proofs.Ytmdlgcefppllkaa
open Go.RowKit

/-- The words lie in a block. -/
def Ws (T : List Tok) (g : Nat) (w : World) : Prop := ∀ (j : Nat) (t : Tok), T[j]? = some t → w.cell? ⟨g, j, none⟩ = some (.string t.2)
theorem Ws.below {T : List Tok} {g B : Nat} {w w' : World} (h : Ws T g w) (b : Below B w w') (hg : g < B) : Ws T g w' := fun j t ht => (b.cell (p := ⟨g, j, none⟩) hg).trans (h j t ht)

def zeroO : Obj := .cells #[.int .i64 0, .int .i64 0, .string ⟨#[]⟩, .slice none 0 0] 24
/-- What holds at the loop: the terms l are told by the words from k + 1 to q. -/
def BuiQ (n : Nat) (T : List Tok) (L0 d k : Nat) (w : World) (q : Nat) (v : Value) (wr : World) (l : List (Tm (n + 1))) : Prop :=
  Below w.heap.size w wr ∧ RowOf (w.heap.size + 2) (n + 1) l v wr ∧ Bx w.heap.size (.int .i64 0) (.int .i64 0) (.string ⟨#[]⟩) (.slice none 0 0) wr ∧ Bx (w.heap.size + 1) (.int .i64 4) (.int .i64 0) (.string ⟨#[]⟩) v wr ∧
    IsL (Is (n + 1)) l (T.drop (k + 1)) (T.drop q) ∧ scanD L0 (T.drop q) (d + 1) = none ∧ k + 1 ≤ q ∧ q ≤ T.length

theorem drop_cons {T : List Tok} {k : Nat} {t : Tok} (h : T[k]? = some t) : T.drop k = t :: T.drop (k + 1) := by
  obtain ⟨h1, e⟩ := List.getElem?_eq_some_iff.1 h
  rw [List.drop_eq_getElem_cons h1, e]

theorem below_any {w w' : World} {q : Option Nat} (h : Below w.heap.size w w') : w.grownBy w' q := ⟨h.os, h.tape, h.output, h.size, fun k hk _ => h.block k hk⟩

theorem bui_start {n : Nat} {T : List Tok} {L0 d k : Nat} {w : World} (hk : k < T.length) (hs : scanD L0 (T.drop (k + 1)) (d + 1) = none) :
    BuiQ n T L0 d k w (k + 1) (.slice none 0 0) ((w.alloc (.cells #[.int .i64 0, .int .i64 0, .string ⟨#[]⟩, .slice none 0 0] 24)).alloc (.cells #[.int .i64 4, .int .i64 0, .string ⟨#[]⟩, .slice none 0 0] 24)) [] := by
  refine ⟨((Below.refl _ _).alloc (Nat.le_refl _) _).alloc (by simp) _, ⟨⟨rfl, Or.inl ⟨rfl, rfl⟩⟩, by simp⟩, (Bx.new w _ _ _ _).block (alloc_block _ _ (by simp)), ?_, rfl, hs, Nat.le_refl _, by omega⟩
  have := Bx.new (w.alloc (.cells #[.int .i64 0, .int .i64 0, .string ⟨#[]⟩, .slice none 0 0] 24)) (.int .i64 4) (.int .i64 0) (.string ⟨#[]⟩) (.slice none 0 0)
  have e2 : (w.alloc (.cells #[.int .i64 0, .int .i64 0, .string ⟨#[]⟩, .slice none 0 0] 24)).heap.size = w.heap.size + 1 := by simp
  rw [e2] at this
  exact this

/-- The loop's word. -/
theorem bui_word {n : Nat} {T : List Tok} {L0 d k q : Nat} {w wr : World} {v : Value} {l : List (Tm (n + 1))} (h : BuiQ n T L0 d k w q v wr l) : ∃ t, T[q]? = some t := by
  obtain ⟨h1, h2, h3, h4, h5, h6, h7, h8⟩ := h
  by_cases hq : q < T.length
  · exact ⟨_, List.getElem?_eq_getElem hq⟩
  · rw [List.drop_of_length_le (by omega)] at h6
    simp [scanD] at h6

/-- The boxes behind a call of itself. -/
theorem bui_boxes {n : Nat} {T : List Tok} {L0 d k q : Nat} {w wr w2 : World} {v : Value} {l : List (Tm (n + 1))} (h : BuiQ n T L0 d k w q v wr l)
    (b : Below (wr.alloc (.cells #[.int .i64 0, .int .i64 0, .string ⟨#[]⟩, .slice none 0 0] 24)).heap.size (wr.alloc (.cells #[.int .i64 0, .int .i64 0, .string ⟨#[]⟩, .slice none 0 0] 24)) w2) :
    Bx w.heap.size (.int .i64 0) (.int .i64 0) (.string ⟨#[]⟩) (.slice none 0 0) w2 ∧ Bx (w.heap.size + 1) (.int .i64 4) (.int .i64 0) (.string ⟨#[]⟩) v w2 ∧ Bx wr.heap.size (.int .i64 0) (.int .i64 0) (.string ⟨#[]⟩) (.slice none 0 0) w2 ∧ w.heap.size + 1 < wr.heap.size ∧ wr.heap.size < w2.heap.size := by
  obtain ⟨h1, h2, h3, h4, h5, h6, h7, h8⟩ := h
  have z3 := h3.lt
  have z4 := h4.lt
  have z := b.size
  simp at z
  exact ⟨(h3.block (alloc_block _ _ z3)).block (b.block _ (by simp; omega)), (h4.block (alloc_block _ _ z4)).block (b.block _ (by simp; omega)), (Bx.new wr _ _ _ _).block (b.block _ (by simp)), by omega, by omega⟩

theorem bui_grown {wr w2 : World} {o : Obj} (b : Below (wr.alloc o).heap.size (wr.alloc o) w2) (v0 v1 v2 v3 : Value) (q : Option Nat) :
    wr.grownBy ((((w2.setCell ⟨wr.heap.size, 0, none⟩ v0).setCell ⟨wr.heap.size, 1, none⟩ v1).setCell ⟨wr.heap.size, 2, none⟩ v2).setCell ⟨wr.heap.size, 3, none⟩ v3) q :=
  moved_new (moved_new (moved_new (moved_new (moved_trans (World.grownBy_alloc _ _ _) (below_any b)) (Nat.le_refl _) _ _) (Nat.le_refl _) _ _) (Nat.le_refl _) _ _) (Nat.le_refl _) _ _

/-- What the append of a round needs. -/
theorem bui_own {n : Nat} {T : List Tok} {L0 d k q : Nat} {w wr w2 : World} {a : Option Addr} {L c : Nat} {l : List (Tm (n + 1))} {o : Obj} (h : BuiQ n T L0 d k w q (.slice a L c) wr l) (b : Below (wr.alloc o).heap.size (wr.alloc o) w2) (v0 v1 v2 v3 : Value) (hT : T.length ≤ 2048) :
    l.length = L ∧ L ≤ 2048 ∧ ∀ o2, (((((w2.setCell ⟨wr.heap.size, 0, none⟩ v0).setCell ⟨wr.heap.size, 1, none⟩ v1).setCell ⟨wr.heap.size, 2, none⟩ v2).setCell ⟨wr.heap.size, 3, none⟩ v3).alloc o2).ownsRow (w.heap.size + 2) 24 4 (.slice a L c) L (ndCells (l.map (hdT (n + 1)))) := by
  obtain ⟨h1, h2, h3, h4, h5, h6, h7, h8⟩ := h
  obtain ⟨a', c', ev, _⟩ := h2.tup
  injection ev with _ e2 _
  have := isl_len l _ _ h5
  have h10 := (h2.kept (r := 0) (bui_grown b v0 v1 v2 v3 _) (by omega)).1
  rw [← e2] at h10
  exact ⟨e2.symm, by simp at this; omega, fun o2 => h10.alloc o2⟩

/-- A round's end: one more term stands. -/
theorem bui_round {n : Nat} {T : List Tok} {L0 d k q q' : Nat} {w wr w2 w3 : World} {a : Option Addr} {L c : Nat} {l : List (Tm (n + 1))} (h : BuiQ n T L0 d k w q (.slice a L c) wr l)
    (b : Below (wr.alloc (.cells #[.int .i64 0, .int .i64 0, .string ⟨#[]⟩, .slice none 0 0] 24)).heap.size (wr.alloc (.cells #[.int .i64 0, .int .i64 0, .string ⟨#[]⟩, .slice none 0 0] 24)) w2)
    {k1 u : Int} {t : ByteArray} {a1 : Option Addr} {l1 c1 : Nat} {x : Tm (n + 1)} (x1 : val (n + 1) x = (.agg #[.int .i64 k1, .int .i64 u, .string t, .slice a1 l1 c1])) (x2 : Is (n + 1) x (T.drop q) (T.drop q')) (x3 : In w2.heap.size w2 (n + 1) x)
    (x4 : Off (fun p => (wr.alloc (.cells #[.int .i64 0, .int .i64 0, .string ⟨#[]⟩, .slice none 0 0] 24)).heap.size ≤ p) (n + 1) x) (x5 : scanD L0 (T.drop q') (d + 1) = none) (x6 : q' ≤ T.length) (x7 : q < q') {o2 : Obj} {g c2 : Nat} (hL : l.length = L)
    (hown : w3.ownsRow (w.heap.size + 2) 24 4 (.slice (some ⟨g, 0, none⟩) (L + 1) c2) (L + 1) (ndCells (l.map (hdT (n + 1))) ++ [.int .i64 k1, .int .i64 u, .string t, .slice a1 l1 c1])) {v0 v1 v2 v3 : Value}
    (g2 : (((((w2.setCell ⟨wr.heap.size, 0, none⟩ v0).setCell ⟨wr.heap.size, 1, none⟩ v1).setCell ⟨wr.heap.size, 2, none⟩ v2).setCell ⟨wr.heap.size, 3, none⟩ v3).alloc o2).grownBy w3 (Value.slice a L c).ownBlock) (hg : (Value.slice a L c).ownBlock = some g ∨ g = w2.heap.size + 1) :
    Bx (w.heap.size + 1) (.int .i64 4) (.int .i64 0) (.string ⟨#[]⟩) (.slice a L c) w3 ∧
      BuiQ n T L0 d k w q' (.slice (some ⟨g, 0, none⟩) (L + 1) c2) (w3.setCell ⟨w.heap.size + 1, 3, none⟩ (.slice (some ⟨g, 0, none⟩) (L + 1) c2)) (l ++ [x]) := by
  subst hL
  obtain ⟨q1, q2, q3, q4, q5⟩ := bui_boxes h b
  obtain ⟨h1, h2, h3, h4, h5, h6, h7, h8⟩ := h
  have hob : ∀ b, (Value.slice a l.length c).ownBlock = some b → w.heap.size + 2 ≤ b := fun b e => (h2.1.lt b e).1
  have hnd : nd4 (hdT (n + 1) x) = [.int .i64 k1, .int .i64 u, .string t, .slice a1 l1 c1] := by
    have e1 : val (n + 1) x = .agg (nd4 (hdT (n + 1) x)).toArray := rfl
    rw [e1] at x1
    injection x1 with x1
    exact Array.toList_inj.2 x1
  rw [← hnd] at hown
  have g0 := bui_grown b v0 v1 v2 v3 (some 0)
  have x3' : In ((((w2.setCell ⟨wr.heap.size, 0, none⟩ v0).setCell ⟨wr.heap.size, 1, none⟩ v1).setCell ⟨wr.heap.size, 2, none⟩ v2).setCell ⟨wr.heap.size, 3, none⟩ v3).heap.size ((((w2.setCell ⟨wr.heap.size, 0, none⟩ v0).setCell ⟨wr.heap.size, 1, none⟩ v1).setCell ⟨wr.heap.size, 2, none⟩ v2).setCell ⟨wr.heap.size, 3, none⟩ v3) (n + 1) x := by
    rw [set4_size]
    exact In.off (fun p hp => set4_block (by simp at hp; omega) _ _ _ _) x4 x3
  have hrow := h2.snoc g0 (by omega) x3' (x4.mono fun p hp => by simp at hp; omega) (by omega) (moved_alloc (World.grownBy.refl _ _) o2) hown g2 (by simpa using hg)
  have hne : ∀ p, p < w.heap.size + 2 → some p ≠ (Value.slice a l.length c).ownBlock := fun p hp e => by have := hob p e.symm; omega
  have z : ∀ p, p < w.heap.size + 2 → w3.heap[p]? = w2.heap[p]? := fun p hp => (g2.block p (by simp; omega) (hne p hp)).trans ((alloc_block _ _ (by rw [set4_size]; omega)).trans (set4_block (by omega) _ _ _ _))
  have q2' := q2.block (z (w.heap.size + 1) (by omega))
  have z2 : w3.heap.size = (w3.setCell ⟨w.heap.size + 1, 3, none⟩ (.slice (some ⟨g, 0, none⟩) (l.length + 1) c2)).heap.size := by simp [World.setCell]
  refine ⟨q2', ?_, ?_, ?_, q2'.set3 _, h5.snoc x2, x5, by omega, x6⟩
  · have b2 : w.grownBy w3 none := moved_far (moved_alloc (moved_trans (below_any h1) (bui_grown b v0 v1 v2 v3 none)) o2) g2 fun p e => by have := hob p e; omega
    have b3 := moved_new b2 (b := w.heap.size + 1) (by omega) 3 (.slice (some ⟨g, 0, none⟩) (l.length + 1) c2)
    exact ⟨b3.os, b3.tape, b3.output, b3.size, fun p hp => b3.block p hp (by simp)⟩
  · refine ⟨ownsRow_setCell_below (by simpa using hrow.1) (by simp) _, fun y hy => ?_⟩
    obtain ⟨y1, y2⟩ := hrow.2 y hy
    refine ⟨?_, y2⟩
    rw [← z2]
    exact In.off (fun p hp => Below.heap_setCell _ _ _ _ (by simp; omega)) y2 y1
  · exact (q1.block (z w.heap.size (by omega))).block (Below.heap_setCell _ _ _ _ (by simp))

/-- What built tells: a term, and where it goes on. -/
def BRes (n : Nat) (T : List Tok) (L0 d k : Nat) (w w' : World) (v : Value) (q : Nat) : Prop :=
  Below w.heap.size w w' ∧ q ≤ T.length ∧ k < q ∧ scanD L0 (T.drop q) d = none ∧ ∃ x : Tm n, val n x = v ∧ Is n x (T.drop k) (T.drop q) ∧ In w'.heap.size w' n x ∧ Off (fun p => w.heap.size ≤ p) n x
def BOut (n : Nat) (T : List Tok) (L0 d k : Nat) (w w' : World) (e : Ending) : Prop :=
  ∃ (k1 u : Int) (t : ByteArray) (a : Option Addr) (l c q : Nat), e = .returned (.tuple #[.agg #[.int .i64 k1, .int .i64 u, .string t, .slice a l c], .int .i64 q]) ∧ Hid (BRes n T L0 d k w w' (.agg #[.int .i64 k1, .int .i64 u, .string t, .slice a l c]) q)
def FBuilt (n : Nat) : Prop := ∀ (T : List Tok) (L0 d k g c : Nat) (w : World), Ws T g w → g < w.heap.size → T.length ≤ 2048 → (∀ t ∈ T, t.2.size ≤ 2048) → T.length ≤ n + k → exp L0 (T.drop k) d = none →
  Calls Try.prog 38 #[.slice (some ⟨g, 0, none⟩) T.length c, .int .i64 k] w fun e w' => BOut (n + 1) T L0 d k w w' e

theorem bui_close {n : Nat} {T : List Tok} {L0 d k q : Nat} {w wr : World} {a : Option Addr} {L c : Nat} {l : List (Tm (n + 1))} {t t0 : Tok} (h : BuiQ n T L0 d k w q (.slice a L c) wr l) (hk : T[k]? = some t0) (ho : isO t0.2 = true) (ht : T[q]? = some t) (hc : isC t.2 = true) (v0 v1 v2 v3 : Value) :
    BRes (n + 2) T L0 d k w ((((wr.setCell ⟨w.heap.size, 0, none⟩ v0).setCell ⟨w.heap.size, 1, none⟩ v1).setCell ⟨w.heap.size, 2, none⟩ v2).setCell ⟨w.heap.size, 3, none⟩ v3) (.agg #[.int .i64 4, .int .i64 0, .string ⟨#[]⟩, .slice a L c]) (q + 1) := by
  obtain ⟨h1, h2, h3, h4, h5, h6, h7, h8⟩ := h
  obtain ⟨a', c', ev, hoff, hin⟩ := h2.tup
  injection ev with e1 e2 e3
  subst e1 e2 e3
  obtain ⟨hq, _⟩ := List.getElem?_eq_some_iff.1 ht
  rw [drop_cons ht] at h5 h6
  rw [scan_close _ _ _ _ hc] at h6
  refine ⟨below_set4 h1 _ _ _ _, by omega, by omega, h6, _, rfl, ?_, ?_, hoff.mono fun p hp => by omega⟩
  · rw [drop_cons hk]
    exact ⟨t0, _, rfl, Or.inr ⟨ho, rfl, t, h5, hc⟩⟩
  · rw [set4_size]
    exact In.off (fun p hp => set4_block (by omega) _ _ _ _) hoff hin
end Go.Proofs.Ytmdlgcefppllkaa
