/- What is proved here: plain facts for the document's Read: where the words can't go on, word by word (St), and that no word of a text is empty. No condition. -/
import Derived.Test.YtmdlgcefppllkaaBui
namespace Go.Proofs.Ytmdlgcefppllkaa
open Go.RowKit

/-- Behind i words, in D brackets: where it can't go on (E). -/
def St (L0 : Nat) (T : List Tok) (i D : Nat) (E : Option Nat) : Prop := (i = 0 ∧ D = 0 ∧ E = exp L0 T 0) ∨ (0 < i ∧ E = scanD L0 (T.drop i) D)

theorem st_start (L0 : Nat) (T : List Tok) : St L0 T 0 0 (exp L0 T 0) := Or.inl ⟨rfl, rfl, rfl⟩
theorem exp_at {L0 : Nat} {T : List Tok} {t : Tok} (h : T[0]? = some t) : exp L0 T 0 = if isO t.2 then scanD L0 (T.drop 1) 1 else if leafB t.2 then scanD L0 (T.drop 1) 0 else some t.1 := by
  have := drop_cons h
  simp only [List.drop_zero] at this
  rw [this]
  simp [exp]
theorem st_bad {L0 : Nat} {T : List Tok} {i : Nat} {E : Option Nat} {t : Tok} (h : St L0 T i 0 E) (hi : 0 < i) (ht : T[i]? = some t) : E = some t.1 := by
  rcases h with ⟨h, _⟩ | ⟨_, h⟩
  · omega
  · rw [h, drop_cons ht]; rfl
theorem st_open {L0 : Nat} {T : List Tok} {i D : Nat} {E : Option Nat} {t : Tok} (h : St L0 T i D E) (hi : i = 0 ∨ 0 < D) (ht : T[i]? = some t) (ho : isO t.2 = true) : St L0 T (i + 1) (D + 1) E := by
  refine Or.inr ⟨Nat.succ_pos _, ?_⟩
  rcases h with ⟨rfl, rfl, h⟩ | ⟨h0, h⟩
  · rw [h, exp_at ht]; simp [ho]
  · obtain ⟨D, rfl⟩ : ∃ k, D = k + 1 := ⟨D - 1, by omega⟩
    rw [h, drop_cons ht]
    simp [scanD, ho]
theorem st_close {L0 : Nat} {T : List Tok} {i D : Nat} {E : Option Nat} {t : Tok} (h : St L0 T i (D + 1) E) (ht : T[i]? = some t) (hc : isC t.2 = true) : St L0 T (i + 1) D E := by
  refine Or.inr ⟨Nat.succ_pos _, ?_⟩
  rcases h with ⟨_, h, _⟩ | ⟨h0, h⟩
  · omega
  · rw [h, drop_cons ht, scan_close _ _ _ _ hc]
theorem st_leaf {L0 : Nat} {T : List Tok} {i D : Nat} {E : Option Nat} {t : Tok} (h : St L0 T i D E) (hi : i = 0 ∨ 0 < D) (ht : T[i]? = some t) (ho : isO t.2 = false) (hc : isC t.2 = false) (hl : leafB t.2 = true) : St L0 T (i + 1) D E := by
  refine Or.inr ⟨Nat.succ_pos _, ?_⟩
  rcases h with ⟨rfl, rfl, h⟩ | ⟨h0, h⟩
  · rw [h, exp_at ht]; simp [ho, hl]
  · obtain ⟨D, rfl⟩ : ∃ k, D = k + 1 := ⟨D - 1, by omega⟩
    rw [h, drop_cons ht]
    simp [scanD, ho, hc, hl]
theorem st_no {L0 : Nat} {T : List Tok} {i D : Nat} {E : Option Nat} {t : Tok} (h : St L0 T i D E) (hi : i = 0 ∨ 0 < D) (ht : T[i]? = some t) (ho : isO t.2 = false) (hc : i = 0 ∨ isC t.2 = false) (hl : leafB t.2 = false) : E = some t.1 := by
  rcases h with ⟨rfl, rfl, h⟩ | ⟨h0, h⟩
  · rw [h, exp_at ht]; simp [ho, hl]
  · obtain ⟨D, rfl⟩ : ∃ k, D = k + 1 := ⟨D - 1, by omega⟩
    have hc' : isC t.2 = false := by rcases hc with h | h; omega; exact h
    rw [h, drop_cons ht]
    simp [scanD, ho, hc', hl]
theorem st_end {L0 : Nat} {T : List Tok} {D : Nat} {E : Option Nat} (h : St L0 T T.length D E) : ((0 < D ∨ T.length = 0) → E = some L0) ∧ (D = 0 → 0 < T.length → E = none) := by
  rcases h with ⟨h0, rfl, h⟩ | ⟨h0, h⟩
  · refine ⟨fun _ => ?_, fun _ h => by omega⟩
    rw [h, List.eq_nil_of_length_eq_zero h0]; rfl
  · rw [List.drop_of_length_le (Nat.le_refl _)] at h
    refine ⟨fun hd => ?_, fun hd _ => by rw [h, hd]; rfl⟩
    obtain ⟨D, rfl⟩ : ∃ k, D = k + 1 := ⟨D - 1, by omega⟩
    rw [h]; rfl

theorem toks_size (s : ByteArray) : (f i : Nat) → ∀ t ∈ toksF f s i, 0 < t.2.size ∧ t.2.size ≤ s.size
  | 0, i, t, h => by simp [toksF] at h
  | f + 1, i, t, h => by
    simp only [toksF] at h
    by_cases hw : wordB s i < s.size
    · rw [if_pos hw] at h
      rcases List.mem_cons.1 h with h | h
      · subst h
        have h1 := wordE_gt s i hw
        simp
        by_cases hi : i ≤ s.size
        · have := wordE_le s i hi
          omega
        · have := wordB_ge s i
          omega
      · exact toks_size s f (wordE s i) t h
    · rw [if_neg hw] at h
      simp at h

/-- The place row's cell, and the word row's. -/
theorem rea_cells {w1 wr : World} {a1 a2 : Option Addr} {L c1 c2 base : Nat} {T : List Tok} (o1 : w1.ownsRow base 9 1 (.slice a1 L c1) L (strs T)) (o2 : w1.ownsRow base 3 1 (.slice a2 L c2) L (poss T)) (hpos : 0 < L) (b : Below w1.heap.size w1 wr) :
    ∃ g h, a1 = some ⟨g, 0, none⟩ ∧ a2 = some ⟨h, 0, none⟩ ∧ g < w1.heap.size ∧ base ≤ h ∧ Ws T g wr ∧ ∀ (j : Nat) (t : Tok), T[j]? = some t → wr.cell? ⟨h, j, none⟩ = some (.int .i64 t.1) := by
  obtain ⟨g, cg, e1, hg1, hg2⟩ := o1.form hpos
  obtain ⟨h, ch, e2, hh1, hh2⟩ := o2.form hpos
  injection e1 with e1 _ _
  injection e2 with e2 _ _
  subst e1 e2
  refine ⟨g, h, rfl, rfl, hg2, hh1, fun j t ht => ?_, fun j t ht => ?_⟩
  · have := o1.cells (g := g) rfl j (.string t.2) (by simp [strs, ht])
    rw [add_none] at this
    exact (b.cell (p := ⟨g, j, none⟩) hg2).trans this
  · have := o2.cells (g := h) rfl j (.int .i64 t.1) (by simp [poss, ht])
    rw [add_none] at this
    exact (b.cell (p := ⟨h, j, none⟩) hh2).trans this
theorem rea_in {w w2 w3 : World} {n : Nat} {y : Tm n} {o : Obj} (h : In w2.heap.size w2 n y) (k : Off (fun q => w.heap.size + 1 ≤ q) n y) (b : Below (w2.alloc o).heap.size (w2.alloc o) w3) (v0 v1 v2 v3 : Value) :
    In ((((w3.setCell ⟨w.heap.size, 0, none⟩ v0).setCell ⟨w.heap.size, 1, none⟩ v1).setCell ⟨w.heap.size, 2, none⟩ v2).setCell ⟨w.heap.size, 3, none⟩ v3).heap.size ((((w3.setCell ⟨w.heap.size, 0, none⟩ v0).setCell ⟨w.heap.size, 1, none⟩ v1).setCell ⟨w.heap.size, 2, none⟩ v2).setCell ⟨w.heap.size, 3, none⟩ v3) n y := by
  rw [set4_size]
  have h2 : In (w2.alloc o).heap.size (w2.alloc o) n y := (In.off (fun q hq => alloc_block w2 o hq.2) (In.offB k h) h).mono (by simp)
  exact In.off (fun q hq => set4_block (by omega) _ _ _ _) k ((h2.below b).mono b.size)
theorem in_new {w2 : World} {n : Nat} {y : Tm n} {P : Nat → Prop} (o : Obj) (h : In w2.heap.size w2 n y) (k : Off P n y) : In (w2.alloc o).heap.size (w2.alloc o) n y :=
  (In.off (fun q hq => alloc_block w2 o hq.2) (In.offB k h) h).mono (by simp)
/-- The words tell one term: built's answer. -/
theorem rea_tree {T : List Tok} {L0 : Nat} {w w' : World} {v : Value} {q : Nat} (h : BRes 2049 T L0 0 0 w w' v q) (hT : T.length ≤ 2048) : ∃ y : Tm 2049, v = val 2049 y ∧ Is 2049 y T [] ∧ In w'.heap.size w' 2049 y ∧ Off (fun p => w.heap.size ≤ p) 2049 y ∧ (nodes 2049 y).length ≤ 2097152 := by
  obtain ⟨h1, h2, h3, h4, y, y1, y2, y3, y4⟩ := h
  have e : T.drop q = [] := by
    cases hd : T.drop q with
    | nil => rfl
    | cons t ts => rw [hd] at h4; simp [scanD] at h4
  rw [e] at y2
  simp only [List.drop_zero] at y2
  have k1 := Is.nodes 2049 y T [] y2
  exact ⟨y, y1.symm, y2, y3, y4, by simp at k1; omega⟩
end Go.Proofs.Ytmdlgcefppllkaa
