/- What is proved here: clerkkeep.TermBack, called with a term that lies in memory and holds at most 2097152 terms and letters, and with a text, returns true and turns no memory that was there, where the library's table of powers lies as its text lays it. -/
import Derived.Test.YtdlplmpjcemnoabDoorBck1
namespace Go.Proofs.YtdlplmpjcemnoabDoor
open Go.RowKit

/-- What is printed of a right term is read as it was, as long as it isn't too long. -/
theorem back_res {n : Nat} {x : Tm n} {s : ByteArray} {w w' : World} {v : Value} {p e : Int} (h0 : chk n x = 0) (hs : s.data.toList = wtext n x) (h : PRes s w w' v p e) :
    (2048 < s.size ∧ e = 2) ∨ (s.size ≤ 2048 ∧ e = 0 ∧ ∃ (m : Nat) (y : Tm m), v = val m y ∧ In w'.heap.size w' m y ∧ same m y n x = true) := by
  have hf : formedB n x = true := by
    rw [formed_good]
    exact List.all_eq_true.2 (chk_good n x h0)
  have his := text_is s n x hf 0 [] (by simpa using hs) (Or.inl rfl)
  have hend : toks s (0 + (wtext n x).length) = [] := by
    apply toks_nil
    have h1 := wordB_ge s (0 + (wtext n x).length)
    have h2 : s.data.toList.length = s.size := by simp
    rw [hs] at h2
    omega
  rw [hend] at his
  have hexp : exp s.size (toks s 0) 0 = none := is_exp s.size n x _ _ his 0
  rcases h with ⟨h, _, _, h3⟩ | ⟨q, _, h, _⟩ | ⟨h1, _, m, y, i1, i2, _, _, rfl, h⟩
  · exact Or.inl ⟨h, h3⟩
  · rw [hexp] at h; exact absurd h (by simp)
  · obtain ⟨hsm, _⟩ := Is.one m n y x _ _ _ i1 his
    have h2 := same_tchk m n y x hsm
    rw [h0] at h2
    rcases h with ⟨h, _⟩ | ⟨_, h⟩
    · exact absurd h2 h
    · exact Or.inr ⟨h1, h2, m, y, h, i2, hsm⟩

theorem good_small {a : Nd} (h : good a = true) : a.1.2.2.size ≤ 8 := by
  have he : ∀ s : ByteArray, s.toList.isEmpty = true → s.size ≤ 8 := fun s h => by
    rw [ByteArray.toList_eq] at h
    have h2 : s.data.toList.length = s.size := by simp
    have h3 : s.data.toList = [] := by simpa using h
    rw [h3] at h2
    simp at h2
    omega
  simp only [good, Bool.and_eq_true] at h
  obtain ⟨h, _⟩ := h
  split at h
  · exact he _ (by simp at h; simpa using h.1)
  · split at h
    · simp only [nameB, inB, Bool.and_eq_true, decide_eq_true_eq] at h
      omega
    · split at h
      · exact he _ (by simp at h; simpa using h.1)
      · split at h
        · exact he _ (by simp at h; simpa using h.1.1)
        · split at h
          · exact he _ (by simp at h; simpa using h.1)
          · split at h
            · exact he _ (by simp at h; simpa using h.1)
            · exact absurd h (by simp)
theorem wt_small : (n : Nat) → (x : Tm n) → (∀ a ∈ nodes n x, a.1.2.2.size ≤ 8) → wt n x ≤ 9 * (nodes n x).length
  | 0, _, _ => by simp [wt, nodes]
  | n + 1, x, h => by
    have key : ∀ l : List (Tm n), (∀ y ∈ l, ∀ a ∈ nodes n y, a.1.2.2.size ≤ 8) → (l.map fun y => wt n y).sum ≤ 9 * (l.flatMap fun y => nodes n y).length := by
      intro l
      induction l with
      | nil => simp
      | cons y l ih =>
        intro h
        have h1 := wt_small n y (h y (by simp))
        have h2 := ih (fun z hz => h z (by simp [hz]))
        simp only [List.map_cons, List.sum_cons, List.flatMap_cons, List.length_append]
        omega
    have h1 := key x.2.2 (fun y hy a ha => h a (nodes_mem hy ha))
    have h2 := h (x.1, (x.2.1.1, x.2.2.length, x.2.1.2)) (by simp [nodes])
    simp only [wt, nodes, List.length_cons]
    simp only at h2
    omega

theorem scan_le {L : Nat} : (ts : List Tok) → (∀ t ∈ ts, t.1 ≤ L) → (d p : Nat) → scanD L ts d = some p → p ≤ L
  | [], _, 0, p, h => by simp [scanD] at h
  | [], _, _ + 1, p, h => by simp [scanD] at h; omega
  | t :: ts, ht, 0, p, h => by simp [scanD] at h; have := ht t (by simp); omega
  | t :: ts, ht, d + 1, p, h => by
    have k := scan_le ts (fun u hu => ht u (by simp [hu]))
    simp only [scanD] at h
    split at h
    · exact k _ _ h
    · split at h
      · exact k _ _ h
      · split at h
        · exact k _ _ h
        · injection h with h
          have := ht t (by simp)
          omega
theorem exp_le {L : Nat} (ts : List Tok) (ht : ∀ t ∈ ts, t.1 ≤ L) (d p : Nat) (h : exp L ts d = some p) : p ≤ L := by
  cases ts with
  | nil => simp [exp] at h; omega
  | cons t ts =>
    have k := scan_le ts (fun u hu => ht u (by simp [hu]))
    simp only [exp] at h
    split at h
    · exact k _ _ h
    · split at h
      · exact k _ _ h
      · injection h with h
        have := ht t (by simp)
        omega
theorem toks_place (s : ByteArray) : (f i : Nat) → ∀ t ∈ toksF f s i, t.1 ≤ s.size
  | 0, i, t, h => by simp [toksF] at h
  | f + 1, i, t, h => by
    simp only [toksF] at h
    by_cases hw : wordB s i < s.size
    · rw [if_pos hw] at h
      rcases List.mem_cons.1 h with h | h
      · subst h; simp only; omega
      · exact toks_place s f (wordE s i) t h
    · rw [if_neg hw] at h
      simp at h

/-- What a text's reading tells: an error, at a place in the text; or a right term. -/
theorem back_read {s : ByteArray} {w w' : World} {v : Value} {p e : Int} (h : PRes s w w' v p e) :
    (e ≠ 0 ∧ 0 ≤ p ∧ p ≤ s.size) ∨ (e = 0 ∧ ∃ (n : Nat) (x : Tm n), v = val n x ∧ In w'.heap.size w' n x ∧ Off (fun q => w.heap.size ≤ q) n x ∧ chk n x = 0 ∧ (nodes n x).length ≤ 2097152 ∧ wt n x ≤ 2097152) := by
  rcases h with ⟨h, _, rfl, rfl⟩ | ⟨q, _, h, _, rfl, rfl⟩ | ⟨h1, _, n, x, i1, i2, i3, rfl, rfl, h⟩
  · exact Or.inl ⟨by omega, by omega, by omega⟩
  · have := exp_le _ (toks_place s _ _) _ _ h
    exact Or.inl ⟨by omega, by omega, by omega⟩
  · rcases h with ⟨h, _⟩ | ⟨h, rfl⟩
    · exact Or.inl ⟨h, by omega, by omega⟩
    · have k1 := Is.nodes n x _ _ i1
      have k2 := toks_length s s.size 0 (by omega)
      have k3 := wt_small n x (fun a ha => good_small (chk_good n x h a ha))
      simp at k1
      exact Or.inr ⟨h, n, x, rfl, i2, i3, h, by omega, by omega⟩
end Go.Proofs.YtdlplmpjcemnoabDoor
