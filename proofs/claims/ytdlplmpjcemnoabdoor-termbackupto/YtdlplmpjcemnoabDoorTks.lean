/- What is proved here: plain facts on texts: the row of a text's words from a place on, step by step, as a reader goes, and sign by sign. No condition. -/
import Derived.Test.YtdlplmpjcemnoabDoorScan
namespace Go.Proofs.YtdlplmpjcemnoabDoor
open Go.RowKit

def toksF : Nat → ByteArray → Nat → List Tok
  | 0, _, _ => []
  | f + 1, s, i => if wordB s i < s.size then (wordB s i, s.extract (wordB s i) (wordE s i)) :: toksF f s (wordE s i) else []
/-- The words of a text from a place on. -/
def toks (s : ByteArray) (i : Nat) : List Tok := toksF (s.size - i) s i

theorem toksF_more (s : ByteArray) : (f g i : Nat) → s.size - i ≤ f → s.size - i ≤ g → toksF f s i = toksF g s i
  | 0, 0, _, _, _ => rfl
  | 0, g + 1, i, h, _ => by
    have := wordB_ge s i
    simp only [toksF]
    rw [if_neg (by omega)]
  | f + 1, 0, i, _, h => by
    have := wordB_ge s i
    simp only [toksF]
    rw [if_neg (by omega)]
  | f + 1, g + 1, i, h, h' => by
    simp only [toksF]
    by_cases hw : wordB s i < s.size
    · rw [if_pos hw, if_pos hw]
      have h1 := wordE_gt s i hw
      have h2 := wordB_ge s i
      rw [toksF_more s f g (wordE s i) (by omega) (by omega)]
    · rw [if_neg hw, if_neg hw]
theorem toks_cons (s : ByteArray) (i : Nat) (h : wordB s i < s.size) : toks s i = (wordB s i, s.extract (wordB s i) (wordE s i)) :: toks s (wordE s i) := by
  have h1 := wordE_gt s i h
  have h2 := wordB_ge s i
  unfold toks
  rw [toksF_more s (s.size - i) (s.size - i + 1) i (by omega) (by omega)]
  simp only [toksF]
  rw [if_pos h, toksF_more s (s.size - i) (s.size - wordE s i) (wordE s i) (by omega) (by omega)]
theorem toks_nil (s : ByteArray) (i : Nat) (h : ¬ wordB s i < s.size) : toks s i = [] := by
  unfold toks
  rw [toksF_more s (s.size - i) (s.size - i + 1) i (by omega) (by omega)]
  simp only [toksF]
  rw [if_neg h]
theorem toks_length (s : ByteArray) : (f i : Nat) → s.size - i ≤ f → (toks s i).length ≤ s.size - i
  | 0, i, h => by
    have := wordB_ge s i
    rw [toks_nil s i (by omega)]; simp
  | f + 1, i, h => by
    by_cases hw : wordB s i < s.size
    · have h1 := wordE_gt s i hw
      have h2 := wordB_ge s i
      rw [toks_cons s i hw]
      have := toks_length s f (wordE s i) (by omega)
      simp only [List.length_cons]
      omega
    · rw [toks_nil s i hw]; simp

/-- A reader at the word from b to e has these words ahead. -/
def At (s : ByteArray) (b e : Nat) (ts : List Tok) : Prop :=
  b ≤ e ∧ e ≤ s.size ∧ ((b = s.size ∧ ts = []) ∨ (b < e ∧ ts = (b, s.extract b e) :: toks s e))
theorem At.next {s : ByteArray} {i : Nat} (h : i ≤ s.size) : At s (wordB s i) (wordE s i) (toks s i) := by
  refine ⟨wordE_ge s i, wordE_le s i h, ?_⟩
  by_cases hw : wordB s i < s.size
  · exact Or.inr ⟨wordE_gt s i hw, toks_cons s i hw⟩
  · exact Or.inl ⟨(wordE_end s i h hw).1, toks_nil s i hw⟩
theorem At.pos {s : ByteArray} {b e : Nat} {ts : List Tok} (h : At s b e ts) : posOf s.size ts = b := by
  rcases h.2.2 with ⟨h1, rfl⟩ | ⟨_, rfl⟩
  · exact h1.symm
  · rfl
/-- The word at hand. -/
theorem At.nil {s : ByteArray} {b e : Nat} (h : At s b e []) : (s.extract b e).toList = [] := by
  rcases h.2.2 with ⟨h1, _⟩ | ⟨_, h2⟩
  · rw [ByteArray.toList_eq]
    apply List.eq_nil_of_length_eq_zero
    have := h.2.1
    simp
    omega
  · exact absurd h2 (by simp)
theorem At.cons {s : ByteArray} {b e : Nat} {t : Tok} {ts : List Tok} (h : At s b e (t :: ts)) : t = (b, s.extract b e) ∧ ts = toks s e ∧ 0 < (s.extract b e).size := by
  rcases h.2.2 with ⟨_, h2⟩ | ⟨h1, h2⟩
  · exact absurd h2 (by simp)
  · injection h2 with h3 h4
    refine ⟨h3, h4, ?_⟩
    have := h.2.1
    simp
    omega

-- Sign by sign: what a sign does to the words ahead.
theorem tk_blank {s : ByteArray} {i : Nat} (h : i < s.size) (hb : s[i] = 32) : toks s i = toks s (i + 1) := by
  have e1 : wordB s (i + 1) = wordB s i := skip_step (p := blB) h (by simp [blB, hb])
  have e2 : wordE s (i + 1) = wordE s i := by unfold wordE; rw [e1]
  by_cases hw : wordB s i < s.size
  · rw [toks_cons s i hw, toks_cons s (i + 1) (by omega), e1, e2]
  · rw [toks_nil s i hw, toks_nil s (i + 1) (by omega)]
theorem tk_bracket {s : ByteArray} {i : Nat} (h : i < s.size) (hb : s[i] = 40 ∨ s[i] = 41) : toks s i = (i, s.extract i (i + 1)) :: toks s (i + 1) := by
  have e1 : wordB s i = i := skip_stop (p := blB) h (by rcases hb with hb | hb <;> simp [blB, hb])
  have e2 : skipTo (fun c => !enB c) s i = i := skip_stop (p := fun c => !enB c) h (by rcases hb with hb | hb <;> simp [enB, hb])
  have e3 : wordE s i = i + 1 := by unfold wordE; rw [e1, e2, if_pos ⟨rfl, h⟩]
  rw [toks_cons s i (by omega), e1, e3]
theorem tk_plain {s : ByteArray} {i : Nat} (h : i < s.size) (hb : enB s[i] = false) : toks s i = (i, s.extract i (skipTo (fun c => !enB c) s (i + 1))) :: toks s (skipTo (fun c => !enB c) s (i + 1)) := by
  have e1 : wordB s i = i := skip_stop (p := blB) h (by simp [enB] at hb; simp [blB, hb])
  have e2 : skipTo (fun c => !enB c) s (i + 1) = skipTo (fun c => !enB c) s i := skip_step (p := fun c => !enB c) h (by simp [hb])
  have e3 := skip_ge (fun c => !enB c) s (i + 1)
  have e4 : wordE s i = skipTo (fun c => !enB c) s (i + 1) := by unfold wordE; rw [e1, if_neg (by omega), e2]
  rw [toks_cons s i (by omega), e1, e4]
end Go.Proofs.YtdlplmpjcemnoabDoor
