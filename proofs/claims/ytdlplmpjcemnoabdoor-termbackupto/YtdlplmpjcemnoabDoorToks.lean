/- What is proved here: plain facts on texts: where the next word of a text begins and ends. No condition. -/
import Derived.Test.YtdlplmpjcemnoabDoorLeaf
namespace Go.Proofs.YtdlplmpjcemnoabDoor
open Go.RowKit

def blB (c : UInt8) : Bool := c == 32
def enB (c : UInt8) : Bool := c == 32 || c == 40 || c == 41
/-- The first place from i on whose sign is none of these; or the end. -/
def skipTo (p : UInt8 → Bool) (s : ByteArray) (i : Nat) : Nat := i + ((s.data.toList.drop i).takeWhile p).length

theorem drop_at (s : ByteArray) (k : Nat) (h : k < s.size) : s.data.toList.drop k = s[k] :: s.data.toList.drop (k + 1) := by
  rw [List.drop_eq_getElem_cons (by simpa using h)]; rfl
theorem skip_step {p : UInt8 → Bool} {s : ByteArray} {k : Nat} (h : k < s.size) (hp : p s[k] = true) : skipTo p s (k + 1) = skipTo p s k := by
  unfold skipTo
  rw [drop_at s k h, List.takeWhile_cons, if_pos hp, List.length_cons]
  omega
theorem skip_stop {p : UInt8 → Bool} {s : ByteArray} {k : Nat} (h : k < s.size) (hp : p s[k] = false) : skipTo p s k = k := by
  unfold skipTo
  rw [drop_at s k h, List.takeWhile_cons, if_neg (by simp [hp])]
  rfl
theorem skip_end {p : UInt8 → Bool} {s : ByteArray} {k : Nat} (h : ¬ k < s.size) : skipTo p s k = k := by
  unfold skipTo
  rw [List.drop_of_length_le (by simp; omega)]
  rfl
theorem skip_ge (p : UInt8 → Bool) (s : ByteArray) (k : Nat) : k ≤ skipTo p s k := Nat.le_add_right _ _
theorem skip_le (p : UInt8 → Bool) (s : ByteArray) (k : Nat) (h : k ≤ s.size) : skipTo p s k ≤ s.size := by
  unfold skipTo
  have h1 := (List.takeWhile_sublist (l := s.data.toList.drop k) p).length_le
  have h2 : (s.data.toList.drop k).length = s.size - k := by simp
  omega

/-- Where the word behind place i begins, and where it ends. -/
def wordB (s : ByteArray) (i : Nat) : Nat := skipTo blB s i
def wordE (s : ByteArray) (i : Nat) : Nat := if skipTo (fun c => !enB c) s (wordB s i) = wordB s i ∧ wordB s i < s.size then wordB s i + 1 else skipTo (fun c => !enB c) s (wordB s i)
theorem wordB_ge (s : ByteArray) (i : Nat) : i ≤ wordB s i := skip_ge _ _ _
theorem wordB_le (s : ByteArray) (i : Nat) (h : i ≤ s.size) : wordB s i ≤ s.size := skip_le _ _ _ h
theorem wordE_ge (s : ByteArray) (i : Nat) : wordB s i ≤ wordE s i := by
  unfold wordE
  have := skip_ge (fun c => !enB c) s (wordB s i)
  split <;> omega
theorem wordE_le (s : ByteArray) (i : Nat) (h : i ≤ s.size) : wordE s i ≤ s.size := by
  unfold wordE
  have := skip_le (fun c => !enB c) s (wordB s i) (wordB_le s i h)
  split <;> omega
/-- It is a word of no signs just at the end. -/
theorem wordE_gt (s : ByteArray) (i : Nat) (h : wordB s i < s.size) : wordB s i < wordE s i := by
  unfold wordE
  have := skip_ge (fun c => !enB c) s (wordB s i)
  split <;> omega
theorem wordE_end (s : ByteArray) (i : Nat) (hi : i ≤ s.size) (h : ¬ wordB s i < s.size) : wordB s i = s.size ∧ wordE s i = s.size := by
  have h1 := wordB_le s i hi
  have h2 := wordE_le s i hi
  have h3 := wordE_ge s i
  omega
end Go.Proofs.YtdlplmpjcemnoabDoor
