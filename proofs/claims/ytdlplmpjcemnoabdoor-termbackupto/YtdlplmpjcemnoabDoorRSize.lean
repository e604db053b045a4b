/- What is proved here: the document's In, Name and Size: In tells whether a number lies between two others; Name tells whether a text is 1 to 8 small letters; Size of a term that lies in memory is the plain function sz. Size's condition: at most 2097152 terms in it. -/
import Derived.Test.YtdlplmpjcemnoabDoorAll
namespace Go.Proofs.YtdlplmpjcemnoabDoor
open Go.RowKit

def inB (n lo hi : Int) : Bool := decide (lo ≤ n) && decide (n ≤ hi)
def lowB (c : UInt8) : Bool := decide (97 ≤ (c.toNat : Int)) && decide ((c.toNat : Int) ≤ 122)
def lowsB (l : List UInt8) : Bool := l.all lowB
def nameB (s : ByteArray) : Bool := inB s.size 1 8 && lowsB s.data.toList

theorem ret_bool {a b : Bool} (h : a = b) : Ending.returned (.bool a) = .returned (.bool b) := by rw [h]

theorem take_snoc (s : ByteArray) (k : Nat) (h : k < s.size) : s.data.toList.take (k + 1) = s.data.toList.take k ++ [s[k]] := by
  rw [List.take_succ_eq_append_getElem (by simpa using h)]; rfl
theorem lowsB_snoc (s : ByteArray) (k : Nat) (h : k < s.size) : lowsB (s.data.toList.take (k + 1)) = (lowsB (s.data.toList.take k) && lowB s[k]) := by
  rw [take_snoc s k h]; simp [lowsB]

/-- How many words a term has. -/
def sz : (n : Nat) → Tm n → Int
  | 0, _ => 0
  | n + 1, x => if x.1.1 = 4 then 1 + (x.2.2.map fun y => 1 + sz n y).sum else 0

theorem sz_bound : (n : Nat) → (x : Tm n) → 0 ≤ sz n x ∧ sz n x + 1 ≤ 2 * ((nodes n x).length : Int)
  | 0, _ => ⟨by simp [sz], by simp [sz, nodes]⟩
  | n + 1, x => by
    have key : ∀ l : List (Tm n), 0 ≤ (l.map fun y => 1 + sz n y).sum ∧ (l.map fun y => 1 + sz n y).sum ≤ 2 * ((l.flatMap fun y => nodes n y).length : Int) := by
      intro l
      induction l with
      | nil => exact ⟨by simp, by simp⟩
      | cons y l ih =>
        have hy := sz_bound n y
        simp only [List.map_cons, List.sum_cons, List.flatMap_cons, List.length_append]
        exact ⟨by omega, by omega⟩
    have k := key x.2.2
    simp only [sz, nodes, List.length_cons]
    by_cases h4 : x.1.1 = 4
    · rw [if_pos h4]
      exact ⟨by omega, by omega⟩
    · rw [if_neg h4]
      exact ⟨by omega, by omega⟩

/-- So many words behind k of the parts. -/
def szTo (n : Nat) (p : List (Tm n)) (k : Nat) : Int := 1 + ((p.take k).map fun y => 1 + sz n y).sum
theorem szTo_succ (n : Nat) (p : List (Tm n)) (k : Nat) (x : Tm n) (h : p[k]? = some x) : szTo n p (k + 1) = szTo n p k + (1 + sz n x) := by
  obtain ⟨h1, e1⟩ := List.getElem?_eq_some_iff.1 h
  unfold szTo
  rw [List.take_succ_eq_append_getElem h1, e1]
  simp
  omega
theorem szTo_bound (n : Nat) (p : List (Tm n)) (k : Nat) : 0 ≤ szTo n p k ∧ szTo n p k ≤ 2 * (1 + (p.flatMap fun y => nodes n y).length : Int) := by
  have h := take_le (fun y => nodes n y) p k
  have key : ∀ l : List (Tm n), 0 ≤ (l.map fun y => 1 + sz n y).sum ∧ (l.map fun y => 1 + sz n y).sum ≤ 2 * ((l.flatMap fun y => nodes n y).length : Int) := by
    intro l
    induction l with
    | nil => exact ⟨by simp, by simp⟩
    | cons y l ih =>
      have hy := sz_bound n y
      simp only [List.map_cons, List.sum_cons, List.flatMap_cons, List.length_append]
      exact ⟨by omega, by omega⟩
  have k := key (p.take k)
  unfold szTo
  exact ⟨by omega, by omega⟩

end Go.Proofs.YtdlplmpjcemnoabDoor
