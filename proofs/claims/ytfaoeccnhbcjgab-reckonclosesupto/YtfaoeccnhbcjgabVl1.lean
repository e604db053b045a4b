/- What is proved here: reckon.isCall and the document's Is of parts that lie in memory: whether they are the atom of that name and so many others. No condition but that. -/
import Derived.Test.YtfaoeccnhbcjgabVl0
import Derived.Test.YtfaoeccnhbcjgabCpy
namespace Go.Proofs.Ytfaoeccnhbcjgab
open Go.RowKit

theorem isW_len {n : Nat} {p : List (Tm n)} {s : ByteArray} {k : Nat} (h : p.length ≠ 1 + k) : isW n p s k = false := by simp [isW, h]
theorem isW_at {n : Nat} {p : List (Tm (n + 1))} {s : ByteArray} {k : Nat} {y : Tm (n + 1)} (h : p.length = 1 + k) (hy : p[0]? = some y) : isW (n + 1) p s k = (y.1.1 == 2 && y.1.2.2.toList == s.toList) := by
  simp [isW, h, hy, kindA, hdT, hdOf]

theorem isCall_ne (a : Option Addr) (len pc : Nat) (s : ByteArray) (k : Nat) (w : World) (hk : k ≤ 8) (h : len ≠ 1 + k) :
    Calls Try.prog 81 #[.slice a len pc, .string s, .int .i64 k] w fun e w' => e = .returned (.bool false) ∧ w' = w := by
  have h1 : ((len : Int) == 1 + (k : Int)) = false := by simp; omega
  have e1 : IntKind.i64.wrap (1 + (k : Int)) = 1 + (k : Int) := by rw [IntKind.wrap]; simp [IntKind.bits, IntKind.signed]; omega
  go_enter Try.func81, Try.ntmps81
  go_wp2_with fail
  go_ret
  exact ⟨rfl, rfl⟩
theorem isCall_eq (pb po len pc : Nat) (s : ByteArray) (k : Nat) (x0 : Int) (x2 : ByteArray) (w : World) (hlen : len ≤ 8) (hk : k ≤ 8) (h : len = 1 + k) (c0 : w.cell? ⟨pb, po, none⟩ = some (.int .i64 x0)) (c2 : w.cell? ⟨pb, po + 2, none⟩ = some (.string x2)) :
    Calls Try.prog 81 #[.slice (some ⟨pb, po, none⟩) len pc, .string s, .int .i64 k] w fun e w' => e = .returned (.bool (x0 == 2 && x2.toList == s.toList)) ∧ w' = w := by
  have h1 : ((len : Int) == 1 + (k : Int)) = true := by simp; omega
  have e1 : IntKind.i64.wrap (1 + (k : Int)) = 1 + (k : Int) := by rw [IntKind.wrap]; simp [IntKind.bits, IntKind.signed]; omega
  have h2 : (0 : Int) < (len : Int) := by omega
  cases hx : x0 == 2
  · go_enter Try.func81, Try.ntmps81
    go_wp2_with fail
    go_ret
    exact ⟨rfl, rfl⟩
  · go_enter Try.func81, Try.ntmps81
    go_wp2_with fail
    go_ret
    exact ⟨rfl, rfl⟩
theorem isCall_any (n : Nat) (p : List (Tm n)) (a : Option Addr) (pc B : Nat) (s : ByteArray) (k : Nat) (w : World) (hp : Lies B w n p a) (hlen : p.length ≤ 8) (hk : k ≤ 8) :
    Calls Try.prog 81 #[.slice a p.length pc, .string s, .int .i64 k] w fun e w' => e = .returned (.bool (isW n p s k)) ∧ w' = w := by
  by_cases h : p.length = 1 + k
  · rcases hp with hp | ⟨b, o, rfl, hb, hp⟩
    · rw [hp] at h; simp at h; omega
    · obtain ⟨y, hy⟩ : ∃ y, p[0]? = some y := ⟨p[0]'(by omega), List.getElem?_eq_getElem _⟩
      obtain ⟨h1, h2⟩ := hp 0 y hy
      cases n with
      | zero => exact h1.elim
      | succ n =>
        rw [isW_at h hy]
        obtain ⟨c0, c1, c2, c3⟩ := h1
        exact isCall_eq b o p.length pc s k y.1.1 y.1.2.2 w hlen hk h (by simpa using c0) (by simpa using c2)
  · rw [isW_len h]
    exact isCall_ne a p.length pc s k w hk h
end Go.Proofs.Ytfaoeccnhbcjgab
