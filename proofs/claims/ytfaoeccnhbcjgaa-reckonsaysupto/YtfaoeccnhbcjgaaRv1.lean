/- What is proved here: the document's Is of a tuple that lies in memory: whether it is the atom of that name and so many others. No condition but that. -/
import Derived.Test.YtfaoeccnhbcjgaaRv0
namespace Go.Proofs.Ytfaoeccnhbcjgaa
open Go.RowKit

theorem is_ne (x1 : Int) (x2 : ByteArray) (a : Option Addr) (len pc : Nat) (s : ByteArray) (k : Nat) (w : World) (hk : k ≤ 8) (h : len ≠ 1 + k) :
    Calls Try.prog 84 #[.agg #[.int .i64 4, .int .i64 x1, .string x2, .slice a len pc], .string s, .int .i64 k] w fun e w' => e = .returned (.bool false) ∧ Below w.heap.size w w' := by
  have h1 : ((len : Int) == 1 + (k : Int)) = false := by simp; omega
  have e1 : IntKind.i64.wrap (1 + (k : Int)) = 1 + (k : Int) := by rw [IntKind.wrap]; simp [IntKind.bits, IntKind.signed]; omega
  go_enter Try.func84, Try.ntmps84
  go_wp2_with fail
  go_ret
  exact ⟨rfl, (Below.refl _ _).alloc (Nat.le_refl _) _⟩
theorem is_eq (x1 : Int) (x2 : ByteArray) (pb po len pc : Nat) (s : ByteArray) (k : Nat) (y0 : Int) (y2 : ByteArray) (w : World) (hlen : len ≤ 8) (hk : k ≤ 8) (h : len = 1 + k) (hpb : pb < w.heap.size) (c0 : w.cell? ⟨pb, po, none⟩ = some (.int .i64 y0)) (c2 : w.cell? ⟨pb, po + 2, none⟩ = some (.string y2)) :
    Calls Try.prog 84 #[.agg #[.int .i64 4, .int .i64 x1, .string x2, .slice (some ⟨pb, po, none⟩) len pc], .string s, .int .i64 k] w fun e w' => e = .returned (.bool (y0 == 2 && y2.toList == s.toList)) ∧ Below w.heap.size w w' := by
  have h1 : ((len : Int) == 1 + (k : Int)) = true := by simp; omega
  have e1 : IntKind.i64.wrap (1 + (k : Int)) = 1 + (k : Int) := by rw [IntKind.wrap]; simp [IntKind.bits, IntKind.signed]; omega
  have h2 : (0 : Int) < (len : Int) := by omega
  cases hx : y0 == 2
  · go_enter Try.func84, Try.ntmps84
    go_wp2_with fail
    go_ret
    exact ⟨rfl, (Below.refl _ _).alloc (Nat.le_refl _) _⟩
  · go_enter Try.func84, Try.ntmps84
    go_wp2_with fail
    go_ret
    exact ⟨rfl, (Below.refl _ _).alloc (Nat.le_refl _) _⟩
theorem is_any (n : Nat) (p : List (Tm n)) (x1 : Int) (x2 : ByteArray) (a : Option Addr) (pc B : Nat) (s : ByteArray) (k : Nat) (w : World) (hp : Lies B w n p a) (hB : B ≤ w.heap.size) (hlen : p.length ≤ 8) (hk : k ≤ 8) :
    Calls Try.prog 84 #[.agg #[.int .i64 4, .int .i64 x1, .string x2, .slice a p.length pc], .string s, .int .i64 k] w fun e w' => e = .returned (.bool (isW n p s k)) ∧ Below w.heap.size w w' := by
  by_cases h : p.length = 1 + k
  · rcases hp with hp | ⟨b, o, rfl, hb, hp⟩
    · rw [hp] at h; simp at h; omega
    · obtain ⟨y, hy⟩ : ∃ y, p[0]? = some y := ⟨p[0]'(by omega), List.getElem?_eq_getElem _⟩
      obtain ⟨h1, h2⟩ := hp 0 y hy
      cases n with
      | zero => exact h1.elim
      | succ n =>
        rw [isW_at h hy]
        obtain ⟨c0, c1, c2, c3⟩ := h1
        exact is_eq x1 x2 b o p.length pc s k y.1.1 y.1.2.2 w hlen hk h (by omega) (by simpa using c0) (by simpa using c2)
  · rw [isW_len h]
    exact is_ne x1 x2 a p.length pc s k w hk h
end Go.Proofs.Ytfaoeccnhbcjgaa
