/- What is proved here: clerklaw.TermReads answers true for every text: Parse and the document's Read answer alike. No memory that was there turns. -/
import Derived.Test.YtpehdgbdinjbaaaG10
namespace Go.Proofs.Ytpehdgbdinjbaaa
open Go.RowKit

def zeroX : Tm 1 := ((0, 0, ⟨#[]⟩), (none, 0), [])
theorem zero_in (B : Nat) (w : World) : In B w 1 zeroX := ⟨⟨⟨by simp [zeroX], by simp [zeroX]⟩, ⟨by simp [zeroX], by simp [zeroX]⟩, Nat.zero_le _, Nat.zero_le _, Nat.zero_le _⟩, Or.inl rfl⟩

/-- Two readings of one text tell the same. -/
theorem reads_pair {s : ByteArray} {w w1 w2 : World} {v1 v2 : Value} {p1 p2 e1 e2 : Int} {o1 o2 : Obj} (h1 : PRes s w w1 v1 p1 e1) (h2 : PRes s (w1.alloc o1) w2 v2 p2 e2) (b : Below (w1.alloc o1).heap.size (w1.alloc o1) w2) :
    ∃ (n m : Nat) (x : Tm n) (y : Tm m), v1 = val n x ∧ v2 = val m y ∧ In (w2.alloc o2).heap.size (w2.alloc o2) n x ∧ In (w2.alloc o2).heap.size (w2.alloc o2) m y ∧ same n x m y = true ∧ p1 = p2 ∧ e1 = e2 := by
  have z := b.size
  simp at z
  have hz : same 1 zeroX 1 zeroX = true := by simp [same, zeroX, sameL]
  have b2 : Below w2.heap.size w2 (w2.alloc o2) := (Below.refl _ _).alloc (Nat.le_refl _) o2
  have b1 : Below w1.heap.size w1 (w2.alloc o2) := ((below_new (Below.refl _ _) o1).trans (b.mono (by simp))).trans (b2.mono (by omega))
  rcases h1 with ⟨a1, rfl, rfl, rfl⟩ | ⟨q, a1, a2, rfl, rfl, rfl⟩ | ⟨a1, a2, n, x, i1, i2, _, rfl, rfl, hx⟩
  · rcases h2 with ⟨c1, rfl, rfl, rfl⟩ | ⟨q', c1, _⟩ | ⟨c1, _⟩
    · exact ⟨1, 1, zeroX, zeroX, rfl, rfl, zero_in _ _, zero_in _ _, hz, rfl, rfl⟩
    · omega
    · omega
  · rcases h2 with ⟨c1, _⟩ | ⟨q', c1, c2, rfl, rfl, rfl⟩ | ⟨c1, c2, _⟩
    · omega
    · rw [a2] at c2
      injection c2 with c2
      subst c2
      exact ⟨1, 1, zeroX, zeroX, rfl, rfl, zero_in _ _, zero_in _ _, hz, rfl, rfl⟩
    · rw [a2] at c2; exact absurd c2 (by simp)
  · rcases h2 with ⟨c1, _⟩ | ⟨q', c1, c2, _⟩ | ⟨c1, c2, m, y, j1, j2, _, rfl, rfl, hy⟩
    · omega
    · rw [a2] at c2; exact absurd c2 (by simp)
    · obtain ⟨hs, _⟩ := Is.one n m x y _ _ _ i1 j1
      have hch := same_tchk n m x y hs
      rcases hx with ⟨k1, rfl⟩ | ⟨k1, rfl⟩
      · rcases hy with ⟨k2, rfl⟩ | ⟨k2, rfl⟩
        · exact ⟨1, 1, zeroX, zeroX, rfl, rfl, zero_in _ _, zero_in _ _, hz, rfl, hch⟩
        · exact absurd (hch.trans k2) k1
      · rcases hy with ⟨k2, rfl⟩ | ⟨k2, rfl⟩
        · exact absurd (hch.symm.trans k1) k2
        · exact ⟨n, m, x, y, rfl, rfl, (i2.below b1).mono (by simp; omega), (j2.below b2).mono (by simp), hs, rfl, hch⟩

theorem reads_any (s : ByteArray) (w : World) (hs : s.size ≤ maxLen) :
    Calls Try.prog 4 #[.string s] w fun e w' => e = .returned (.bool true) ∧ Below w.heap.size w w' := by
  go_enter Try.func4, Try.ntmps4
  go_wp2_with (first
    | (go_at_call 12; refine (parse_any s w hs).mono ?_; rintro e w1 ⟨k, u, t, a, l, c, p1, e1, rfl, H1⟩)
    | (go_at_call 13; refine (read_any s _ hs).mono ?_; rintro e w2 ⟨k', u', t', a', l', c', p2, e2, rfl, H2⟩; obtain ⟨⟨x0, x1, x2, x3⟩, f0, f1, f2, f3⟩ := ((Bx.new w1 (.int .i64 k) (.int .i64 u) (.string t) (.slice a l c)).block (H2.out.2.block _ (by simp))).cells; have hl2 : w1.heap.size < w2.heap.size := (by have := H2.out.2.size; simp at this; omega))
    | (go_at_call 14; obtain ⟨n, m, x, y, hx, hy, i1, i2, hsm, rfl, rfl⟩ := reads_pair (o2 := .cells #[.int .i64 k', .int .i64 u', .string t', .slice a' l' c'] 24) H1.out.1 H2.out.1 H2.out.2; rw [hx, hy]; refine (same_any n x m y _ _ i1 i2 (Nat.le_refl _)).mono ?_; rw [hsm]; rintro e w3 ⟨rfl, hb3⟩))
  go_ret
  have hb1 := H1.out.2
  have hb2 : Below w.heap.size w w2 := (below_new hb1 _).trans (H2.out.2.mono (below_new hb1 _).size)
  exact ⟨by simp, (below_new hb2 _).trans (hb3.mono (below_new hb2 _).size)⟩
end Go.Proofs.Ytpehdgbdinjbaaa
