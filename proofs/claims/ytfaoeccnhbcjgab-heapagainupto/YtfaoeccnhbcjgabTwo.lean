/- What is proved here: the small terms that the statements make for themselves (num, word, two): what they return, and that it lies in new memory. No condition. -/
import Derived.Test.YtfaoeccnhbcjgabTree
import Derived.Handy
namespace Go.Proofs.Ytfaoeccnhbcjgab
open Go.RowKit

theorem num_any (n : Int) (w : World) :
    Calls Try.prog 9 #[.int .i64 n] w fun e w' => e = .returned (.agg #[.int .i64 1, .int .i64 n, .string ⟨#[]⟩, .slice none 0 0]) ∧ Below w.heap.size w w' := by
  go_enter Try.func9, Try.ntmps9
  go_wp2_with fail
  exact bodyPost_ret (v := .agg #[.int .i64 1, .int .i64 n, .string ⟨#[]⟩, .slice none 0 0]) (by simp [results, Try.results9, go_sem]) rfl ⟨rfl, (Below.refl _ _).alloc (Nat.le_refl _) _⟩

theorem kword_any (s : ByteArray) (w : World) :
    Calls Try.prog 29 #[.string s] w fun e w' => e = .returned (.agg #[.int .i64 2, .int .i64 0, .string s, .slice none 0 0]) ∧ Below w.heap.size w w' := by
  go_enter Try.func29, Try.ntmps29
  go_wp2_with fail
  exact bodyPost_ret (v := .agg #[.int .i64 2, .int .i64 0, .string s, .slice none 0 0]) (by simp [results, Try.results29, go_sem]) rfl ⟨rfl, (Below.refl _ _).alloc (Nat.le_refl _) _⟩

theorem tuple_any (a : Option Addr) (l c : Nat) (w : World) :
    Calls Try.prog 27 #[.slice a l c] w fun e w' => e = .returned (.agg #[.int .i64 4, .int .i64 0, .string ⟨#[]⟩, .slice a l c]) ∧ Below w.heap.size w w' := by
  go_enter Try.func27, Try.ntmps27
  go_wp2_with fail
  exact bodyPost_ret (v := .agg #[.int .i64 4, .int .i64 0, .string ⟨#[]⟩, .slice a l c]) (by simp [results, Try.results27, go_sem]) rfl ⟨rfl, (Below.refl _ _).alloc (Nat.le_refl _) _⟩

def numT (n : Int) : Tm 1 := ((1, n, ⟨#[]⟩), (none, 0), [])
def wordT (s : ByteArray) : Tm 1 := ((2, 0, s), (none, 0), [])
def twoT (g : Nat) : Tm 2 := ((4, 0, ⟨#[]⟩), (some ⟨g, 0, none⟩, 2), [wordT ⟨#[97]⟩, numT 5])

theorem num_in (n : Int) (h : I64 n) (B : Nat) (w : World) : In B w 1 (numT n) := ⟨⟨by simp [numT, I64], h, Nat.zero_le _, by simp [numT], by simp [numT]⟩, Or.inl rfl⟩
theorem word_in (s : ByteArray) (h : s.size ≤ maxLen) (B : Nat) (w : World) : In B w 1 (wordT s) := ⟨⟨by simp [wordT, I64], by simp [wordT, I64], h, by simp [wordT], by simp [wordT]⟩, Or.inl rfl⟩

theorem two_in (g B : Nat) (w : World) (hg : g < B) (t : TypeId) (fr : Nat × Nat)
    (h : w.heap[g]? = some (.cells #[.int .i64 2, .int .i64 0, .string ⟨#[97]⟩, .slice none 0 0, .int .i64 1, .int .i64 5, .string ⟨#[]⟩, .slice none 0 0] t fr)) : In B w 2 (twoT g) := by
  have hc : ∀ j, w.cell? ⟨g, j, none⟩ = #[Value.int .i64 2, .int .i64 0, .string ⟨#[97]⟩, .slice none 0 0, .int .i64 1, .int .i64 5, .string ⟨#[]⟩, .slice none 0 0][j]? := fun j => by simp [World.cell?, h]
  refine ⟨⟨by simp [twoT, I64], by simp [twoT, I64], Nat.zero_le _, by simp [twoT], by simp [twoT, maxLen]⟩, Or.inr ⟨g, 0, rfl, hg, fun i y hy => ?_⟩⟩
  match i, hy with
  | 0, hy =>
    have : wordT ⟨#[97]⟩ = y := by simpa [twoT] using hy
    subst this
    exact ⟨⟨hc 0, hc 1, hc 2, hc 3⟩, word_in _ (by show (1 : Nat) ≤ 2 ^ 63 - 1; omega) B w⟩
  | 1, hy =>
    have : numT 5 = y := by simpa [twoT] using hy
    subst this
    exact ⟨⟨hc 4, hc 5, hc 6, hc 7⟩, num_in 5 (by simp [I64]) B w⟩
  | i + 2, hy => simp [twoT] at hy

theorem two_any (w : World) :
    Calls Try.prog 10 #[] w fun e w' => ∃ g, e = .returned (.agg #[.int .i64 4, .int .i64 0, .string ⟨#[]⟩, .slice (some ⟨g, 0, none⟩) 2 2]) ∧ Hid (Below w.heap.size w w' ∧ In w'.heap.size w' 2 (twoT g)) := by
  go_enter Try.func10, Try.ntmps10
  go_wp2_with fail
  refine (kword_any _ _).mono ?_
  rintro e w1 ⟨rfl, hb1⟩
  have HB1 := hide hb1
  clear hb1
  go_wp2_with fail
  refine (num_any _ _).mono ?_
  rintro e w2 ⟨rfl, hb2⟩
  have HB2 := hide (HB1.out.trans (hb2.mono HB1.out.size))
  clear hb2 HB1
  go_wp2_with fail
  refine (tuple_any _ _ _ _).mono ?_
  rintro e w3 ⟨rfl, hb3⟩
  have HB3 := hide ((HB2.out.alloc HB2.out.size _).trans (hb3.mono (Nat.le_trans HB2.out.size (by simp))))
  have HG : Hid (w3.heap[w2.heap.size]? = some (.cells #[.int .i64 2, .int .i64 0, .string ⟨#[97]⟩, .slice none 0 0, .int .i64 1, .int .i64 5, .string ⟨#[]⟩, .slice none 0 0] 24 (0, 0)) ∧ w2.heap.size < w3.heap.size ∧ w.heap.size < w2.heap.size) :=
    ⟨(hb3.block w2.heap.size (by simp)).trans (heap_alloc_new w2 _), by have := hb3.size; simp at this; omega, by have := HB2.out.size; simp at this; omega⟩
  clear hb3 HB2
  have hc := fun o => HB3.out.cell (p := ⟨w.heap.size, o, none⟩) (by simp)
  have hf := fun o => HB3.out.frozen (p := ⟨w.heap.size, o, none⟩) (by simp)
  have c0 := (hc 0).trans (by simp [go_sem] : _ = some (Value.int .i64 0))
  have c1 := (hc 1).trans (by simp [go_sem] : _ = some (Value.int .i64 0))
  have c2 := (hc 2).trans (by simp [go_sem] : _ = some (Value.string ⟨#[]⟩))
  have c3 := (hc 3).trans (by simp [go_sem] : _ = some (Value.slice none 0 0))
  have f0 := (hf 0).trans (by simp [go_sem] : _ = false)
  have f1 := (hf 1).trans (by simp [go_sem] : _ = false)
  have f2 := (hf 2).trans (by simp [go_sem] : _ = false)
  have f3 := (hf 3).trans (by simp [go_sem] : _ = false)
  clear hc hf
  go_wp2_with fail
  refine bodyPost_ret (v := .agg #[.int .i64 4, .int .i64 0, .string ⟨#[]⟩, .slice (some ⟨w2.heap.size, 0, none⟩) 2 2]) (by simp [results, Try.results10, go_sem, c0, c1, c2, c3]) rfl ⟨w2.heap.size, rfl, ?_⟩
  refine hide ⟨?_, ?_⟩
  · have hb : Below w.heap.size w w3 := ((Below.refl _ _).alloc (Nat.le_refl _) _).trans (HB3.out.mono (by simp))
    go_grown
  · refine two_in _ _ _ (by simp [World.setCell]; exact HG.out.2.1) 24 (0, 0) ?_
    have hne := HG.out.2.2
    rw [Below.heap_setCell _ _ _ _ (by simp; omega), Below.heap_setCell _ _ _ _ (by simp; omega), Below.heap_setCell _ _ _ _ (by simp; omega), Below.heap_setCell _ _ _ _ (by simp; omega)]
    exact HG.out.1
end Go.Proofs.Ytfaoeccnhbcjgab
