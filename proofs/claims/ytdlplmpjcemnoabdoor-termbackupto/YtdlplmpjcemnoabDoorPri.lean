/- What is proved here: term.Print of a term that lies in memory returns the plain function wtext of it where Check finds it right, else the empty text, and Check's answer; it turns no memory that was there. Conditions: it holds at most 2097152 terms and letters; the library's table of powers lies as its text lays it. -/
import Derived.Test.YtdlplmpjcemnoabDoorWriAny
import Derived.Test.YtdlplmpjcemnoabDoorTDep
namespace Go.Proofs.YtdlplmpjcemnoabDoor
open Go.RowKit

theorem Tab.mono {B B' : Nat} {w : World} (h : Tab B w) (hB : B ≤ B') : Tab B' w := fun w' hb => h w' (hb.mono hB)

set_option maxHeartbeats 400000 in
theorem print_walk (w : World) (k u : Int) (s : ByteArray) (a : Option Addr) (l c : Nat) (e0 : Int) (t t' : List UInt8) (HE : Hid ((if e0 = 0 then t else []) = t'))
    (HC : Hid (∀ w1, Below w.heap.size w w1 → Calls Tryd.prog 11 #[.agg #[.int .i64 k, .int .i64 u, .string s, .slice a l c]] w1 fun e w' => e = .returned (.int .i64 e0) ∧ Below w1.heap.size w1 w'))
    (HW : Hid (∀ w1 b, Below w.heap.size w w1 → w.heap.size ≤ b → Bu b b [] w1 → b ≤ w1.heap.size → Calls Tryd.prog 12 #[.pointer (some ⟨b, 0, none⟩), .agg #[.int .i64 k, .int .i64 u, .string s, .slice a l c]] w1 fun e w' => e = .returned (.tuple #[]) ∧ Wrote b b t w1 w')) :
    Calls Tryd.prog 5 #[.agg #[.int .i64 k, .int .i64 u, .string s, .slice a l c]] w fun e w' => e = .returned (.tuple #[.string ⟨t'.toArray⟩, .int .i64 e0]) ∧ Below w.heap.size w w' := by
  go_enter Tryd.func5, Tryd.ntmps5
  go_wp2_with fail
  refine (HC.out _ ((Below.refl _ _).alloc (Nat.le_refl _) _)).mono ?_
  rintro e w1 ⟨rfl, hb1⟩
  have HB1 : Hid (Below w.heap.size w w1 ∧ w.heap.size + 1 ≤ w1.heap.size) := ⟨((Below.refl _ _).alloc (Nat.le_refl _) _).trans (hb1.mono (by simp)), by have := hb1.size; simpa using this⟩
  have hcc := below_cells hb1
  simp only [World.size_alloc] at hcc
  have a0 := (hcc w.heap.size 0 (by omega)).trans (by simp [go_sem] : _ = some (Value.int .i64 k))
  have a1 := (hcc w.heap.size 1 (by omega)).trans (by simp [go_sem] : _ = some (Value.int .i64 u))
  have a2 := (hcc w.heap.size 2 (by omega)).trans (by simp [go_sem] : _ = some (Value.string s))
  have a3 := (hcc w.heap.size 3 (by omega)).trans (by simp [go_sem] : _ = some (Value.slice a l c))
  clear hcc hb1
  by_cases h0 : e0 = 0
  · subst h0
    have hw1 : w.heap.size < w1.heap.size := by have := HB1.out.2; omega
    have HF : Hid (Bu w1.heap.size w1.heap.size [] (w1.alloc (.cells #[.pointer none, .slice none 0 0] 40))) := Lib.IsBuilderF.of (Lib.fresh_isBuilder 40 5 w1)
    go_wp2_with fail
    refine (HW.out _ w1.heap.size (HB1.out.1.alloc HB1.out.1.size _) (by omega) HF.out (by simp)).mono ?_
    rintro e w2 ⟨rfl, h2⟩
    have H2 := hide h2
    clear h2
    have HZ2 : Hid (w1.heap.size ≤ w2.heap.size ∧ Below w.heap.size w w2) := by
      have h3 := H2.out.2.1.size
      simp at h3
      refine ⟨by omega, (HB1.out.1.alloc HB1.out.1.size _).trans (H2.out.2.1.mono (by omega))⟩
    go_wp2_with fail
    refine (Tryd.Builder_String_any_k w1.heap.size w1.heap.size t w2 H2.out.1 HZ2.out.1).mono ?_
    rintro e w3 ⟨rfl, _, hb3, _⟩
    have HB3 : Hid (Below w.heap.size w w3) := HZ2.out.2.trans (hb3.mono (by omega))
    clear hb3
    have HE2 : Hid (t = t') := HE.out
    go_wp2_with fail
    go_ret2
    refine ⟨?_, HB3.out⟩
    rw [← HE2.out]
    rfl
  · have hn : (e0 != 0) = true := by simpa using h0
    have HE2 : Hid ([] = t') := (if_neg h0).symm.trans HE.out
    clear h0
    go_wp2_with fail
    go_ret2
    refine ⟨?_, HB1.out.1⟩
    rw [← HE2.out]
    rfl

theorem print_any (n : Nat) (x : Tm n) (B : Nat) (w : World) (hx : In B w n x) (hB : B ≤ w.heap.size) (ht : Tab w.heap.size w) (hN : (nodes n x).length ≤ 2097152) (hw : wt n x ≤ 2097152) :
    Calls Tryd.prog 5 #[val n x] w fun e w' => e = .returned (.tuple #[.string ⟨(if chk n x = 0 then wtext n x else []).toArray⟩, .int .i64 (chk n x)]) ∧ Below w.heap.size w w' := by
  cases n with
  | zero => exact hx.elim
  | succ n =>
  exact print_walk w x.1.1 x.1.2.1 x.1.2.2 x.2.1.1 x.2.2.length x.2.1.2 (chk (n + 1) x) (wtext (n + 1) x) _ rfl
    (fun w1 hw1 => tcheck_any (n + 1) x B w1 (hx.below (hw1.mono hB)) (Nat.le_trans hB hw1.size) hN)
    (fun w1 b hw1 hwb hbu hb1 => write_any (n + 1) x B b b [] w1 (hx.below (hw1.mono hB)) (by omega) hbu hb1 (Tab.mono (ht.on hw1) hwb) (by simp; omega))
end Go.Proofs.YtdlplmpjcemnoabDoor
