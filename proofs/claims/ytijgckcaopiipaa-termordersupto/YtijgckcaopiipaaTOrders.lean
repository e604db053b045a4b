/- What is proved here: clerklaw.TermOrders, called with two terms that lie in memory, each with at most 2097152 terms in it, returns true and turns no memory that was there. -/
import Derived.Test.YtijgckcaopiipaaRChkAny
import Derived.Test.YtijgckcaopiipaaOrd
import Derived.Test.YtijgckcaopiipaaROrdAny
namespace Go.Proofs.Ytijgckcaopiipaa
open Go.RowKit

theorem bytesLess_irrefl (l : List UInt8) : Op.bytesLess l l = false := by
  induction l with
  | nil => rfl
  | cons a l ih => simp [Op.bytesLess, ih]
theorem cmpS_eq (x y : ByteArray) : cmpS x y = cmpR x y := by
  unfold cmpS cmpR
  by_cases h : x.toList = y.toList
  · rw [h, bytesLess_irrefl]; simp
  · have h' : (x.toList == y.toList) = false := by simpa using h
    rw [h']
    cases Op.bytesLess x.toList y.toList <;> simp
theorem ordL_congr {α β : Type} (f g : α → β → Int) : (p : List α) → (q : List β) → (∀ a ∈ p, ∀ b ∈ q, f a b = g a b) → ordL f p q = ordL g p q
  | [], _, _ => by simp [ordL]
  | _ :: _, [], _ => by simp [ordL]
  | a :: p, b :: q, h => by
    simp only [ordL]
    rw [h a (by simp) b (by simp), ordL_congr f g p q (fun c hc e he => h c (by simp [hc]) e (by simp [he]))]
theorem ord_eq : (n : Nat) → (x : Tm n) → (m : Nat) → (y : Tm m) → (∀ a ∈ nodes n x, good a = true) → (∀ b ∈ nodes m y, good b = true) → ord n x m y = rord n x m y
  | 0, _, _, _, _, _ => by simp [ord, rord]
  | _ + 1, _, 0, _, _, _ => by simp [ord, rord]
  | n + 1, x, m + 1, y, hx, hy => by
    have gx := good_kind _ (hx (x.1, (x.2.1.1, x.2.2.length, x.2.1.2)) (by simp [nodes]))
    have gy := good_kind _ (hy (y.1, (y.2.1.1, y.2.2.length, y.2.1.2)) (by simp [nodes]))
    have hl := ordL_congr (fun a b => ord n a m b) (fun a b => rord n a m b) x.2.2 y.2.2 (fun a ha b hb => ord_eq n a m b (fun c hc => hx c (nodes_mem ha hc)) (fun c hc => hy c (nodes_mem hb hc)))
    simp only [ord, rord, hl]
    simp only at gx gy
    generalize ordL (fun a b => rord n a m b) x.2.2 y.2.2 = r
    rw [cmpS_eq]
    by_cases e : x.1.1 = y.1.1
    · rw [if_pos e, if_pos e]
      rcases gx with g | g | g | g | g | ⟨g, g0⟩
      · simp [g]
      · simp [g]
      · simp [g]
      · simp [g]
      · simp [g]
      · have gy0 : y.1.2.1 = 0 := by
          rcases gy with g' | g' | g' | g' | g' | ⟨_, g'⟩
          all_goals first | exact g' | omega
        simp [g, g0, gy0, cmpI]
    · rw [if_neg e, if_neg e]

set_option maxHeartbeats 400000 in
theorem orders_walk (w : World) (k u k' u' : Int) (s s' : ByteArray) (a a' : Option Addr) (l c l' c' : Nat) (r r' p q : Int)
    (HO : Hid (∀ w1, Below w.heap.size w w1 → Calls Try.prog 5 #[.agg #[.int .i64 k, .int .i64 u, .string s, .slice a l c], .agg #[.int .i64 k', .int .i64 u', .string s', .slice a' l' c']] w1 fun e w' => e = .returned (.int .i64 r) ∧ Below w1.heap.size w1 w'))
    (HP : Hid (∀ w1, Below w.heap.size w w1 → Calls Try.prog 6 #[.agg #[.int .i64 k, .int .i64 u, .string s, .slice a l c]] w1 fun e w' => e = .returned (.int .i64 p) ∧ Below w1.heap.size w1 w'))
    (HQ : Hid (∀ w1, Below w.heap.size w w1 → Calls Try.prog 6 #[.agg #[.int .i64 k', .int .i64 u', .string s', .slice a' l' c']] w1 fun e w' => e = .returned (.int .i64 q) ∧ Below w1.heap.size w1 w'))
    (HR : Hid (∀ w1, Below w.heap.size w w1 → Calls Try.prog 7 #[.agg #[.int .i64 k, .int .i64 u, .string s, .slice a l c], .agg #[.int .i64 k', .int .i64 u', .string s', .slice a' l' c']] w1 fun e w' => e = .returned (.int .i64 r') ∧ Below w1.heap.size w1 w'))
    (HE : Hid (p = 0 → q = 0 → r = r')) :
    Calls Try.prog 3 #[.agg #[.int .i64 k, .int .i64 u, .string s, .slice a l c], .agg #[.int .i64 k', .int .i64 u', .string s', .slice a' l' c']] w fun e w' => e = .returned (.bool true) ∧ Below w.heap.size w w' := by
  go_enter Try.func3, Try.ntmps3
  go_wp2_with fail
  refine (HO.out _ (((Below.refl _ _).alloc (Nat.le_refl _) _).alloc (by simp) _)).mono ?_
  rintro e w1 ⟨rfl, hb1⟩
  have HB1 : Hid (Below w.heap.size w w1 ∧ w.heap.size + 2 ≤ w1.heap.size) := ⟨(((Below.refl _ _).alloc (Nat.le_refl _) _).alloc (by simp) _).trans (hb1.mono (by simp; omega)), by have := hb1.size; simp at this; omega⟩
  have hcc := below_cells hb1
  simp only [World.size_alloc] at hcc
  have a0 := (hcc w.heap.size 0 (by omega)).trans (by simp [go_sem] : _ = some (Value.int .i64 k))
  have a1 := (hcc w.heap.size 1 (by omega)).trans (by simp [go_sem] : _ = some (Value.int .i64 u))
  have a2 := (hcc w.heap.size 2 (by omega)).trans (by simp [go_sem] : _ = some (Value.string s))
  have a3 := (hcc w.heap.size 3 (by omega)).trans (by simp [go_sem] : _ = some (Value.slice a l c))
  have d0 := (hcc (w.heap.size + 1) 0 (by omega)).trans (by simp [go_sem] : _ = some (Value.int .i64 k'))
  have d1 := (hcc (w.heap.size + 1) 1 (by omega)).trans (by simp [go_sem] : _ = some (Value.int .i64 u'))
  have d2 := (hcc (w.heap.size + 1) 2 (by omega)).trans (by simp [go_sem] : _ = some (Value.string s'))
  have d3 := (hcc (w.heap.size + 1) 3 (by omega)).trans (by simp [go_sem] : _ = some (Value.slice a' l' c'))
  clear hcc hb1
  go_wp2_with fail
  refine (HP.out _ HB1.out.1).mono ?_
  rintro e w2 ⟨rfl, hb2⟩
  have HB2 : Hid (Below w.heap.size w w2 ∧ w.heap.size + 2 ≤ w2.heap.size) := ⟨HB1.out.1.trans (hb2.mono HB1.out.1.size), by have := hb2.size; have := HB1.out.2; omega⟩
  by_cases hp : p = 0
  · have HP0 := hide hp
    have hp1 : (p != 0) = false := by simpa using hp
    clear hp
    have hcc := below_cells hb2
    have hz := HB1.out.2
    replace a0 := (hcc w.heap.size 0 (by omega)).trans a0
    replace a1 := (hcc w.heap.size 1 (by omega)).trans a1
    replace a2 := (hcc w.heap.size 2 (by omega)).trans a2
    replace a3 := (hcc w.heap.size 3 (by omega)).trans a3
    replace d0 := (hcc (w.heap.size + 1) 0 (by omega)).trans d0
    replace d1 := (hcc (w.heap.size + 1) 1 (by omega)).trans d1
    replace d2 := (hcc (w.heap.size + 1) 2 (by omega)).trans d2
    replace d3 := (hcc (w.heap.size + 1) 3 (by omega)).trans d3
    clear hcc hb2 hz
    go_wp2_with fail
    refine (HQ.out _ HB2.out.1).mono ?_
    rintro e w3 ⟨rfl, hb3⟩
    have HB3 : Hid (Below w.heap.size w w3 ∧ w.heap.size + 2 ≤ w3.heap.size) := ⟨HB2.out.1.trans (hb3.mono HB2.out.1.size), by have := hb3.size; have := HB2.out.2; omega⟩
    by_cases hq : q = 0
    · have hq1 : (q != 0) = false := by simpa using hq
      have HRR := hide (HE.out HP0.out hq)
      clear hq
      have hcc := below_cells hb3
      have hz := HB2.out.2
      replace a0 := (hcc w.heap.size 0 (by omega)).trans a0
      replace a1 := (hcc w.heap.size 1 (by omega)).trans a1
      replace a2 := (hcc w.heap.size 2 (by omega)).trans a2
      replace a3 := (hcc w.heap.size 3 (by omega)).trans a3
      replace d0 := (hcc (w.heap.size + 1) 0 (by omega)).trans d0
      replace d1 := (hcc (w.heap.size + 1) 1 (by omega)).trans d1
      replace d2 := (hcc (w.heap.size + 1) 2 (by omega)).trans d2
      replace d3 := (hcc (w.heap.size + 1) 3 (by omega)).trans d3
      clear hcc hb3 hz
      go_wp2_with fail
      refine (HR.out _ HB3.out.1).mono ?_
      rintro e w4 ⟨rfl, hb4⟩
      have HB4 : Hid (Below w.heap.size w w4) := HB3.out.1.trans (hb4.mono HB3.out.1.size)
      have hrr : (r == r') = true := by simpa using HRR.out
      go_wp2_with fail
      go_ret
      exact ⟨rfl, HB4.out⟩
    · have hq1 : (q != 0) = true := by simpa using hq
      clear hq
      go_wp2_with fail
      go_ret
      exact ⟨rfl, HB3.out.1⟩
  · have hp1 : (p != 0) = true := by simpa using hp
    clear hp
    go_wp2_with fail
    go_ret
    exact ⟨rfl, HB2.out.1⟩

theorem orders_any (n m : Nat) (x : Tm n) (y : Tm m) (B : Nat) (w : World) (hx : In B w n x) (hy : In B w m y) (hB : B ≤ w.heap.size) (hN : (nodes n x).length ≤ 2097152) (hM : (nodes m y).length ≤ 2097152) :
    Calls Try.prog 3 #[val n x, val m y] w fun e w' => e = .returned (.bool true) ∧ Below w.heap.size w w' := by
  cases n with
  | zero => exact hx.elim
  | succ n =>
  cases m with
  | zero => exact hy.elim
  | succ m =>
  exact orders_walk w x.1.1 x.1.2.1 y.1.1 y.1.2.1 x.1.2.2 y.1.2.2 x.2.1.1 y.2.1.1 x.2.2.length x.2.1.2 y.2.2.length y.2.1.2 (ord (n + 1) x (m + 1) y) (rord (n + 1) x (m + 1) y) (chk (n + 1) x) (chk (m + 1) y)
    (fun w1 hw => order_any (n + 1) x (m + 1) y B w1 (hx.below (hw.mono hB)) (hy.below (hw.mono hB)) (Nat.le_trans hB hw.size))
    (fun w1 hw => rcheck_any (n + 1) x B w1 (hx.below (hw.mono hB)) (Nat.le_trans hB hw.size) hN)
    (fun w1 hw => rcheck_any (m + 1) y B w1 (hy.below (hw.mono hB)) (Nat.le_trans hB hw.size) hM)
    (fun w1 hw => rorder_any (n + 1) x (m + 1) y B w1 (hx.below (hw.mono hB)) (hy.below (hw.mono hB)) (Nat.le_trans hB hw.size))
    (fun h0 h1 => ord_eq (n + 1) x (m + 1) y (chk_good (n + 1) x h0) (chk_good (m + 1) y h1))
end Go.Proofs.Ytijgckcaopiipaa
