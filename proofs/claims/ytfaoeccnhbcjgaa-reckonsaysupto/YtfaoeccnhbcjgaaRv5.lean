/- What is proved here: the document's Value of right things that lie in memory: what it returns. No condition but that. -/
import Derived.Test.YtfaoeccnhbcjgaaRv4
namespace Go.Proofs.Ytfaoeccnhbcjgaa
open Go.RowKit

/-- What the document's Value leaves. -/
def DvvOut (B N : Nat) (o : Option (Tm (N + 1))) (w : World) (e : Ending) (w' : World) : Prop :=
  ∃ (y : Tm (N + 1)) (r : Bool), e = .returned (.tuple #[val (N + 1) y, .bool r]) ∧ Hid (Below w.heap.size w w' ∧ In w'.heap.size w' (N + 1) y ∧ Off (fun q => q < B ∨ w.heap.size ≤ q) (N + 1) y ∧ r = (rvO 0 o).isSome ∧ same (N + 1) y (N + 1) ((rvO 0 o).getD (zeroV N)) = true)
theorem dvv_none {B N : Nat} {o : Option (Tm (N + 1))} {w w' : World} (hb : Below w.heap.size w w') (h : rvO 0 o = none) : DvvOut B N o w (.returned (.tuple #[.agg #[.int .i64 0, .int .i64 0, .string .empty, .slice none 0 0], .bool false])) w' :=
  ⟨zeroV N, false, rfl, hb, (leaf_out N 0 0 i64_zero i64_zero _ _ (fun _ => True)).1, (leaf_out N 0 0 i64_zero i64_zero 0 w _).2, by rw [h]; rfl, by rw [h]; exact leaf_same N 0 0⟩
theorem dvv_some {B N : Nat} {o : Option (Tm (N + 1))} {z : Tm (N + 1)} {w w1 w2 w3 : World} {y : Tm (N + 1)} {q : Nat} (hB : B ≤ w.heap.size) (ho : o = some z) (hc : chk (N + 1) z = 0) (hb : Below w.heap.size w w1) (hq : w.heap.size ≤ q) (hq1 : q < w1.heap.size)
    (k1 : Below w1.heap.size w1 w2) (k2 : In w2.heap.size w2 (N + 1) y) (k3 : Off (fun q => q < B ∨ w1.heap.size ≤ q) (N + 1) y) (k4 : same (N + 1) y (N + 1) z = true) (hb3 : Below w2.heap.size w2 w3) (v0 v1 v2 v3 : Value) :
    DvvOut B N o w (.returned (.tuple #[.agg #[.int .i64 y.1.1, .int .i64 y.1.2.1, .string y.1.2.2, .slice y.2.1.1 y.2.2.length y.2.1.2], .bool true])) (put4 w3 q 0 v0 v1 v2 v3) := by
  have hs := hb.size
  have hbb := (hb.trans (k1.mono hs)).trans (hb3.mono (Nat.le_trans hs k1.size))
  have er : rvO 0 o = some z := by simp [rvO, ho, hc]
  refine ⟨y, true, rfl, put_below hbb hq _ _ _ _, ?_, k3.mono fun b hh => by omega, by rw [er]; rfl, by rw [er]; exact k4⟩
  rw [put4_size]
  exact In.off (P := fun b => b < B ∨ w1.heap.size ≤ b) (fun b hh => put4_block (by omega) _ _ _ _) k3 ((k2.below hb3).mono hb3.size)

set_option maxHeartbeats 1000000 in
set_option maxRecDepth 100000 in
theorem dvv_walk (B N : Nat) (o : Option (Tm (N + 1))) (a : Option Addr) (c : Nat) (self : Int) (x0 x1 : Int) (x2 : ByteArray) (xa : Option Addr) (xl xc : Nat) (w : World) (hB : B ≤ w.heap.size)
    (HV : Hid (∀ w1, Below w.heap.size w w1 → Calls Try.prog 64 #[.agg #[.int .i64 x0, .int .i64 x1, .string x2, .slice xa xl xc], .slice a 4 c, .int .i64 self] w1 (DvOut B (N + 1) o w1)))
    (HZ : Hid (∀ (y z : Tm (N + 1)) (w1 : World), o = some z → same (N + 1) y (N + 1) z = true → In w1.heap.size w1 (N + 1) y → Calls Try.prog 9 #[.agg #[.int .i64 y.1.1, .int .i64 y.1.2.1, .string y.1.2.2, .slice y.2.1.1 y.2.2.length y.2.1.2]] w1 fun e w' => e = .returned (.int .i64 (chk (N + 1) z)) ∧ Below w1.heap.size w1 w')) :
    Calls Try.prog 33 #[.agg #[.int .i64 x0, .int .i64 x1, .string x2, .slice xa xl xc], .slice a 4 c, .int .i64 self] w (DvvOut B N o w) := by
  go_enter Try.func33, Try.ntmps33
  go_wp2_with fail
  refine (HV.out _ (two4_is w _ _ _ _ _ _).1).mono ?_
  rintro e w3 ⟨y, r, rfl, H⟩
  have HB3 : Hid (Below w.heap.size w w3) := (two4_is w _ _ _ _ _ _).1.trans (H.out.1.mono (two4_is w _ _ _ _ _ _).1.size)
  have HBX3 := hide ((two4_is w _ _ _ _ _ _).2.below H.out.1)
  have e3 : val (N + 1) y = .agg #[.int .i64 y.1.1, .int .i64 y.1.2.1, .string y.1.2.2, .slice y.2.1.1 y.2.2.length y.2.1.2] := rfl
  rw [e3]
  clear HV e3
  cases r
  · have HN : Hid (o = none) := by
      have := H.out.2.2.2.1
      cases o with
      | none => rfl
      | some z => cases this
    obtain ⟨⟨z0, z1, z2, z3⟩, ⟨f0, f1, f2, f3⟩, hzq⟩ := HBX3.out
    clear H HZ
    go_wp2_with fail
    exact bodyPost_ret (v := .tuple #[.agg #[.int .i64 0, .int .i64 0, .string .empty, .slice none 0 0], .bool false]) (by simp [results, Try.results33, go_sem, z0, z1, z2, z3, hzq]; rfl) rfl (dvv_none ((put_below HB3.out (by omega) _ _ _ _).alloc (by rw [put4_size]; omega) _) (by simp [rvO, HN.out]))
  · obtain ⟨z, hz⟩ : ∃ z, o = some z := by
      have := H.out.2.2.2.1
      cases o with
      | none => cases this
      | some z => exact ⟨z, rfl⟩
    have HOZ := hide hz
    have HS := hide (H.out.2.2.2.2 z hz)
    have HKZ : Hid (∀ w1, Below w3.heap.size w3 w1 → Calls Try.prog 9 #[.agg #[.int .i64 y.1.1, .int .i64 y.1.2.1, .string y.1.2.2, .slice y.2.1.1 y.2.2.length y.2.1.2]] w1 fun e w' => e = .returned (.int .i64 (chk (N + 1) z)) ∧ Below w1.heap.size w1 w') :=
      fun w1 h1 => HZ.out y z w1 HOZ.out HS.out ((H.out.2.1.below h1).mono h1.size)
    obtain ⟨cz, hcz⟩ : ∃ cz, cz = chk (N + 1) z := ⟨_, rfl⟩
    rw [← hcz] at HKZ
    have HCZ := hide hcz
    have HQ := fun (w4 : World) (h4 : Below w3.heap.size w3 w4) (h0 : cz = 0) v0 v1 v2 v3 => hide (dvv_some hB HOZ.out (HCZ.out.symm.trans h0) (two4_is w _ _ _ _ _ _).1 (Nat.le_add_right _ 1) (two4_is w _ _ _ _ _ _).2.2.2 H.out.1 H.out.2.1 H.out.2.2.1 HS.out h4 v0 v1 v2 v3)
    clear hz hcz HZ H
    go_wp2_with fail
    refine (HKZ.out _ ((Below.refl _ _).alloc (Nat.le_refl _) _)).mono ?_
    rintro e w4 ⟨rfl, hb4⟩
    obtain ⟨⟨t0, t1, t2, t3⟩, _⟩ := boxed hb4
    have HB4 : Hid (Below w3.heap.size w3 w4) := ((Below.refl _ _).alloc (Nat.le_refl _) _).trans (hb4.mono (by simp))
    have HBX4 := hide (HBX3.out.below HB4.out)
    have HW4 : Hid (Below w.heap.size w w4) := HB3.out.trans (HB4.out.mono HB3.out.size)
    obtain ⟨⟨z0, z1, z2, z3⟩, ⟨f0, f1, f2, f3⟩, hzq⟩ := HBX4.out
    have hne1 : ¬ (w.heap.size + 1 = w3.heap.size) := by have := HBX3.out.2.2; omega
    have hne2 : ¬ (w3.heap.size = w.heap.size + 1) := fun e => hne1 e.symm
    clear hb4 HKZ HBX3
    by_cases hz0 : cz = 0
    · have hc2 : (cz != 0) = false := by simp [hz0]
      have HT := fun v0 v1 v2 v3 => HQ w4 HB4.out hz0 v0 v1 v2 v3
      clear HQ hz0
      go_wp2_with fail
      exact bodyPost_ret (v := .tuple #[.agg #[.int .i64 y.1.1, .int .i64 y.1.2.1, .string y.1.2.2, .slice y.2.1.1 y.2.2.length y.2.1.2], .bool true]) (by simp [results, Try.results33, go_sem, z0, z1, z2, z3]) rfl (HT _ _ _ _).out
    · have hc2 : (cz != 0) = true := by simpa using hz0
      have HNZ := hide hz0
      clear HQ hz0
      go_wp2_with fail
      exact bodyPost_ret (v := .tuple #[.agg #[.int .i64 0, .int .i64 0, .string .empty, .slice none 0 0], .bool false]) (by simp [results, Try.results33, go_sem, z0, z1, z2, z3]; rfl) rfl (dvv_none (put_below HW4.out (by omega) _ _ _ _) (by have h1 := HCZ.out; have h2 := HNZ.out; rw [h1] at h2; simp [rvO, HOZ.out, h2]))

theorem dvv_any (n m : Nat) (x : Tm (n + 1)) (b : List (Tm m)) (a : Option Addr) (c B : Nat) (self : Int) (w : World) (hx : In B w (n + 1) x) (hb : Lies B w m b a) (hB : B ≤ w.heap.size) (h1 : chk (n + 1) x = 0) (h2 : bndB m b = true) (h3 : 1 ≤ self ∧ self ≤ 99) :
    Calls Try.prog 33 #[val (n + 1) x, .slice a b.length c, .int .i64 self] w (DvvOut B (m + n) (vl m b self (n + 1) x) w) := by
  rw [(bnd_ok h2).1]
  refine dvv_walk B (m + n) _ a c self x.1.1 x.1.2.1 x.1.2.2 x.2.1.1 x.2.2.length x.2.1.2 w hB ?_ ?_
  · intro w1 k1
    exact dvalue_any m b self h2 h3 (n + 1) x a c B w1 (hx.below (k1.mono hB)) (right_formed.2 (chk_iff.1 h1).1) (Nat.le_trans (chk_nlen h1) (by omega)) (hb.below (k1.mono hB)) (Nat.le_trans hB k1.size)
  · intro y z w1 ho hs hin
    have hn := val_nodes h1 h2 ho
    have hk := rcheck_any (m + n + 1) y w1.heap.size w1 hin (Nat.le_refl _) (by rw [same_nlen _ _ _ _ hs]; exact hn)
    rw [same_chk hs] at hk
    exact hk
end Go.Proofs.Ytfaoeccnhbcjgaa
