/- What is proved here: reckon.Value of a term and a list of terms that lie in memory: what it returns. Condition: at most 2097152 terms in each. -/
import Derived.Test.YtfaoeccnhbcjgabVl6
namespace Go.Proofs.Ytfaoeccnhbcjgab
open Go.RowKit

def zeroV (N : Nat) : Tm (N + 1) := leafV 0 0 N
/-- What Value leaves. -/
def RvOut (N : Nat) (E : Int) (o : Option (Tm (N + 1))) (w : World) (e : Ending) (w' : World) : Prop :=
  ∃ y : Tm (N + 1), e = .returned (.tuple #[val (N + 1) y, .int .i64 (rvC E (rvO E o))]) ∧ Hid (Below w.heap.size w w' ∧ In w'.heap.size w' (N + 1) y ∧ Off (fun q => w.heap.size ≤ q) (N + 1) y ∧ same (N + 1) y (N + 1) ((rvO E o).getD (zeroV N)) = true)
theorem rv_none {N : Nat} {E : Int} {o : Option (Tm (N + 1))} {w w' : World} {u : Int} (hb : Below w.heap.size w w') (h : rvO E o = none) (hu : u = rvC E (rvO E o)) : RvOut N E o w (.returned (.tuple #[.agg #[.int .i64 0, .int .i64 0, .string .empty, .slice none 0 0], .int .i64 u])) w' := by
  refine ⟨zeroV N, by rw [hu]; rfl, hb, (leaf_out N 0 0 i64_zero i64_zero _ _ (fun _ => True)).1, (leaf_out N 0 0 i64_zero i64_zero 0 w _).2, ?_⟩
  rw [h]
  exact leaf_same N 0 0
theorem rv_some {N : Nat} {E : Int} {o : Option (Tm (N + 1))} {z : Tm (N + 1)} {w w1 w2 w3 : World} {y : Tm (N + 1)} {q : Nat} (hE : E = 0) (ho : o = some z) (hc : chk (N + 1) z = 0) (hb : Below w.heap.size w w1) (hq : w.heap.size ≤ q) (hq1 : q < w1.heap.size)
    (k1 : Below w1.heap.size w1 w2) (k2 : In w2.heap.size w2 (N + 1) y) (k3 : Off (fun q => w1.heap.size ≤ q) (N + 1) y) (k4 : same (N + 1) y (N + 1) z = true) (hb3 : Below w2.heap.size w2 w3) (v0 v1 v2 v3 : Value) :
    RvOut N E o w (.returned (.tuple #[.agg #[.int .i64 y.1.1, .int .i64 y.1.2.1, .string y.1.2.2, .slice y.2.1.1 y.2.2.length y.2.1.2], .int .i64 0])) (put4 w3 q 0 v0 v1 v2 v3) := by
  have hs := hb.size
  have hbb := (hb.trans (k1.mono hs)).trans (hb3.mono (Nat.le_trans hs k1.size))
  have er : rvO E o = some z := by simp [rvO, hE, ho, hc]
  refine ⟨y, by rw [er]; simp [rvC, hE, val], put_below hbb hq _ _ _ _, ?_, k3.mono fun b hh => by omega, by rw [er]; exact k4⟩
  rw [put4_size]
  exact In.off (P := fun b => w1.heap.size ≤ b) (fun b hh => put4_block (by omega) _ _ _ _) k3 ((k2.below hb3).mono hb3.size)

theorem rvE_zero {ck : Int} {bd : Bool} {self : Int} (h : rvE ck bd self = 0) : ck = 0 ∧ bd = true ∧ 1 ≤ self ∧ self ≤ 99 := by
  unfold rvE at h
  split at h
  · split at h
    · split at h
      · rename_i h1 h2 h3
        exact ⟨h1, h2, h3⟩
      · cases h
    · cases h
  · rename_i h1
    exact absurd h h1
theorem val_nodes {m n : Nat} {b : List (Tm m)} {self : Int} {x : Tm (n + 1)} {z : Tm (m + n + 1)} (h1 : chk (n + 1) x = 0) (h2 : bndB m b = true) (hz : vl m b self (n + 1) x = some z) : (nodes (m + n + 1) z).length ≤ 2097152 := by
  have hx := chk_nlen h1
  have hn := vl_nodes m b self 201 (by omega) (fun y hy => chk_nlen ((bnd_ok h2).2 y hy).1) (n + 1) x z hz
  have : 201 * (nodes (n + 1) x).length ≤ 201 * 201 := Nat.mul_le_mul_left 201 hx
  exact Nat.le_trans hn (by omega)
theorem two4_is (w : World) (x0 x1 x2 x3 : Value) (t1 t2 : TypeId) : Below w.heap.size w ((w.alloc (.cells #[x0, x1, x2, x3] t1)).alloc (.cells #[.int .i64 0, .int .i64 0, .string .empty, .slice none 0 0] t2)) ∧ Box0 (w.heap.size + 1) ((w.alloc (.cells #[x0, x1, x2, x3] t1)).alloc (.cells #[.int .i64 0, .int .i64 0, .string .empty, .slice none 0 0] t2)) := by
  refine ⟨((Below.refl _ _).alloc (Nat.le_refl _) _).alloc (by simp) _, ⟨?_, ?_, ?_, ?_⟩, ⟨?_, ?_, ?_, ?_⟩, ?_⟩ <;> simp [go_sem]
theorem two4_cells {w w' : World} {x0 x1 x2 x3 y0 y1 y2 y3 : Value} {t1 t2 : TypeId} (h : Below ((w.alloc (.cells #[x0, x1, x2, x3] t1)).alloc (.cells #[y0, y1, y2, y3] t2)).heap.size ((w.alloc (.cells #[x0, x1, x2, x3] t1)).alloc (.cells #[y0, y1, y2, y3] t2)) w') :
    w'.cell? ⟨w.heap.size, 0, none⟩ = some x0 ∧ w'.cell? ⟨w.heap.size, 1, none⟩ = some x1 ∧ w'.cell? ⟨w.heap.size, 2, none⟩ = some x2 ∧ w'.cell? ⟨w.heap.size, 3, none⟩ = some x3 := by
  have hc := fun o => h.cell (p := ⟨w.heap.size, o, none⟩) (by simp; omega)
  exact ⟨(hc 0).trans (by simp [go_sem]), (hc 1).trans (by simp [go_sem]), (hc 2).trans (by simp [go_sem]), (hc 3).trans (by simp [go_sem])⟩

set_option maxHeartbeats 1000000 in
set_option maxRecDepth 100000 in
theorem rvalue_walk (N : Nat) (o : Option (Tm (N + 1))) (a : Option Addr) (ql c : Nat) (self : Int) (x0 x1 : Int) (x2 : ByteArray) (xa : Option Addr) (xl xc : Nat) (ck : Int) (bd : Bool) (w : World)
    (HK : Hid (∀ w1, Below w.heap.size w w1 → Calls Try.prog 41 #[.agg #[.int .i64 x0, .int .i64 x1, .string x2, .slice xa xl xc]] w1 fun e w' => e = .returned (.int .i64 ck) ∧ Below w1.heap.size w1 w'))
    (HA : Hid (∀ w1, Below w.heap.size w w1 → Calls Try.prog 53 #[.slice a ql c] w1 fun e w' => e = .returned (.bool bd) ∧ Below w1.heap.size w1 w'))
    (HV : Hid (rvE ck bd self = 0 → ∀ w1, Below w.heap.size w w1 → Calls Try.prog 58 #[.agg #[.slice a ql c, .int .i64 self], .agg #[.int .i64 x0, .int .i64 x1, .string x2, .slice xa xl xc]] w1 (VOut (N + 1) o w1)))
    (HZ : Hid (rvE ck bd self = 0 → ∀ (y z : Tm (N + 1)) (w1 : World), o = some z → same (N + 1) y (N + 1) z = true → In w1.heap.size w1 (N + 1) y → Calls Try.prog 41 #[.agg #[.int .i64 y.1.1, .int .i64 y.1.2.1, .string y.1.2.2, .slice y.2.1.1 y.2.2.length y.2.1.2]] w1 fun e w' => e = .returned (.int .i64 (chk (N + 1) z)) ∧ Below w1.heap.size w1 w')) :
    Calls Try.prog 34 #[.agg #[.int .i64 x0, .int .i64 x1, .string x2, .slice xa xl xc], .slice a ql c, .int .i64 self] w (RvOut N (rvE ck bd self) o w) := by
  obtain ⟨E, hE⟩ : ∃ E, E = rvE ck bd self := ⟨_, rfl⟩
  rw [← hE] at HV HZ ⊢
  have HE := hide hE
  clear hE
  go_enter Try.func34, Try.ntmps34
  go_wp2_with fail
  refine (HK.out _ (two4_is w _ _ _ _ _ _).1).mono ?_
  rintro e w1 ⟨rfl, hb1⟩
  have HX1 := hide (two4_cells hb1)
  have HB1 : Hid (Below w.heap.size w w1) := (two4_is w _ _ _ _ _ _).1.trans (hb1.mono (two4_is w _ _ _ _ _ _).1.size)
  have HBX1 := hide ((two4_is w _ _ _ _ _ _).2.below hb1)
  clear hb1 HK
  by_cases hck : ck = 0
  case neg =>
    have hc1 : (ck != 0) = true := by simpa using hck
    have HEN : Hid (E = ck ∧ ck ≠ 0) := ⟨by rw [HE.out]; simp [rvE, hck], hck⟩
    obtain ⟨⟨z0, z1, z2, z3⟩, ⟨f0, f1, f2, f3⟩, hzq⟩ := HBX1.out
    clear HV HE hck HZ
    go_wp2_with fail
    exact bodyPost_ret (v := .tuple #[.agg #[.int .i64 0, .int .i64 0, .string .empty, .slice none 0 0], .int .i64 ck]) (by simp [results, Try.results34, go_sem, z0, z1, z2, z3]; rfl) rfl (rv_none (put_below HB1.out (by omega) _ _ _ _) (by simp [rvO, HEN.out.1, HEN.out.2]) (by simp [rvC, HEN.out.1, HEN.out.2]))
  have hc1 : (ck != 0) = false := by simp [hck]
  go_wp2_with fail
  refine (HA.out _ HB1.out).mono ?_
  rintro e w2 ⟨rfl, hb2⟩
  have HX2 := hide (cells_nx (Nat.lt_of_succ_lt HBX1.out.2.2) hb2 HX1.out)
  have HB2 : Hid (Below w.heap.size w w2) := HB1.out.trans (hb2.mono HB1.out.size)
  have HBX2 := hide (HBX1.out.below hb2)
  clear hb2 HA HB1 HX1 HBX1
  cases bd
  · have HEN : Hid (E = 5) := by rw [Hid, HE.out]; simp [rvE, hck]
    obtain ⟨⟨z0, z1, z2, z3⟩, ⟨f0, f1, f2, f3⟩, hzq⟩ := HBX2.out
    clear HV HE hck HZ
    go_wp2_with fail
    exact bodyPost_ret (v := .tuple #[.agg #[.int .i64 0, .int .i64 0, .string .empty, .slice none 0 0], .int .i64 5]) (by simp [results, Try.results34, go_sem, z0, z1, z2, z3]; rfl) rfl (rv_none (put_below HB2.out (by omega) _ _ _ _) (by simp [rvO, HEN.out]) (by simp [rvC, HEN.out]))
  · by_cases hs1 : self < 1
    · have b1 : decide (self < 1) = true := by simpa using hs1
      have HEN : Hid (E = 1) := by rw [Hid, HE.out]; simp only [rvE, hck, if_true]; rw [if_neg (by omega)]
      obtain ⟨⟨z0, z1, z2, z3⟩, ⟨f0, f1, f2, f3⟩, hzq⟩ := HBX2.out
      clear HV HE hck HZ
      go_wp2_with fail
      exact bodyPost_ret (v := .tuple #[.agg #[.int .i64 0, .int .i64 0, .string .empty, .slice none 0 0], .int .i64 1]) (by simp [results, Try.results34, go_sem, z0, z1, z2, z3]; rfl) rfl (rv_none (put_below HB2.out (by omega) _ _ _ _) (by simp [rvO, HEN.out]) (by simp [rvC, HEN.out]))
    · have b1 : decide (self < 1) = false := by simpa using hs1
      by_cases hs2 : 99 < self
      · have b2 : decide (99 < self) = true := by simpa using hs2
        have HEN : Hid (E = 1) := by rw [Hid, HE.out]; simp only [rvE, hck, if_true]; rw [if_neg (by omega)]
        obtain ⟨⟨z0, z1, z2, z3⟩, ⟨f0, f1, f2, f3⟩, hzq⟩ := HBX2.out
        clear HV HE hck HZ
        go_wp2_with fail
        exact bodyPost_ret (v := .tuple #[.agg #[.int .i64 0, .int .i64 0, .string .empty, .slice none 0 0], .int .i64 1]) (by simp [results, Try.results34, go_sem, z0, z1, z2, z3]; rfl) rfl (rv_none (put_below HB2.out (by omega) _ _ _ _) (by simp [rvO, HEN.out]) (by simp [rvC, HEN.out]))
      · have b2 : decide (99 < self) = false := by simpa using hs2
        have HE0 : Hid (E = 0) := by rw [Hid, HE.out]; simp only [rvE, hck, if_true]; rw [if_pos (by omega)]
        obtain ⟨x0', x1', x2', x3'⟩ := HX2.out
        have hxw : w.heap.size < w2.heap.size := Nat.lt_of_succ_lt HBX2.out.2.2
        clear HE hck
        go_wp2_with fail
        refine (HV.out HE0.out _ HB2.out).mono ?_
        rintro e w3 ⟨y, r, rfl, H⟩
        have HB3 : Hid (Below w.heap.size w w3) := HB2.out.trans (H.out.1.mono HB2.out.size)
        have HBX3 := hide (HBX2.out.below H.out.1)
        have e3 : val (N + 1) y = .agg #[.int .i64 y.1.1, .int .i64 y.1.2.1, .string y.1.2.2, .slice y.2.1.1 y.2.2.length y.2.1.2] := rfl
        rw [e3]
        clear HV e3 x0' x1' x2' x3' HX2
        cases r
        · have HN : Hid (o = none) := by
            have := H.out.2.2.2.1
            cases o with
            | none => rfl
            | some z => cases this
          obtain ⟨⟨z0, z1, z2, z3⟩, ⟨f0, f1, f2, f3⟩, hzq⟩ := HBX3.out
          clear H HZ
          go_wp2_with fail
          exact bodyPost_ret (v := .tuple #[.agg #[.int .i64 0, .int .i64 0, .string .empty, .slice none 0 0], .int .i64 7]) (by simp [results, Try.results34, go_sem, z0, z1, z2, z3, hzq]; rfl) rfl (rv_none ((put_below HB3.out (by omega) _ _ _ _).alloc (by rw [put4_size]; omega) _) (by simp [rvO, HN.out]) (by simp [rvC, rvO, HN.out, HE0.out]))
        · obtain ⟨z, hz⟩ : ∃ z, o = some z := by
            have := H.out.2.2.2.1
            cases o with
            | none => cases this
            | some z => exact ⟨z, rfl⟩
          have HOZ := hide hz
          have HS := hide (H.out.2.2.2.2 z hz)
          have HKZ : Hid (∀ w1, Below w3.heap.size w3 w1 → Calls Try.prog 41 #[.agg #[.int .i64 y.1.1, .int .i64 y.1.2.1, .string y.1.2.2, .slice y.2.1.1 y.2.2.length y.2.1.2]] w1 fun e w' => e = .returned (.int .i64 (chk (N + 1) z)) ∧ Below w1.heap.size w1 w') :=
            fun w1 h1 => HZ.out HE0.out y z w1 HOZ.out HS.out ((H.out.2.1.below h1).mono h1.size)
          obtain ⟨cz, hcz⟩ : ∃ cz, cz = chk (N + 1) z := ⟨_, rfl⟩
          rw [← hcz] at HKZ
          have HCZ := hide hcz
          have HQ := fun (w4 : World) (h4 : Below w3.heap.size w3 w4) (h0 : cz = 0) v0 v1 v2 v3 => hide (rv_some (E := E) HE0.out HOZ.out (HCZ.out.symm.trans h0) HB2.out (Nat.le_add_right _ 1) HBX2.out.2.2 H.out.1 H.out.2.1 H.out.2.2.1 HS.out h4 v0 v1 v2 v3)
          clear hz hcz HZ H HBX2 HB2
          go_wp2_with fail
          refine (HKZ.out _ ((Below.refl _ _).alloc (Nat.le_refl _) _)).mono ?_
          rintro e w4 ⟨rfl, hb4⟩
          obtain ⟨⟨t0, t1, t2, t3⟩, _⟩ := boxed hb4
          have HB4 : Hid (Below w3.heap.size w3 w4) := ((Below.refl _ _).alloc (Nat.le_refl _) _).trans (hb4.mono (by simp))
          have HBX4 := hide (HBX3.out.below HB4.out)
          have HW4 : Hid (Below w.heap.size w w4) := HB3.out.trans (HB4.out.mono HB3.out.size)
          obtain ⟨⟨z0, z1, z2, z3⟩, ⟨f0, f1, f2, f3⟩, hzq⟩ := HBX4.out
          have hne1 : ¬ (w.heap.size + 1 = w3.heap.size) := by have := HBX3.out.2.2; omega
          have hne2 : ¬ (w3.heap.size = w.heap.size + 1) := fun e => hne1 e.symm
          clear hb4 HKZ HBX3
          by_cases hz0 : cz = 0
          · have hc2 : (cz != 0) = false := by simp [hz0]
            have HT := fun v0 v1 v2 v3 => HQ w4 HB4.out hz0 v0 v1 v2 v3
            clear HQ hz0
            go_wp2_with fail
            exact bodyPost_ret (v := .tuple #[.agg #[.int .i64 y.1.1, .int .i64 y.1.2.1, .string y.1.2.2, .slice y.2.1.1 y.2.2.length y.2.1.2], .int .i64 0]) (by simp [results, Try.results34, go_sem, z0, z1, z2, z3]) rfl (HT _ _ _ _).out
          · have hc2 : (cz != 0) = true := by simpa using hz0
            have HNZ := hide hz0
            clear HQ hz0
            go_wp2_with fail
            exact bodyPost_ret (v := .tuple #[.agg #[.int .i64 0, .int .i64 0, .string .empty, .slice none 0 0], .int .i64 7]) (by simp [results, Try.results34, go_sem, z0, z1, z2, z3]; rfl) rfl (rv_none (put_below HW4.out (by omega) _ _ _ _) (by have h1 := HCZ.out; have h2 := HNZ.out; rw [h1] at h2; simp [rvO, HOZ.out, h2]) (by have h1 := HCZ.out; have h2 := HNZ.out; rw [h1] at h2; simp [rvC, rvO, HOZ.out, HE0.out, h2]))

theorem rvalue_any (n m : Nat) (x : Tm (n + 1)) (b : List (Tm m)) (a : Option Addr) (c B : Nat) (self : Int) (w : World) (hx : In B w (n + 1) x) (hb : Lies B w m b a) (hB : B ≤ w.heap.size) (hN : (nodes (n + 1) x).length ≤ 2097152) (hbl : b.length ≤ 9223372036854775807) (hNb : ∀ y ∈ b, (nodes m y).length ≤ 2097152) :
    Calls Try.prog 34 #[val (n + 1) x, .slice a b.length c, .int .i64 self] w (RvOut (m + n) (rvE (chk (n + 1) x) (bndB m b) self) (vl m b self (n + 1) x) w) := by
  refine rvalue_walk (m + n) _ a b.length c self x.1.1 x.1.2.1 x.1.2.2 x.2.1.1 x.2.2.length x.2.1.2 (chk (n + 1) x) (bndB m b) w ?_ ?_ ?_ ?_
  · intro w1 h1
    exact tcheck_any (n + 1) x B w1 (hx.below (h1.mono hB)) (Nat.le_trans hB h1.size) hN
  · intro w1 h1
    exact areB_any m b a c B w1 (hb.below (h1.mono hB)) hbl hNb (Nat.le_trans hB h1.size)
  · intro hE w1 h1
    obtain ⟨e1, e2, e3⟩ := rvE_zero hE
    have h4 := (bnd_ok e2).1
    rw [h4]
    exact value_any m b self e2 e3 (n + 1) x a c B w1 (hx.below (h1.mono hB)) (right_formed.2 (chk_iff.1 e1).1) (hb.below (h1.mono hB)) (Nat.le_trans hB h1.size)
  · intro hE y z w1 ho hs hin
    obtain ⟨e1, e2, e3⟩ := rvE_zero hE
    have hn := val_nodes e1 e2 ho
    have hk := tcheck_any (m + n + 1) y w1.heap.size w1 hin (Nat.le_refl _) (by rw [same_nlen _ _ _ _ hs]; exact hn)
    rw [same_chk hs] at hk
    exact hk
end Go.Proofs.Ytfaoeccnhbcjgab
