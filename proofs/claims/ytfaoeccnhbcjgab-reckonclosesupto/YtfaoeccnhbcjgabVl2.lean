/- What is proved here: what reckon's number and sum return, from what value returns. No condition but that. -/
import Derived.Test.YtfaoeccnhbcjgabVl1
namespace Go.Proofs.Ytfaoeccnhbcjgab
open Go.RowKit

/-- What value leaves. -/
def VOut (N : Nat) (o : Option (Tm N)) (w : World) (e : Ending) (w' : World) : Prop :=
  ∃ (y : Tm N) (r : Bool), e = .returned (.tuple #[val N y, .bool r]) ∧ Hid (Below w.heap.size w w' ∧ In w'.heap.size w' N y ∧ Off (fun q => w.heap.size ≤ q) N y ∧ r = o.isSome ∧ ∀ z, o = some z → same N y N z = true)
def FVal (m : Nat) (b : List (Tm m)) (self : Int) (n : Nat) : Prop := ∀ (x : Tm n) (a : Option Addr) (c B : Nat) (w : World), In B w n x → RightA ⟨n, x⟩ → Lies B w m b a → B ≤ w.heap.size →
  Calls Try.prog 58 #[.agg #[.slice a 4 c, .int .i64 self], val n x] w (VOut (m + n) (vl m b self n x) w)

/-- What number leaves. -/
def NOut {N : Nat} (o : Option (Tm N)) (w : World) (e : Ending) (w' : World) : Prop :=
  ∃ (u : Int) (r : Bool), e = .returned (.tuple #[.int .i64 u, .bool r]) ∧ Hid (Below w.heap.size w w' ∧ r = (o.isSome && o.all fun z => kindA ⟨N, z⟩ == 1) ∧ ∀ z, o = some z → u = numA N z)

theorem number_out {N : Nat} {o : Option (Tm (N + 1))} {w w1 w2 : World} {y : Tm (N + 1)} {r : Bool} (hb : Below w.heap.size w w2) (h : Below w1.heap.size w1 w2 ∧ In w2.heap.size w2 (N + 1) y ∧ Off (fun q => w1.heap.size ≤ q) (N + 1) y ∧ r = o.isSome ∧ ∀ z, o = some z → same (N + 1) y (N + 1) z = true) (r' : Bool) (hr : r' = (r && y.1.1 == 1)) :
    Below w.heap.size w w2 ∧ r' = (o.isSome && o.all fun z => kindA ⟨N + 1, z⟩ == 1) ∧ ∀ z, o = some z → y.1.2.1 = numA (N + 1) z := by
  obtain ⟨_, _, _, h4, h5⟩ := h
  refine ⟨hb, ?_, fun z hz => ?_⟩
  · rw [hr, h4]
    cases ho : o with
    | none => rfl
    | some z =>
      have := (same_parts (h5 z ho)).1
      simp [kindA, this]
  · have := (same_parts (h5 z hz)).1
    simp [numA, hdT, hdOf, this]

theorem two_below {w w' : World} {o1 o2 : Obj} (h : Below ((w.alloc o1).alloc o2).heap.size ((w.alloc o1).alloc o2) w') : Below w.heap.size w w' := by
  have h2 : Below w.heap.size w ((w.alloc o1).alloc o2) := ((Below.refl _ _).alloc (Nat.le_refl _) _).alloc (by simp) _
  exact h2.trans (h.mono h2.size)
set_option maxRecDepth 100000 in
theorem number_walk (N : Nat) (o : Option (Tm (N + 1))) (a : Option Addr) (c : Nat) (self : Int) (x0 x1 : Int) (x2 : ByteArray) (xa : Option Addr) (xl xc : Nat) (w : World)
    (HV : Hid (∀ w1, Below w.heap.size w w1 → Calls Try.prog 58 #[.agg #[.slice a 4 c, .int .i64 self], .agg #[.int .i64 x0, .int .i64 x1, .string x2, .slice xa xl xc]] w1 (VOut (N + 1) o w1))) :
    Calls Try.prog 86 #[.agg #[.slice a 4 c, .int .i64 self], .agg #[.int .i64 x0, .int .i64 x1, .string x2, .slice xa xl xc]] w (NOut o w) := by
  go_enter Try.func86, Try.ntmps86
  go_wp2_with fail
  refine (HV.out _ (((Below.refl _ _).alloc (Nat.le_refl _) _).alloc (by simp) _)).mono ?_
  rintro e w2 ⟨y, r, rfl, H⟩
  have HB : Hid (Below w.heap.size w w2) := two_below H.out.1
  have e3 : val (N + 1) y = .agg #[.int .i64 y.1.1, .int .i64 y.1.2.1, .string y.1.2.2, .slice y.2.1.1 y.2.2.length y.2.1.2] := rfl
  rw [e3]
  clear e3 HV
  have HN := fun r' hr => hide (number_out HB.out H.out r' hr)
  clear HB H
  have HB2 : Hid (∀ o : Obj, Below w.heap.size w w2 → Below w.heap.size w (w2.alloc o).drew) := fun o h => (h.alloc h.size o).drew
  cases r
  · go_wp2_with fail
    go_region
    go_wp2_with fail
    go_ret2
    have h := (HN false rfl).out
    exact ⟨_, _, rfl, HB2.out _ h.1, h.2⟩
  · go_wp2_with fail
    go_region
    go_wp2_with fail
    go_ret2
    have h := (HN _ rfl).out
    exact ⟨_, _, rfl, HB2.out _ h.1, h.2⟩

def Lim {N : Nat} (o : Option (Tm N)) : Prop := ∀ z, o = some z → kindA ⟨N, z⟩ = 1 → -1099511627776 ≤ numA N z ∧ numA N z ≤ 1099511627776
def sumO {N : Nat} (o1 o2 : Option (Tm N)) : Option (Tm (N + 1)) := o1.bind fun a => o2.bind fun c => sumV N a c
theorem sumO_no {N : Nat} {o1 o2 : Option (Tm N)} (h : (o1.isSome && o1.all fun z => kindA ⟨N, z⟩ == 1) = false) : sumO o1 o2 = none := by
  cases o1 with
  | none => rfl
  | some a =>
    simp at h
    cases o2 with
    | none => rfl
    | some c => simp [sumO, sumV, sumB, h]
theorem sumO_no2 {N : Nat} {o1 o2 : Option (Tm N)} (h : (o2.isSome && o2.all fun z => kindA ⟨N, z⟩ == 1) = false) : sumO o1 o2 = none := by
  cases o1 with
  | none => rfl
  | some a =>
    cases o2 with
    | none => rfl
    | some c =>
      simp at h
      simp [sumO, sumV, sumB, h]
theorem sumO_yes {N : Nat} {o1 o2 : Option (Tm N)} {u v : Int} (h1 : true = (o1.isSome && o1.all fun z => kindA ⟨N, z⟩ == 1)) (h2 : true = (o2.isSome && o2.all fun z => kindA ⟨N, z⟩ == 1)) (k1 : ∀ z, o1 = some z → u = numA N z) (k2 : ∀ z, o2 = some z → v = numA N z) (l1 : Lim o1) (l2 : Lim o2) :
    sumO o1 o2 = (if -1099511627776 ≤ u + v ∧ u + v ≤ 1099511627776 then some (leafV 1 (u + v) N) else none) ∧ (-1099511627776 ≤ u ∧ u ≤ 1099511627776) ∧ (-1099511627776 ≤ v ∧ v ≤ 1099511627776) := by
  cases o1 with
  | none => simp at h1
  | some a =>
    cases o2 with
    | none => simp at h2
    | some c =>
      have e1 : kindA ⟨N, a⟩ = 1 := by simpa using h1.symm
      have e2 : kindA ⟨N, c⟩ = 1 := by simpa using h2.symm
      rw [k1 a rfl, k2 c rfl]
      refine ⟨?_, l1 a rfl e1, l2 c rfl e2⟩
      simp [sumO, sumV, sumB, e1, e2, inB]
theorem i64_zero : I64 0 := by simp [I64]
theorem leaf_out (N : Nat) (k u : Int) (hk : I64 k) (hu : I64 u) (B : Nat) (w : World) (P : Nat → Prop) : In B w (N + 1) (leafV k u N) ∧ Off P (N + 1) (leafV k u N) :=
  ⟨⟨⟨hk, hu, Nat.zero_le _, Nat.zero_le _, Nat.zero_le _⟩, Or.inl rfl⟩, Or.inl rfl⟩
theorem leaf_val (N : Nat) (k u : Int) : val (N + 1) (leafV k u N) = .agg #[.int .i64 k, .int .i64 u, .string .empty, .slice none 0 0] := rfl
theorem leaf_same (N : Nat) (k u : Int) : same (N + 1) (leafV k u N) (N + 1) (leafV k u N) = true := same_mk rfl rfl
theorem vout_none {N : Nat} {w w' : World} (hb : Below w.heap.size w w') : VOut (N + 1) none w (.returned (.tuple #[.agg #[.int .i64 0, .int .i64 0, .string .empty, .slice none 0 0], .bool false])) w' :=
  ⟨leafV 0 0 N, false, rfl, hb, (leaf_out N 0 0 i64_zero i64_zero _ _ (fun _ => True)).1, (leaf_out N 0 0 i64_zero i64_zero 0 w _).2, rfl, fun z hz => by cases hz⟩
theorem vout_leaf {N : Nat} {w w' : World} (hb : Below w.heap.size w w') (k u : Int) (hk : I64 k) (hu : I64 u) : VOut (N + 1) (some (leafV k u N)) w (.returned (.tuple #[.agg #[.int .i64 k, .int .i64 u, .string .empty, .slice none 0 0], .bool true])) w' :=
  ⟨leafV k u N, true, rfl, hb, (leaf_out N k u hk hu _ _ (fun _ => True)).1, (leaf_out N k u hk hu 0 w _).2, rfl, fun z hz => by obtain rfl := Option.some.inj hz; exact leaf_same N k u⟩

/-- Four boxes. -/
theorem four_below (w : World) (o1 o2 o3 o4 : Obj) : Below w.heap.size w ((((w.alloc o1).alloc o2).alloc o3).alloc o4) := ((((Below.refl _ _).alloc (Nat.le_refl _) _).alloc (by simp) _).alloc (by simp; omega) _).alloc (by simp; omega) _
/-- A box of zeros, for what is returned. -/
def Box0 (q : Nat) (w : World) : Prop := (w.cell? ⟨q, 0, none⟩ = some (.int .i64 0) ∧ w.cell? ⟨q, 1, none⟩ = some (.int .i64 0) ∧ w.cell? ⟨q, 2, none⟩ = some (.string .empty) ∧ w.cell? ⟨q, 3, none⟩ = some (.slice none 0 0)) ∧ (w.frozen? ⟨q, 0, none⟩ = false ∧ w.frozen? ⟨q, 1, none⟩ = false ∧ w.frozen? ⟨q, 2, none⟩ = false ∧ w.frozen? ⟨q, 3, none⟩ = false) ∧ q < w.heap.size
theorem Box0.below {q : Nat} {w w' : World} (h : Box0 q w) (hb : Below w.heap.size w w') : Box0 q w' := by
  obtain ⟨⟨h0, h1, h2, h3⟩, ⟨f0, f1, f2, f3⟩, hq⟩ := h
  have hc := fun o => hb.cell (p := ⟨q, o, none⟩) hq
  have hf := fun o => hb.frozen (p := ⟨q, o, none⟩) hq
  exact ⟨⟨(hc 0).trans h0, (hc 1).trans h1, (hc 2).trans h2, (hc 3).trans h3⟩, ⟨(hf 0).trans f0, (hf 1).trans f1, (hf 2).trans f2, (hf 3).trans f3⟩, Nat.lt_of_lt_of_le hq hb.size⟩
theorem four_cells {w w' : World} {s0 s1 x0 x1 x2 x3 y0 y1 y2 y3 : Value} {t1 t2 t3 t4 : TypeId} (h : Below ((((w.alloc (.cells #[s0, s1] t1)).alloc (.cells #[x0, x1, x2, x3] t2)).alloc (.cells #[y0, y1, y2, y3] t3)).alloc (.cells #[.int .i64 0, .int .i64 0, .string .empty, .slice none 0 0] t4)).heap.size ((((w.alloc (.cells #[s0, s1] t1)).alloc (.cells #[x0, x1, x2, x3] t2)).alloc (.cells #[y0, y1, y2, y3] t3)).alloc (.cells #[.int .i64 0, .int .i64 0, .string .empty, .slice none 0 0] t4)) w') :
    (w'.cell? ⟨w.heap.size, 0, none⟩ = some s0 ∧ w'.cell? ⟨w.heap.size, 1, none⟩ = some s1) ∧
    (w'.cell? ⟨w.heap.size + 1 + 1, 0, none⟩ = some y0 ∧ w'.cell? ⟨w.heap.size + 1 + 1, 1, none⟩ = some y1 ∧ w'.cell? ⟨w.heap.size + 1 + 1, 2, none⟩ = some y2 ∧ w'.cell? ⟨w.heap.size + 1 + 1, 3, none⟩ = some y3) ∧ Box0 (w.heap.size + 1 + 1 + 1) w' := by
  have hs := h.size
  simp at hs
  have hc := fun o => h.cell (p := ⟨w.heap.size, o, none⟩) (by simp; omega)
  have hd := fun o => h.cell (p := ⟨w.heap.size + 1 + 1, o, none⟩) (by simp; try omega)
  have hz := fun o => h.cell (p := ⟨w.heap.size + 1 + 1 + 1, o, none⟩) (by simp)
  have hf := fun o => h.frozen (p := ⟨w.heap.size + 1 + 1 + 1, o, none⟩) (by simp)
  exact ⟨⟨(hc 0).trans (by simp [go_sem]), (hc 1).trans (by simp [go_sem])⟩, ⟨(hd 0).trans (by simp [go_sem]), (hd 1).trans (by simp [go_sem]), (hd 2).trans (by simp [go_sem]), (hd 3).trans (by simp [go_sem])⟩,
    ⟨(hz 0).trans (by simp [go_sem]), (hz 1).trans (by simp [go_sem]), (hz 2).trans (by simp [go_sem]), (hz 3).trans (by simp [go_sem])⟩, ⟨(hf 0).trans (by simp [go_sem]), (hf 1).trans (by simp [go_sem]), (hf 2).trans (by simp [go_sem]), (hf 3).trans (by simp [go_sem])⟩, by omega⟩
theorem put_below {w w' : World} {q : Nat} (h : Below w.heap.size w w') (hq : w.heap.size ≤ q) (v0 v1 v2 v3 : Value) : Below w.heap.size w (put4 w' q 0 v0 v1 v2 v3) :=
  ⟨h.os, h.tape, h.output, Nat.le_trans h.size (Nat.le_of_eq (put4_size _ _ _ _).symm), fun k hk => (put4_block (by omega) _ _ _ _).trans (h.block k hk)⟩
set_option maxHeartbeats 1000000 in
set_option maxRecDepth 100000 in
theorem sum_walk (N : Nat) (o1 o2 : Option (Tm N)) (l1 : Hid (Lim o1)) (l2 : Hid (Lim o2)) (a : Option Addr) (c : Nat) (self : Int) (x0 x1 : Int) (x2 : ByteArray) (xa : Option Addr) (xl xc : Nat) (y0 y1 : Int) (y2 : ByteArray) (ya : Option Addr) (yl yc : Nat) (w : World)
    (HX : Hid (∀ w1, Below w.heap.size w w1 → Calls Try.prog 86 #[.agg #[.slice a 4 c, .int .i64 self], .agg #[.int .i64 x0, .int .i64 x1, .string x2, .slice xa xl xc]] w1 (NOut o1 w1)))
    (HY : Hid (∀ w1, Below w.heap.size w w1 → Calls Try.prog 86 #[.agg #[.slice a 4 c, .int .i64 self], .agg #[.int .i64 y0, .int .i64 y1, .string y2, .slice ya yl yc]] w1 (NOut o2 w1))) :
    Calls Try.prog 82 #[.agg #[.slice a 4 c, .int .i64 self], .agg #[.int .i64 x0, .int .i64 x1, .string x2, .slice xa xl xc], .agg #[.int .i64 y0, .int .i64 y1, .string y2, .slice ya yl yc]] w (VOut (N + 1) (sumO o1 o2) w) := by
  obtain ⟨o, ho⟩ : ∃ o, o = sumO o1 o2 := ⟨_, rfl⟩
  rw [← ho]
  have HO := hide ho
  clear ho
  go_enter Try.func82, Try.ntmps82
  go_wp2_with fail
  refine (HX.out _ (four_below _ _ _ _ _)).mono ?_
  rintro e w2 ⟨u, r, rfl, H⟩
  obtain ⟨⟨s0, s1⟩, ⟨d0, d1, d2, d3⟩, hbx⟩ := four_cells H.out.1
  have HBX := hide hbx
  have HB : Hid (Below w.heap.size w w2) := (four_below _ _ _ _ _).trans (H.out.1.mono (four_below _ _ _ _ _).size)
  have HR : Hid (r = _ ∧ _) := H.out.2
  clear HX H hbx
  cases r
  · have HF2 : Hid (o = none) := HO.out.trans (sumO_no HR.out.1.symm)
    obtain ⟨⟨z0, z1, z2, z3⟩, ⟨f0, f1, f2, f3⟩, _⟩ := HBX.out
    go_wp2_with fail
    rw [HF2.out]
    exact bodyPost_ret (v := .tuple #[.agg #[.int .i64 0, .int .i64 0, .string .empty, .slice none 0 0], .bool false]) (by simp [results, Try.results82, go_sem, z0, z1, z2, z3]; rfl) rfl (vout_none (put_below HB.out (by omega) _ _ _ _))
  · go_wp2_with fail
    refine (HY.out _ HB.out).mono ?_
    rintro e w3 ⟨v, r, rfl, H⟩
    have HB3 : Hid (Below w.heap.size w w3) := HB.out.trans (H.out.1.mono HB.out.size)
    have HR3 : Hid (r = _ ∧ _) := H.out.2
    have HBX3 := hide (HBX.out.below H.out.1)
    obtain ⟨⟨z0, z1, z2, z3⟩, ⟨f0, f1, f2, f3⟩, _⟩ := HBX3.out
    clear HY H HB s0 s1 d0 d1 d2 d3 HBX
    cases r
    · have HF2 : Hid (o = none) := HO.out.trans (sumO_no2 HR3.out.1.symm)
      go_wp2_with fail
      rw [HF2.out]
      exact bodyPost_ret (v := .tuple #[.agg #[.int .i64 0, .int .i64 0, .string .empty, .slice none 0 0], .bool false]) (by simp [results, Try.results82, go_sem, z0, z1, z2, z3]; rfl) rfl (vout_none (put_below HB3.out (by omega) _ _ _ _))
    · obtain ⟨es, ⟨u1, u2⟩, v1, v2⟩ := sumO_yes HR.out.1 HR3.out.1 HR.out.2 HR3.out.2 l1.out l2.out
      have HF : Hid (o = if -1099511627776 ≤ u + v ∧ u + v ≤ 1099511627776 then some (leafV 1 (u + v) N) else none) := HO.out.trans es
      have e1 : IntKind.i64.wrap (u + v) = u + v := by rw [IntKind.wrap]; simp [IntKind.bits, IntKind.signed]; omega
      clear HO HR HR3 es l1 l2
      by_cases h1 : u + v < -1099511627776
      · have b1 : decide (u + v < -1099511627776) = true := by simpa using h1
        have HF2 : Hid (o = none) := HF.out.trans (if_neg (by omega))
        go_wp2_with fail
        rw [HF2.out]
        exact bodyPost_ret (v := .tuple #[.agg #[.int .i64 0, .int .i64 0, .string .empty, .slice none 0 0], .bool false]) (by simp [results, Try.results82, go_sem, z0, z1, z2, z3]; rfl) rfl (vout_none (put_below HB3.out (by omega) _ _ _ _))
      · have b1 : decide (u + v < -1099511627776) = false := by simpa using h1
        by_cases h2 : 1099511627776 < u + v
        · have b2 : decide (1099511627776 < u + v) = true := by simpa using h2
          have HF2 : Hid (o = none) := HF.out.trans (if_neg (by omega))
          go_wp2_with fail
          rw [HF2.out]
          exact bodyPost_ret (v := .tuple #[.agg #[.int .i64 0, .int .i64 0, .string .empty, .slice none 0 0], .bool false]) (by simp [results, Try.results82, go_sem, z0, z1, z2, z3]; rfl) rfl (vout_none (put_below HB3.out (by omega) _ _ _ _))
        · have b2 : decide (1099511627776 < u + v) = false := by simpa using h2
          have HF2 : Hid (o = some (leafV 1 (u + v) N)) := HF.out.trans (if_pos (by omega))
          go_wp2_with fail
          rw [HF2.out]
          exact bodyPost_ret (v := .tuple #[.agg #[.int .i64 1, .int .i64 (u + v), .string .empty, .slice none 0 0], .bool true]) (by simp [results, Try.results82, go_sem, z0, z1, z2, z3]; rfl) rfl (vout_leaf (put_below HB3.out (by omega) _ _ _ _) 1 (u + v) (by simp [I64]) ⟨by omega, by omega⟩)
end Go.Proofs.Ytfaoeccnhbcjgab
