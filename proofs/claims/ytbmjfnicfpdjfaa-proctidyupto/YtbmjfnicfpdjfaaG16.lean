/- What is proved here: plain facts and contracts that the claimed theorem stands on, several texts in one: what reckon's number and sum return, from what value returns. No condition but that. reckon's tupleOfValues of right terms that lie in memory, from what value returns of each. No condition but that. reckon's valueOfTuple of right terms that lie in memory, from what value returns of each part. No condition but that. reckon's value of a right term that lies in memory, from what it returns of its parts. No condition but that. -/
import Derived.Test.YtbmjfnicfpdjfaaG09
import Derived.Deep.RegionHeld3
namespace Go.Proofs.Ytbmjfnicfpdjfaa
open Go.RowKit

/-- What value leaves. -/
def VOut (N : Nat) (o : Option (Tm N)) (w : World) (e : Ending) (w' : World) : Prop :=
  ∃ (y : Tm N) (r : Bool), e = .returned (.tuple #[val N y, .bool r]) ∧ Hid (Below w.heap.size w w' ∧ In w'.heap.size w' N y ∧ Off (fun q => w.heap.size ≤ q) N y ∧ r = o.isSome ∧ ∀ z, o = some z → same N y N z = true)
def FVal (m : Nat) (b : List (Tm m)) (self : Int) (n : Nat) : Prop := ∀ (x : Tm n) (a : Option Addr) (c B : Nat) (w : World), In B w n x → RightA ⟨n, x⟩ → Lies B w m b a → B ≤ w.heap.size →
  Calls Try.prog 78 #[.agg #[.slice a 4 c, .int .i64 self], val n x] w (VOut (m + n) (vl m b self n x) w)

/-- What number leaves. -/
def NOut {N : Nat} (o : Option (Tm N)) (w : World) (e : Ending) (w' : World) : Prop :=
  ∃ (u : Int) (r : Bool), e = .returned (.tuple #[.int .i64 u, .bool r]) ∧ Hid (Below w.heap.size w w' ∧ r = (o.isSome && o.all fun z => kindA ⟨N, z⟩ == 1) ∧ ∀ z, o = some z → u = numA N z)

theorem number_out {N : Nat} {o : Option (Tm (N + 1))} {w w1 w2 : World} {y : Tm (N + 1)} {r : Bool} (hb : Below w.heap.size w w2) (h : Below w1.heap.size w1 w2 ∧ In w2.heap.size w2 (N + 1) y ∧ Off (fun q => w1.heap.size ≤ q) (N + 1) y ∧ r = o.isSome ∧ ∀ z, o = some z → same (N + 1) y (N + 1) z = true) (r' : Bool) (hr : r' = (r && y.1.1 == 1)) :
    Below w.heap.size w w2 ∧ r' = (o.isSome && o.all fun z => kindA ⟨N + 1, z⟩ == 1) ∧ ∀ z, o = some z → y.1.2.1 = numA (N + 1) z := by
  obtain ⟨_, _, _, h4, h5⟩ := h
  refine ⟨hb, ?_, fun z hz => ?_⟩
  · rw [hr, h4]
    cases ho : o with
    | none => rfl
    | some z =>
      have := (same_parts (h5 z ho)).1
      simp [kindA, this]
  · have := (same_parts (h5 z hz)).1
    simp [numA, hdT, hdOf, this]

theorem two_below {w w' : World} {o1 o2 : Obj} (h : Below ((w.alloc o1).alloc o2).heap.size ((w.alloc o1).alloc o2) w') : Below w.heap.size w w' := by
  have h2 : Below w.heap.size w ((w.alloc o1).alloc o2) := ((Below.refl _ _).alloc (Nat.le_refl _) _).alloc (by simp) _
  exact h2.trans (h.mono h2.size)
set_option maxRecDepth 100000 in
theorem number_walk (N : Nat) (o : Option (Tm (N + 1))) (a : Option Addr) (c : Nat) (self : Int) (x0 x1 : Int) (x2 : ByteArray) (xa : Option Addr) (xl xc : Nat) (w : World)
    (HV : Hid (∀ w1, Below w.heap.size w w1 → Calls Try.prog 78 #[.agg #[.slice a 4 c, .int .i64 self], .agg #[.int .i64 x0, .int .i64 x1, .string x2, .slice xa xl xc]] w1 (VOut (N + 1) o w1))) :
    Calls Try.prog 103 #[.agg #[.slice a 4 c, .int .i64 self], .agg #[.int .i64 x0, .int .i64 x1, .string x2, .slice xa xl xc]] w (NOut o w) := by
  go_enter Try.func103, Try.ntmps103
  go_wp2_with fail
  refine (HV.out _ (((Below.refl _ _).alloc (Nat.le_refl _) _).alloc (by simp) _)).mono ?_
  rintro e w2 ⟨y, r, rfl, H⟩
  have HB : Hid (Below w.heap.size w w2) := two_below H.out.1
  have e3 : val (N + 1) y = .agg #[.int .i64 y.1.1, .int .i64 y.1.2.1, .string y.1.2.2, .slice y.2.1.1 y.2.2.length y.2.1.2] := rfl
  rw [e3]
  clear e3 HV
  have HN := fun r' hr => hide (number_out HB.out H.out r' hr)
  clear HB H
  have HB2 : Hid (∀ o : Obj, Below w.heap.size w w2 → Below w.heap.size w (w2.alloc o).drew) := fun o h => (h.alloc h.size o).drew
  cases r
  · go_wp2_with fail
    go_region
    go_wp2_with fail
    go_ret2
    have h := (HN false rfl).out
    exact ⟨_, _, rfl, HB2.out _ h.1, h.2⟩
  · go_wp2_with fail
    go_region
    go_wp2_with fail
    go_ret2
    have h := (HN _ rfl).out
    exact ⟨_, _, rfl, HB2.out _ h.1, h.2⟩

def Lim {N : Nat} (o : Option (Tm N)) : Prop := ∀ z, o = some z → kindA ⟨N, z⟩ = 1 → -1099511627776 ≤ numA N z ∧ numA N z ≤ 1099511627776
def sumO {N : Nat} (o1 o2 : Option (Tm N)) : Option (Tm (N + 1)) := o1.bind fun a => o2.bind fun c => sumV N a c
theorem sumO_no {N : Nat} {o1 o2 : Option (Tm N)} (h : (o1.isSome && o1.all fun z => kindA ⟨N, z⟩ == 1) = false) : sumO o1 o2 = none := by
  cases o1 with
  | none => rfl
  | some a =>
    simp at h
    cases o2 with
    | none => rfl
    | some c => simp [sumO, sumV, sumB, h]
theorem sumO_no2 {N : Nat} {o1 o2 : Option (Tm N)} (h : (o2.isSome && o2.all fun z => kindA ⟨N, z⟩ == 1) = false) : sumO o1 o2 = none := by
  cases o1 with
  | none => rfl
  | some a =>
    cases o2 with
    | none => rfl
    | some c =>
      simp at h
      simp [sumO, sumV, sumB, h]
theorem sumO_yes {N : Nat} {o1 o2 : Option (Tm N)} {u v : Int} (h1 : true = (o1.isSome && o1.all fun z => kindA ⟨N, z⟩ == 1)) (h2 : true = (o2.isSome && o2.all fun z => kindA ⟨N, z⟩ == 1)) (k1 : ∀ z, o1 = some z → u = numA N z) (k2 : ∀ z, o2 = some z → v = numA N z) (l1 : Lim o1) (l2 : Lim o2) :
    sumO o1 o2 = (if -1099511627776 ≤ u + v ∧ u + v ≤ 1099511627776 then some (leafV 1 (u + v) N) else none) ∧ (-1099511627776 ≤ u ∧ u ≤ 1099511627776) ∧ (-1099511627776 ≤ v ∧ v ≤ 1099511627776) := by
  cases o1 with
  | none => simp at h1
  | some a =>
    cases o2 with
    | none => simp at h2
    | some c =>
      have e1 : kindA ⟨N, a⟩ = 1 := by simpa using h1.symm
      have e2 : kindA ⟨N, c⟩ = 1 := by simpa using h2.symm
      rw [k1 a rfl, k2 c rfl]
      refine ⟨?_, l1 a rfl e1, l2 c rfl e2⟩
      simp [sumO, sumV, sumB, e1, e2, inB]
theorem i64_zero : I64 0 := by simp [I64]
theorem leaf_out (N : Nat) (k u : Int) (hk : I64 k) (hu : I64 u) (B : Nat) (w : World) (P : Nat → Prop) : In B w (N + 1) (leafV k u N) ∧ Off P (N + 1) (leafV k u N) :=
  ⟨⟨⟨hk, hu, Nat.zero_le _, Nat.zero_le _, Nat.zero_le _⟩, Or.inl rfl⟩, Or.inl rfl⟩
theorem leaf_val (N : Nat) (k u : Int) : val (N + 1) (leafV k u N) = .agg #[.int .i64 k, .int .i64 u, .string .empty, .slice none 0 0] := rfl
theorem leaf_same (N : Nat) (k u : Int) : same (N + 1) (leafV k u N) (N + 1) (leafV k u N) = true := same_mk rfl rfl
theorem vout_none {N : Nat} {w w' : World} (hb : Below w.heap.size w w') : VOut (N + 1) none w (.returned (.tuple #[.agg #[.int .i64 0, .int .i64 0, .string .empty, .slice none 0 0], .bool false])) w' :=
  ⟨leafV 0 0 N, false, rfl, hb, (leaf_out N 0 0 i64_zero i64_zero _ _ (fun _ => True)).1, (leaf_out N 0 0 i64_zero i64_zero 0 w _).2, rfl, fun z hz => by cases hz⟩
theorem vout_leaf {N : Nat} {w w' : World} (hb : Below w.heap.size w w') (k u : Int) (hk : I64 k) (hu : I64 u) : VOut (N + 1) (some (leafV k u N)) w (.returned (.tuple #[.agg #[.int .i64 k, .int .i64 u, .string .empty, .slice none 0 0], .bool true])) w' :=
  ⟨leafV k u N, true, rfl, hb, (leaf_out N k u hk hu _ _ (fun _ => True)).1, (leaf_out N k u hk hu 0 w _).2, rfl, fun z hz => by obtain rfl := Option.some.inj hz; exact leaf_same N k u⟩

/-- Four boxes. -/
theorem four_below (w : World) (o1 o2 o3 o4 : Obj) : Below w.heap.size w ((((w.alloc o1).alloc o2).alloc o3).alloc o4) := ((((Below.refl _ _).alloc (Nat.le_refl _) _).alloc (by simp) _).alloc (by simp; omega) _).alloc (by simp; omega) _
/-- A box of zeros, for what is returned. -/
def Box0 (q : Nat) (w : World) : Prop := (w.cell? ⟨q, 0, none⟩ = some (.int .i64 0) ∧ w.cell? ⟨q, 1, none⟩ = some (.int .i64 0) ∧ w.cell? ⟨q, 2, none⟩ = some (.string .empty) ∧ w.cell? ⟨q, 3, none⟩ = some (.slice none 0 0)) ∧ (w.frozen? ⟨q, 0, none⟩ = false ∧ w.frozen? ⟨q, 1, none⟩ = false ∧ w.frozen? ⟨q, 2, none⟩ = false ∧ w.frozen? ⟨q, 3, none⟩ = false) ∧ q < w.heap.size
theorem Box0.below {q : Nat} {w w' : World} (h : Box0 q w) (hb : Below w.heap.size w w') : Box0 q w' := by
  obtain ⟨⟨h0, h1, h2, h3⟩, ⟨f0, f1, f2, f3⟩, hq⟩ := h
  have hc := fun o => hb.cell (p := ⟨q, o, none⟩) hq
  have hf := fun o => hb.frozen (p := ⟨q, o, none⟩) hq
  exact ⟨⟨(hc 0).trans h0, (hc 1).trans h1, (hc 2).trans h2, (hc 3).trans h3⟩, ⟨(hf 0).trans f0, (hf 1).trans f1, (hf 2).trans f2, (hf 3).trans f3⟩, Nat.lt_of_lt_of_le hq hb.size⟩
theorem four_cells {w w' : World} {s0 s1 x0 x1 x2 x3 y0 y1 y2 y3 : Value} {t1 t2 t3 t4 : TypeId} (h : Below ((((w.alloc (.cells #[s0, s1] t1)).alloc (.cells #[x0, x1, x2, x3] t2)).alloc (.cells #[y0, y1, y2, y3] t3)).alloc (.cells #[.int .i64 0, .int .i64 0, .string .empty, .slice none 0 0] t4)).heap.size ((((w.alloc (.cells #[s0, s1] t1)).alloc (.cells #[x0, x1, x2, x3] t2)).alloc (.cells #[y0, y1, y2, y3] t3)).alloc (.cells #[.int .i64 0, .int .i64 0, .string .empty, .slice none 0 0] t4)) w') :
    (w'.cell? ⟨w.heap.size, 0, none⟩ = some s0 ∧ w'.cell? ⟨w.heap.size, 1, none⟩ = some s1) ∧
    (w'.cell? ⟨w.heap.size + 1 + 1, 0, none⟩ = some y0 ∧ w'.cell? ⟨w.heap.size + 1 + 1, 1, none⟩ = some y1 ∧ w'.cell? ⟨w.heap.size + 1 + 1, 2, none⟩ = some y2 ∧ w'.cell? ⟨w.heap.size + 1 + 1, 3, none⟩ = some y3) ∧ Box0 (w.heap.size + 1 + 1 + 1) w' := by
  have hs := h.size
  simp at hs
  have hc := fun o => h.cell (p := ⟨w.heap.size, o, none⟩) (by simp; omega)
  have hd := fun o => h.cell (p := ⟨w.heap.size + 1 + 1, o, none⟩) (by simp; try omega)
  have hz := fun o => h.cell (p := ⟨w.heap.size + 1 + 1 + 1, o, none⟩) (by simp)
  have hf := fun o => h.frozen (p := ⟨w.heap.size + 1 + 1 + 1, o, none⟩) (by simp)
  exact ⟨⟨(hc 0).trans (by simp [go_sem]), (hc 1).trans (by simp [go_sem])⟩, ⟨(hd 0).trans (by simp [go_sem]), (hd 1).trans (by simp [go_sem]), (hd 2).trans (by simp [go_sem]), (hd 3).trans (by simp [go_sem])⟩,
    ⟨(hz 0).trans (by simp [go_sem]), (hz 1).trans (by simp [go_sem]), (hz 2).trans (by simp [go_sem]), (hz 3).trans (by simp [go_sem])⟩, ⟨(hf 0).trans (by simp [go_sem]), (hf 1).trans (by simp [go_sem]), (hf 2).trans (by simp [go_sem]), (hf 3).trans (by simp [go_sem])⟩, by omega⟩
theorem put_below {w w' : World} {q : Nat} (h : Below w.heap.size w w') (hq : w.heap.size ≤ q) (v0 v1 v2 v3 : Value) : Below w.heap.size w (put4 w' q 0 v0 v1 v2 v3) :=
  ⟨h.os, h.tape, h.output, Nat.le_trans h.size (Nat.le_of_eq (put4_size _ _ _ _).symm), fun k hk => (put4_block (by omega) _ _ _ _).trans (h.block k hk)⟩
set_option maxHeartbeats 1000000 in
set_option maxRecDepth 100000 in
theorem sum_walk (N : Nat) (o1 o2 : Option (Tm N)) (l1 : Hid (Lim o1)) (l2 : Hid (Lim o2)) (a : Option Addr) (c : Nat) (self : Int) (x0 x1 : Int) (x2 : ByteArray) (xa : Option Addr) (xl xc : Nat) (y0 y1 : Int) (y2 : ByteArray) (ya : Option Addr) (yl yc : Nat) (w : World)
    (HX : Hid (∀ w1, Below w.heap.size w w1 → Calls Try.prog 103 #[.agg #[.slice a 4 c, .int .i64 self], .agg #[.int .i64 x0, .int .i64 x1, .string x2, .slice xa xl xc]] w1 (NOut o1 w1)))
    (HY : Hid (∀ w1, Below w.heap.size w w1 → Calls Try.prog 103 #[.agg #[.slice a 4 c, .int .i64 self], .agg #[.int .i64 y0, .int .i64 y1, .string y2, .slice ya yl yc]] w1 (NOut o2 w1))) :
    Calls Try.prog 99 #[.agg #[.slice a 4 c, .int .i64 self], .agg #[.int .i64 x0, .int .i64 x1, .string x2, .slice xa xl xc], .agg #[.int .i64 y0, .int .i64 y1, .string y2, .slice ya yl yc]] w (VOut (N + 1) (sumO o1 o2) w) := by
  obtain ⟨o, ho⟩ : ∃ o, o = sumO o1 o2 := ⟨_, rfl⟩
  rw [← ho]
  have HO := hide ho
  clear ho
  go_enter Try.func99, Try.ntmps99
  go_wp2_with fail
  refine (HX.out _ (four_below _ _ _ _ _)).mono ?_
  rintro e w2 ⟨u, r, rfl, H⟩
  obtain ⟨⟨s0, s1⟩, ⟨d0, d1, d2, d3⟩, hbx⟩ := four_cells H.out.1
  have HBX := hide hbx
  have HB : Hid (Below w.heap.size w w2) := (four_below _ _ _ _ _).trans (H.out.1.mono (four_below _ _ _ _ _).size)
  have HR : Hid (r = _ ∧ _) := H.out.2
  clear HX H hbx
  cases r
  · have HF2 : Hid (o = none) := HO.out.trans (sumO_no HR.out.1.symm)
    obtain ⟨⟨z0, z1, z2, z3⟩, ⟨f0, f1, f2, f3⟩, _⟩ := HBX.out
    go_wp2_with fail
    rw [HF2.out]
    exact bodyPost_ret (v := .tuple #[.agg #[.int .i64 0, .int .i64 0, .string .empty, .slice none 0 0], .bool false]) (by simp [results, Try.results99, go_sem, z0, z1, z2, z3]; rfl) rfl (vout_none (put_below HB.out (by omega) _ _ _ _))
  · go_wp2_with fail
    refine (HY.out _ HB.out).mono ?_
    rintro e w3 ⟨v, r, rfl, H⟩
    have HB3 : Hid (Below w.heap.size w w3) := HB.out.trans (H.out.1.mono HB.out.size)
    have HR3 : Hid (r = _ ∧ _) := H.out.2
    have HBX3 := hide (HBX.out.below H.out.1)
    obtain ⟨⟨z0, z1, z2, z3⟩, ⟨f0, f1, f2, f3⟩, _⟩ := HBX3.out
    clear HY H HB s0 s1 d0 d1 d2 d3 HBX
    cases r
    · have HF2 : Hid (o = none) := HO.out.trans (sumO_no2 HR3.out.1.symm)
      go_wp2_with fail
      rw [HF2.out]
      exact bodyPost_ret (v := .tuple #[.agg #[.int .i64 0, .int .i64 0, .string .empty, .slice none 0 0], .bool false]) (by simp [results, Try.results99, go_sem, z0, z1, z2, z3]; rfl) rfl (vout_none (put_below HB3.out (by omega) _ _ _ _))
    · obtain ⟨es, ⟨u1, u2⟩, v1, v2⟩ := sumO_yes HR.out.1 HR3.out.1 HR.out.2 HR3.out.2 l1.out l2.out
      have HF : Hid (o = if -1099511627776 ≤ u + v ∧ u + v ≤ 1099511627776 then some (leafV 1 (u + v) N) else none) := HO.out.trans es
      have e1 : IntKind.i64.wrap (u + v) = u + v := by rw [IntKind.wrap]; simp [IntKind.bits, IntKind.signed]; omega
      clear HO HR HR3 es l1 l2
      by_cases h1 : u + v < -1099511627776
      · have b1 : decide (u + v < -1099511627776) = true := by simpa using h1
        have HF2 : Hid (o = none) := HF.out.trans (if_neg (by omega))
        go_wp2_with fail
        rw [HF2.out]
        exact bodyPost_ret (v := .tuple #[.agg #[.int .i64 0, .int .i64 0, .string .empty, .slice none 0 0], .bool false]) (by simp [results, Try.results99, go_sem, z0, z1, z2, z3]; rfl) rfl (vout_none (put_below HB3.out (by omega) _ _ _ _))
      · have b1 : decide (u + v < -1099511627776) = false := by simpa using h1
        by_cases h2 : 1099511627776 < u + v
        · have b2 : decide (1099511627776 < u + v) = true := by simpa using h2
          have HF2 : Hid (o = none) := HF.out.trans (if_neg (by omega))
          go_wp2_with fail
          rw [HF2.out]
          exact bodyPost_ret (v := .tuple #[.agg #[.int .i64 0, .int .i64 0, .string .empty, .slice none 0 0], .bool false]) (by simp [results, Try.results99, go_sem, z0, z1, z2, z3]; rfl) rfl (vout_none (put_below HB3.out (by omega) _ _ _ _))
        · have b2 : decide (1099511627776 < u + v) = false := by simpa using h2
          have HF2 : Hid (o = some (leafV 1 (u + v) N)) := HF.out.trans (if_pos (by omega))
          go_wp2_with fail
          rw [HF2.out]
          exact bodyPost_ret (v := .tuple #[.agg #[.int .i64 1, .int .i64 (u + v), .string .empty, .slice none 0 0], .bool true]) (by simp [results, Try.results99, go_sem, z0, z1, z2, z3]; rfl) rfl (vout_leaf (put_below HB3.out (by omega) _ _ _ _) 1 (u + v) (by simp [I64]) ⟨by omega, by omega⟩)
end Go.Proofs.Ytbmjfnicfpdjfaa
namespace Go.Proofs.Ytbmjfnicfpdjfaa
open Go.RowKit

/-- The values of a row, where there are any. -/
def vals {n N : Nat} (f : Tm n → Option (Tm N)) (p : List (Tm n)) : List (Tm N) := p.map fun y => (f y).getD (lift N 0 ())
def Had {n N : Nat} (f : Tm n → Option (Tm N)) (p : List (Tm n)) (k : Nat) : Prop := ∀ (i : Nat) (y : Tm n), i < k → p[i]? = some y → (f y).isSome = true
theorem vals_all {n N : Nat} {f : Tm n → Option (Tm N)} {p : List (Tm n)} {k : Nat} (h : Had f p k) (hk : p.length ≤ k) : allV f p = some (vals f p) := by
  refine allV_some f _ p fun y hy => ?_
  obtain ⟨i, hi⟩ := List.getElem?_of_mem hy
  have hlt := (List.getElem?_eq_some_iff.1 hi).1
  have := h i y (by omega) hi
  cases hf : f y with
  | none => rw [hf] at this; cases this
  | some z => rfl
theorem Had.next {n N : Nat} {f : Tm n → Option (Tm N)} {p : List (Tm n)} {k : Nat} {x : Tm n} (h : Had f p k) (hx : p[k]? = some x) (hf : true = (f x).isSome) : Had f p (k + 1) := by
  intro i y hi hy
  by_cases e : i = k
  · subst e
    rw [hx] at hy
    obtain rfl := Option.some.inj hy
    exact hf.symm
  · exact h i y (by omega) hy
theorem vals_at {n N : Nat} {f : Tm n → Option (Tm N)} {p : List (Tm n)} {k : Nat} {x : Tm n} (hx : p[k]? = some x) (hf : true = (f x).isSome) : ∃ z, (vals f p)[k]? = some z ∧ f x = some z := by
  cases h : f x with
  | none => rw [h] at hf; cases hf
  | some z => exact ⟨z, by simp [vals, hx, h], rfl⟩

/-- What tupleOfValues leaves, when all have a value. -/
theorem tuple_out {N : Nat} {P : List (Tm N)} {w wr : World} {g len k : Nat} {l : List (Tm N)} (h : CpP N P len g k l wr) (hl : P.length = len) (hk : k = len) (hb : Below w.heap.size w wr) (hm : len ≤ 8) (q : Nat) (hq : w.heap.size ≤ q) (hq0 : q < g) (v0 v1 v2 v3 : Value) :
    VOut (N + 1) (some (tupV N P)) w (.returned (.tuple #[.agg #[.int .i64 4, .int .i64 0, .string .empty, .slice (some ⟨g, 0, none⟩) len len], .bool true])) (put4 wr q 0 v0 v1 v2 v3) := by
  obtain ⟨h1, h2, h3, h4⟩ := h
  subst hk
  rw [List.take_of_length_le (by omega)] at h4
  rw [Nat.sub_self, List.replicate_zero, List.append_nil] at h2
  refine ⟨((4, 0, .empty), (some ⟨g, 0, none⟩, k), l), true, ?_, put_below hb hq _ _ _ _, ?_, ?_, rfl, fun z hz => ?_⟩
  · simp only [val, h1]
  · refine ⟨⟨by simp [I64], by simp [I64], Nat.zero_le _, by simp only; omega, by unfold maxLen; simp only; omega⟩, Or.inr ⟨g, 0, rfl, by rw [put4_size]; exact h2.lt.2, fun i y hy => ?_⟩⟩
    obtain ⟨k2, k3⟩ := h3 y (List.mem_of_getElem? hy)
    have hc := h2.cells i ⟨N, y⟩ (by simp [hy])
    refine ⟨Held.block (put4_block (by omega) _ _ _ _) ?_, ?_⟩
    · cases N with
      | zero => exact k2.elim
      | succ N =>
        rw [Nat.zero_add]
        exact hc
    · rw [put4_size]
      exact In.off (P := fun x => g < x) (fun x hx => put4_block (by omega) _ _ _ _) k3 k2
  · exact Or.inr ⟨g, 0, rfl, by omega, fun i y hy => (h3 y (List.mem_of_getElem? hy)).2.mono fun x hx => by omega⟩
  · obtain rfl := Option.some.inj hz
    exact same_mk rfl h4
theorem vals_len {n N : Nat} (f : Tm n → Option (Tm N)) (p : List (Tm n)) : (vals f p).length = p.length := by simp [vals]

theorem CpP.grow {N : Nat} {P : List (Tm N)} {len g k : Nat} {l : List (Tm N)} {w w' : World} (h : CpP N P len g k l w) (hb : Below w.heap.size w w') : CpP N P len g k l w' := by
  obtain ⟨h1, h2, h3, h4⟩ := h
  exact ⟨h1, h2.below hb, fun y hy => ⟨((h3 y hy).1.below hb).mono hb.size, (h3 y hy).2⟩, h4⟩
theorem Box0.block {q : Nat} {w w' : World} (h : Box0 q w) (hb : w'.heap[q]? = w.heap[q]?) (hs : w.heap.size ≤ w'.heap.size) : Box0 q w' := by
  obtain ⟨⟨h0, h1, h2, h3⟩, ⟨f0, f1, f2, f3⟩, hq⟩ := h
  have hc := fun o => block_cell hb o
  have hf : ∀ o, w'.frozen? ⟨q, o, none⟩ = w.frozen? ⟨q, o, none⟩ := fun o => by simp [World.frozen?, hb]
  exact ⟨⟨(hc 0).trans h0, (hc 1).trans h1, (hc 2).trans h2, (hc 3).trans h3⟩, ⟨(hf 0).trans f0, (hf 1).trans f1, (hf 2).trans f2, (hf 3).trans f3⟩, Nat.lt_of_lt_of_le hq hs⟩
theorem grown_none {w w' : World} (h : w.grownBy w' none) : Below w.heap.size w w' := ⟨h.os, h.tape, h.output, h.size, fun k hk => h.block k hk (by simp)⟩
theorem box_two {w w' : World} {s0 s1 : Value} {t1 t2 : TypeId} (hg : ((w.alloc (.cells #[s0, s1] t1)).alloc (.cells #[.int .i64 0, .int .i64 0, .string .empty, .slice none 0 0] t2)).grownBy w' none) :
    Below w.heap.size w w' ∧ (w'.cell? ⟨w.heap.size, 0, none⟩ = some s0 ∧ w'.cell? ⟨w.heap.size, 1, none⟩ = some s1) ∧ Box0 (w.heap.size + 1) w' := by
  have h := grown_none hg
  have hs := h.size
  simp at hs
  have h0 : Below w.heap.size w ((w.alloc (.cells #[s0, s1] t1)).alloc (.cells #[.int .i64 0, .int .i64 0, .string .empty, .slice none 0 0] t2)) := ((Below.refl _ _).alloc (Nat.le_refl _) _).alloc (by simp) _
  have hc := fun o => h.cell (p := ⟨w.heap.size, o, none⟩) (by simp; omega)
  have hz := fun o => h.cell (p := ⟨w.heap.size + 1, o, none⟩) (by simp)
  have hf := fun o => h.frozen (p := ⟨w.heap.size + 1, o, none⟩) (by simp)
  exact ⟨h0.trans (h.mono h0.size), ⟨(hc 0).trans (by simp [go_sem]), (hc 1).trans (by simp [go_sem])⟩,
    ⟨(hz 0).trans (by simp [go_sem]), (hz 1).trans (by simp [go_sem]), (hz 2).trans (by simp [go_sem]), (hz 3).trans (by simp [go_sem])⟩, ⟨(hf 0).trans (by simp [go_sem]), (hf 1).trans (by simp [go_sem]), (hf 2).trans (by simp [go_sem]), (hf 3).trans (by simp [go_sem])⟩, by omega⟩

set_option maxHeartbeats 1000000 in
set_option maxRecDepth 100000 in
theorem tupleV_walk (m : Nat) (b : List (Tm m)) (self : Int) (n : Nat) (ih : Hid (FVal m b self n)) (p : List (Tm n)) (len : Nat) (hpl : Hid (p.length = len)) (pa : Option Addr) (pc : Nat) (a : Option Addr) (c B : Nat) (w : World)
    (hlen : len ≤ 8) (hp : Hid (Lies B w n p pa)) (hrp : Hid (∀ y ∈ p, RightA ⟨n, y⟩)) (hb : Hid (Lies B w m b a)) (hB : B ≤ w.heap.size) :
    Calls Try.prog 100 #[.agg #[.slice a 4 c, .int .i64 self], .slice pa len pc] w (VOut (m + n + 1) ((allV (fun y => vl m b self n y) p).map (tupV (m + n))) w) := by
  obtain ⟨o, ho⟩ : ∃ o, o = (allV (fun y => vl m b self n y) p).map (tupV (m + n)) := ⟨_, rfl⟩
  rw [← ho]
  have HO := hide ho
  clear ho
  obtain ⟨it, hit, htz0, htz1, htz2⟩ := info_parts infoTerm
  go_enter Try.func100, Try.ntmps100
  go_wp2_with (at_make; refine wpList_make_full _ rfl _ _ 23 rfl _ 25 it _ 4 Try.underlying23 hit htz0 htz1 _ _ _ _ len rfl rfl rfl rfl (by rw [htz2]; omega) (by unfold maxLen; omega) (Nat.le_refl _) ?_; intro w1 hown1 hgrow1; have HST := hide (cp_start (m + n) (vals (fun y => vl m b self n y) p) len hown1); have HB1 := hide (grown_none hgrow1); have HW0 := hide (box_two hgrow1); clear hown1 hgrow1 hit htz0 htz1 htz2)
  have es : ((w.alloc (.cells #[.slice a 4 c, .int .i64 self] 137)).alloc (.cells #[.int .i64 0, .int .i64 0, .string ⟨#[]⟩, .slice none 0 0] 25)).heap.size = w.heap.size + 1 + 1 := by simp
  rw [es] at HST
  clear es HB1
  obtain ⟨hb1, hc1, hz1⟩ := HW0.out
  have HI : Hid (Below w.heap.size w w1 ∧ (w1.cell? ⟨w.heap.size, 0, none⟩ = some (.slice a 4 c) ∧ w1.cell? ⟨w.heap.size, 1, none⟩ = some (.int .i64 self)) ∧ Box0 (w.heap.size + 1) w1 ∧ Had (fun y => vl m b self n y) p 0 ∧ ∃ l, CpP (m + n) (vals (fun y => vl m b self n y) p) len (w.heap.size + 1 + 1) 0 l w1) :=
    ⟨hb1, hc1, hz1, fun i y hi _ => by omega, [], HST.out⟩
  clear HW0 HST hb1 hc1 hz1
  go_wp2_with fail
  go_loopw [16] (fun i wr => ∃ k : Nat, k ≤ len ∧ i = .int .i64 k ∧ Hid (Below w.heap.size w wr ∧ (wr.cell? ⟨w.heap.size, 0, none⟩ = some (.slice a 4 c) ∧ wr.cell? ⟨w.heap.size, 1, none⟩ = some (.int .i64 self)) ∧ Box0 (w.heap.size + 1) wr ∧ Had (fun y => vl m b self n y) p k ∧ ∃ l, CpP (m + n) (vals (fun y => vl m b self n y) p) len (w.heap.size + 1 + 1) k l wr)) (fun i _ => len - (intOf i).toNat)
  case atStart => exact ⟨0, by omega, rfl, HI.out⟩
  case round =>
    obtain ⟨k, hk, rfl, HR⟩ := hrel
    clear HI
    obtain ⟨HBr, ⟨s0, s1⟩, HZ, HH, l, HL⟩ : Hid (Below w.heap.size w wr) ∧ (wr.cell? ⟨w.heap.size, 0, none⟩ = some (.slice a 4 c) ∧ wr.cell? ⟨w.heap.size, 1, none⟩ = some (.int .i64 self)) ∧ Hid (Box0 (w.heap.size + 1) wr) ∧ Hid (Had (fun y => vl m b self n y) p k) ∧ ∃ l, Hid (CpP (m + n) (vals (fun y => vl m b self n y) p) len (w.heap.size + 1 + 1) k l wr) := HR.out
    clear HR
    by_cases hlt : k < len
    · obtain ⟨x, hx⟩ : ∃ x, p[k]? = some x := ⟨p[k]'(by rw [hpl.out]; exact hlt), List.getElem?_eq_getElem _⟩
      obtain ⟨pb, po, rfl, hpb, hpp⟩ : ∃ pb po, pa = some ⟨pb, po, none⟩ ∧ pb < B ∧ ∀ (i : Nat) (y : Tm n), p[i]? = some y → Held w pb (po + i * 4) n y ∧ In B w n y := by
        rcases hp.out with h | h
        · rw [h] at hx; simp at hx
        · exact h
      obtain ⟨hx1, hx2⟩ := hpp k x hx
      have HX := hide hx
      have HRX := hide (hrp.out x (List.mem_of_getElem? hx))
      replace hx1 := hx1.below (HBr.out.mono hB) hpb
      replace hx2 := hx2.below (HBr.out.mono hB)
      have hBr : B ≤ wr.heap.size := Nat.le_trans hB HBr.out.size
      have HV : Hid (∀ w1, Below wr.heap.size wr w1 → Calls Try.prog 78 #[.agg #[.slice a 4 c, .int .i64 self], val n x] w1 (VOut (m + n) (vl m b self n x) w1)) :=
        fun w1 h1 => ih.out x a c B w1 (hx2.below (h1.mono hBr)) HRX.out ((hb.out.below (HBr.out.mono hB)).below (h1.mono hBr)) (Nat.le_trans hBr h1.size)
      obtain ⟨ox, hox⟩ : ∃ ox, ox = vl m b self n x := ⟨_, rfl⟩
      rw [← hox] at HV
      have HOX := hide hox
      clear hpp hx hp hox hx2
      cases n with
      | zero => exact hx1.elim
      | succ n =>
      obtain ⟨x0, x1, x2, x3⟩ := hx1
      have e3 : val (n + 1) x = .agg #[.int .i64 x.1.1, .int .i64 x.1.2.1, .string x.1.2.2, .slice x.2.1.1 x.2.2.length x.2.1.2] := rfl
      rw [e3] at HV
      clear e3
      generalize x.2.2.length = xl at *
      have hk1 : (0 : Int) ≤ (k : Int) := by omega
      have hk2 : (k : Int) < (len : Int) := by omega
      have hpw : pb < wr.heap.size := by omega
      have hsw : w.heap.size < wr.heap.size := by have := HZ.out.2.2; omega
      go_wp2_with fail
      refine (HV.out _ ((Below.refl _ _).alloc (Nat.le_refl _) _)).mono ?_
      rintro e w2 ⟨y, r, rfl, HY⟩
      have HB2 : Hid (Below wr.heap.size wr w2) := ((Below.refl _ _).alloc (Nat.le_refl _) _).trans (HY.out.1.mono (by simp))
      have HW2 : Hid (Below w.heap.size w w2) := HBr.out.trans (HB2.out.mono HBr.out.size)
      have HZ2 := hide (HZ.out.below HB2.out)
      replace s0 := (below_cells HB2.out _ _ hsw).trans s0
      replace s1 := (below_cells HB2.out _ _ hsw).trans s1
      have e3 : val (m + (n + 1)) y = .agg #[.int .i64 y.1.1, .int .i64 y.1.2.1, .string y.1.2.2, .slice y.2.1.1 y.2.2.length y.2.1.2] := rfl
      rw [e3]
      clear HV x0 x1 x2 x3 HZ e3
      cases r
      · have HF : Hid (o = none) := by
          have h1 : vl m b self (n + 1) x = none := by
            have := HY.out.2.2.2.1
            rw [← HOX.out]
            cases ox with
            | none => rfl
            | some z => cases this
          show o = none
          rw [HO.out, allV_none _ p k x HX.out h1]
          rfl
        obtain ⟨⟨z0, z1, z2, z3⟩, ⟨f0, f1, f2, f3⟩, hzq⟩ := HZ2.out
        clear HY HL HH
        go_wp2_with fail
        rw [HF.out]
        exact bodyPost_ret (v := .tuple #[.agg #[.int .i64 0, .int .i64 0, .string .empty, .slice none 0 0], .bool false]) (by simp [results, Try.results100, go_sem, z0, z1, z2, z3, hzq]; rfl) rfl (vout_none ((put_below HW2.out (by omega) _ _ _ _).alloc (by rw [put4_size]; omega) _))
      · have hT : true = (vl m b self (n + 1) x).isSome := by rw [← HOX.out]; exact HY.out.2.2.2.1
        obtain ⟨z, hz1, hz2⟩ := vals_at (f := fun y => vl m b self (n + 1) y) HX.out hT
        have HN := hide (HH.out.next HX.out hT)
        have HST := hide (HL.out.step hlt z hz1 HB2.out y HY.out.2.1 (HY.out.2.2.1.mono fun q hq => by have := HL.out.2.1.lt.2; simp at hq; omega) (HY.out.2.2.2.2 z (by rw [HOX.out]; exact hz2)))
        have HH1 := hide (HL.out.2.1.below HB2.out)
        have HP : Hid (Below w.heap.size w (putNd w2 (w.heap.size + 1 + 1) (k * 4) (hdT (m + (n + 1)) y))) := by
          have h1 := HW2.out
          exact ⟨h1.os, h1.tape, h1.output, Nat.le_trans h1.size (Nat.le_of_eq (put4_size _ _ _ _).symm), fun q hq => (put4_block (by omega) _ _ _ _).trans (h1.block q hq)⟩
        have HIV : Hid (∀ o : Obj, Below w.heap.size w ((putNd w2 (w.heap.size + 1 + 1) (k * 4) (hdT (m + (n + 1)) y)).alloc o) ∧ (((putNd w2 (w.heap.size + 1 + 1) (k * 4) (hdT (m + (n + 1)) y)).alloc o).cell? ⟨w.heap.size, 0, none⟩ = some (.slice a 4 c) ∧ ((putNd w2 (w.heap.size + 1 + 1) (k * 4) (hdT (m + (n + 1)) y)).alloc o).cell? ⟨w.heap.size, 1, none⟩ = some (.int .i64 self)) ∧ Box0 (w.heap.size + 1) ((putNd w2 (w.heap.size + 1 + 1) (k * 4) (hdT (m + (n + 1)) y)).alloc o) ∧ Had (fun y => vl m b self (n + 1) y) p (k + 1) ∧ ∃ l, CpP (m + (n + 1)) (vals (fun y => vl m b self (n + 1) y) p) len (w.heap.size + 1 + 1) (k + 1) l ((putNd w2 (w.heap.size + 1 + 1) (k * 4) (hdT (m + (n + 1)) y)).alloc o)) := by
          intro o
          have hal : Below (putNd w2 (w.heap.size + 1 + 1) (k * 4) (hdT (m + (n + 1)) y)).heap.size (putNd w2 (w.heap.size + 1 + 1) (k * 4) (hdT (m + (n + 1)) y)) ((putNd w2 (w.heap.size + 1 + 1) (k * 4) (hdT (m + (n + 1)) y)).alloc o) := (Below.refl _ _).alloc (Nat.le_refl _) _
          have hsz : (putNd w2 (w.heap.size + 1 + 1) (k * 4) (hdT (m + (n + 1)) y)).heap.size = w2.heap.size := put4_size _ _ _ _
          have hg2 := HH1.out.lt.2
          refine ⟨HP.out.trans (hal.mono HP.out.size), ⟨?_, ?_⟩, ?_, HN.out, l ++ [y], HST.out.grow hal⟩
          · exact (below_cells hal _ _ (by omega)).trans ((block_cell (put4_block (by omega) _ _ _ _) _).trans s0)
          · exact (below_cells hal _ _ (by omega)).trans ((block_cell (put4_block (by omega) _ _ _ _) _).trans s1)
          · refine Box0.below ?_ hal
            exact HZ2.out.block (put4_block (by omega) _ _ _ _) (Nat.le_of_eq hsz.symm)
        obtain ⟨zz, hzz⟩ : ∃ zz, (l.map (fun x => (⟨m + (n + 1), x⟩ : An)) ++ List.replicate (len - k) zA)[k]? = some zz := ⟨_, List.getElem?_eq_getElem (by simp [HL.out.1]; omega)⟩
        obtain ⟨c0, c1, c2, c3⟩ := HH1.out.cells k zz hzz
        have hf := fun j => HH1.out.free j
        have hg2 : w.heap.size + 1 + 1 < w2.heap.size := HH1.out.lt.2
        clear HY HL HH HB2 HBr HST HN HP HH1 hzz HZ2 hz1 hz2 hT
        go_wp2_with fail
        go_roundw
        case rel => exact ⟨k + 1, by omega, by go_num, HIV.out _⟩
        case measure => simp [intOf]; omega
    · obtain rfl : k = len := by omega
      have HF : Hid (o = some (tupV (m + n) (vals (fun y => vl m b self n y) p))) := by
        show o = _
        rw [HO.out, vals_all HH.out (by rw [hpl.out]; exact Nat.le_refl _)]
        rfl
      have HT := fun v0 v1 v2 v3 => hide (tuple_out HL.out (by rw [vals_len]; exact hpl.out) rfl HBr.out hlen (w.heap.size + 1) (by omega) (by omega) v0 v1 v2 v3)
      obtain ⟨⟨z0, z1, z2, z3⟩, ⟨f0, f1, f2, f3⟩, hzq⟩ := HZ.out
      clear HH HL HBr hp hb
      go_wp2_with fail
      rw [HF.out]
      exact bodyPost_ret (v := .tuple #[.agg #[.int .i64 4, .int .i64 0, .string .empty, .slice (some ⟨w.heap.size + 1 + 1, 0, none⟩) k k], .bool true]) (by simp [results, Try.results100, go_sem, z0, z1, z2, z3]; rfl) rfl (HT _ _ _ _).out
end Go.Proofs.Ytbmjfnicfpdjfaa
namespace Go.Proofs.Ytbmjfnicfpdjfaa
open Go.RowKit

theorem lift_off {P : Nat → Prop} : (N n : Nat) → n ≤ N → (x : Tm n) → Off P n x → Off P N (lift N n x)
  | _, 0, _, _, k => k.elim
  | 0, n + 1, h, _, _ => by omega
  | N + 1, n + 1, h, x, k => by
    rcases k with k | ⟨b, o, e, hb, k⟩
    · exact Or.inl (by simp [lift, k])
    · refine Or.inr ⟨b, o, e, hb, fun i y hy => ?_⟩
      simp only [lift, List.getElem?_map] at hy
      obtain ⟨z, hz, rfl⟩ := Option.map_eq_some_iff.1 hy
      exact lift_off N n (by omega) z (k i z hz)
theorem lift_val (N n : Nat) (x : Tm (n + 1)) : val (N + 1) (lift (N + 1) (n + 1) x) = val (n + 1) x := by simp [val, lift]
theorem lift_two {N n : Nat} (h : n ≤ N) {x y : Tm (n + 1)} (hr : RightA ⟨n + 1, x⟩) (hs : same (n + 1) y (n + 1) x = true) : same (N + 1) (lift (N + 1) (n + 1) y) (N + 1) (lift (N + 1) (n + 1) x) = true := by
  have hy : RightA ⟨n + 1, y⟩ := right_formed.2 (by rw [same_formed _ _ _ _ hs]; exact right_formed.1 hr)
  exact same_trans _ _ _ _ _ _ (lift_same (N + 1) (n + 1) (by omega) y hy) (same_trans _ _ _ _ _ _ hs (same_symm _ _ _ _ (lift_same (N + 1) (n + 1) (by omega) x hr)))
/-- A copy, at another depth. -/
theorem vout_copy {N n : Nat} (h : n ≤ N) {x y : Tm (n + 1)} {w w' : World} (hr : RightA ⟨n + 1, x⟩) (hb : Below w.heap.size w w') (hin : In w'.heap.size w' (n + 1) y) (ho : Off (fun q => w.heap.size ≤ q) (n + 1) y) (hs : same (n + 1) y (n + 1) x = true) (r : Bool) :
    VOut (N + 1) (if r then some (lift (N + 1) (n + 1) x) else none) w (.returned (.tuple #[.agg #[.int .i64 y.1.1, .int .i64 y.1.2.1, .string y.1.2.2, .slice y.2.1.1 y.2.2.length y.2.1.2], .bool r])) w' := by
  refine ⟨lift (N + 1) (n + 1) y, r, by rw [lift_val]; rfl, hb, lift_in _ _ (by omega) _ _ _ hin, lift_off _ _ (by omega) _ ho, by cases r <;> rfl, fun z hz => ?_⟩
  cases r with
  | false => cases hz
  | true =>
    obtain rfl := Option.some.inj hz
    exact lift_two h hr hs
/-- Put into a box, to be returned. -/
theorem vout_box {N : Nat} {o : Option (Tm (N + 1))} {w w1 w2 : World} {y : Tm (N + 1)} {r : Bool} {q : Nat} (hb : Below w.heap.size w w1) (hq : w.heap.size ≤ q) (hq1 : q < w1.heap.size)
    (h : Below w1.heap.size w1 w2 ∧ In w2.heap.size w2 (N + 1) y ∧ Off (fun q => w1.heap.size ≤ q) (N + 1) y ∧ r = o.isSome ∧ ∀ z, o = some z → same (N + 1) y (N + 1) z = true) (v0 v1 v2 v3 : Value) :
    VOut (N + 1) o w (.returned (.tuple #[.agg #[.int .i64 y.1.1, .int .i64 y.1.2.1, .string y.1.2.2, .slice y.2.1.1 y.2.2.length y.2.1.2], .bool r])) (put4 w2 q 0 v0 v1 v2 v3) := by
  obtain ⟨h1, h2, h3, h4, h5⟩ := h
  have hs := hb.size
  refine ⟨y, r, rfl, put_below (hb.trans (h1.mono hs)) hq _ _ _ _, ?_, h3.mono fun b hh => by omega, h4, h5⟩
  rw [put4_size]
  exact In.off (P := fun b => w1.heap.size ≤ b) (fun b hh => put4_block (by omega) _ _ _ _) h3 h2

/-- A copy, put into a box, to be returned. -/
theorem vput_out {N n : Nat} (h : n ≤ N) {x y : Tm (n + 1)} {w w1 w2 w3 : World} {q : Nat} (hr : RightA ⟨n + 1, x⟩) (hb : Below w.heap.size w w1) (hq : w.heap.size ≤ q) (hq1 : q < w1.heap.size)
    (k : Below w1.heap.size w1 w2 ∧ In w2.heap.size w2 (n + 1) y ∧ Off (fun q => w1.heap.size ≤ q) (n + 1) y ∧ same (n + 1) y (n + 1) x = true) (hb3 : Below w2.heap.size w2 w3) (r : Bool) (v0 v1 v2 v3 : Value) :
    VOut (N + 1) (if r then some (lift (N + 1) (n + 1) x) else none) w (.returned (.tuple #[.agg #[.int .i64 y.1.1, .int .i64 y.1.2.1, .string y.1.2.2, .slice y.2.1.1 y.2.2.length y.2.1.2], .bool r])) (put4 w3 q 0 v0 v1 v2 v3) := by
  obtain ⟨h1, h2, h3, h4⟩ := k
  have hs := hb.size
  have hbb := (hb.trans (h1.mono hs)).trans (hb3.mono (Nat.le_trans hs h1.size))
  refine vout_copy h hr (put_below hbb hq _ _ _ _) ?_ (h3.mono fun b hh => by omega) h4 r
  rw [put4_size]
  exact In.off (P := fun b => w1.heap.size ≤ b) (fun b hh => put4_block (by omega) _ _ _ _) h3 ((h2.below hb3).mono hb3.size)

theorem two_at {w : World} {s0 s1 : Value} {t1 t2 : TypeId} : Below w.heap.size w ((w.alloc (.cells #[s0, s1] t1)).alloc (.cells #[.int .i64 0, .int .i64 0, .string .empty, .slice none 0 0] t2)) ∧ Box0 (w.heap.size + 1) ((w.alloc (.cells #[s0, s1] t1)).alloc (.cells #[.int .i64 0, .int .i64 0, .string .empty, .slice none 0 0] t2)) := by
  have h := box_two (w := w) (s0 := s0) (s1 := s1) (t1 := t1) (t2 := t2) (w' := (w.alloc (.cells #[s0, s1] t1)).alloc (.cells #[.int .i64 0, .int .i64 0, .string .empty, .slice none 0 0] t2)) (World.grownBy.refl _ _)
  exact ⟨h.1, h.2.2⟩

theorem two_is {w w1 : World} {s0 s1 : Value} {t1 t2 : TypeId} (h : w1 = (w.alloc (.cells #[s0, s1] t1)).alloc (.cells #[.int .i64 0, .int .i64 0, .string .empty, .slice none 0 0] t2)) : Below w.heap.size w w1 ∧ Box0 (w.heap.size + 1) w1 ∧ w1.cell? ⟨w.heap.size, 0, none⟩ = some s0 ∧ w1.cell? ⟨w.heap.size, 1, none⟩ = some s1 := by
  subst h
  have h := box_two (w := w) (s0 := s0) (s1 := s1) (t1 := t1) (t2 := t2) (w' := (w.alloc (.cells #[s0, s1] t1)).alloc (.cells #[.int .i64 0, .int .i64 0, .string .empty, .slice none 0 0] t2)) (World.grownBy.refl _ _)
  exact ⟨h.1, h.2.2, h.2.1.1, h.2.1.2⟩

set_option maxHeartbeats 1000000 in
set_option maxRecDepth 100000 in
theorem vt_self (N : Nat) (o : Option (Tm (N + 1))) (a : Option Addr) (c : Nat) (self : Int) (hs : I64 self) (pa : Option Addr) (len : Nat) (pc : Nat) (w : World)
    (HC1 : Hid (∀ w1, Below w.heap.size w w1 → Calls Try.prog 98 #[.slice pa len pc, .string wSelf, .int .i64 0] w1 fun e w' => e = .returned (.bool true) ∧ w' = w1))
    (HO : Hid (o = some (leafV 3 self N))) :
    Calls Try.prog 92 #[.agg #[.slice a 4 c, .int .i64 self], .slice pa len pc] w (VOut (N + 1) o w) := by
  go_enter Try.func92, Try.ntmps92
  go_wp2_with fail
  refine (HC1.out _ two_at.1).mono ?_
  rintro e w1 ⟨rfl, hw⟩
  obtain ⟨hb, hbx, s0, s1⟩ := two_is hw
  have HB := hide hb
  have HBX := hide hbx
  have hsw : w.heap.size < w1.heap.size := by have := hbx.2.2; omega
  clear hw hb hbx HC1
  obtain ⟨⟨z0, z1, z2, z3⟩, ⟨f0, f1, f2, f3⟩, hzq⟩ := HBX.out
  go_wp2_with fail
  rw [HO.out]
  exact bodyPost_ret (v := .tuple #[.agg #[.int .i64 3, .int .i64 self, .string .empty, .slice none 0 0], .bool true]) (by simp [results, Try.results92, go_sem, z0, z1, z2, z3]; rfl) rfl (vout_leaf (put_below HB.out (by omega) _ _ _ _) 3 self (by simp [I64]) hs)

set_option maxHeartbeats 1000000 in
set_option maxRecDepth 100000 in
theorem vt_add (N : Nat) (o : Option (Tm (N + 1))) (a : Option Addr) (c : Nat) (self : Int) (pb po : Nat) (x0 x1 : Int) (x2 : ByteArray) (xa : Option Addr) (xl xc : Nat) (y0 y1 : Int) (y2 : ByteArray) (ya : Option Addr) (yl yc : Nat) (pc : Nat) (w : World)
    (HC1 : Hid (∀ w1, Below w.heap.size w w1 → Calls Try.prog 98 #[.slice (some ⟨pb, po, none⟩) 3 pc, .string wSelf, .int .i64 0] w1 fun e w' => e = .returned (.bool false) ∧ w' = w1))
    (HC2 : Hid (∀ w1, Below w.heap.size w w1 → Calls Try.prog 98 #[.slice (some ⟨pb, po, none⟩) 3 pc, .string wAdd, .int .i64 2] w1 fun e w' => e = .returned (.bool true) ∧ w' = w1))
    (hpb : pb < w.heap.size)
    (cx : w.cell? ⟨pb, po + 4, none⟩ = some (.int .i64 x0) ∧ w.cell? ⟨pb, po + 4 + 1, none⟩ = some (.int .i64 x1) ∧ w.cell? ⟨pb, po + 4 + 2, none⟩ = some (.string x2) ∧ w.cell? ⟨pb, po + 4 + 3, none⟩ = some (.slice xa xl xc))
    (cy : w.cell? ⟨pb, po + 8, none⟩ = some (.int .i64 y0) ∧ w.cell? ⟨pb, po + 8 + 1, none⟩ = some (.int .i64 y1) ∧ w.cell? ⟨pb, po + 8 + 2, none⟩ = some (.string y2) ∧ w.cell? ⟨pb, po + 8 + 3, none⟩ = some (.slice ya yl yc))
    (HS : Hid (∀ w1, Below w.heap.size w w1 → Calls Try.prog 99 #[.agg #[.slice a 4 c, .int .i64 self], .agg #[.int .i64 x0, .int .i64 x1, .string x2, .slice xa xl xc], .agg #[.int .i64 y0, .int .i64 y1, .string y2, .slice ya yl yc]] w1 (VOut (N + 1) o w1))) :
    Calls Try.prog 92 #[.agg #[.slice a 4 c, .int .i64 self], .slice (some ⟨pb, po, none⟩) 3 pc] w (VOut (N + 1) o w) := by
  go_enter Try.func92, Try.ntmps92
  go_wp2_with fail
  refine (HC1.out _ two_at.1).mono ?_
  rintro e w1 ⟨rfl, hw⟩
  obtain ⟨hb, hbx, s0, s1⟩ := two_is hw
  have HB := hide hb
  have HBX := hide hbx
  have hsw : w.heap.size < w1.heap.size := by have := hbx.2.2; omega
  clear hw hb hbx HC1
  have hcc := below_cells HB.out
  obtain ⟨x0', x1', x2', x3'⟩ := cx
  obtain ⟨y0', y1', y2', y3'⟩ := cy
  replace x0' := (hcc _ _ hpb).trans x0'
  replace x1' := (hcc _ _ hpb).trans x1'
  replace x2' := (hcc _ _ hpb).trans x2'
  replace x3' := (hcc _ _ hpb).trans x3'
  replace y0' := (hcc _ _ hpb).trans y0'
  replace y1' := (hcc _ _ hpb).trans y1'
  replace y2' := (hcc _ _ hpb).trans y2'
  replace y3' := (hcc _ _ hpb).trans y3'
  clear hcc
  go_wp2_with fail
  refine (HC2.out _ HB.out).mono ?_
  rintro e w2 ⟨rfl, rfl⟩
  have hpw : pb < w2.heap.size := Nat.lt_of_lt_of_le hpb HB.out.size
  have hne1 : ¬ (w.heap.size + 1 = pb) := by omega
  have hne2 : ¬ (pb = w.heap.size + 1) := by omega
  have e3 : ∀ y : Tm (N + 1), val (N + 1) y = .agg #[.int .i64 y.1.1, .int .i64 y.1.2.1, .string y.1.2.2, .slice y.2.1.1 y.2.2.length y.2.1.2] := fun _ => rfl
  go_wp2_with fail
  go_region_held3 (fun w' => w'.cell? ⟨w.heap.size, 0, none⟩ = some (.slice a 4 c) ∧ w'.cell? ⟨w.heap.size, 1, none⟩ = some (.int .i64 self) ∧ w'.cell? ⟨pb, po + 4, none⟩ = some (.int .i64 x0) ∧ w'.cell? ⟨pb, po + 4 + 1, none⟩ = some (.int .i64 x1) ∧ w'.cell? ⟨pb, po + 4 + 2, none⟩ = some (.string x2) ∧ w'.cell? ⟨pb, po + 4 + 3, none⟩ = some (.slice xa xl xc)
      ∧ w'.cell? ⟨pb, po + 8, none⟩ = some (.int .i64 y0) ∧ w'.cell? ⟨pb, po + 8 + 1, none⟩ = some (.int .i64 y1) ∧ w'.cell? ⟨pb, po + 8 + 2, none⟩ = some (.string y2) ∧ w'.cell? ⟨pb, po + 8 + 3, none⟩ = some (.slice ya yl yc))
    (go_keep) ((go_at_call 99; refine (HS.out _ HB.out.drew).mono ?_; rintro e w3 ⟨y, r, rfl, H⟩; rw [e3]; have hcc := below_cells (below_undrew H.out.1); have HBX3 := hide (HBX.out.below (below_undrew H.out.1)); obtain ⟨⟨z0, z1, z2, z3⟩, ⟨f0, f1, f2, f3⟩, hzq⟩ := HBX3.out))
  have HV := fun v0 v1 v2 v3 => hide (vout_box HB.out.drew (Nat.le_add_right _ 1) HBX.out.2.2 H.out v0 v1 v2 v3)
  clear H hcc
  go_wp2_with fail
  exact bodyPost_ret (v := .tuple #[.agg #[.int .i64 y.1.1, .int .i64 y.1.2.1, .string y.1.2.2, .slice y.2.1.1 y.2.2.length y.2.1.2], .bool r]) (by simp [results, Try.results92, go_sem, z0, z1, z2, z3]) rfl (HV _ _ _ _).out

set_option maxHeartbeats 1000000 in
set_option maxRecDepth 100000 in
theorem vt_put (N : Nat) (o : Option (Tm (N + 1))) (a : Option Addr) (c : Nat) (self : Int) (pb po : Nat) (n : Nat) (hn : n ≤ N) (x : Tm (n + 1)) (cl : Bool) (pc : Nat) (w : World)
    (HC1 : Hid (∀ w1, Below w.heap.size w w1 → Calls Try.prog 98 #[.slice (some ⟨pb, po, none⟩) 2 pc, .string wSelf, .int .i64 0] w1 fun e w' => e = .returned (.bool false) ∧ w' = w1))
    (HC2 : Hid (∀ w1, Below w.heap.size w w1 → Calls Try.prog 98 #[.slice (some ⟨pb, po, none⟩) 2 pc, .string wAdd, .int .i64 2] w1 fun e w' => e = .returned (.bool false) ∧ w' = w1))
    (HC3 : Hid (∀ w1, Below w.heap.size w w1 → Calls Try.prog 98 #[.slice (some ⟨pb, po, none⟩) 2 pc, .string wPut, .int .i64 1] w1 fun e w' => e = .returned (.bool true) ∧ w' = w1))
    (hpb : pb < w.heap.size) (hx : Held w pb (po + 4) (n + 1) x) (HR : Hid (RightA ⟨n + 1, x⟩))
    (HP : Hid (∀ w1, Below w.heap.size w w1 → Calls Try.prog 44 #[.agg #[.int .i64 x.1.1, .int .i64 x.1.2.1, .string x.1.2.2, .slice x.2.1.1 x.2.2.length x.2.1.2]] w1 fun e w' => ∃ y : Tm (n + 1), e = .returned (val (n + 1) y) ∧ Hid (Below w1.heap.size w1 w' ∧ In w'.heap.size w' (n + 1) y ∧ Off (fun q => w1.heap.size ≤ q) (n + 1) y ∧ same (n + 1) y (n + 1) x = true)))
    (HL : Hid (∀ w1, Below w.heap.size w w1 → Calls Try.prog 37 #[.agg #[.int .i64 x.1.1, .int .i64 x.1.2.1, .string x.1.2.2, .slice x.2.1.1 x.2.2.length x.2.1.2]] w1 fun e w' => e = .returned (.bool cl) ∧ Below w1.heap.size w1 w'))
    (HO : Hid (o = if cl then some (lift (N + 1) (n + 1) x) else none)) :
    Calls Try.prog 92 #[.agg #[.slice a 4 c, .int .i64 self], .slice (some ⟨pb, po, none⟩) 2 pc] w (VOut (N + 1) o w) := by
  go_enter Try.func92, Try.ntmps92
  go_wp2_with fail
  refine (HC1.out _ two_at.1).mono ?_
  rintro e w1 ⟨rfl, hw⟩
  obtain ⟨hb, hbx, s0, s1⟩ := two_is hw
  have HB := hide hb
  have HBX := hide hbx
  have hsw : w.heap.size < w1.heap.size := by have := hbx.2.2; omega
  clear hw hb hbx HC1
  have hcc := below_cells HB.out
  obtain ⟨x0', x1', x2', x3'⟩ := hx
  replace x0' := (hcc _ _ hpb).trans x0'
  replace x1' := (hcc _ _ hpb).trans x1'
  replace x2' := (hcc _ _ hpb).trans x2'
  replace x3' := (hcc _ _ hpb).trans x3'
  clear hcc
  generalize x.2.2.length = xl at *
  go_wp2_with fail
  refine (HC2.out _ HB.out).mono ?_
  rintro e w2 ⟨rfl, rfl⟩
  go_wp2_with fail
  refine (HC3.out _ HB.out).mono ?_
  rintro e w2 ⟨rfl, rfl⟩
  have hpw : pb < w2.heap.size := Nat.lt_of_lt_of_le hpb HB.out.size
  have hne1 : ¬ (w.heap.size + 1 = pb) := by omega
  have hne2 : ¬ (pb = w.heap.size + 1) := by omega
  have e3 : ∀ y : Tm (n + 1), val (n + 1) y = .agg #[.int .i64 y.1.1, .int .i64 y.1.2.1, .string y.1.2.2, .slice y.2.1.1 y.2.2.length y.2.1.2] := fun _ => rfl
  go_wp2_with fail
  go_region_held3 (fun w' => w'.cell? ⟨pb, po + 4, none⟩ = some (.int .i64 x.1.1) ∧ w'.cell? ⟨pb, po + 4 + 1, none⟩ = some (.int .i64 x.1.2.1) ∧ w'.cell? ⟨pb, po + 4 + 2, none⟩ = some (.string x.1.2.2) ∧ w'.cell? ⟨pb, po + 4 + 3, none⟩ = some (.slice x.2.1.1 xl x.2.1.2))
    (go_keep) ((first | (go_at_call 44; refine (HP.out _ HB.out.drew).mono ?_; rintro e w3 ⟨y, rfl, H⟩; rw [e3]; have hcc := below_cells (below_undrew H.out.1); have HB3 : Hid (Below w.heap.size w w3) := (HB.out.drew).trans (H.out.1.mono HB.out.size)) | (go_at_call 37; refine (HL.out _ HB3.out).mono ?_; rintro e w4 ⟨rfl, hb4⟩; have hcc4 := below_cells hb4; have hpw3 : pb < w3.heap.size := Nat.lt_of_lt_of_le hpb HB3.out.size; have HBX3 := hide ((HBX.out.below (below_undrew H.out.1)).below hb4); obtain ⟨⟨z0, z1, z2, z3⟩, ⟨f0, f1, f2, f3⟩, hzq⟩ := HBX3.out)))
  have HV := fun v0 v1 v2 v3 => hide (vput_out hn HR.out HB.out.drew (Nat.le_add_right _ 1) HBX.out.2.2 H.out hb4 cl v0 v1 v2 v3)
  clear H hcc hcc4 hb4
  go_wp2_with fail
  rw [HO.out]
  exact bodyPost_ret (v := .tuple #[.agg #[.int .i64 y.1.1, .int .i64 y.1.2.1, .string y.1.2.2, .slice y.2.1.1 y.2.2.length y.2.1.2], .bool cl]) (by simp [results, Try.results92, go_sem, z0, z1, z2, z3]) rfl (HV _ _ _ _).out

set_option maxHeartbeats 1000000 in
set_option maxRecDepth 100000 in
theorem vt_else (N : Nat) (o : Option (Tm (N + 1))) (a : Option Addr) (c : Nat) (self : Int) (pa : Option Addr) (len : Nat) (pc : Nat) (w : World)
    (HC1 : Hid (∀ w1, Below w.heap.size w w1 → Calls Try.prog 98 #[.slice pa len pc, .string wSelf, .int .i64 0] w1 fun e w' => e = .returned (.bool false) ∧ w' = w1))
    (HC2 : Hid (∀ w1, Below w.heap.size w w1 → Calls Try.prog 98 #[.slice pa len pc, .string wAdd, .int .i64 2] w1 fun e w' => e = .returned (.bool false) ∧ w' = w1))
    (HC3 : Hid (∀ w1, Below w.heap.size w w1 → Calls Try.prog 98 #[.slice pa len pc, .string wPut, .int .i64 1] w1 fun e w' => e = .returned (.bool false) ∧ w' = w1))
    (HT : Hid (∀ w1, Below w.heap.size w w1 → Calls Try.prog 100 #[.agg #[.slice a 4 c, .int .i64 self], .slice pa len pc] w1 (VOut (N + 1) o w1))) :
    Calls Try.prog 92 #[.agg #[.slice a 4 c, .int .i64 self], .slice pa len pc] w (VOut (N + 1) o w) := by
  go_enter Try.func92, Try.ntmps92
  go_wp2_with fail
  refine (HC1.out _ two_at.1).mono ?_
  rintro e w1 ⟨rfl, hw⟩
  obtain ⟨hb, hbx, s0, s1⟩ := two_is hw
  have HB := hide hb
  have HBX := hide hbx
  have hsw : w.heap.size < w1.heap.size := by have := hbx.2.2; omega
  clear hw hb hbx HC1
  go_wp2_with fail
  refine (HC2.out _ HB.out).mono ?_
  rintro e w2 ⟨rfl, rfl⟩
  go_wp2_with fail
  refine (HC3.out _ HB.out).mono ?_
  rintro e w2 ⟨rfl, rfl⟩
  go_wp2_with fail
  refine (HT.out _ HB.out).mono ?_
  rintro e w3 ⟨y, r, rfl, H⟩
  have HBX3 := hide (HBX.out.below H.out.1)
  have HV := fun v0 v1 v2 v3 => hide (vout_box HB.out (Nat.le_add_right _ 1) HBX.out.2.2 H.out v0 v1 v2 v3)
  obtain ⟨⟨z0, z1, z2, z3⟩, ⟨f0, f1, f2, f3⟩, hzq⟩ := HBX3.out
  have e3 : val (N + 1) y = .agg #[.int .i64 y.1.1, .int .i64 y.1.2.1, .string y.1.2.2, .slice y.2.1.1 y.2.2.length y.2.1.2] := rfl
  rw [e3]
  clear H HT HC2 HC3 e3
  go_wp2_with fail
  exact bodyPost_ret (v := .tuple #[.agg #[.int .i64 y.1.1, .int .i64 y.1.2.1, .string y.1.2.2, .slice y.2.1.1 y.2.2.length y.2.1.2], .bool r]) (by simp [results, Try.results92, go_sem, z0, z1, z2, z3]) rfl (HV _ _ _ _).out
end Go.Proofs.Ytbmjfnicfpdjfaa
namespace Go.Proofs.Ytbmjfnicfpdjfaa
open Go.RowKit

theorem three_is (w : World) (s0 s1 x0 x1 x2 x3 : Value) (t1 t2 t3 : TypeId) : Below w.heap.size w (((w.alloc (.cells #[s0, s1] t1)).alloc (.cells #[x0, x1, x2, x3] t2)).alloc (.cells #[.int .i64 0, .int .i64 0, .string .empty, .slice none 0 0] t3)) ∧
    Box0 (w.heap.size + 1 + 1) (((w.alloc (.cells #[s0, s1] t1)).alloc (.cells #[x0, x1, x2, x3] t2)).alloc (.cells #[.int .i64 0, .int .i64 0, .string .empty, .slice none 0 0] t3)) := by
  refine ⟨(((Below.refl _ _).alloc (Nat.le_refl _) _).alloc (by simp) _).alloc (by simp; omega) _, ⟨?_, ?_, ?_, ?_⟩, ⟨?_, ?_, ?_, ?_⟩, ?_⟩ <;> simp [go_sem]
theorem four_is {w W : World} {s0 s1 x0 x1 x2 x3 y0 y1 y2 y3 : Value} {t1 t2 t3 t4 : TypeId} (h : (((w.alloc (.cells #[s0, s1] t1)).alloc (.cells #[x0, x1, x2, x3] t2)).alloc (.cells #[.int .i64 0, .int .i64 0, .string .empty, .slice none 0 0] t3)).alloc (.cells #[y0, y1, y2, y3] t4) = W) : Below w.heap.size w W ∧ Box0 (w.heap.size + 1 + 1) W ∧
    (W.cell? ⟨w.heap.size + 1 + 1 + 1, 0, none⟩ = some y0 ∧ W.cell? ⟨w.heap.size + 1 + 1 + 1, 1, none⟩ = some y1 ∧ W.cell? ⟨w.heap.size + 1 + 1 + 1, 2, none⟩ = some y2 ∧ W.cell? ⟨w.heap.size + 1 + 1 + 1, 3, none⟩ = some y3) ∧ w.heap.size + 1 + 1 + 1 < W.heap.size := by
  subst h
  refine ⟨four_below _ _ _ _ _, ⟨⟨?_, ?_, ?_, ?_⟩, ⟨?_, ?_, ?_, ?_⟩, ?_⟩, ⟨?_, ?_, ?_, ?_⟩, ?_⟩ <;> simp [go_sem]

set_option maxHeartbeats 1000000 in
set_option maxRecDepth 100000 in
theorem v_any (N : Nat) (o : Option (Tm (N + 1))) (a : Option Addr) (x1 : Int) (x2 : ByteArray) (xa : Option Addr) (xl xc : Nat) (c : Nat) (self : Int) (w : World)
    (HO : Hid (o = none)) :
    Calls Try.prog 78 #[.agg #[.slice a 4 c, .int .i64 self], .agg #[.int .i64 6, .int .i64 x1, .string x2, .slice xa xl xc]] w (VOut (N + 1) o w) := by
  go_enter Try.func78, Try.ntmps78
  go_wp2_with fail
  rw [HO.out]
  exact bodyPost_ret (v := .tuple #[.agg #[.int .i64 0, .int .i64 0, .string .empty, .slice none 0 0], .bool false]) (by simp [results, Try.results78, go_sem]; rfl) rfl (vout_none (three_is w _ _ _ _ _ _ _ _ _).1)

set_option maxHeartbeats 1000000 in
set_option maxRecDepth 100000 in
theorem v_tup (N : Nat) (o : Option (Tm (N + 1))) (a : Option Addr) (x1 : Int) (x2 : ByteArray) (xa : Option Addr) (xl xc : Nat) (c : Nat) (self : Int) (w : World)
    (HT : Hid (∀ w1, Below w.heap.size w w1 → Calls Try.prog 92 #[.agg #[.slice a 4 c, .int .i64 self], .slice xa xl xc] w1 (VOut (N + 1) o w1))) :
    Calls Try.prog 78 #[.agg #[.slice a 4 c, .int .i64 self], .agg #[.int .i64 4, .int .i64 x1, .string x2, .slice xa xl xc]] w (VOut (N + 1) o w) := by
  go_enter Try.func78, Try.ntmps78
  go_wp2_with fail
  refine (HT.out _ (three_is w _ _ _ _ _ _ _ _ _).1).mono ?_
  rintro e w3 ⟨y, r, rfl, H⟩
  have HBX3 := hide ((three_is w _ _ _ _ _ _ _ _ _).2.below H.out.1)
  have HV := fun v0 v1 v2 v3 => hide (vout_box (three_is w _ _ _ _ _ _ _ _ _).1 (Nat.le_add_right w.heap.size 2) (three_is w _ _ _ _ _ _ _ _ _).2.2.2 H.out v0 v1 v2 v3)
  obtain ⟨⟨z0, z1, z2, z3⟩, ⟨f0, f1, f2, f3⟩, hzq⟩ := HBX3.out
  have e3 : val (N + 1) y = .agg #[.int .i64 y.1.1, .int .i64 y.1.2.1, .string y.1.2.2, .slice y.2.1.1 y.2.2.length y.2.1.2] := rfl
  rw [e3]
  clear H HT e3
  go_wp2_with fail
  exact bodyPost_ret (v := .tuple #[.agg #[.int .i64 y.1.1, .int .i64 y.1.2.1, .string y.1.2.2, .slice y.2.1.1 y.2.2.length y.2.1.2], .bool r]) (by simp [results, Try.results78, go_sem, z0, z1, z2, z3]) rfl (HV _ _ _ _).out

set_option maxHeartbeats 1000000 in
set_option maxRecDepth 100000 in
theorem v_leaf (N : Nat) (o : Option (Tm (N + 1))) (a : Option Addr) (x0 : Int) (x1 : Int) (x2 : ByteArray) (xa : Option Addr) (xl xc : Nat) (n : Nat) (hn : n ≤ N) (x : Tm (n + 1)) (c : Nat) (self : Int) (w : World)
    (h4 : ¬ x0 = 4) (h5 : ¬ x0 = 5) (h6 : ¬ x0 = 6) (HR : Hid (RightA ⟨n + 1, x⟩))
    (HP : Hid (∀ w1, Below w.heap.size w w1 → Calls Try.prog 44 #[.agg #[.int .i64 x0, .int .i64 x1, .string x2, .slice xa xl xc]] w1 fun e w' => ∃ y : Tm (n + 1), e = .returned (val (n + 1) y) ∧ Hid (Below w1.heap.size w1 w' ∧ In w'.heap.size w' (n + 1) y ∧ Off (fun q => w1.heap.size ≤ q) (n + 1) y ∧ same (n + 1) y (n + 1) x = true))) (HO : Hid (o = some (lift (N + 1) (n + 1) x))) :
    Calls Try.prog 78 #[.agg #[.slice a 4 c, .int .i64 self], .agg #[.int .i64 x0, .int .i64 x1, .string x2, .slice xa xl xc]] w (VOut (N + 1) o w) := by
  go_enter Try.func78, Try.ntmps78
  go_wp2_with fail
  refine (HP.out _ (three_is w _ _ _ _ _ _ _ _ _).1).mono ?_
  rintro e w3 ⟨y, rfl, H⟩
  have HBX3 := hide ((three_is w _ _ _ _ _ _ _ _ _).2.below H.out.1)
  have HV := fun v0 v1 v2 v3 => hide (vput_out hn HR.out (three_is w _ _ _ _ _ _ _ _ _).1 (Nat.le_add_right w.heap.size 2) (three_is w _ _ _ _ _ _ _ _ _).2.2.2 H.out (Below.refl _ _) true v0 v1 v2 v3)
  obtain ⟨⟨z0, z1, z2, z3⟩, ⟨f0, f1, f2, f3⟩, hzq⟩ := HBX3.out
  have e3 : val (n + 1) y = .agg #[.int .i64 y.1.1, .int .i64 y.1.2.1, .string y.1.2.2, .slice y.2.1.1 y.2.2.length y.2.1.2] := rfl
  rw [e3]
  clear H HP e3
  go_wp2_with fail
  rw [HO.out]
  exact bodyPost_ret (v := .tuple #[.agg #[.int .i64 y.1.1, .int .i64 y.1.2.1, .string y.1.2.2, .slice y.2.1.1 y.2.2.length y.2.1.2], .bool true]) (by simp [results, Try.results78, go_sem, z0, z1, z2, z3]) rfl (HV _ _ _ _).out

set_option maxHeartbeats 1000000 in
set_option maxRecDepth 100000 in
theorem v_var (N : Nat) (o : Option (Tm (N + 1))) (bb bo : Nat) (k : Nat) (x1 : Int) (x2 : ByteArray) (xa : Option Addr) (xl xc : Nat) (n : Nat) (hn : n ≤ N) (x : Tm (n + 1)) (c : Nat) (self : Int) (w : World)
    (h1 : x1 = (k : Int)) (hk : k < 4) (hbb : bb < w.heap.size) (hx : Held w bb (bo + k * 4) (n + 1) x) (HR : Hid (RightA ⟨n + 1, x⟩))
    (HP : Hid (∀ w1, Below w.heap.size w w1 → Calls Try.prog 44 #[.agg #[.int .i64 x.1.1, .int .i64 x.1.2.1, .string x.1.2.2, .slice x.2.1.1 x.2.2.length x.2.1.2]] w1 fun e w' => ∃ y : Tm (n + 1), e = .returned (val (n + 1) y) ∧ Hid (Below w1.heap.size w1 w' ∧ In w'.heap.size w' (n + 1) y ∧ Off (fun q => w1.heap.size ≤ q) (n + 1) y ∧ same (n + 1) y (n + 1) x = true)))
    (HI : Hid (∀ w1, Calls Try.prog 87 #[.agg #[.int .i64 x.1.1, .int .i64 x.1.2.1, .string x.1.2.2, .slice x.2.1.1 x.2.2.length x.2.1.2]] w1 fun e w' => e = .returned (.bool (!(x.1.1 == 6))) ∧ Below w1.heap.size w1 w'))
    (HO : Hid (o = if (!(x.1.1 == 6)) = true then some (lift (N + 1) (n + 1) x) else none)) :
    Calls Try.prog 78 #[.agg #[.slice (some ⟨bb, bo, none⟩) 4 c, .int .i64 self], .agg #[.int .i64 5, .int .i64 x1, .string x2, .slice xa xl xc]] w (VOut (N + 1) o w) := by
  go_enter Try.func78, Try.ntmps78
  obtain ⟨x0', x1', x2', x3'⟩ := hx
  subst h1
  generalize x.2.2.length = xxl at *
  generalize (!(x.1.1 == 6)) = cl at *
  have hk1 : (0 : Int) ≤ (k : Int) := by omega
  have hk2 : (k : Int) < 4 := by omega
  have hb1 : bb < w.heap.size + 1 := by omega
  have hb2 : bb < w.heap.size + 1 + 1 := by omega
  go_wp2_with fail
  generalize hW : World.alloc (World.alloc (World.alloc (World.alloc w _) _) _) _ = W
  obtain ⟨hBW, hBX, ⟨b0, b1, b2, b3⟩, hWs⟩ := four_is hW
  have HB := hide hBW
  have HBX := hide hBX
  clear hW hBW hBX x0' x1' x2' x3'
  have e3 : ∀ y : Tm (n + 1), val (n + 1) y = .agg #[.int .i64 y.1.1, .int .i64 y.1.2.1, .string y.1.2.2, .slice y.2.1.1 y.2.2.length y.2.1.2] := fun _ => rfl
  go_region_held3 (fun w' => w'.cell? ⟨w.heap.size + 1 + 1 + 1, 0, none⟩ = some (.int .i64 x.1.1) ∧ w'.cell? ⟨w.heap.size + 1 + 1 + 1, 1, none⟩ = some (.int .i64 x.1.2.1) ∧ w'.cell? ⟨w.heap.size + 1 + 1 + 1, 2, none⟩ = some (.string x.1.2.2) ∧ w'.cell? ⟨w.heap.size + 1 + 1 + 1, 3, none⟩ = some (.slice x.2.1.1 xxl x.2.1.2))
    (go_keep) ((first | (go_at_call 44; refine (HP.out _ HB.out.drew).mono ?_; rintro e w3 ⟨y, rfl, H⟩; rw [e3]; have hcc := below_cells (below_undrew H.out.1); have HB3 : Hid (Below w.heap.size w w3) := (HB.out.drew).trans (H.out.1.mono HB.out.size); have hw3 : w.heap.size + 1 + 1 + 1 < w3.heap.size := Nat.lt_of_lt_of_le hWs H.out.1.size) | (go_at_call 87; refine (HI.out _).mono ?_; rintro e w4 ⟨rfl, hb4⟩; have hcc4 := below_cells hb4; have HBX3 := hide ((HBX.out.below (below_undrew H.out.1)).below hb4); obtain ⟨⟨z0, z1, z2, z3⟩, ⟨f0, f1, f2, f3⟩, hzq⟩ := HBX3.out)))
  have HV := fun v0 v1 v2 v3 => hide (vput_out hn HR.out HB.out.drew (Nat.le_add_right w.heap.size 2) HBX.out.2.2 H.out hb4 cl v0 v1 v2 v3)
  clear H hcc hcc4 hb4
  go_wp2_with fail
  rw [HO.out]
  exact bodyPost_ret (v := .tuple #[.agg #[.int .i64 y.1.1, .int .i64 y.1.2.1, .string y.1.2.2, .slice y.2.1.1 y.2.2.length y.2.1.2], .bool cl]) (by simp [results, Try.results78, go_sem, z0, z1, z2, z3]) rfl (HV _ _ _ _).out

end Go.Proofs.Ytbmjfnicfpdjfaa
