/- What is proved here: reckon's valueOfTuple of right terms that lie in memory, from what value returns of each part. No condition but that. -/
import Derived.Test.YtfaoeccnhbcjgabVl3
namespace Go.Proofs.Ytfaoeccnhbcjgab
open Go.RowKit

theorem lift_off {P : Nat → Prop} : (N n : Nat) → n ≤ N → (x : Tm n) → Off P n x → Off P N (lift N n x)
  | _, 0, _, _, k => k.elim
  | 0, n + 1, h, _, _ => by omega
  | N + 1, n + 1, h, x, k => by
    rcases k with k | ⟨b, o, e, hb, k⟩
    · exact Or.inl (by simp [lift, k])
    · refine Or.inr ⟨b, o, e, hb, fun i y hy => ?_⟩
      simp only [lift, List.getElem?_map] at hy
      obtain ⟨z, hz, rfl⟩ := Option.map_eq_some_iff.1 hy
      exact lift_off N n (by omega) z (k i z hz)
theorem lift_val (N n : Nat) (x : Tm (n + 1)) : val (N + 1) (lift (N + 1) (n + 1) x) = val (n + 1) x := by simp [val, lift]
theorem lift_two {N n : Nat} (h : n ≤ N) {x y : Tm (n + 1)} (hr : RightA ⟨n + 1, x⟩) (hs : same (n + 1) y (n + 1) x = true) : same (N + 1) (lift (N + 1) (n + 1) y) (N + 1) (lift (N + 1) (n + 1) x) = true := by
  have hy : RightA ⟨n + 1, y⟩ := right_formed.2 (by rw [same_formed _ _ _ _ hs]; exact right_formed.1 hr)
  exact same_trans _ _ _ _ _ _ (lift_same (N + 1) (n + 1) (by omega) y hy) (same_trans _ _ _ _ _ _ hs (same_symm _ _ _ _ (lift_same (N + 1) (n + 1) (by omega) x hr)))
/-- A copy, at another depth. -/
theorem vout_copy {N n : Nat} (h : n ≤ N) {x y : Tm (n + 1)} {w w' : World} (hr : RightA ⟨n + 1, x⟩) (hb : Below w.heap.size w w') (hin : In w'.heap.size w' (n + 1) y) (ho : Off (fun q => w.heap.size ≤ q) (n + 1) y) (hs : same (n + 1) y (n + 1) x = true) (r : Bool) :
    VOut (N + 1) (if r then some (lift (N + 1) (n + 1) x) else none) w (.returned (.tuple #[.agg #[.int .i64 y.1.1, .int .i64 y.1.2.1, .string y.1.2.2, .slice y.2.1.1 y.2.2.length y.2.1.2], .bool r])) w' := by
  refine ⟨lift (N + 1) (n + 1) y, r, by rw [lift_val]; rfl, hb, lift_in _ _ (by omega) _ _ _ hin, lift_off _ _ (by omega) _ ho, by cases r <;> rfl, fun z hz => ?_⟩
  cases r with
  | false => cases hz
  | true =>
    obtain rfl := Option.some.inj hz
    exact lift_two h hr hs
/-- Put into a box, to be returned. -/
theorem vout_box {N : Nat} {o : Option (Tm (N + 1))} {w w1 w2 : World} {y : Tm (N + 1)} {r : Bool} {q : Nat} (hb : Below w.heap.size w w1) (hq : w.heap.size ≤ q) (hq1 : q < w1.heap.size)
    (h : Below w1.heap.size w1 w2 ∧ In w2.heap.size w2 (N + 1) y ∧ Off (fun q => w1.heap.size ≤ q) (N + 1) y ∧ r = o.isSome ∧ ∀ z, o = some z → same (N + 1) y (N + 1) z = true) (v0 v1 v2 v3 : Value) :
    VOut (N + 1) o w (.returned (.tuple #[.agg #[.int .i64 y.1.1, .int .i64 y.1.2.1, .string y.1.2.2, .slice y.2.1.1 y.2.2.length y.2.1.2], .bool r])) (put4 w2 q 0 v0 v1 v2 v3) := by
  obtain ⟨h1, h2, h3, h4, h5⟩ := h
  have hs := hb.size
  refine ⟨y, r, rfl, put_below (hb.trans (h1.mono hs)) hq _ _ _ _, ?_, h3.mono fun b hh => by omega, h4, h5⟩
  rw [put4_size]
  exact In.off (P := fun b => w1.heap.size ≤ b) (fun b hh => put4_block (by omega) _ _ _ _) h3 h2

/-- A copy, put into a box, to be returned. -/
theorem vput_out {N n : Nat} (h : n ≤ N) {x y : Tm (n + 1)} {w w1 w2 w3 : World} {q : Nat} (hr : RightA ⟨n + 1, x⟩) (hb : Below w.heap.size w w1) (hq : w.heap.size ≤ q) (hq1 : q < w1.heap.size)
    (k : Below w1.heap.size w1 w2 ∧ In w2.heap.size w2 (n + 1) y ∧ Off (fun q => w1.heap.size ≤ q) (n + 1) y ∧ same (n + 1) y (n + 1) x = true) (hb3 : Below w2.heap.size w2 w3) (r : Bool) (v0 v1 v2 v3 : Value) :
    VOut (N + 1) (if r then some (lift (N + 1) (n + 1) x) else none) w (.returned (.tuple #[.agg #[.int .i64 y.1.1, .int .i64 y.1.2.1, .string y.1.2.2, .slice y.2.1.1 y.2.2.length y.2.1.2], .bool r])) (put4 w3 q 0 v0 v1 v2 v3) := by
  obtain ⟨h1, h2, h3, h4⟩ := k
  have hs := hb.size
  have hbb := (hb.trans (h1.mono hs)).trans (hb3.mono (Nat.le_trans hs h1.size))
  refine vout_copy h hr (put_below hbb hq _ _ _ _) ?_ (h3.mono fun b hh => by omega) h4 r
  rw [put4_size]
  exact In.off (P := fun b => w1.heap.size ≤ b) (fun b hh => put4_block (by omega) _ _ _ _) h3 ((h2.below hb3).mono hb3.size)

theorem two_at {w : World} {s0 s1 : Value} {t1 t2 : TypeId} : Below w.heap.size w ((w.alloc (.cells #[s0, s1] t1)).alloc (.cells #[.int .i64 0, .int .i64 0, .string .empty, .slice none 0 0] t2)) ∧ Box0 (w.heap.size + 1) ((w.alloc (.cells #[s0, s1] t1)).alloc (.cells #[.int .i64 0, .int .i64 0, .string .empty, .slice none 0 0] t2)) := by
  have h := box_two (w := w) (s0 := s0) (s1 := s1) (t1 := t1) (t2 := t2) (w' := (w.alloc (.cells #[s0, s1] t1)).alloc (.cells #[.int .i64 0, .int .i64 0, .string .empty, .slice none 0 0] t2)) (World.grownBy.refl _ _)
  exact ⟨h.1, h.2.2⟩

theorem two_is {w w1 : World} {s0 s1 : Value} {t1 t2 : TypeId} (h : w1 = (w.alloc (.cells #[s0, s1] t1)).alloc (.cells #[.int .i64 0, .int .i64 0, .string .empty, .slice none 0 0] t2)) : Below w.heap.size w w1 ∧ Box0 (w.heap.size + 1) w1 ∧ w1.cell? ⟨w.heap.size, 0, none⟩ = some s0 ∧ w1.cell? ⟨w.heap.size, 1, none⟩ = some s1 := by
  subst h
  have h := box_two (w := w) (s0 := s0) (s1 := s1) (t1 := t1) (t2 := t2) (w' := (w.alloc (.cells #[s0, s1] t1)).alloc (.cells #[.int .i64 0, .int .i64 0, .string .empty, .slice none 0 0] t2)) (World.grownBy.refl _ _)
  exact ⟨h.1, h.2.2, h.2.1.1, h.2.1.2⟩

set_option maxHeartbeats 1000000 in
set_option maxRecDepth 100000 in
theorem vt_self (N : Nat) (o : Option (Tm (N + 1))) (a : Option Addr) (c : Nat) (self : Int) (hs : I64 self) (pa : Option Addr) (len : Nat) (pc : Nat) (w : World)
    (HC1 : Hid (∀ w1, Below w.heap.size w w1 → Calls Try.prog 81 #[.slice pa len pc, .string wSelf, .int .i64 0] w1 fun e w' => e = .returned (.bool true) ∧ w' = w1))
    (HO : Hid (o = some (leafV 3 self N))) :
    Calls Try.prog 75 #[.agg #[.slice a 4 c, .int .i64 self], .slice pa len pc] w (VOut (N + 1) o w) := by
  go_enter Try.func75, Try.ntmps75
  go_wp2_with fail
  refine (HC1.out _ two_at.1).mono ?_
  rintro e w1 ⟨rfl, hw⟩
  obtain ⟨hb, hbx, s0, s1⟩ := two_is hw
  have HB := hide hb
  have HBX := hide hbx
  have hsw : w.heap.size < w1.heap.size := by have := hbx.2.2; omega
  clear hw hb hbx HC1
  obtain ⟨⟨z0, z1, z2, z3⟩, ⟨f0, f1, f2, f3⟩, hzq⟩ := HBX.out
  go_wp2_with fail
  rw [HO.out]
  exact bodyPost_ret (v := .tuple #[.agg #[.int .i64 3, .int .i64 self, .string .empty, .slice none 0 0], .bool true]) (by simp [results, Try.results75, go_sem, z0, z1, z2, z3]; rfl) rfl (vout_leaf (put_below HB.out (by omega) _ _ _ _) 3 self (by simp [I64]) hs)

set_option maxHeartbeats 1000000 in
set_option maxRecDepth 100000 in
theorem vt_add (N : Nat) (o : Option (Tm (N + 1))) (a : Option Addr) (c : Nat) (self : Int) (pb po : Nat) (x0 x1 : Int) (x2 : ByteArray) (xa : Option Addr) (xl xc : Nat) (y0 y1 : Int) (y2 : ByteArray) (ya : Option Addr) (yl yc : Nat) (pc : Nat) (w : World)
    (HC1 : Hid (∀ w1, Below w.heap.size w w1 → Calls Try.prog 81 #[.slice (some ⟨pb, po, none⟩) 3 pc, .string wSelf, .int .i64 0] w1 fun e w' => e = .returned (.bool false) ∧ w' = w1))
    (HC2 : Hid (∀ w1, Below w.heap.size w w1 → Calls Try.prog 81 #[.slice (some ⟨pb, po, none⟩) 3 pc, .string wAdd, .int .i64 2] w1 fun e w' => e = .returned (.bool true) ∧ w' = w1))
    (hpb : pb < w.heap.size)
    (cx : w.cell? ⟨pb, po + 4, none⟩ = some (.int .i64 x0) ∧ w.cell? ⟨pb, po + 4 + 1, none⟩ = some (.int .i64 x1) ∧ w.cell? ⟨pb, po + 4 + 2, none⟩ = some (.string x2) ∧ w.cell? ⟨pb, po + 4 + 3, none⟩ = some (.slice xa xl xc))
    (cy : w.cell? ⟨pb, po + 8, none⟩ = some (.int .i64 y0) ∧ w.cell? ⟨pb, po + 8 + 1, none⟩ = some (.int .i64 y1) ∧ w.cell? ⟨pb, po + 8 + 2, none⟩ = some (.string y2) ∧ w.cell? ⟨pb, po + 8 + 3, none⟩ = some (.slice ya yl yc))
    (HS : Hid (∀ w1, Below w.heap.size w w1 → Calls Try.prog 82 #[.agg #[.slice a 4 c, .int .i64 self], .agg #[.int .i64 x0, .int .i64 x1, .string x2, .slice xa xl xc], .agg #[.int .i64 y0, .int .i64 y1, .string y2, .slice ya yl yc]] w1 (VOut (N + 1) o w1))) :
    Calls Try.prog 75 #[.agg #[.slice a 4 c, .int .i64 self], .slice (some ⟨pb, po, none⟩) 3 pc] w (VOut (N + 1) o w) := by
  go_enter Try.func75, Try.ntmps75
  go_wp2_with fail
  refine (HC1.out _ two_at.1).mono ?_
  rintro e w1 ⟨rfl, hw⟩
  obtain ⟨hb, hbx, s0, s1⟩ := two_is hw
  have HB := hide hb
  have HBX := hide hbx
  have hsw : w.heap.size < w1.heap.size := by have := hbx.2.2; omega
  clear hw hb hbx HC1
  have hcc := below_cells HB.out
  obtain ⟨x0', x1', x2', x3'⟩ := cx
  obtain ⟨y0', y1', y2', y3'⟩ := cy
  replace x0' := (hcc _ _ hpb).trans x0'
  replace x1' := (hcc _ _ hpb).trans x1'
  replace x2' := (hcc _ _ hpb).trans x2'
  replace x3' := (hcc _ _ hpb).trans x3'
  replace y0' := (hcc _ _ hpb).trans y0'
  replace y1' := (hcc _ _ hpb).trans y1'
  replace y2' := (hcc _ _ hpb).trans y2'
  replace y3' := (hcc _ _ hpb).trans y3'
  clear hcc
  go_wp2_with fail
  refine (HC2.out _ HB.out).mono ?_
  rintro e w2 ⟨rfl, rfl⟩
  have hpw : pb < w2.heap.size := Nat.lt_of_lt_of_le hpb HB.out.size
  have hne1 : ¬ (w.heap.size + 1 = pb) := by omega
  have hne2 : ¬ (pb = w.heap.size + 1) := by omega
  have e3 : ∀ y : Tm (N + 1), val (N + 1) y = .agg #[.int .i64 y.1.1, .int .i64 y.1.2.1, .string y.1.2.2, .slice y.2.1.1 y.2.2.length y.2.1.2] := fun _ => rfl
  go_wp2_with fail
  go_region_held3 (fun w' => w'.cell? ⟨w.heap.size, 0, none⟩ = some (.slice a 4 c) ∧ w'.cell? ⟨w.heap.size, 1, none⟩ = some (.int .i64 self) ∧ w'.cell? ⟨pb, po + 4, none⟩ = some (.int .i64 x0) ∧ w'.cell? ⟨pb, po + 4 + 1, none⟩ = some (.int .i64 x1) ∧ w'.cell? ⟨pb, po + 4 + 2, none⟩ = some (.string x2) ∧ w'.cell? ⟨pb, po + 4 + 3, none⟩ = some (.slice xa xl xc)
      ∧ w'.cell? ⟨pb, po + 8, none⟩ = some (.int .i64 y0) ∧ w'.cell? ⟨pb, po + 8 + 1, none⟩ = some (.int .i64 y1) ∧ w'.cell? ⟨pb, po + 8 + 2, none⟩ = some (.string y2) ∧ w'.cell? ⟨pb, po + 8 + 3, none⟩ = some (.slice ya yl yc))
    (go_keep) ((go_at_call 82; refine (HS.out _ HB.out.drew).mono ?_; rintro e w3 ⟨y, r, rfl, H⟩; rw [e3]; have hcc := below_cells (below_undrew H.out.1); have HBX3 := hide (HBX.out.below (below_undrew H.out.1)); obtain ⟨⟨z0, z1, z2, z3⟩, ⟨f0, f1, f2, f3⟩, hzq⟩ := HBX3.out))
  have HV := fun v0 v1 v2 v3 => hide (vout_box HB.out.drew (Nat.le_add_right _ 1) HBX.out.2.2 H.out v0 v1 v2 v3)
  clear H hcc
  go_wp2_with fail
  exact bodyPost_ret (v := .tuple #[.agg #[.int .i64 y.1.1, .int .i64 y.1.2.1, .string y.1.2.2, .slice y.2.1.1 y.2.2.length y.2.1.2], .bool r]) (by simp [results, Try.results75, go_sem, z0, z1, z2, z3]) rfl (HV _ _ _ _).out

set_option maxHeartbeats 1000000 in
set_option maxRecDepth 100000 in
theorem vt_put (N : Nat) (o : Option (Tm (N + 1))) (a : Option Addr) (c : Nat) (self : Int) (pb po : Nat) (n : Nat) (hn : n ≤ N) (x : Tm (n + 1)) (cl : Bool) (pc : Nat) (w : World)
    (HC1 : Hid (∀ w1, Below w.heap.size w w1 → Calls Try.prog 81 #[.slice (some ⟨pb, po, none⟩) 2 pc, .string wSelf, .int .i64 0] w1 fun e w' => e = .returned (.bool false) ∧ w' = w1))
    (HC2 : Hid (∀ w1, Below w.heap.size w w1 → Calls Try.prog 81 #[.slice (some ⟨pb, po, none⟩) 2 pc, .string wAdd, .int .i64 2] w1 fun e w' => e = .returned (.bool false) ∧ w' = w1))
    (HC3 : Hid (∀ w1, Below w.heap.size w w1 → Calls Try.prog 81 #[.slice (some ⟨pb, po, none⟩) 2 pc, .string wPut, .int .i64 1] w1 fun e w' => e = .returned (.bool true) ∧ w' = w1))
    (hpb : pb < w.heap.size) (hx : Held w pb (po + 4) (n + 1) x) (HR : Hid (RightA ⟨n + 1, x⟩))
    (HP : Hid (∀ w1, Below w.heap.size w w1 → Calls Try.prog 74 #[.agg #[.int .i64 x.1.1, .int .i64 x.1.2.1, .string x.1.2.2, .slice x.2.1.1 x.2.2.length x.2.1.2]] w1 fun e w' => ∃ y : Tm (n + 1), e = .returned (val (n + 1) y) ∧ Hid (Below w1.heap.size w1 w' ∧ In w'.heap.size w' (n + 1) y ∧ Off (fun q => w1.heap.size ≤ q) (n + 1) y ∧ same (n + 1) y (n + 1) x = true)))
    (HL : Hid (∀ w1, Below w.heap.size w w1 → Calls Try.prog 42 #[.agg #[.int .i64 x.1.1, .int .i64 x.1.2.1, .string x.1.2.2, .slice x.2.1.1 x.2.2.length x.2.1.2]] w1 fun e w' => e = .returned (.bool cl) ∧ Below w1.heap.size w1 w'))
    (HO : Hid (o = if cl then some (lift (N + 1) (n + 1) x) else none)) :
    Calls Try.prog 75 #[.agg #[.slice a 4 c, .int .i64 self], .slice (some ⟨pb, po, none⟩) 2 pc] w (VOut (N + 1) o w) := by
  go_enter Try.func75, Try.ntmps75
  go_wp2_with fail
  refine (HC1.out _ two_at.1).mono ?_
  rintro e w1 ⟨rfl, hw⟩
  obtain ⟨hb, hbx, s0, s1⟩ := two_is hw
  have HB := hide hb
  have HBX := hide hbx
  have hsw : w.heap.size < w1.heap.size := by have := hbx.2.2; omega
  clear hw hb hbx HC1
  have hcc := below_cells HB.out
  obtain ⟨x0', x1', x2', x3'⟩ := hx
  replace x0' := (hcc _ _ hpb).trans x0'
  replace x1' := (hcc _ _ hpb).trans x1'
  replace x2' := (hcc _ _ hpb).trans x2'
  replace x3' := (hcc _ _ hpb).trans x3'
  clear hcc
  generalize x.2.2.length = xl at *
  go_wp2_with fail
  refine (HC2.out _ HB.out).mono ?_
  rintro e w2 ⟨rfl, rfl⟩
  go_wp2_with fail
  refine (HC3.out _ HB.out).mono ?_
  rintro e w2 ⟨rfl, rfl⟩
  have hpw : pb < w2.heap.size := Nat.lt_of_lt_of_le hpb HB.out.size
  have hne1 : ¬ (w.heap.size + 1 = pb) := by omega
  have hne2 : ¬ (pb = w.heap.size + 1) := by omega
  have e3 : ∀ y : Tm (n + 1), val (n + 1) y = .agg #[.int .i64 y.1.1, .int .i64 y.1.2.1, .string y.1.2.2, .slice y.2.1.1 y.2.2.length y.2.1.2] := fun _ => rfl
  go_wp2_with fail
  go_region_held3 (fun w' => w'.cell? ⟨pb, po + 4, none⟩ = some (.int .i64 x.1.1) ∧ w'.cell? ⟨pb, po + 4 + 1, none⟩ = some (.int .i64 x.1.2.1) ∧ w'.cell? ⟨pb, po + 4 + 2, none⟩ = some (.string x.1.2.2) ∧ w'.cell? ⟨pb, po + 4 + 3, none⟩ = some (.slice x.2.1.1 xl x.2.1.2))
    (go_keep) ((first | (go_at_call 74; refine (HP.out _ HB.out.drew).mono ?_; rintro e w3 ⟨y, rfl, H⟩; rw [e3]; have hcc := below_cells (below_undrew H.out.1); have HB3 : Hid (Below w.heap.size w w3) := (HB.out.drew).trans (H.out.1.mono HB.out.size)) | (go_at_call 42; refine (HL.out _ HB3.out).mono ?_; rintro e w4 ⟨rfl, hb4⟩; have hcc4 := below_cells hb4; have hpw3 : pb < w3.heap.size := Nat.lt_of_lt_of_le hpb HB3.out.size; have HBX3 := hide ((HBX.out.below (below_undrew H.out.1)).below hb4); obtain ⟨⟨z0, z1, z2, z3⟩, ⟨f0, f1, f2, f3⟩, hzq⟩ := HBX3.out)))
  have HV := fun v0 v1 v2 v3 => hide (vput_out hn HR.out HB.out.drew (Nat.le_add_right _ 1) HBX.out.2.2 H.out hb4 cl v0 v1 v2 v3)
  clear H hcc hcc4 hb4
  go_wp2_with fail
  rw [HO.out]
  exact bodyPost_ret (v := .tuple #[.agg #[.int .i64 y.1.1, .int .i64 y.1.2.1, .string y.1.2.2, .slice y.2.1.1 y.2.2.length y.2.1.2], .bool cl]) (by simp [results, Try.results75, go_sem, z0, z1, z2, z3]) rfl (HV _ _ _ _).out

set_option maxHeartbeats 1000000 in
set_option maxRecDepth 100000 in
theorem vt_else (N : Nat) (o : Option (Tm (N + 1))) (a : Option Addr) (c : Nat) (self : Int) (pa : Option Addr) (len : Nat) (pc : Nat) (w : World)
    (HC1 : Hid (∀ w1, Below w.heap.size w w1 → Calls Try.prog 81 #[.slice pa len pc, .string wSelf, .int .i64 0] w1 fun e w' => e = .returned (.bool false) ∧ w' = w1))
    (HC2 : Hid (∀ w1, Below w.heap.size w w1 → Calls Try.prog 81 #[.slice pa len pc, .string wAdd, .int .i64 2] w1 fun e w' => e = .returned (.bool false) ∧ w' = w1))
    (HC3 : Hid (∀ w1, Below w.heap.size w w1 → Calls Try.prog 81 #[.slice pa len pc, .string wPut, .int .i64 1] w1 fun e w' => e = .returned (.bool false) ∧ w' = w1))
    (HT : Hid (∀ w1, Below w.heap.size w w1 → Calls Try.prog 83 #[.agg #[.slice a 4 c, .int .i64 self], .slice pa len pc] w1 (VOut (N + 1) o w1))) :
    Calls Try.prog 75 #[.agg #[.slice a 4 c, .int .i64 self], .slice pa len pc] w (VOut (N + 1) o w) := by
  go_enter Try.func75, Try.ntmps75
  go_wp2_with fail
  refine (HC1.out _ two_at.1).mono ?_
  rintro e w1 ⟨rfl, hw⟩
  obtain ⟨hb, hbx, s0, s1⟩ := two_is hw
  have HB := hide hb
  have HBX := hide hbx
  have hsw : w.heap.size < w1.heap.size := by have := hbx.2.2; omega
  clear hw hb hbx HC1
  go_wp2_with fail
  refine (HC2.out _ HB.out).mono ?_
  rintro e w2 ⟨rfl, rfl⟩
  go_wp2_with fail
  refine (HC3.out _ HB.out).mono ?_
  rintro e w2 ⟨rfl, rfl⟩
  go_wp2_with fail
  refine (HT.out _ HB.out).mono ?_
  rintro e w3 ⟨y, r, rfl, H⟩
  have HBX3 := hide (HBX.out.below H.out.1)
  have HV := fun v0 v1 v2 v3 => hide (vout_box HB.out (Nat.le_add_right _ 1) HBX.out.2.2 H.out v0 v1 v2 v3)
  obtain ⟨⟨z0, z1, z2, z3⟩, ⟨f0, f1, f2, f3⟩, hzq⟩ := HBX3.out
  have e3 : val (N + 1) y = .agg #[.int .i64 y.1.1, .int .i64 y.1.2.1, .string y.1.2.2, .slice y.2.1.1 y.2.2.length y.2.1.2] := rfl
  rw [e3]
  clear H HT HC2 HC3 e3
  go_wp2_with fail
  exact bodyPost_ret (v := .tuple #[.agg #[.int .i64 y.1.1, .int .i64 y.1.2.1, .string y.1.2.2, .slice y.2.1.1 y.2.2.length y.2.1.2], .bool r]) (by simp [results, Try.results75, go_sem, z0, z1, z2, z3]) rfl (HV _ _ _ _).out
end Go.Proofs.Ytfaoeccnhbcjgab
