/- What is proved here: plain facts and contracts that the claimed theorem stands on, several texts in one: reckon's valueOfTuple of right terms that lie in memory, from what value returns of each part. No condition but that. reckon's value of a right term that lies in memory, from what it returns of its parts. No condition but that. reckon's value of a right term that lies in memory, by what its variables are bound to. No condition but that. plain facts on a row of values that the document's value appends to: how it grows, and what stays. No condition. reckon.Value of a term and a list of terms that lie in memory: what it returns. Condition: at most 2097152 terms in each. -/
import Derived.Test.YtpehdgbdinjbaaaG09
import Derived.Test.YtpehdgbdinjbaaaG06
namespace Go.Proofs.Ytpehdgbdinjbaaa
open Go.RowKit

theorem lift_off {P : Nat → Prop} : (N n : Nat) → n ≤ N → (x : Tm n) → Off P n x → Off P N (lift N n x)
  | _, 0, _, _, k => k.elim
  | 0, n + 1, h, _, _ => by omega
  | N + 1, n + 1, h, x, k => by
    rcases k with k | ⟨b, o, e, hb, k⟩
    · exact Or.inl (by simp [lift, k])
    · refine Or.inr ⟨b, o, e, hb, fun i y hy => ?_⟩
      simp only [lift, List.getElem?_map] at hy
      obtain ⟨z, hz, rfl⟩ := Option.map_eq_some_iff.1 hy
      exact lift_off N n (by omega) z (k i z hz)
theorem lift_val (N n : Nat) (x : Tm (n + 1)) : val (N + 1) (lift (N + 1) (n + 1) x) = val (n + 1) x := by simp [val, lift]
theorem lift_two {N n : Nat} (h : n ≤ N) {x y : Tm (n + 1)} (hr : RightA ⟨n + 1, x⟩) (hs : same (n + 1) y (n + 1) x = true) : same (N + 1) (lift (N + 1) (n + 1) y) (N + 1) (lift (N + 1) (n + 1) x) = true := by
  have hy : RightA ⟨n + 1, y⟩ := right_formed.2 (by rw [same_formed _ _ _ _ hs]; exact right_formed.1 hr)
  exact same_trans _ _ _ _ _ _ (lift_same (N + 1) (n + 1) (by omega) y hy) (same_trans _ _ _ _ _ _ hs (same_symm _ _ _ _ (lift_same (N + 1) (n + 1) (by omega) x hr)))
/-- A copy, at another depth. -/
theorem vout_copy {N n : Nat} (h : n ≤ N) {x y : Tm (n + 1)} {w w' : World} (hr : RightA ⟨n + 1, x⟩) (hb : Below w.heap.size w w') (hin : In w'.heap.size w' (n + 1) y) (ho : Off (fun q => w.heap.size ≤ q) (n + 1) y) (hs : same (n + 1) y (n + 1) x = true) (r : Bool) :
    VOut (N + 1) (if r then some (lift (N + 1) (n + 1) x) else none) w (.returned (.tuple #[.agg #[.int .i64 y.1.1, .int .i64 y.1.2.1, .string y.1.2.2, .slice y.2.1.1 y.2.2.length y.2.1.2], .bool r])) w' := by
  refine ⟨lift (N + 1) (n + 1) y, r, by rw [lift_val]; rfl, hb, lift_in _ _ (by omega) _ _ _ hin, lift_off _ _ (by omega) _ ho, by cases r <;> rfl, fun z hz => ?_⟩
  cases r with
  | false => cases hz
  | true =>
    obtain rfl := Option.some.inj hz
    exact lift_two h hr hs
/-- Put into a box, to be returned. -/
theorem vout_box {N : Nat} {o : Option (Tm (N + 1))} {w w1 w2 : World} {y : Tm (N + 1)} {r : Bool} {q : Nat} (hb : Below w.heap.size w w1) (hq : w.heap.size ≤ q) (hq1 : q < w1.heap.size)
    (h : Below w1.heap.size w1 w2 ∧ In w2.heap.size w2 (N + 1) y ∧ Off (fun q => w1.heap.size ≤ q) (N + 1) y ∧ r = o.isSome ∧ ∀ z, o = some z → same (N + 1) y (N + 1) z = true) (v0 v1 v2 v3 : Value) :
    VOut (N + 1) o w (.returned (.tuple #[.agg #[.int .i64 y.1.1, .int .i64 y.1.2.1, .string y.1.2.2, .slice y.2.1.1 y.2.2.length y.2.1.2], .bool r])) (put4 w2 q 0 v0 v1 v2 v3) := by
  obtain ⟨h1, h2, h3, h4, h5⟩ := h
  have hs := hb.size
  refine ⟨y, r, rfl, put_below (hb.trans (h1.mono hs)) hq _ _ _ _, ?_, h3.mono fun b hh => by omega, h4, h5⟩
  rw [put4_size]
  exact In.off (P := fun b => w1.heap.size ≤ b) (fun b hh => put4_block (by omega) _ _ _ _) h3 h2

/-- A copy, put into a box, to be returned. -/
theorem vput_out {N n : Nat} (h : n ≤ N) {x y : Tm (n + 1)} {w w1 w2 w3 : World} {q : Nat} (hr : RightA ⟨n + 1, x⟩) (hb : Below w.heap.size w w1) (hq : w.heap.size ≤ q) (hq1 : q < w1.heap.size)
    (k : Below w1.heap.size w1 w2 ∧ In w2.heap.size w2 (n + 1) y ∧ Off (fun q => w1.heap.size ≤ q) (n + 1) y ∧ same (n + 1) y (n + 1) x = true) (hb3 : Below w2.heap.size w2 w3) (r : Bool) (v0 v1 v2 v3 : Value) :
    VOut (N + 1) (if r then some (lift (N + 1) (n + 1) x) else none) w (.returned (.tuple #[.agg #[.int .i64 y.1.1, .int .i64 y.1.2.1, .string y.1.2.2, .slice y.2.1.1 y.2.2.length y.2.1.2], .bool r])) (put4 w3 q 0 v0 v1 v2 v3) := by
  obtain ⟨h1, h2, h3, h4⟩ := k
  have hs := hb.size
  have hbb := (hb.trans (h1.mono hs)).trans (hb3.mono (Nat.le_trans hs h1.size))
  refine vout_copy h hr (put_below hbb hq _ _ _ _) ?_ (h3.mono fun b hh => by omega) h4 r
  rw [put4_size]
  exact In.off (P := fun b => w1.heap.size ≤ b) (fun b hh => put4_block (by omega) _ _ _ _) h3 ((h2.below hb3).mono hb3.size)

theorem two_at {w : World} {s0 s1 : Value} {t1 t2 : TypeId} : Below w.heap.size w ((w.alloc (.cells #[s0, s1] t1)).alloc (.cells #[.int .i64 0, .int .i64 0, .string .empty, .slice none 0 0] t2)) ∧ Box0 (w.heap.size + 1) ((w.alloc (.cells #[s0, s1] t1)).alloc (.cells #[.int .i64 0, .int .i64 0, .string .empty, .slice none 0 0] t2)) := by
  have h := box_two (w := w) (s0 := s0) (s1 := s1) (t1 := t1) (t2 := t2) (w' := (w.alloc (.cells #[s0, s1] t1)).alloc (.cells #[.int .i64 0, .int .i64 0, .string .empty, .slice none 0 0] t2)) (World.grownBy.refl _ _)
  exact ⟨h.1, h.2.2⟩

theorem two_is {w w1 : World} {s0 s1 : Value} {t1 t2 : TypeId} (h : w1 = (w.alloc (.cells #[s0, s1] t1)).alloc (.cells #[.int .i64 0, .int .i64 0, .string .empty, .slice none 0 0] t2)) : Below w.heap.size w w1 ∧ Box0 (w.heap.size + 1) w1 ∧ w1.cell? ⟨w.heap.size, 0, none⟩ = some s0 ∧ w1.cell? ⟨w.heap.size, 1, none⟩ = some s1 := by
  subst h
  have h := box_two (w := w) (s0 := s0) (s1 := s1) (t1 := t1) (t2 := t2) (w' := (w.alloc (.cells #[s0, s1] t1)).alloc (.cells #[.int .i64 0, .int .i64 0, .string .empty, .slice none 0 0] t2)) (World.grownBy.refl _ _)
  exact ⟨h.1, h.2.2, h.2.1.1, h.2.1.2⟩

set_option maxHeartbeats 1000000 in
set_option maxRecDepth 100000 in
theorem vt_self (N : Nat) (o : Option (Tm (N + 1))) (a : Option Addr) (c : Nat) (self : Int) (hs : I64 self) (pa : Option Addr) (len : Nat) (pc : Nat) (w : World)
    (HC1 : Hid (∀ w1, Below w.heap.size w w1 → Calls Try.prog 114 #[.slice pa len pc, .string wSelf, .int .i64 0] w1 fun e w' => e = .returned (.bool true) ∧ w' = w1))
    (HO : Hid (o = some (leafV 3 self N))) :
    Calls Try.prog 98 #[.agg #[.slice a 4 c, .int .i64 self], .slice pa len pc] w (VOut (N + 1) o w) := by
  go_enter Try.func98, Try.ntmps98
  go_wp2_with fail
  refine (HC1.out _ two_at.1).mono ?_
  rintro e w1 ⟨rfl, hw⟩
  obtain ⟨hb, hbx, s0, s1⟩ := two_is hw
  have HB := hide hb
  have HBX := hide hbx
  have hsw : w.heap.size < w1.heap.size := by have := hbx.2.2; omega
  clear hw hb hbx HC1
  obtain ⟨⟨z0, z1, z2, z3⟩, ⟨f0, f1, f2, f3⟩, hzq⟩ := HBX.out
  go_wp2_with fail
  rw [HO.out]
  exact bodyPost_ret (v := .tuple #[.agg #[.int .i64 3, .int .i64 self, .string .empty, .slice none 0 0], .bool true]) (by simp [results, Try.results98, go_sem, z0, z1, z2, z3]; rfl) rfl (vout_leaf (put_below HB.out (by omega) _ _ _ _) 3 self (by simp [I64]) hs)

set_option maxHeartbeats 1000000 in
set_option maxRecDepth 100000 in
theorem vt_add (N : Nat) (o : Option (Tm (N + 1))) (a : Option Addr) (c : Nat) (self : Int) (pb po : Nat) (x0 x1 : Int) (x2 : ByteArray) (xa : Option Addr) (xl xc : Nat) (y0 y1 : Int) (y2 : ByteArray) (ya : Option Addr) (yl yc : Nat) (pc : Nat) (w : World)
    (HC1 : Hid (∀ w1, Below w.heap.size w w1 → Calls Try.prog 114 #[.slice (some ⟨pb, po, none⟩) 3 pc, .string wSelf, .int .i64 0] w1 fun e w' => e = .returned (.bool false) ∧ w' = w1))
    (HC2 : Hid (∀ w1, Below w.heap.size w w1 → Calls Try.prog 114 #[.slice (some ⟨pb, po, none⟩) 3 pc, .string wAdd, .int .i64 2] w1 fun e w' => e = .returned (.bool true) ∧ w' = w1))
    (hpb : pb < w.heap.size)
    (cx : w.cell? ⟨pb, po + 4, none⟩ = some (.int .i64 x0) ∧ w.cell? ⟨pb, po + 4 + 1, none⟩ = some (.int .i64 x1) ∧ w.cell? ⟨pb, po + 4 + 2, none⟩ = some (.string x2) ∧ w.cell? ⟨pb, po + 4 + 3, none⟩ = some (.slice xa xl xc))
    (cy : w.cell? ⟨pb, po + 8, none⟩ = some (.int .i64 y0) ∧ w.cell? ⟨pb, po + 8 + 1, none⟩ = some (.int .i64 y1) ∧ w.cell? ⟨pb, po + 8 + 2, none⟩ = some (.string y2) ∧ w.cell? ⟨pb, po + 8 + 3, none⟩ = some (.slice ya yl yc))
    (HS : Hid (∀ w1, Below w.heap.size w w1 → Calls Try.prog 115 #[.agg #[.slice a 4 c, .int .i64 self], .agg #[.int .i64 x0, .int .i64 x1, .string x2, .slice xa xl xc], .agg #[.int .i64 y0, .int .i64 y1, .string y2, .slice ya yl yc]] w1 (VOut (N + 1) o w1))) :
    Calls Try.prog 98 #[.agg #[.slice a 4 c, .int .i64 self], .slice (some ⟨pb, po, none⟩) 3 pc] w (VOut (N + 1) o w) := by
  go_enter Try.func98, Try.ntmps98
  go_wp2_with fail
  refine (HC1.out _ two_at.1).mono ?_
  rintro e w1 ⟨rfl, hw⟩
  obtain ⟨hb, hbx, s0, s1⟩ := two_is hw
  have HB := hide hb
  have HBX := hide hbx
  have hsw : w.heap.size < w1.heap.size := by have := hbx.2.2; omega
  clear hw hb hbx HC1
  have hcc := below_cells HB.out
  obtain ⟨x0', x1', x2', x3'⟩ := cx
  obtain ⟨y0', y1', y2', y3'⟩ := cy
  replace x0' := (hcc _ _ hpb).trans x0'
  replace x1' := (hcc _ _ hpb).trans x1'
  replace x2' := (hcc _ _ hpb).trans x2'
  replace x3' := (hcc _ _ hpb).trans x3'
  replace y0' := (hcc _ _ hpb).trans y0'
  replace y1' := (hcc _ _ hpb).trans y1'
  replace y2' := (hcc _ _ hpb).trans y2'
  replace y3' := (hcc _ _ hpb).trans y3'
  clear hcc
  go_wp2_with fail
  refine (HC2.out _ HB.out).mono ?_
  rintro e w2 ⟨rfl, rfl⟩
  have hpw : pb < w2.heap.size := Nat.lt_of_lt_of_le hpb HB.out.size
  have hne1 : ¬ (w.heap.size + 1 = pb) := by omega
  have hne2 : ¬ (pb = w.heap.size + 1) := by omega
  have e3 : ∀ y : Tm (N + 1), val (N + 1) y = .agg #[.int .i64 y.1.1, .int .i64 y.1.2.1, .string y.1.2.2, .slice y.2.1.1 y.2.2.length y.2.1.2] := fun _ => rfl
  go_wp2_with fail
  go_region_held3 (fun w' => w'.cell? ⟨w.heap.size, 0, none⟩ = some (.slice a 4 c) ∧ w'.cell? ⟨w.heap.size, 1, none⟩ = some (.int .i64 self) ∧ w'.cell? ⟨pb, po + 4, none⟩ = some (.int .i64 x0) ∧ w'.cell? ⟨pb, po + 4 + 1, none⟩ = some (.int .i64 x1) ∧ w'.cell? ⟨pb, po + 4 + 2, none⟩ = some (.string x2) ∧ w'.cell? ⟨pb, po + 4 + 3, none⟩ = some (.slice xa xl xc)
      ∧ w'.cell? ⟨pb, po + 8, none⟩ = some (.int .i64 y0) ∧ w'.cell? ⟨pb, po + 8 + 1, none⟩ = some (.int .i64 y1) ∧ w'.cell? ⟨pb, po + 8 + 2, none⟩ = some (.string y2) ∧ w'.cell? ⟨pb, po + 8 + 3, none⟩ = some (.slice ya yl yc))
    (go_keep) ((go_at_call 115; refine (HS.out _ HB.out.drew).mono ?_; rintro e w3 ⟨y, r, rfl, H⟩; rw [e3]; have hcc := below_cells (below_undrew H.out.1); have HBX3 := hide (HBX.out.below (below_undrew H.out.1)); obtain ⟨⟨z0, z1, z2, z3⟩, ⟨f0, f1, f2, f3⟩, hzq⟩ := HBX3.out))
  have HV := fun v0 v1 v2 v3 => hide (vout_box HB.out.drew (Nat.le_add_right _ 1) HBX.out.2.2 H.out v0 v1 v2 v3)
  clear H hcc
  go_wp2_with fail
  exact bodyPost_ret (v := .tuple #[.agg #[.int .i64 y.1.1, .int .i64 y.1.2.1, .string y.1.2.2, .slice y.2.1.1 y.2.2.length y.2.1.2], .bool r]) (by simp [results, Try.results98, go_sem, z0, z1, z2, z3]) rfl (HV _ _ _ _).out

set_option maxHeartbeats 1000000 in
set_option maxRecDepth 100000 in
theorem vt_put (N : Nat) (o : Option (Tm (N + 1))) (a : Option Addr) (c : Nat) (self : Int) (pb po : Nat) (n : Nat) (hn : n ≤ N) (x : Tm (n + 1)) (cl : Bool) (pc : Nat) (w : World)
    (HC1 : Hid (∀ w1, Below w.heap.size w w1 → Calls Try.prog 114 #[.slice (some ⟨pb, po, none⟩) 2 pc, .string wSelf, .int .i64 0] w1 fun e w' => e = .returned (.bool false) ∧ w' = w1))
    (HC2 : Hid (∀ w1, Below w.heap.size w w1 → Calls Try.prog 114 #[.slice (some ⟨pb, po, none⟩) 2 pc, .string wAdd, .int .i64 2] w1 fun e w' => e = .returned (.bool false) ∧ w' = w1))
    (HC3 : Hid (∀ w1, Below w.heap.size w w1 → Calls Try.prog 114 #[.slice (some ⟨pb, po, none⟩) 2 pc, .string wPut, .int .i64 1] w1 fun e w' => e = .returned (.bool true) ∧ w' = w1))
    (hpb : pb < w.heap.size) (hx : Held w pb (po + 4) (n + 1) x) (HR : Hid (RightA ⟨n + 1, x⟩))
    (HP : Hid (∀ w1, Below w.heap.size w w1 → Calls Try.prog 77 #[.agg #[.int .i64 x.1.1, .int .i64 x.1.2.1, .string x.1.2.2, .slice x.2.1.1 x.2.2.length x.2.1.2]] w1 fun e w' => ∃ y : Tm (n + 1), e = .returned (val (n + 1) y) ∧ Hid (Below w1.heap.size w1 w' ∧ In w'.heap.size w' (n + 1) y ∧ Off (fun q => w1.heap.size ≤ q) (n + 1) y ∧ same (n + 1) y (n + 1) x = true)))
    (HL : Hid (∀ w1, Below w.heap.size w w1 → Calls Try.prog 54 #[.agg #[.int .i64 x.1.1, .int .i64 x.1.2.1, .string x.1.2.2, .slice x.2.1.1 x.2.2.length x.2.1.2]] w1 fun e w' => e = .returned (.bool cl) ∧ Below w1.heap.size w1 w'))
    (HO : Hid (o = if cl then some (lift (N + 1) (n + 1) x) else none)) :
    Calls Try.prog 98 #[.agg #[.slice a 4 c, .int .i64 self], .slice (some ⟨pb, po, none⟩) 2 pc] w (VOut (N + 1) o w) := by
  go_enter Try.func98, Try.ntmps98
  go_wp2_with fail
  refine (HC1.out _ two_at.1).mono ?_
  rintro e w1 ⟨rfl, hw⟩
  obtain ⟨hb, hbx, s0, s1⟩ := two_is hw
  have HB := hide hb
  have HBX := hide hbx
  have hsw : w.heap.size < w1.heap.size := by have := hbx.2.2; omega
  clear hw hb hbx HC1
  have hcc := below_cells HB.out
  obtain ⟨x0', x1', x2', x3'⟩ := hx
  replace x0' := (hcc _ _ hpb).trans x0'
  replace x1' := (hcc _ _ hpb).trans x1'
  replace x2' := (hcc _ _ hpb).trans x2'
  replace x3' := (hcc _ _ hpb).trans x3'
  clear hcc
  generalize x.2.2.length = xl at *
  go_wp2_with fail
  refine (HC2.out _ HB.out).mono ?_
  rintro e w2 ⟨rfl, rfl⟩
  go_wp2_with fail
  refine (HC3.out _ HB.out).mono ?_
  rintro e w2 ⟨rfl, rfl⟩
  have hpw : pb < w2.heap.size := Nat.lt_of_lt_of_le hpb HB.out.size
  have hne1 : ¬ (w.heap.size + 1 = pb) := by omega
  have hne2 : ¬ (pb = w.heap.size + 1) := by omega
  have e3 : ∀ y : Tm (n + 1), val (n + 1) y = .agg #[.int .i64 y.1.1, .int .i64 y.1.2.1, .string y.1.2.2, .slice y.2.1.1 y.2.2.length y.2.1.2] := fun _ => rfl
  go_wp2_with fail
  go_region_held3 (fun w' => w'.cell? ⟨pb, po + 4, none⟩ = some (.int .i64 x.1.1) ∧ w'.cell? ⟨pb, po + 4 + 1, none⟩ = some (.int .i64 x.1.2.1) ∧ w'.cell? ⟨pb, po + 4 + 2, none⟩ = some (.string x.1.2.2) ∧ w'.cell? ⟨pb, po + 4 + 3, none⟩ = some (.slice x.2.1.1 xl x.2.1.2))
    (go_keep) ((first | (go_at_call 77; refine (HP.out _ HB.out.drew).mono ?_; rintro e w3 ⟨y, rfl, H⟩; rw [e3]; have hcc := below_cells (below_undrew H.out.1); have HB3 : Hid (Below w.heap.size w w3) := (HB.out.drew).trans (H.out.1.mono HB.out.size)) | (go_at_call 54; refine (HL.out _ HB3.out).mono ?_; rintro e w4 ⟨rfl, hb4⟩; have hcc4 := below_cells hb4; have hpw3 : pb < w3.heap.size := Nat.lt_of_lt_of_le hpb HB3.out.size; have HBX3 := hide ((HBX.out.below (below_undrew H.out.1)).below hb4); obtain ⟨⟨z0, z1, z2, z3⟩, ⟨f0, f1, f2, f3⟩, hzq⟩ := HBX3.out)))
  have HV := fun v0 v1 v2 v3 => hide (vput_out hn HR.out HB.out.drew (Nat.le_add_right _ 1) HBX.out.2.2 H.out hb4 cl v0 v1 v2 v3)
  clear H hcc hcc4 hb4
  go_wp2_with fail
  rw [HO.out]
  exact bodyPost_ret (v := .tuple #[.agg #[.int .i64 y.1.1, .int .i64 y.1.2.1, .string y.1.2.2, .slice y.2.1.1 y.2.2.length y.2.1.2], .bool cl]) (by simp [results, Try.results98, go_sem, z0, z1, z2, z3]) rfl (HV _ _ _ _).out

set_option maxHeartbeats 1000000 in
set_option maxRecDepth 100000 in
theorem vt_else (N : Nat) (o : Option (Tm (N + 1))) (a : Option Addr) (c : Nat) (self : Int) (pa : Option Addr) (len : Nat) (pc : Nat) (w : World)
    (HC1 : Hid (∀ w1, Below w.heap.size w w1 → Calls Try.prog 114 #[.slice pa len pc, .string wSelf, .int .i64 0] w1 fun e w' => e = .returned (.bool false) ∧ w' = w1))
    (HC2 : Hid (∀ w1, Below w.heap.size w w1 → Calls Try.prog 114 #[.slice pa len pc, .string wAdd, .int .i64 2] w1 fun e w' => e = .returned (.bool false) ∧ w' = w1))
    (HC3 : Hid (∀ w1, Below w.heap.size w w1 → Calls Try.prog 114 #[.slice pa len pc, .string wPut, .int .i64 1] w1 fun e w' => e = .returned (.bool false) ∧ w' = w1))
    (HT : Hid (∀ w1, Below w.heap.size w w1 → Calls Try.prog 116 #[.agg #[.slice a 4 c, .int .i64 self], .slice pa len pc] w1 (VOut (N + 1) o w1))) :
    Calls Try.prog 98 #[.agg #[.slice a 4 c, .int .i64 self], .slice pa len pc] w (VOut (N + 1) o w) := by
  go_enter Try.func98, Try.ntmps98
  go_wp2_with fail
  refine (HC1.out _ two_at.1).mono ?_
  rintro e w1 ⟨rfl, hw⟩
  obtain ⟨hb, hbx, s0, s1⟩ := two_is hw
  have HB := hide hb
  have HBX := hide hbx
  have hsw : w.heap.size < w1.heap.size := by have := hbx.2.2; omega
  clear hw hb hbx HC1
  go_wp2_with fail
  refine (HC2.out _ HB.out).mono ?_
  rintro e w2 ⟨rfl, rfl⟩
  go_wp2_with fail
  refine (HC3.out _ HB.out).mono ?_
  rintro e w2 ⟨rfl, rfl⟩
  go_wp2_with fail
  refine (HT.out _ HB.out).mono ?_
  rintro e w3 ⟨y, r, rfl, H⟩
  have HBX3 := hide (HBX.out.below H.out.1)
  have HV := fun v0 v1 v2 v3 => hide (vout_box HB.out (Nat.le_add_right _ 1) HBX.out.2.2 H.out v0 v1 v2 v3)
  obtain ⟨⟨z0, z1, z2, z3⟩, ⟨f0, f1, f2, f3⟩, hzq⟩ := HBX3.out
  have e3 : val (N + 1) y = .agg #[.int .i64 y.1.1, .int .i64 y.1.2.1, .string y.1.2.2, .slice y.2.1.1 y.2.2.length y.2.1.2] := rfl
  rw [e3]
  clear H HT HC2 HC3 e3
  go_wp2_with fail
  exact bodyPost_ret (v := .tuple #[.agg #[.int .i64 y.1.1, .int .i64 y.1.2.1, .string y.1.2.2, .slice y.2.1.1 y.2.2.length y.2.1.2], .bool r]) (by simp [results, Try.results98, go_sem, z0, z1, z2, z3]) rfl (HV _ _ _ _).out
end Go.Proofs.Ytpehdgbdinjbaaa
namespace Go.Proofs.Ytpehdgbdinjbaaa
open Go.RowKit

theorem three_is (w : World) (s0 s1 x0 x1 x2 x3 : Value) (t1 t2 t3 : TypeId) : Below w.heap.size w (((w.alloc (.cells #[s0, s1] t1)).alloc (.cells #[x0, x1, x2, x3] t2)).alloc (.cells #[.int .i64 0, .int .i64 0, .string .empty, .slice none 0 0] t3)) ∧
    Box0 (w.heap.size + 1 + 1) (((w.alloc (.cells #[s0, s1] t1)).alloc (.cells #[x0, x1, x2, x3] t2)).alloc (.cells #[.int .i64 0, .int .i64 0, .string .empty, .slice none 0 0] t3)) := by
  refine ⟨(((Below.refl _ _).alloc (Nat.le_refl _) _).alloc (by simp) _).alloc (by simp; omega) _, ⟨?_, ?_, ?_, ?_⟩, ⟨?_, ?_, ?_, ?_⟩, ?_⟩ <;> simp [go_sem]
theorem four_is {w W : World} {s0 s1 x0 x1 x2 x3 y0 y1 y2 y3 : Value} {t1 t2 t3 t4 : TypeId} (h : (((w.alloc (.cells #[s0, s1] t1)).alloc (.cells #[x0, x1, x2, x3] t2)).alloc (.cells #[.int .i64 0, .int .i64 0, .string .empty, .slice none 0 0] t3)).alloc (.cells #[y0, y1, y2, y3] t4) = W) : Below w.heap.size w W ∧ Box0 (w.heap.size + 1 + 1) W ∧
    (W.cell? ⟨w.heap.size + 1 + 1 + 1, 0, none⟩ = some y0 ∧ W.cell? ⟨w.heap.size + 1 + 1 + 1, 1, none⟩ = some y1 ∧ W.cell? ⟨w.heap.size + 1 + 1 + 1, 2, none⟩ = some y2 ∧ W.cell? ⟨w.heap.size + 1 + 1 + 1, 3, none⟩ = some y3) ∧ w.heap.size + 1 + 1 + 1 < W.heap.size := by
  subst h
  refine ⟨four_below _ _ _ _ _, ⟨⟨?_, ?_, ?_, ?_⟩, ⟨?_, ?_, ?_, ?_⟩, ?_⟩, ⟨?_, ?_, ?_, ?_⟩, ?_⟩ <;> simp [go_sem]

set_option maxHeartbeats 1000000 in
set_option maxRecDepth 100000 in
theorem v_any (N : Nat) (o : Option (Tm (N + 1))) (a : Option Addr) (x1 : Int) (x2 : ByteArray) (xa : Option Addr) (xl xc : Nat) (c : Nat) (self : Int) (w : World)
    (HO : Hid (o = none)) :
    Calls Try.prog 71 #[.agg #[.slice a 4 c, .int .i64 self], .agg #[.int .i64 6, .int .i64 x1, .string x2, .slice xa xl xc]] w (VOut (N + 1) o w) := by
  go_enter Try.func71, Try.ntmps71
  go_wp2_with fail
  rw [HO.out]
  exact bodyPost_ret (v := .tuple #[.agg #[.int .i64 0, .int .i64 0, .string .empty, .slice none 0 0], .bool false]) (by simp [results, Try.results71, go_sem]; rfl) rfl (vout_none (three_is w _ _ _ _ _ _ _ _ _).1)

set_option maxHeartbeats 1000000 in
set_option maxRecDepth 100000 in
theorem v_tup (N : Nat) (o : Option (Tm (N + 1))) (a : Option Addr) (x1 : Int) (x2 : ByteArray) (xa : Option Addr) (xl xc : Nat) (c : Nat) (self : Int) (w : World)
    (HT : Hid (∀ w1, Below w.heap.size w w1 → Calls Try.prog 98 #[.agg #[.slice a 4 c, .int .i64 self], .slice xa xl xc] w1 (VOut (N + 1) o w1))) :
    Calls Try.prog 71 #[.agg #[.slice a 4 c, .int .i64 self], .agg #[.int .i64 4, .int .i64 x1, .string x2, .slice xa xl xc]] w (VOut (N + 1) o w) := by
  go_enter Try.func71, Try.ntmps71
  go_wp2_with fail
  refine (HT.out _ (three_is w _ _ _ _ _ _ _ _ _).1).mono ?_
  rintro e w3 ⟨y, r, rfl, H⟩
  have HBX3 := hide ((three_is w _ _ _ _ _ _ _ _ _).2.below H.out.1)
  have HV := fun v0 v1 v2 v3 => hide (vout_box (three_is w _ _ _ _ _ _ _ _ _).1 (Nat.le_add_right w.heap.size 2) (three_is w _ _ _ _ _ _ _ _ _).2.2.2 H.out v0 v1 v2 v3)
  obtain ⟨⟨z0, z1, z2, z3⟩, ⟨f0, f1, f2, f3⟩, hzq⟩ := HBX3.out
  have e3 : val (N + 1) y = .agg #[.int .i64 y.1.1, .int .i64 y.1.2.1, .string y.1.2.2, .slice y.2.1.1 y.2.2.length y.2.1.2] := rfl
  rw [e3]
  clear H HT e3
  go_wp2_with fail
  exact bodyPost_ret (v := .tuple #[.agg #[.int .i64 y.1.1, .int .i64 y.1.2.1, .string y.1.2.2, .slice y.2.1.1 y.2.2.length y.2.1.2], .bool r]) (by simp [results, Try.results71, go_sem, z0, z1, z2, z3]) rfl (HV _ _ _ _).out

set_option maxHeartbeats 1000000 in
set_option maxRecDepth 100000 in
theorem v_leaf (N : Nat) (o : Option (Tm (N + 1))) (a : Option Addr) (x0 : Int) (x1 : Int) (x2 : ByteArray) (xa : Option Addr) (xl xc : Nat) (n : Nat) (hn : n ≤ N) (x : Tm (n + 1)) (c : Nat) (self : Int) (w : World)
    (h4 : ¬ x0 = 4) (h5 : ¬ x0 = 5) (h6 : ¬ x0 = 6) (HR : Hid (RightA ⟨n + 1, x⟩))
    (HP : Hid (∀ w1, Below w.heap.size w w1 → Calls Try.prog 77 #[.agg #[.int .i64 x0, .int .i64 x1, .string x2, .slice xa xl xc]] w1 fun e w' => ∃ y : Tm (n + 1), e = .returned (val (n + 1) y) ∧ Hid (Below w1.heap.size w1 w' ∧ In w'.heap.size w' (n + 1) y ∧ Off (fun q => w1.heap.size ≤ q) (n + 1) y ∧ same (n + 1) y (n + 1) x = true))) (HO : Hid (o = some (lift (N + 1) (n + 1) x))) :
    Calls Try.prog 71 #[.agg #[.slice a 4 c, .int .i64 self], .agg #[.int .i64 x0, .int .i64 x1, .string x2, .slice xa xl xc]] w (VOut (N + 1) o w) := by
  go_enter Try.func71, Try.ntmps71
  go_wp2_with fail
  refine (HP.out _ (three_is w _ _ _ _ _ _ _ _ _).1).mono ?_
  rintro e w3 ⟨y, rfl, H⟩
  have HBX3 := hide ((three_is w _ _ _ _ _ _ _ _ _).2.below H.out.1)
  have HV := fun v0 v1 v2 v3 => hide (vput_out hn HR.out (three_is w _ _ _ _ _ _ _ _ _).1 (Nat.le_add_right w.heap.size 2) (three_is w _ _ _ _ _ _ _ _ _).2.2.2 H.out (Below.refl _ _) true v0 v1 v2 v3)
  obtain ⟨⟨z0, z1, z2, z3⟩, ⟨f0, f1, f2, f3⟩, hzq⟩ := HBX3.out
  have e3 : val (n + 1) y = .agg #[.int .i64 y.1.1, .int .i64 y.1.2.1, .string y.1.2.2, .slice y.2.1.1 y.2.2.length y.2.1.2] := rfl
  rw [e3]
  clear H HP e3
  go_wp2_with fail
  rw [HO.out]
  exact bodyPost_ret (v := .tuple #[.agg #[.int .i64 y.1.1, .int .i64 y.1.2.1, .string y.1.2.2, .slice y.2.1.1 y.2.2.length y.2.1.2], .bool true]) (by simp [results, Try.results71, go_sem, z0, z1, z2, z3]) rfl (HV _ _ _ _).out

set_option maxHeartbeats 1000000 in
set_option maxRecDepth 100000 in
theorem v_var (N : Nat) (o : Option (Tm (N + 1))) (bb bo : Nat) (k : Nat) (x1 : Int) (x2 : ByteArray) (xa : Option Addr) (xl xc : Nat) (n : Nat) (hn : n ≤ N) (x : Tm (n + 1)) (c : Nat) (self : Int) (w : World)
    (h1 : x1 = (k : Int)) (hk : k < 4) (hbb : bb < w.heap.size) (hx : Held w bb (bo + k * 4) (n + 1) x) (HR : Hid (RightA ⟨n + 1, x⟩))
    (HP : Hid (∀ w1, Below w.heap.size w w1 → Calls Try.prog 77 #[.agg #[.int .i64 x.1.1, .int .i64 x.1.2.1, .string x.1.2.2, .slice x.2.1.1 x.2.2.length x.2.1.2]] w1 fun e w' => ∃ y : Tm (n + 1), e = .returned (val (n + 1) y) ∧ Hid (Below w1.heap.size w1 w' ∧ In w'.heap.size w' (n + 1) y ∧ Off (fun q => w1.heap.size ≤ q) (n + 1) y ∧ same (n + 1) y (n + 1) x = true)))
    (HI : Hid (∀ w1, Calls Try.prog 95 #[.agg #[.int .i64 x.1.1, .int .i64 x.1.2.1, .string x.1.2.2, .slice x.2.1.1 x.2.2.length x.2.1.2]] w1 fun e w' => e = .returned (.bool (!(x.1.1 == 6))) ∧ Below w1.heap.size w1 w'))
    (HO : Hid (o = if (!(x.1.1 == 6)) = true then some (lift (N + 1) (n + 1) x) else none)) :
    Calls Try.prog 71 #[.agg #[.slice (some ⟨bb, bo, none⟩) 4 c, .int .i64 self], .agg #[.int .i64 5, .int .i64 x1, .string x2, .slice xa xl xc]] w (VOut (N + 1) o w) := by
  go_enter Try.func71, Try.ntmps71
  obtain ⟨x0', x1', x2', x3'⟩ := hx
  subst h1
  generalize x.2.2.length = xxl at *
  generalize (!(x.1.1 == 6)) = cl at *
  have hk1 : (0 : Int) ≤ (k : Int) := by omega
  have hk2 : (k : Int) < 4 := by omega
  have hb1 : bb < w.heap.size + 1 := by omega
  have hb2 : bb < w.heap.size + 1 + 1 := by omega
  go_wp2_with fail
  generalize hW : World.alloc (World.alloc (World.alloc (World.alloc w _) _) _) _ = W
  obtain ⟨hBW, hBX, ⟨b0, b1, b2, b3⟩, hWs⟩ := four_is hW
  have HB := hide hBW
  have HBX := hide hBX
  clear hW hBW hBX x0' x1' x2' x3'
  have e3 : ∀ y : Tm (n + 1), val (n + 1) y = .agg #[.int .i64 y.1.1, .int .i64 y.1.2.1, .string y.1.2.2, .slice y.2.1.1 y.2.2.length y.2.1.2] := fun _ => rfl
  go_region_held3 (fun w' => w'.cell? ⟨w.heap.size + 1 + 1 + 1, 0, none⟩ = some (.int .i64 x.1.1) ∧ w'.cell? ⟨w.heap.size + 1 + 1 + 1, 1, none⟩ = some (.int .i64 x.1.2.1) ∧ w'.cell? ⟨w.heap.size + 1 + 1 + 1, 2, none⟩ = some (.string x.1.2.2) ∧ w'.cell? ⟨w.heap.size + 1 + 1 + 1, 3, none⟩ = some (.slice x.2.1.1 xxl x.2.1.2))
    (go_keep) ((first | (go_at_call 77; refine (HP.out _ HB.out.drew).mono ?_; rintro e w3 ⟨y, rfl, H⟩; rw [e3]; have hcc := below_cells (below_undrew H.out.1); have HB3 : Hid (Below w.heap.size w w3) := (HB.out.drew).trans (H.out.1.mono HB.out.size); have hw3 : w.heap.size + 1 + 1 + 1 < w3.heap.size := Nat.lt_of_lt_of_le hWs H.out.1.size) | (go_at_call 95; refine (HI.out _).mono ?_; rintro e w4 ⟨rfl, hb4⟩; have hcc4 := below_cells hb4; have HBX3 := hide ((HBX.out.below (below_undrew H.out.1)).below hb4); obtain ⟨⟨z0, z1, z2, z3⟩, ⟨f0, f1, f2, f3⟩, hzq⟩ := HBX3.out)))
  have HV := fun v0 v1 v2 v3 => hide (vput_out hn HR.out HB.out.drew (Nat.le_add_right w.heap.size 2) HBX.out.2.2 H.out hb4 cl v0 v1 v2 v3)
  clear H hcc hcc4 hb4
  go_wp2_with fail
  rw [HO.out]
  exact bodyPost_ret (v := .tuple #[.agg #[.int .i64 y.1.1, .int .i64 y.1.2.1, .string y.1.2.2, .slice y.2.1.1 y.2.2.length y.2.1.2], .bool cl]) (by simp [results, Try.results71, go_sem, z0, z1, z2, z3]) rfl (HV _ _ _ _).out

end Go.Proofs.Ytpehdgbdinjbaaa
namespace Go.Proofs.Ytpehdgbdinjbaaa
open Go.RowKit

def tupO (m n : Nat) (self : Int) (f : Tm n → Option (Tm (m + n))) (p : List (Tm n)) : Option (Tm (m + n + 1)) :=
  if isW n p wSelf 0 then some (leafV 3 self (m + n))
  else if isW n p wAdd 2 then (p[1]?).bind fun a => (p[2]?).bind fun c => (f a).bind fun a => (f c).bind fun c => sumV (m + n) a c
  else if isW n p wPut 1 then (p[1]?).bind fun a => if closedT n a then some (lift (m + n + 1) n a) else none
  else (allV f p).map (tupV (m + n))
theorem vl_tup (m : Nat) (b : List (Tm m)) (self : Int) (n : Nat) (x : Tm (n + 1)) (h : x.1.1 = 4) : vl m b self (n + 1) x = tupO m n self (fun y => vl m b self n y) x.2.2 := by simp [vl, h, tupO]
theorem vl_any (m : Nat) (b : List (Tm m)) (self : Int) (n : Nat) (x : Tm (n + 1)) (h : x.1.1 = 6) : vl m b self (n + 1) x = none := by simp [vl, h]
theorem vl_leaf (m : Nat) (b : List (Tm m)) (self : Int) (n : Nat) (x : Tm (n + 1)) (h4 : x.1.1 ≠ 4) (h5 : x.1.1 ≠ 5) (h6 : x.1.1 ≠ 6) : vl m b self (n + 1) x = some (lift (m + n + 1) (n + 1) x) := by simp [vl, h4, h5, h6]
theorem vl_var (m : Nat) (b : List (Tm m)) (self : Int) (n : Nat) (x : Tm (n + 1)) (y : Tm m) (k : Nat) (h : x.1.1 = 5) (hk : x.1.2.1 = (k : Int)) (hy : b[k]? = some y) : vl m b self (n + 1) x = if kindA ⟨m, y⟩ = 6 then none else some (lift (m + n + 1) m y) := by
  simp [vl, h, hk, hy]
theorem isW_len2 {n : Nat} {p : List (Tm n)} {s : ByteArray} {k : Nat} (h : isW n p s k = true) : p.length = 1 + k := by
  by_cases hl : p.length = 1 + k
  · exact hl
  · rw [isW_len hl] at h; cases h
theorem lim_of {N : Nat} {o : Option (Tm N)} (h : ∀ z, o = some z → RightA ⟨N, z⟩) : Lim o := by
  intro z hz hk
  have hr := h z hz
  cases N with
  | zero => exact (zero_bad hr).elim
  | succ N =>
    have hg := hr (hdOf N z) (by simp [nodes, hdOf])
    have hk' : z.1.1 = 1 := hk
    simp only [good, hdOf, hk', inB, Bool.and_eq_true, if_true] at hg
    exact ⟨of_decide_eq_true hg.1.2.1, of_decide_eq_true hg.1.2.2⟩

theorem vtuple_any (m : Nat) (b : List (Tm m)) (self : Int) (hbd : bndB m b = true) (hs : 1 ≤ self ∧ self ≤ 99) (n : Nat) (ih : FVal m b self n) (p : List (Tm n)) (pa : Option Addr) (pc : Nat) (a : Option Addr) (c B : Nat) (w : World)
    (hlen : p.length ≤ 8) (hp : Lies B w n p pa) (hrp : ∀ y ∈ p, RightA ⟨n, y⟩) (hb : Lies B w m b a) (hB : B ≤ w.heap.size) :
    Calls Try.prog 98 #[.agg #[.slice a 4 c, .int .i64 self], .slice pa p.length pc] w (VOut (m + n + 1) (tupO m n self (fun y => vl m b self n y) p) w) := by
  have hi := fun s k (hk : k ≤ 8) w1 (h1 : Below w.heap.size w w1) => isCall_any n p pa pc B s k w1 (hp.below (h1.mono hB)) hlen hk
  have hi1 := hi wSelf 0 (by omega)
  have hi2 := hi wAdd 2 (by omega)
  have hi3 := hi wPut 1 (by omega)
  have hbr : ∀ y ∈ b, RightA ⟨m, y⟩ := fun y hy => ((bnd_ok hbd).2 y hy).2.1
  cases e1 : isW n p wSelf 0
  · rw [e1] at hi1
    cases e2 : isW n p wAdd 2
    · rw [e2] at hi2
      cases e3 : isW n p wPut 1
      · rw [e3] at hi3
        refine vt_else (m + n) _ a c self pa p.length pc w hi1 hi2 hi3 ?_
        intro w1 h1
        have hh := tupleV_walk m b self n ih p p.length rfl pa pc a c B w1 hlen (hp.below (h1.mono hB)) hrp (hb.below (h1.mono hB)) (Nat.le_trans hB h1.size)
        simpa [tupO, e1, e2, e3] using hh
      · rw [e3] at hi3
        have hl := isW_len2 e3
        rcases hp with hp | ⟨pb, po, rfl, hpb, hp⟩
        · rw [hp] at hl; simp at hl
        · obtain ⟨y, hy⟩ : ∃ y, p[1]? = some y := ⟨p[1]'(by omega), List.getElem?_eq_getElem _⟩
          obtain ⟨hy1, hy2⟩ := hp 1 y hy
          have hry := hrp y (List.mem_of_getElem? hy)
          have eo : tupO m n self (fun y => vl m b self n y) p = if closedT n y = true then some (lift (m + n + 1) n y) else none := by simp [tupO, e1, e2, e3, hy]
          rw [eo]
          cases n with
          | zero => exact hy1.elim
          | succ n =>
          rw [show p.length = 2 by omega] at hi1 hi2 hi3 ⊢
          refine vt_put (m + (n + 1)) _ a c self pb po n (by omega) y (closedT (n + 1) y) pc w hi1 hi2 hi3 (by omega) (by simpa using hy1) hry ?_ ?_ rfl
          · intro w1 h1
            exact copy_any (n + 1) y B w1 (hy2.below (h1.mono hB)) (Nat.le_trans hB h1.size) hry
          · intro w1 h1
            exact closed_any (n + 1) y B w1 (hy2.below (h1.mono hB)) (Nat.le_trans hB h1.size)
    · rw [e2] at hi2
      have hl := isW_len2 e2
      rcases hp with hp | ⟨pb, po, rfl, hpb, hp⟩
      · rw [hp] at hl; simp at hl
      · obtain ⟨x, hx⟩ : ∃ x, p[1]? = some x := ⟨p[1]'(by omega), List.getElem?_eq_getElem _⟩
        obtain ⟨y, hy⟩ : ∃ y, p[2]? = some y := ⟨p[2]'(by omega), List.getElem?_eq_getElem _⟩
        obtain ⟨hx1, hx2⟩ := hp 1 x hx
        obtain ⟨hy1, hy2⟩ := hp 2 y hy
        have hrx := hrp x (List.mem_of_getElem? hx)
        have hry := hrp y (List.mem_of_getElem? hy)
        have eo : tupO m n self (fun y => vl m b self n y) p = sumO (vl m b self n x) (vl m b self n y) := by simp [tupO, e1, e2, hx, hy, sumO]
        rw [eo]
        have lx := lim_of fun z hz => vl_right m b self hs hbr n x hrx z hz
        have ly := lim_of fun z hz => vl_right m b self hs hbr n y hry z hz
        cases n with
        | zero => exact hy1.elim
        | succ n =>
        rw [show p.length = 3 by omega] at hi1 hi2 ⊢
        refine vt_add (m + (n + 1)) _ a c self pb po x.1.1 x.1.2.1 x.1.2.2 x.2.1.1 x.2.2.length x.2.1.2 y.1.1 y.1.2.1 y.1.2.2 y.2.1.1 y.2.2.length y.2.1.2 pc w hi1 hi2 (by omega) (by simpa [Held] using hx1) (by simpa [Held] using hy1) ?_
        intro w1 h1
        refine sum_walk (m + (n + 1)) _ _ lx ly a c self x.1.1 x.1.2.1 x.1.2.2 x.2.1.1 x.2.2.length x.2.1.2 y.1.1 y.1.2.1 y.1.2.2 y.2.1.1 y.2.2.length y.2.1.2 w1 ?_ ?_
        · intro w2 h2
          refine number_walk (m + n) _ a c self x.1.1 x.1.2.1 x.1.2.2 x.2.1.1 x.2.2.length x.2.1.2 w2 ?_
          intro w3 h3
          have h13 := (h1.trans ((h2.trans (h3.mono h2.size)).mono h1.size))
          exact ih x a c B w3 (hx2.below (h13.mono hB)) hrx (hb.below (h13.mono hB)) (Nat.le_trans hB h13.size)
        · intro w2 h2
          refine number_walk (m + n) _ a c self y.1.1 y.1.2.1 y.1.2.2 y.2.1.1 y.2.2.length y.2.1.2 w2 ?_
          intro w3 h3
          have h13 := (h1.trans ((h2.trans (h3.mono h2.size)).mono h1.size))
          exact ih y a c B w3 (hy2.below (h13.mono hB)) hry (hb.below (h13.mono hB)) (Nat.le_trans hB h13.size)
  · rw [e1] at hi1
    exact vt_self (m + n) _ a c self ⟨by omega, by omega⟩ pa p.length pc w hi1 (by simp [Hid, tupO, e1])

theorem value_any (m : Nat) (b : List (Tm m)) (self : Int) (hbd : bndB m b = true) (hs : 1 ≤ self ∧ self ≤ 99) (n : Nat) : FVal m b self n := by
  induction n with
  | zero => intro x a c B w hx; exact hx.elim
  | succ n ih =>
    intro x a c B w hx hr hb hB
    obtain ⟨h4b, hbk⟩ := bnd_ok hbd
    have hg := hr (hdOf n x) (by simp [nodes, hdOf])
    have hlen : x.2.2.length ≤ 8 := good_len (hdOf n x) hg
    by_cases h6 : x.1.1 = 6
    · have hh := v_any (m + n) (vl m b self (n + 1) x) a x.1.2.1 x.1.2.2 x.2.1.1 x.2.2.length x.2.1.2 c self w (vl_any m b self n x h6)
      rw [← h6] at hh
      exact hh
    · by_cases h5 : x.1.1 = 5
      · have hn : 0 ≤ x.1.2.1 ∧ x.1.2.1 ≤ 3 := by
          have h51 : ¬ (5 : Int) = 1 := by decide
          have h52 : ¬ (5 : Int) = 2 := by decide
          have h53 : ¬ (5 : Int) = 3 := by decide
          have h54 : ¬ (5 : Int) = 4 := by decide
          simp only [good, hdOf, h5, inB, Bool.and_eq_true, if_true, h51, h52, h53, h54, if_false] at hg
          exact ⟨of_decide_eq_true hg.1.2.1, of_decide_eq_true hg.1.2.2⟩
        obtain ⟨k, hk⟩ : ∃ k : Nat, x.1.2.1 = (k : Int) := ⟨x.1.2.1.toNat, by omega⟩
        obtain ⟨y, hy⟩ : ∃ y, b[k]? = some y := ⟨b[k]'(by omega), List.getElem?_eq_getElem _⟩
        have hry := (hbk y (List.mem_of_getElem? hy)).2.1
        have eo := vl_var m b self n x y k h5 hk hy
        have hb' := hb
        rcases hb with hb | ⟨bb, bo, rfl, hbb, hb⟩
        · rw [hb] at h4b; simp at h4b
        · obtain ⟨hy1, hy2⟩ := hb k y hy
          cases m with
          | zero => exact (zero_bad hry).elim
          | succ m =>
          have hh := v_var (m + 1 + n) (vl (m + 1) b self (n + 1) x) bb bo k x.1.2.1 x.1.2.2 x.2.1.1 x.2.2.length x.2.1.2 m (by omega) y c self w hk (by omega) (by omega) hy1 hry
            (fun w1 h1 => copy_any (m + 1) y B w1 (hy2.below (h1.mono hB)) (Nat.le_trans hB h1.size) hry)
            (fun w1 => isBound_any y.1.1 y.1.2.1 y.1.2.2 y.2.1.1 y.2.2.length y.2.1.2 w1)
            (by
              show vl (m + 1) b self (n + 1) x = _
              rw [eo]
              by_cases h : y.1.1 = 6
              · simp [kindA, h]
              · simp [kindA, h])
          rw [← h5] at hh
          exact hh
      · by_cases h4 : x.1.1 = 4
        · have hh := v_tup (m + n) (vl m b self (n + 1) x) a x.1.2.1 x.1.2.2 x.2.1.1 x.2.2.length x.2.1.2 c self w (by
            intro w1 h1
            rw [vl_tup m b self n x h4]
            exact vtuple_any m b self hbd hs n ih x.2.2 x.2.1.1 x.2.1.2 a c B w1 hlen (Lies.below (h1.mono hB) hx.2) (fun y hy => parts_right n x y hr hy) (hb.below (h1.mono hB)) (Nat.le_trans hB h1.size))
          rw [← h4] at hh
          exact hh
        · exact v_leaf (m + n) (vl m b self (n + 1) x) a x.1.1 x.1.2.1 x.1.2.2 x.2.1.1 x.2.2.length x.2.1.2 n (by omega) x c self w h4 h5 h6 hr
            (fun w1 h1 => copy_any (n + 1) x B w1 (hx.below (h1.mono hB)) (Nat.le_trans hB h1.size) hr) (vl_leaf m b self n x h4 h5 h6)
end Go.Proofs.Ytpehdgbdinjbaaa
namespace Go.Proofs.Ytpehdgbdinjbaaa
open Go.RowKit

theorem alloc_kept (w : World) (o : Obj) {b : Nat} (h : b < w.heap.size) : (w.alloc o).heap[b]? = w.heap[b]? := (World.grownBy_alloc w o none).block b h (by simp)
/-- A box of the call's own. -/
def BoxT (q : Nat) (v0 v1 v2 v3 : Value) (w : World) : Prop := w.heap[q]? = some (.cells #[v0, v1, v2, v3] 24)
theorem BoxT.cells {q : Nat} {v0 v1 v2 v3 : Value} {w : World} (h : BoxT q v0 v1 v2 v3 w) :
    (w.cell? ⟨q, 0, none⟩ = some v0 ∧ w.cell? ⟨q, 1, none⟩ = some v1 ∧ w.cell? ⟨q, 2, none⟩ = some v2 ∧ w.cell? ⟨q, 3, none⟩ = some v3) ∧ ∀ j, w.frozen? ⟨q, j, none⟩ = false := by
  unfold BoxT at h
  refine ⟨⟨?_, ?_, ?_, ?_⟩, fun j => ?_⟩
  all_goals simp [World.cell?, World.frozen?, h]
theorem BoxT.lt {q : Nat} {v0 v1 v2 v3 : Value} {w : World} (h : BoxT q v0 v1 v2 v3 w) : q < w.heap.size := (Array.getElem?_eq_some_iff.1 h).1
theorem BoxT.set3 {q : Nat} {v0 v1 v2 v3 : Value} {w : World} (h : BoxT q v0 v1 v2 v3 w) (v : Value) : BoxT q v0 v1 v2 v (w.setCell ⟨q, 3, none⟩ v) := by
  unfold BoxT at *
  simp [World.setCell, Array.getElem?_modify, h]
theorem BoxT.below {q : Nat} {v0 v1 v2 v3 : Value} {w w' : World} (h : BoxT q v0 v1 v2 v3 w) (hb : Below w.heap.size w w') : BoxT q v0 v1 v2 v3 w' := (hb.block q h.lt).trans h

/-- What parts have come to: xs, in the row v; the box q holds it. -/
def RvP (B N q : Nat) {n : Nat} (Rel : Tm n → Tm N → Prop) (p : List (Tm n)) (w : World) (v0 v1 v2 : Value) (k : Nat) (xs : List (Tm N)) (v : Value) (wr : World) : Prop :=
  Below w.heap.size w wr ∧ BoxT (q) v0 v1 v2 v wr ∧ xs.length = k ∧ wr.ownsRow (q + 1) 24 4 v k (ndCells (xs.map (hdT N))) ∧
  (∀ y ∈ xs, In wr.heap.size wr N y ∧ Off (fun b => (b < B ∨ q < b) ∧ v.ownBlock ≠ some b) N y) ∧
  ∀ (i : Nat) (y : Tm n) (e : Tm N), p[i]? = some y → xs[i]? = some e → Rel y e

theorem RvP.step {B N q n : Nat} {Rel : Tm n → Tm N → Prop} {p : List (Tm n)} {w : World} {v0 v1 v2 : Value} {k : Nat} {xs : List (Tm N)} {v : Value} {wr w1 w2 : World} {o1 : Obj} {g c : Nat} (hB : B ≤ w.heap.size) (hq0 : w.heap.size ≤ q)
    (h : RvP B N q Rel p w v0 v1 v2 k xs v wr) (hb1 : Below wr.heap.size wr w1) (X : Tm N) (hX : In w1.heap.size w1 N X) (hoX : Off (fun b => b < B ∨ wr.heap.size ≤ b) N X) (x : Tm n) (hx : p[k]? = some x) (hp : Rel x X)
    (hown : w2.ownsRow (q + 1) 24 4 (.slice (some ⟨g, 0, none⟩) (k + 1) c) (k + 1) (ndCells (xs.map (hdT N)) ++ nd4 (hdT N X))) (hg : (w1.alloc o1).grownBy w2 v.ownBlock) (hat : v.ownBlock = some g ∨ g = w1.heap.size + 1) :
    RvP B N q Rel p w v0 v1 v2 (k + 1) (xs ++ [X]) (.slice (some ⟨g, 0, none⟩) (k + 1) c) (w2.setCell ⟨q, 3, none⟩ (.slice (some ⟨g, 0, none⟩) (k + 1) c)) ∧ w2.heap.size ≤ (w2.setCell ⟨q, 3, none⟩ (.slice (some ⟨g, 0, none⟩) (k + 1) c)).heap.size ∧
    ∀ r u0 u1 u2 u3, r < q → BoxT r u0 u1 u2 u3 wr → BoxT r u0 u1 u2 u3 (w2.setCell ⟨q, 3, none⟩ (.slice (some ⟨g, 0, none⟩) (k + 1) c)) := by
  obtain ⟨h1, h2, h3, h4, h5, h6⟩ := h
  have hs1 := h1.size
  have hs2 := h2.lt
  have es1 : (w1.alloc o1).heap.size = w1.heap.size + 1 := by simp
  have hb1s := hb1.size
  have hgs := hg.size
  -- blocks that the append leaves: all of w1's but the row's own
  have hold : ∀ b, b < w1.heap.size → v.ownBlock ≠ some b → w2.heap[b]? = w1.heap[b]? := fun b hb hne => (hg.block b (by omega) (fun e => hne e.symm)).trans (alloc_kept w1 o1 hb)
  have hvown : ∀ b, v.ownBlock = some b → q + 1 ≤ b ∧ b < wr.heap.size := fun b e => h4.lt b e
  have hg3 : q + 1 ≤ g := by
    rcases hat with e | e
    · exact (hvown g e).1
    · omega
  have hq : w2.heap[q]? = wr.heap[q]? := (hold _ (by omega) (fun e => by have := (hvown _ e).1; omega)).trans (hb1.block _ (by omega))
  have hbox : BoxT (q) v0 v1 v2 v w2 := hq.trans h2
  have hset : ∀ b, b ≠ q → (w2.setCell ⟨q, 3, none⟩ (.slice (some ⟨g, 0, none⟩) (k + 1) c)).heap[b]? = w2.heap[b]? := fun b hne => by
    have : q ≠ b := fun e => hne e.symm
    simp [World.setCell, Array.getElem?_modify, this]
  have hsz : (w2.setCell ⟨q, 3, none⟩ (.slice (some ⟨g, 0, none⟩) (k + 1) c)).heap.size = w2.heap.size := by simp [World.setCell]
  refine ⟨⟨⟨?_, ?_, ?_, ?_, ?_⟩, hbox.set3 _, by simp [h3], ?_, ?_, ?_⟩, Nat.le_of_eq hsz.symm, fun r u0 u1 u2 u3 hr hbq => ((hset r (by omega)).trans ((hold r (by have := hbq.lt; omega) (fun e => by have := (hvown _ e).1; omega)).trans (hb1.block r hbq.lt))).trans hbq⟩
  · exact (hg.os.trans (hb1.os)).trans h1.os
  · exact (hg.tape.trans (hb1.tape)).trans h1.tape
  · exact (hg.output.trans (hb1.output)).trans h1.output
  · rw [hsz]; omega
  · intro b hb'
    exact (hset b (by omega)).trans ((hold b (by omega) (fun e => by have := (hvown _ e).1; omega)).trans ((hb1.block b (by omega)).trans (h1.block b hb')))
  · have e : ndCells ((xs ++ [X]).map (hdT N)) = ndCells (xs.map (hdT N)) ++ nd4 (hdT N X) := by simp [ndCells]
    rw [e]
    refine World.ownsRow.kept hown (row := some (q)) ⟨rfl, rfl, rfl, Nat.le_of_eq hsz.symm, fun b _ hne => hset b (fun e => hne (by rw [e]))⟩ (Or.inr ?_)
    simp only [Value.ownBlock]
    intro e
    injection e with e
    omega
  · intro y hy
    rw [hsz]
    rcases List.mem_append.1 hy with hy | hy
    · obtain ⟨k1, k2⟩ := h5 y hy
      have k4 : Off (fun b => ((b < B ∨ q < b) ∧ v.ownBlock ≠ some b) ∧ b < wr.heap.size) N y := In.offB k2 k1
      refine ⟨?_, k4.mono fun b hb' => ⟨hb'.1.1, ?_⟩⟩
      · refine In.off (w := w1) (fun b hb' => ?_) k4 ((k1.below hb1).mono (by omega))
        exact (hset b (by have := hb'.1.1; omega)).trans (hold b (by have := hb'.2; omega) hb'.1.2)
      · simp only [Value.ownBlock]
        intro e
        injection e with e
        rcases hat with e2 | e2
        · exact hb'.1.2 (by rw [e2, e])
        · have := hb'.2
          omega
    · simp only [List.mem_singleton] at hy
      subst hy
      have k4 : Off (fun b => (b < B ∨ wr.heap.size ≤ b) ∧ b < w1.heap.size) N y := In.offB hoX hX
      refine ⟨?_, k4.mono fun b hb' => ⟨by rcases hb'.1 with h | h <;> omega, ?_⟩⟩
      · refine In.off (w := w1) (fun b hb' => ?_) k4 (hX.mono (by omega))
        exact (hset b (by have := hb'.1; omega)).trans (hold b hb'.2 (fun e => by have := hvown _ e; have := hb'.1; omega))
      · simp only [Value.ownBlock]
        intro e
        injection e with e
        rcases hat with e2 | e2
        · have := hvown g e2
          have := hb'.1
          omega
        · have := hb'.2
          omega
  · intro i y e hy he
    by_cases hi : i < xs.length
    · rw [List.getElem?_append_left hi] at he
      exact h6 i y e hy he
    · rw [List.getElem?_append_right (by omega)] at he
      have h0 : i - xs.length = 0 := by
        by_cases h0 : i - xs.length = 0
        · exact h0
        · rw [List.getElem?_eq_none (by simp; omega)] at he; cases he
      rw [h0] at he
      have e1 : X = e := by simpa using he
      have e2 : i = k := by omega
      rw [e2, hx] at hy
      obtain rfl := Option.some.inj hy
      rw [← e1]
      exact hp
end Go.Proofs.Ytpehdgbdinjbaaa
namespace Go.Proofs.Ytpehdgbdinjbaaa
open Go.RowKit

def zeroV (N : Nat) : Tm (N + 1) := leafV 0 0 N
/-- What Value leaves. -/
def RvOut (N : Nat) (E : Int) (o : Option (Tm (N + 1))) (w : World) (e : Ending) (w' : World) : Prop :=
  ∃ y : Tm (N + 1), e = .returned (.tuple #[val (N + 1) y, .int .i64 (rvC E (rvO E o))]) ∧ Hid (Below w.heap.size w w' ∧ In w'.heap.size w' (N + 1) y ∧ Off (fun q => w.heap.size ≤ q) (N + 1) y ∧ same (N + 1) y (N + 1) ((rvO E o).getD (zeroV N)) = true)
theorem rv_none {N : Nat} {E : Int} {o : Option (Tm (N + 1))} {w w' : World} {u : Int} (hb : Below w.heap.size w w') (h : rvO E o = none) (hu : u = rvC E (rvO E o)) : RvOut N E o w (.returned (.tuple #[.agg #[.int .i64 0, .int .i64 0, .string .empty, .slice none 0 0], .int .i64 u])) w' := by
  refine ⟨zeroV N, by rw [hu]; rfl, hb, (leaf_out N 0 0 i64_zero i64_zero _ _ (fun _ => True)).1, (leaf_out N 0 0 i64_zero i64_zero 0 w _).2, ?_⟩
  rw [h]
  exact leaf_same N 0 0
theorem rv_some {N : Nat} {E : Int} {o : Option (Tm (N + 1))} {z : Tm (N + 1)} {w w1 w2 w3 : World} {y : Tm (N + 1)} {q : Nat} (hE : E = 0) (ho : o = some z) (hc : chk (N + 1) z = 0) (hb : Below w.heap.size w w1) (hq : w.heap.size ≤ q) (hq1 : q < w1.heap.size)
    (k1 : Below w1.heap.size w1 w2) (k2 : In w2.heap.size w2 (N + 1) y) (k3 : Off (fun q => w1.heap.size ≤ q) (N + 1) y) (k4 : same (N + 1) y (N + 1) z = true) (hb3 : Below w2.heap.size w2 w3) (v0 v1 v2 v3 : Value) :
    RvOut N E o w (.returned (.tuple #[.agg #[.int .i64 y.1.1, .int .i64 y.1.2.1, .string y.1.2.2, .slice y.2.1.1 y.2.2.length y.2.1.2], .int .i64 0])) (put4 w3 q 0 v0 v1 v2 v3) := by
  have hs := hb.size
  have hbb := (hb.trans (k1.mono hs)).trans (hb3.mono (Nat.le_trans hs k1.size))
  have er : rvO E o = some z := by simp [rvO, hE, ho, hc]
  refine ⟨y, by rw [er]; simp [rvC, hE, val], put_below hbb hq _ _ _ _, ?_, k3.mono fun b hh => by omega, by rw [er]; exact k4⟩
  rw [put4_size]
  exact In.off (P := fun b => w1.heap.size ≤ b) (fun b hh => put4_block (by omega) _ _ _ _) k3 ((k2.below hb3).mono hb3.size)

theorem rvE_zero {ck : Int} {bd : Bool} {self : Int} (h : rvE ck bd self = 0) : ck = 0 ∧ bd = true ∧ 1 ≤ self ∧ self ≤ 99 := by
  unfold rvE at h
  split at h
  · split at h
    · split at h
      · rename_i h1 h2 h3
        exact ⟨h1, h2, h3⟩
      · cases h
    · cases h
  · rename_i h1
    exact absurd h h1
theorem val_nodes {m n : Nat} {b : List (Tm m)} {self : Int} {x : Tm (n + 1)} {z : Tm (m + n + 1)} (h1 : chk (n + 1) x = 0) (h2 : bndB m b = true) (hz : vl m b self (n + 1) x = some z) : (nodes (m + n + 1) z).length ≤ 2097152 := by
  have hx := chk_nlen h1
  have hn := vl_nodes m b self 201 (by omega) (fun y hy => chk_nlen ((bnd_ok h2).2 y hy).1) (n + 1) x z hz
  have : 201 * (nodes (n + 1) x).length ≤ 201 * 201 := Nat.mul_le_mul_left 201 hx
  exact Nat.le_trans hn (by omega)
theorem two4_is (w : World) (x0 x1 x2 x3 : Value) (t1 t2 : TypeId) : Below w.heap.size w ((w.alloc (.cells #[x0, x1, x2, x3] t1)).alloc (.cells #[.int .i64 0, .int .i64 0, .string .empty, .slice none 0 0] t2)) ∧ Box0 (w.heap.size + 1) ((w.alloc (.cells #[x0, x1, x2, x3] t1)).alloc (.cells #[.int .i64 0, .int .i64 0, .string .empty, .slice none 0 0] t2)) := by
  refine ⟨((Below.refl _ _).alloc (Nat.le_refl _) _).alloc (by simp) _, ⟨?_, ?_, ?_, ?_⟩, ⟨?_, ?_, ?_, ?_⟩, ?_⟩ <;> simp [go_sem]
theorem two4_cells {w w' : World} {x0 x1 x2 x3 y0 y1 y2 y3 : Value} {t1 t2 : TypeId} (h : Below ((w.alloc (.cells #[x0, x1, x2, x3] t1)).alloc (.cells #[y0, y1, y2, y3] t2)).heap.size ((w.alloc (.cells #[x0, x1, x2, x3] t1)).alloc (.cells #[y0, y1, y2, y3] t2)) w') :
    w'.cell? ⟨w.heap.size, 0, none⟩ = some x0 ∧ w'.cell? ⟨w.heap.size, 1, none⟩ = some x1 ∧ w'.cell? ⟨w.heap.size, 2, none⟩ = some x2 ∧ w'.cell? ⟨w.heap.size, 3, none⟩ = some x3 := by
  have hc := fun o => h.cell (p := ⟨w.heap.size, o, none⟩) (by simp; omega)
  exact ⟨(hc 0).trans (by simp [go_sem]), (hc 1).trans (by simp [go_sem]), (hc 2).trans (by simp [go_sem]), (hc 3).trans (by simp [go_sem])⟩

set_option maxHeartbeats 1000000 in
set_option maxRecDepth 100000 in
theorem rvalue_walk (N : Nat) (o : Option (Tm (N + 1))) (a : Option Addr) (ql c : Nat) (self : Int) (x0 x1 : Int) (x2 : ByteArray) (xa : Option Addr) (xl xc : Nat) (ck : Int) (bd : Bool) (w : World)
    (HK : Hid (∀ w1, Below w.heap.size w w1 → Calls Try.prog 50 #[.agg #[.int .i64 x0, .int .i64 x1, .string x2, .slice xa xl xc]] w1 fun e w' => e = .returned (.int .i64 ck) ∧ Below w1.heap.size w1 w'))
    (HA : Hid (∀ w1, Below w.heap.size w w1 → Calls Try.prog 65 #[.slice a ql c] w1 fun e w' => e = .returned (.bool bd) ∧ Below w1.heap.size w1 w'))
    (HV : Hid (rvE ck bd self = 0 → ∀ w1, Below w.heap.size w w1 → Calls Try.prog 71 #[.agg #[.slice a ql c, .int .i64 self], .agg #[.int .i64 x0, .int .i64 x1, .string x2, .slice xa xl xc]] w1 (VOut (N + 1) o w1)))
    (HZ : Hid (rvE ck bd self = 0 → ∀ (y z : Tm (N + 1)) (w1 : World), o = some z → same (N + 1) y (N + 1) z = true → In w1.heap.size w1 (N + 1) y → Calls Try.prog 50 #[.agg #[.int .i64 y.1.1, .int .i64 y.1.2.1, .string y.1.2.2, .slice y.2.1.1 y.2.2.length y.2.1.2]] w1 fun e w' => e = .returned (.int .i64 (chk (N + 1) z)) ∧ Below w1.heap.size w1 w')) :
    Calls Try.prog 35 #[.agg #[.int .i64 x0, .int .i64 x1, .string x2, .slice xa xl xc], .slice a ql c, .int .i64 self] w (RvOut N (rvE ck bd self) o w) := by
  obtain ⟨E, hE⟩ : ∃ E, E = rvE ck bd self := ⟨_, rfl⟩
  rw [← hE] at HV HZ ⊢
  have HE := hide hE
  clear hE
  go_enter Try.func35, Try.ntmps35
  go_wp2_with fail
  refine (HK.out _ (two4_is w _ _ _ _ _ _).1).mono ?_
  rintro e w1 ⟨rfl, hb1⟩
  have HX1 := hide (two4_cells hb1)
  have HB1 : Hid (Below w.heap.size w w1) := (two4_is w _ _ _ _ _ _).1.trans (hb1.mono (two4_is w _ _ _ _ _ _).1.size)
  have HBX1 := hide ((two4_is w _ _ _ _ _ _).2.below hb1)
  clear hb1 HK
  by_cases hck : ck = 0
  case neg =>
    have hc1 : (ck != 0) = true := by simpa using hck
    have HEN : Hid (E = ck ∧ ck ≠ 0) := ⟨by rw [HE.out]; simp [rvE, hck], hck⟩
    obtain ⟨⟨z0, z1, z2, z3⟩, ⟨f0, f1, f2, f3⟩, hzq⟩ := HBX1.out
    clear HV HE hck HZ
    go_wp2_with fail
    exact bodyPost_ret (v := .tuple #[.agg #[.int .i64 0, .int .i64 0, .string .empty, .slice none 0 0], .int .i64 ck]) (by simp [results, Try.results35, go_sem, z0, z1, z2, z3]; rfl) rfl (rv_none (put_below HB1.out (by omega) _ _ _ _) (by simp [rvO, HEN.out.1, HEN.out.2]) (by simp [rvC, HEN.out.1, HEN.out.2]))
  have hc1 : (ck != 0) = false := by simp [hck]
  go_wp2_with fail
  refine (HA.out _ HB1.out).mono ?_
  rintro e w2 ⟨rfl, hb2⟩
  have HX2 := hide (cells_nx (Nat.lt_of_succ_lt HBX1.out.2.2) hb2 HX1.out)
  have HB2 : Hid (Below w.heap.size w w2) := HB1.out.trans (hb2.mono HB1.out.size)
  have HBX2 := hide (HBX1.out.below hb2)
  clear hb2 HA HB1 HX1 HBX1
  cases bd
  · have HEN : Hid (E = 5) := by rw [Hid, HE.out]; simp [rvE, hck]
    obtain ⟨⟨z0, z1, z2, z3⟩, ⟨f0, f1, f2, f3⟩, hzq⟩ := HBX2.out
    clear HV HE hck HZ
    go_wp2_with fail
    exact bodyPost_ret (v := .tuple #[.agg #[.int .i64 0, .int .i64 0, .string .empty, .slice none 0 0], .int .i64 5]) (by simp [results, Try.results35, go_sem, z0, z1, z2, z3]; rfl) rfl (rv_none (put_below HB2.out (by omega) _ _ _ _) (by simp [rvO, HEN.out]) (by simp [rvC, HEN.out]))
  · by_cases hs1 : self < 1
    · have b1 : decide (self < 1) = true := by simpa using hs1
      have HEN : Hid (E = 1) := by rw [Hid, HE.out]; simp only [rvE, hck, if_true]; rw [if_neg (by omega)]
      obtain ⟨⟨z0, z1, z2, z3⟩, ⟨f0, f1, f2, f3⟩, hzq⟩ := HBX2.out
      clear HV HE hck HZ
      go_wp2_with fail
      exact bodyPost_ret (v := .tuple #[.agg #[.int .i64 0, .int .i64 0, .string .empty, .slice none 0 0], .int .i64 1]) (by simp [results, Try.results35, go_sem, z0, z1, z2, z3]; rfl) rfl (rv_none (put_below HB2.out (by omega) _ _ _ _) (by simp [rvO, HEN.out]) (by simp [rvC, HEN.out]))
    · have b1 : decide (self < 1) = false := by simpa using hs1
      by_cases hs2 : 99 < self
      · have b2 : decide (99 < self) = true := by simpa using hs2
        have HEN : Hid (E = 1) := by rw [Hid, HE.out]; simp only [rvE, hck, if_true]; rw [if_neg (by omega)]
        obtain ⟨⟨z0, z1, z2, z3⟩, ⟨f0, f1, f2, f3⟩, hzq⟩ := HBX2.out
        clear HV HE hck HZ
        go_wp2_with fail
        exact bodyPost_ret (v := .tuple #[.agg #[.int .i64 0, .int .i64 0, .string .empty, .slice none 0 0], .int .i64 1]) (by simp [results, Try.results35, go_sem, z0, z1, z2, z3]; rfl) rfl (rv_none (put_below HB2.out (by omega) _ _ _ _) (by simp [rvO, HEN.out]) (by simp [rvC, HEN.out]))
      · have b2 : decide (99 < self) = false := by simpa using hs2
        have HE0 : Hid (E = 0) := by rw [Hid, HE.out]; simp only [rvE, hck, if_true]; rw [if_pos (by omega)]
        obtain ⟨x0', x1', x2', x3'⟩ := HX2.out
        have hxw : w.heap.size < w2.heap.size := Nat.lt_of_succ_lt HBX2.out.2.2
        clear HE hck
        go_wp2_with fail
        refine (HV.out HE0.out _ HB2.out).mono ?_
        rintro e w3 ⟨y, r, rfl, H⟩
        have HB3 : Hid (Below w.heap.size w w3) := HB2.out.trans (H.out.1.mono HB2.out.size)
        have HBX3 := hide (HBX2.out.below H.out.1)
        have e3 : val (N + 1) y = .agg #[.int .i64 y.1.1, .int .i64 y.1.2.1, .string y.1.2.2, .slice y.2.1.1 y.2.2.length y.2.1.2] := rfl
        rw [e3]
        clear HV e3 x0' x1' x2' x3' HX2
        cases r
        · have HN : Hid (o = none) := by
            have := H.out.2.2.2.1
            cases o with
            | none => rfl
            | some z => cases this
          obtain ⟨⟨z0, z1, z2, z3⟩, ⟨f0, f1, f2, f3⟩, hzq⟩ := HBX3.out
          clear H HZ
          go_wp2_with fail
          exact bodyPost_ret (v := .tuple #[.agg #[.int .i64 0, .int .i64 0, .string .empty, .slice none 0 0], .int .i64 7]) (by simp [results, Try.results35, go_sem, z0, z1, z2, z3, hzq]; rfl) rfl (rv_none ((put_below HB3.out (by omega) _ _ _ _).alloc (by rw [put4_size]; omega) _) (by simp [rvO, HN.out]) (by simp [rvC, rvO, HN.out, HE0.out]))
        · obtain ⟨z, hz⟩ : ∃ z, o = some z := by
            have := H.out.2.2.2.1
            cases o with
            | none => cases this
            | some z => exact ⟨z, rfl⟩
          have HOZ := hide hz
          have HS := hide (H.out.2.2.2.2 z hz)
          have HKZ : Hid (∀ w1, Below w3.heap.size w3 w1 → Calls Try.prog 50 #[.agg #[.int .i64 y.1.1, .int .i64 y.1.2.1, .string y.1.2.2, .slice y.2.1.1 y.2.2.length y.2.1.2]] w1 fun e w' => e = .returned (.int .i64 (chk (N + 1) z)) ∧ Below w1.heap.size w1 w') :=
            fun w1 h1 => HZ.out HE0.out y z w1 HOZ.out HS.out ((H.out.2.1.below h1).mono h1.size)
          obtain ⟨cz, hcz⟩ : ∃ cz, cz = chk (N + 1) z := ⟨_, rfl⟩
          rw [← hcz] at HKZ
          have HCZ := hide hcz
          have HQ := fun (w4 : World) (h4 : Below w3.heap.size w3 w4) (h0 : cz = 0) v0 v1 v2 v3 => hide (rv_some (E := E) HE0.out HOZ.out (HCZ.out.symm.trans h0) HB2.out (Nat.le_add_right _ 1) HBX2.out.2.2 H.out.1 H.out.2.1 H.out.2.2.1 HS.out h4 v0 v1 v2 v3)
          clear hz hcz HZ H HBX2 HB2
          go_wp2_with fail
          refine (HKZ.out _ ((Below.refl _ _).alloc (Nat.le_refl _) _)).mono ?_
          rintro e w4 ⟨rfl, hb4⟩
          obtain ⟨⟨t0, t1, t2, t3⟩, _⟩ := boxed hb4
          have HB4 : Hid (Below w3.heap.size w3 w4) := ((Below.refl _ _).alloc (Nat.le_refl _) _).trans (hb4.mono (by simp))
          have HBX4 := hide (HBX3.out.below HB4.out)
          have HW4 : Hid (Below w.heap.size w w4) := HB3.out.trans (HB4.out.mono HB3.out.size)
          obtain ⟨⟨z0, z1, z2, z3⟩, ⟨f0, f1, f2, f3⟩, hzq⟩ := HBX4.out
          have hne1 : ¬ (w.heap.size + 1 = w3.heap.size) := by have := HBX3.out.2.2; omega
          have hne2 : ¬ (w3.heap.size = w.heap.size + 1) := fun e => hne1 e.symm
          clear hb4 HKZ HBX3
          by_cases hz0 : cz = 0
          · have hc2 : (cz != 0) = false := by simp [hz0]
            have HT := fun v0 v1 v2 v3 => HQ w4 HB4.out hz0 v0 v1 v2 v3
            clear HQ hz0
            go_wp2_with fail
            exact bodyPost_ret (v := .tuple #[.agg #[.int .i64 y.1.1, .int .i64 y.1.2.1, .string y.1.2.2, .slice y.2.1.1 y.2.2.length y.2.1.2], .int .i64 0]) (by simp [results, Try.results35, go_sem, z0, z1, z2, z3]) rfl (HT _ _ _ _).out
          · have hc2 : (cz != 0) = true := by simpa using hz0
            have HNZ := hide hz0
            clear HQ hz0
            go_wp2_with fail
            exact bodyPost_ret (v := .tuple #[.agg #[.int .i64 0, .int .i64 0, .string .empty, .slice none 0 0], .int .i64 7]) (by simp [results, Try.results35, go_sem, z0, z1, z2, z3]; rfl) rfl (rv_none (put_below HW4.out (by omega) _ _ _ _) (by have h1 := HCZ.out; have h2 := HNZ.out; rw [h1] at h2; simp [rvO, HOZ.out, h2]) (by have h1 := HCZ.out; have h2 := HNZ.out; rw [h1] at h2; simp [rvC, rvO, HOZ.out, HE0.out, h2]))

theorem rvalue_any (n m : Nat) (x : Tm (n + 1)) (b : List (Tm m)) (a : Option Addr) (c B : Nat) (self : Int) (w : World) (hx : In B w (n + 1) x) (hb : Lies B w m b a) (hB : B ≤ w.heap.size) (hN : (nodes (n + 1) x).length ≤ 2097152) (hbl : b.length ≤ 9223372036854775807) (hNb : ∀ y ∈ b, (nodes m y).length ≤ 2097152) :
    Calls Try.prog 35 #[val (n + 1) x, .slice a b.length c, .int .i64 self] w (RvOut (m + n) (rvE (chk (n + 1) x) (bndB m b) self) (vl m b self (n + 1) x) w) := by
  refine rvalue_walk (m + n) _ a b.length c self x.1.1 x.1.2.1 x.1.2.2 x.2.1.1 x.2.2.length x.2.1.2 (chk (n + 1) x) (bndB m b) w ?_ ?_ ?_ ?_
  · intro w1 h1
    exact tcheck_any (n + 1) x B w1 (hx.below (h1.mono hB)) (Nat.le_trans hB h1.size) hN
  · intro w1 h1
    exact areB_any m b a c B w1 (hb.below (h1.mono hB)) hbl hNb (Nat.le_trans hB h1.size)
  · intro hE w1 h1
    obtain ⟨e1, e2, e3⟩ := rvE_zero hE
    have h4 := (bnd_ok e2).1
    rw [h4]
    exact value_any m b self e2 e3 (n + 1) x a c B w1 (hx.below (h1.mono hB)) (right_formed.2 (chk_iff.1 e1).1) (hb.below (h1.mono hB)) (Nat.le_trans hB h1.size)
  · intro hE y z w1 ho hs hin
    obtain ⟨e1, e2, e3⟩ := rvE_zero hE
    have hn := val_nodes e1 e2 ho
    have hk := tcheck_any (m + n + 1) y w1.heap.size w1 hin (Nat.le_refl _) (by rw [same_nlen _ _ _ _ hs]; exact hn)
    rw [same_chk hs] at hk
    exact hk
end Go.Proofs.Ytpehdgbdinjbaaa
