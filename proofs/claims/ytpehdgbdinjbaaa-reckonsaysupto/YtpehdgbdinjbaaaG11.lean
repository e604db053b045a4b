/- What is proved here: the document's value of what is no tuple, and of tuples that are special. No condition but that they lie in memory. -/
import Derived.Test.YtpehdgbdinjbaaaG09
import Derived.Test.YtpehdgbdinjbaaaG10
namespace Go.Proofs.Ytpehdgbdinjbaaa
open Go.RowKit

/-- What the document's value leaves. -/
def DvOut (B N : Nat) (o : Option (Tm N)) (w : World) (e : Ending) (w' : World) : Prop :=
  ∃ (y : Tm N) (r : Bool), e = .returned (.tuple #[val N y, .bool r]) ∧ Hid (Below w.heap.size w w' ∧ In w'.heap.size w' N y ∧ Off (fun q => q < B ∨ w.heap.size ≤ q) N y ∧ r = o.isSome ∧ ∀ z, o = some z → same N y N z = true)
def FDv (m : Nat) (b : List (Tm m)) (self : Int) (n : Nat) : Prop := ∀ (x : Tm n) (a : Option Addr) (c B : Nat) (w : World), In B w n x → RightA ⟨n, x⟩ → (nodes n x).length ≤ 2097152 → Lies B w m b a → B ≤ w.heap.size →
  Calls Try.prog 70 #[val n x, .slice a 4 c, .int .i64 self] w (DvOut B (m + n) (vl m b self n x) w)

set_option maxHeartbeats 1000000 in
set_option maxRecDepth 100000 in
theorem dv_leaf (self : Int) (x0 x1 : Int) (x2 : ByteArray) (xa : Option Addr) (xl xc : Nat) (a : Option Addr) (c : Nat) (w : World) (h4 : ¬ x0 = 4) (h5 : ¬ x0 = 5) (h6 : ¬ x0 = 6) :
    Calls Try.prog 70 #[.agg #[.int .i64 x0, .int .i64 x1, .string x2, .slice xa xl xc], .slice a 4 c, .int .i64 self] w fun e w' => e = .returned (.tuple #[.agg #[.int .i64 x0, .int .i64 x1, .string x2, .slice xa xl xc], .bool true]) ∧ Below w.heap.size w w' := by
  go_enter Try.func70, Try.ntmps70
  go_wp2_with fail
  exact bodyPost_ret (v := .tuple #[.agg #[.int .i64 x0, .int .i64 x1, .string x2, .slice xa xl xc], .bool true]) (by simp [results, Try.results70, go_sem]) rfl ⟨rfl, by go_grown⟩
set_option maxHeartbeats 1000000 in
set_option maxRecDepth 100000 in
theorem dv_any (self : Int) (x1 : Int) (x2 : ByteArray) (xa : Option Addr) (xl xc : Nat) (a : Option Addr) (c : Nat) (w : World) :
    Calls Try.prog 70 #[.agg #[.int .i64 6, .int .i64 x1, .string x2, .slice xa xl xc], .slice a 4 c, .int .i64 self] w fun e w' => e = .returned (.tuple #[.agg #[.int .i64 6, .int .i64 x1, .string x2, .slice xa xl xc], .bool false]) ∧ Below w.heap.size w w' := by
  go_enter Try.func70, Try.ntmps70
  go_wp2_with fail
  exact bodyPost_ret (v := .tuple #[.agg #[.int .i64 6, .int .i64 x1, .string x2, .slice xa xl xc], .bool false]) (by simp [results, Try.results70, go_sem]) rfl ⟨rfl, by go_grown⟩
set_option maxHeartbeats 1000000 in
set_option maxRecDepth 100000 in
theorem dv_var (self : Int) (x1 : Int) (x2 : ByteArray) (xa : Option Addr) (xl xc : Nat) (bb bo k : Nat) (c : Nat) (w : World) (y0 y1 : Int) (y2 : ByteArray) (ya : Option Addr) (yl yc : Nat) (h1 : x1 = (k : Int)) (hk : k < 4) (hbb : bb < w.heap.size)
    (hc : w.cell? ⟨bb, bo + k * 4, none⟩ = some (.int .i64 y0) ∧ w.cell? ⟨bb, bo + k * 4 + 1, none⟩ = some (.int .i64 y1) ∧ w.cell? ⟨bb, bo + k * 4 + 2, none⟩ = some (.string y2) ∧ w.cell? ⟨bb, bo + k * 4 + 3, none⟩ = some (.slice ya yl yc)) :
    Calls Try.prog 70 #[.agg #[.int .i64 5, .int .i64 x1, .string x2, .slice xa xl xc], .slice (some ⟨bb, bo, none⟩) 4 c, .int .i64 self] w fun e w' => e = .returned (.tuple #[.agg #[.int .i64 y0, .int .i64 y1, .string y2, .slice ya yl yc], .bool (y0 != 6)]) ∧ Below w.heap.size w w' := by
  obtain ⟨x0', x1', x2', x3'⟩ := hc
  subst h1
  have hk1 : (0 : Int) ≤ (k : Int) := by omega
  have hk2 : (k : Int) < 4 := by omega
  have hb1 : bb < w.heap.size + 1 := by omega
  have hb2 : bb < w.heap.size + 1 + 1 := by omega
  go_enter Try.func70, Try.ntmps70
  go_wp2_with fail
  go_region
  go_wp2_with fail
  exact bodyPost_ret (v := .tuple #[.agg #[.int .i64 y0, .int .i64 y1, .string y2, .slice ya yl yc], .bool (y0 != 6)]) (by simp [results, Try.results70, go_sem]) rfl ⟨rfl, by go_grown⟩

set_option maxHeartbeats 1000000 in
set_option maxRecDepth 100000 in
theorem dv_self (self : Int) (x1 : Int) (x2 : ByteArray) (xa : Option Addr) (xl xc : Nat) (a : Option Addr) (c : Nat) (w : World)
    (HI1 : Hid (∀ w1, Below w.heap.size w w1 → Calls Try.prog 74 #[.agg #[.int .i64 4, .int .i64 x1, .string x2, .slice xa xl xc], .string wSelf, .int .i64 0] w1 fun e w' => e = .returned (.bool true) ∧ Below w1.heap.size w1 w')) :
    Calls Try.prog 70 #[.agg #[.int .i64 4, .int .i64 x1, .string x2, .slice xa xl xc], .slice a 4 c, .int .i64 self] w fun e w' => e = .returned (.tuple #[.agg #[.int .i64 3, .int .i64 self, .string .empty, .slice none 0 0], .bool true]) ∧ Below w.heap.size w w' := by
  go_enter Try.func70, Try.ntmps70
  go_wp2_with fail
  refine (HI1.out _ (two4_is w _ _ _ _ _ _).1).mono ?_
  rintro e w1 ⟨rfl, hb1⟩
  have HB1 : Hid (Below w.heap.size w w1) := (two4_is w _ _ _ _ _ _).1.trans (hb1.mono (two4_is w _ _ _ _ _ _).1.size)
  have HBX1 := hide ((two4_is w _ _ _ _ _ _).2.below hb1)
  obtain ⟨⟨z0, z1, z2, z3⟩, ⟨f0, f1, f2, f3⟩, hzq⟩ := HBX1.out
  clear hb1
  go_wp2_with fail
  exact bodyPost_ret (v := .tuple #[.agg #[.int .i64 3, .int .i64 self, .string .empty, .slice none 0 0], .bool true]) (by simp [results, Try.results70, go_sem, z0, z1, z2, z3]; rfl) rfl ⟨rfl, put_below HB1.out (by omega) _ _ _ _⟩

set_option maxHeartbeats 1000000 in
set_option maxRecDepth 100000 in
theorem dv_put (self : Int) (x1 : Int) (x2 : ByteArray) (pb po : Nat) (xc : Nat) (a : Option Addr) (c : Nat) (w : World) (y0 y1 : Int) (y2 : ByteArray) (ya : Option Addr) (yl yc : Nat) (cl : Bool) (hpb : pb < w.heap.size)
    (hc : w.cell? ⟨pb, po + 4, none⟩ = some (.int .i64 y0) ∧ w.cell? ⟨pb, po + 4 + 1, none⟩ = some (.int .i64 y1) ∧ w.cell? ⟨pb, po + 4 + 2, none⟩ = some (.string y2) ∧ w.cell? ⟨pb, po + 4 + 3, none⟩ = some (.slice ya yl yc))
    (HI1 : Hid (∀ w1, Below w.heap.size w w1 → Calls Try.prog 74 #[.agg #[.int .i64 4, .int .i64 x1, .string x2, .slice (some ⟨pb, po, none⟩) 2 xc], .string wSelf, .int .i64 0] w1 fun e w' => e = .returned (.bool false) ∧ Below w1.heap.size w1 w'))
    (HI2 : Hid (∀ w1, Below w.heap.size w w1 → Calls Try.prog 74 #[.agg #[.int .i64 4, .int .i64 x1, .string x2, .slice (some ⟨pb, po, none⟩) 2 xc], .string wPut, .int .i64 1] w1 fun e w' => e = .returned (.bool true) ∧ Below w1.heap.size w1 w'))
    (HL : Hid (∀ w1, Below w.heap.size w w1 → Calls Try.prog 29 #[.agg #[.int .i64 y0, .int .i64 y1, .string y2, .slice ya yl yc]] w1 fun e w' => e = .returned (.bool cl) ∧ Below w1.heap.size w1 w')) :
    Calls Try.prog 70 #[.agg #[.int .i64 4, .int .i64 x1, .string x2, .slice (some ⟨pb, po, none⟩) 2 xc], .slice a 4 c, .int .i64 self] w fun e w' => e = .returned (.tuple #[.agg #[.int .i64 y0, .int .i64 y1, .string y2, .slice ya yl yc], .bool cl]) ∧ Below w.heap.size w w' := by
  go_enter Try.func70, Try.ntmps70
  go_wp2_with fail
  refine (HI1.out _ (two4_is w _ _ _ _ _ _).1).mono ?_
  rintro e w1 ⟨rfl, hb1⟩
  obtain ⟨k0, k1, k2, k3⟩ := two4_cells hb1
  have HB1 : Hid (Below w.heap.size w w1) := (two4_is w _ _ _ _ _ _).1.trans (hb1.mono (two4_is w _ _ _ _ _ _).1.size)
  have HBX1 := hide ((two4_is w _ _ _ _ _ _).2.below hb1)
  clear hb1 HI1
  go_wp2_with fail
  refine (HI2.out _ HB1.out).mono ?_
  rintro e w2 ⟨rfl, hb2⟩
  have hlt1 : w.heap.size < w1.heap.size := Nat.lt_of_succ_lt HBX1.out.2.2
  replace k3 := (below_cells hb2 _ _ hlt1).trans k3
  have HB2 : Hid (Below w.heap.size w w2) := HB1.out.trans (hb2.mono HB1.out.size)
  have HBX2 := hide (HBX1.out.below hb2)
  obtain ⟨c0, c1, c2, c3⟩ := hc
  have hcc0 := below_cells HB2.out
  replace c0 := (hcc0 _ _ hpb).trans c0
  replace c1 := (hcc0 _ _ hpb).trans c1
  replace c2 := (hcc0 _ _ hpb).trans c2
  replace c3 := (hcc0 _ _ hpb).trans c3
  have hpw : pb < w2.heap.size := Nat.lt_of_lt_of_le hpb HB2.out.size
  have hlt2 : w.heap.size < w2.heap.size := Nat.lt_of_lt_of_le hlt1 hb2.size
  have hne1 : ¬ (w.heap.size + 1 = pb) := by omega
  have hne2 : ¬ (pb = w.heap.size + 1) := by omega
  clear hb2 HI2 HB1 HBX1 k0 k1 k2 hcc0
  go_wp2_with fail
  go_region_held3 (fun w' => w'.cell? ⟨w.heap.size, 3, none⟩ = some (.slice (some ⟨pb, po, none⟩) 2 xc) ∧ w'.cell? ⟨pb, po + 4, none⟩ = some (.int .i64 y0) ∧ w'.cell? ⟨pb, po + 4 + 1, none⟩ = some (.int .i64 y1) ∧ w'.cell? ⟨pb, po + 4 + 2, none⟩ = some (.string y2) ∧ w'.cell? ⟨pb, po + 4 + 3, none⟩ = some (.slice ya yl yc))
    (go_keep) ((go_at_call 29; refine (HL.out _ HB2.out.drew).mono ?_; rintro e w3 ⟨rfl, hb3⟩; have hcc := below_cells (below_undrew hb3); have HBX3 := hide (HBX2.out.below (below_undrew hb3)); obtain ⟨⟨z0, z1, z2, z3⟩, ⟨f0, f1, f2, f3⟩, hzq⟩ := HBX3.out))
  have HB3 : Hid (Below w.heap.size w w3) := HB2.out.trans ((below_undrew hb3).mono HB2.out.size)
  clear hb3 hcc
  go_wp2_with fail
  exact bodyPost_ret (v := .tuple #[.agg #[.int .i64 y0, .int .i64 y1, .string y2, .slice ya yl yc], .bool cl]) (by simp [results, Try.results70, go_sem, z0, z1, z2, z3]) rfl ⟨rfl, put_below HB3.out (by omega) _ _ _ _⟩
end Go.Proofs.Ytpehdgbdinjbaaa
