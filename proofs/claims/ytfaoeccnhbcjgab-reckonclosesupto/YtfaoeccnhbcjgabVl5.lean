/- What is proved here: reckon's value of a right term that lies in memory, from what it returns of its parts. No condition but that. -/
import Derived.Test.YtfaoeccnhbcjgabVl4
namespace Go.Proofs.Ytfaoeccnhbcjgab
open Go.RowKit

theorem three_is (w : World) (s0 s1 x0 x1 x2 x3 : Value) (t1 t2 t3 : TypeId) : Below w.heap.size w (((w.alloc (.cells #[s0, s1] t1)).alloc (.cells #[x0, x1, x2, x3] t2)).alloc (.cells #[.int .i64 0, .int .i64 0, .string .empty, .slice none 0 0] t3)) ∧
    Box0 (w.heap.size + 1 + 1) (((w.alloc (.cells #[s0, s1] t1)).alloc (.cells #[x0, x1, x2, x3] t2)).alloc (.cells #[.int .i64 0, .int .i64 0, .string .empty, .slice none 0 0] t3)) := by
  refine ⟨(((Below.refl _ _).alloc (Nat.le_refl _) _).alloc (by simp) _).alloc (by simp; omega) _, ⟨?_, ?_, ?_, ?_⟩, ⟨?_, ?_, ?_, ?_⟩, ?_⟩ <;> simp [go_sem]
theorem four_is {w W : World} {s0 s1 x0 x1 x2 x3 y0 y1 y2 y3 : Value} {t1 t2 t3 t4 : TypeId} (h : (((w.alloc (.cells #[s0, s1] t1)).alloc (.cells #[x0, x1, x2, x3] t2)).alloc (.cells #[.int .i64 0, .int .i64 0, .string .empty, .slice none 0 0] t3)).alloc (.cells #[y0, y1, y2, y3] t4) = W) : Below w.heap.size w W ∧ Box0 (w.heap.size + 1 + 1) W ∧
    (W.cell? ⟨w.heap.size + 1 + 1 + 1, 0, none⟩ = some y0 ∧ W.cell? ⟨w.heap.size + 1 + 1 + 1, 1, none⟩ = some y1 ∧ W.cell? ⟨w.heap.size + 1 + 1 + 1, 2, none⟩ = some y2 ∧ W.cell? ⟨w.heap.size + 1 + 1 + 1, 3, none⟩ = some y3) ∧ w.heap.size + 1 + 1 + 1 < W.heap.size := by
  subst h
  refine ⟨four_below _ _ _ _ _, ⟨⟨?_, ?_, ?_, ?_⟩, ⟨?_, ?_, ?_, ?_⟩, ?_⟩, ⟨?_, ?_, ?_, ?_⟩, ?_⟩ <;> simp [go_sem]

set_option maxHeartbeats 1000000 in
set_option maxRecDepth 100000 in
theorem v_any (N : Nat) (o : Option (Tm (N + 1))) (a : Option Addr) (x1 : Int) (x2 : ByteArray) (xa : Option Addr) (xl xc : Nat) (c : Nat) (self : Int) (w : World)
    (HO : Hid (o = none)) :
    Calls Try.prog 58 #[.agg #[.slice a 4 c, .int .i64 self], .agg #[.int .i64 6, .int .i64 x1, .string x2, .slice xa xl xc]] w (VOut (N + 1) o w) := by
  go_enter Try.func58, Try.ntmps58
  go_wp2_with fail
  rw [HO.out]
  exact bodyPost_ret (v := .tuple #[.agg #[.int .i64 0, .int .i64 0, .string .empty, .slice none 0 0], .bool false]) (by simp [results, Try.results58, go_sem]; rfl) rfl (vout_none (three_is w _ _ _ _ _ _ _ _ _).1)

set_option maxHeartbeats 1000000 in
set_option maxRecDepth 100000 in
theorem v_tup (N : Nat) (o : Option (Tm (N + 1))) (a : Option Addr) (x1 : Int) (x2 : ByteArray) (xa : Option Addr) (xl xc : Nat) (c : Nat) (self : Int) (w : World)
    (HT : Hid (∀ w1, Below w.heap.size w w1 → Calls Try.prog 75 #[.agg #[.slice a 4 c, .int .i64 self], .slice xa xl xc] w1 (VOut (N + 1) o w1))) :
    Calls Try.prog 58 #[.agg #[.slice a 4 c, .int .i64 self], .agg #[.int .i64 4, .int .i64 x1, .string x2, .slice xa xl xc]] w (VOut (N + 1) o w) := by
  go_enter Try.func58, Try.ntmps58
  go_wp2_with fail
  refine (HT.out _ (three_is w _ _ _ _ _ _ _ _ _).1).mono ?_
  rintro e w3 ⟨y, r, rfl, H⟩
  have HBX3 := hide ((three_is w _ _ _ _ _ _ _ _ _).2.below H.out.1)
  have HV := fun v0 v1 v2 v3 => hide (vout_box (three_is w _ _ _ _ _ _ _ _ _).1 (Nat.le_add_right w.heap.size 2) (three_is w _ _ _ _ _ _ _ _ _).2.2.2 H.out v0 v1 v2 v3)
  obtain ⟨⟨z0, z1, z2, z3⟩, ⟨f0, f1, f2, f3⟩, hzq⟩ := HBX3.out
  have e3 : val (N + 1) y = .agg #[.int .i64 y.1.1, .int .i64 y.1.2.1, .string y.1.2.2, .slice y.2.1.1 y.2.2.length y.2.1.2] := rfl
  rw [e3]
  clear H HT e3
  go_wp2_with fail
  exact bodyPost_ret (v := .tuple #[.agg #[.int .i64 y.1.1, .int .i64 y.1.2.1, .string y.1.2.2, .slice y.2.1.1 y.2.2.length y.2.1.2], .bool r]) (by simp [results, Try.results58, go_sem, z0, z1, z2, z3]) rfl (HV _ _ _ _).out

set_option maxHeartbeats 1000000 in
set_option maxRecDepth 100000 in
theorem v_leaf (N : Nat) (o : Option (Tm (N + 1))) (a : Option Addr) (x0 : Int) (x1 : Int) (x2 : ByteArray) (xa : Option Addr) (xl xc : Nat) (n : Nat) (hn : n ≤ N) (x : Tm (n + 1)) (c : Nat) (self : Int) (w : World)
    (h4 : ¬ x0 = 4) (h5 : ¬ x0 = 5) (h6 : ¬ x0 = 6) (HR : Hid (RightA ⟨n + 1, x⟩))
    (HP : Hid (∀ w1, Below w.heap.size w w1 → Calls Try.prog 74 #[.agg #[.int .i64 x0, .int .i64 x1, .string x2, .slice xa xl xc]] w1 fun e w' => ∃ y : Tm (n + 1), e = .returned (val (n + 1) y) ∧ Hid (Below w1.heap.size w1 w' ∧ In w'.heap.size w' (n + 1) y ∧ Off (fun q => w1.heap.size ≤ q) (n + 1) y ∧ same (n + 1) y (n + 1) x = true))) (HO : Hid (o = some (lift (N + 1) (n + 1) x))) :
    Calls Try.prog 58 #[.agg #[.slice a 4 c, .int .i64 self], .agg #[.int .i64 x0, .int .i64 x1, .string x2, .slice xa xl xc]] w (VOut (N + 1) o w) := by
  go_enter Try.func58, Try.ntmps58
  go_wp2_with fail
  refine (HP.out _ (three_is w _ _ _ _ _ _ _ _ _).1).mono ?_
  rintro e w3 ⟨y, rfl, H⟩
  have HBX3 := hide ((three_is w _ _ _ _ _ _ _ _ _).2.below H.out.1)
  have HV := fun v0 v1 v2 v3 => hide (vput_out hn HR.out (three_is w _ _ _ _ _ _ _ _ _).1 (Nat.le_add_right w.heap.size 2) (three_is w _ _ _ _ _ _ _ _ _).2.2.2 H.out (Below.refl _ _) true v0 v1 v2 v3)
  obtain ⟨⟨z0, z1, z2, z3⟩, ⟨f0, f1, f2, f3⟩, hzq⟩ := HBX3.out
  have e3 : val (n + 1) y = .agg #[.int .i64 y.1.1, .int .i64 y.1.2.1, .string y.1.2.2, .slice y.2.1.1 y.2.2.length y.2.1.2] := rfl
  rw [e3]
  clear H HP e3
  go_wp2_with fail
  rw [HO.out]
  exact bodyPost_ret (v := .tuple #[.agg #[.int .i64 y.1.1, .int .i64 y.1.2.1, .string y.1.2.2, .slice y.2.1.1 y.2.2.length y.2.1.2], .bool true]) (by simp [results, Try.results58, go_sem, z0, z1, z2, z3]) rfl (HV _ _ _ _).out

set_option maxHeartbeats 1000000 in
set_option maxRecDepth 100000 in
theorem v_var (N : Nat) (o : Option (Tm (N + 1))) (bb bo : Nat) (k : Nat) (x1 : Int) (x2 : ByteArray) (xa : Option Addr) (xl xc : Nat) (n : Nat) (hn : n ≤ N) (x : Tm (n + 1)) (c : Nat) (self : Int) (w : World)
    (h1 : x1 = (k : Int)) (hk : k < 4) (hbb : bb < w.heap.size) (hx : Held w bb (bo + k * 4) (n + 1) x) (HR : Hid (RightA ⟨n + 1, x⟩))
    (HP : Hid (∀ w1, Below w.heap.size w w1 → Calls Try.prog 74 #[.agg #[.int .i64 x.1.1, .int .i64 x.1.2.1, .string x.1.2.2, .slice x.2.1.1 x.2.2.length x.2.1.2]] w1 fun e w' => ∃ y : Tm (n + 1), e = .returned (val (n + 1) y) ∧ Hid (Below w1.heap.size w1 w' ∧ In w'.heap.size w' (n + 1) y ∧ Off (fun q => w1.heap.size ≤ q) (n + 1) y ∧ same (n + 1) y (n + 1) x = true)))
    (HI : Hid (∀ w1, Calls Try.prog 71 #[.agg #[.int .i64 x.1.1, .int .i64 x.1.2.1, .string x.1.2.2, .slice x.2.1.1 x.2.2.length x.2.1.2]] w1 fun e w' => e = .returned (.bool (!(x.1.1 == 6))) ∧ Below w1.heap.size w1 w'))
    (HO : Hid (o = if (!(x.1.1 == 6)) = true then some (lift (N + 1) (n + 1) x) else none)) :
    Calls Try.prog 58 #[.agg #[.slice (some ⟨bb, bo, none⟩) 4 c, .int .i64 self], .agg #[.int .i64 5, .int .i64 x1, .string x2, .slice xa xl xc]] w (VOut (N + 1) o w) := by
  go_enter Try.func58, Try.ntmps58
  obtain ⟨x0', x1', x2', x3'⟩ := hx
  subst h1
  generalize x.2.2.length = xxl at *
  generalize (!(x.1.1 == 6)) = cl at *
  have hk1 : (0 : Int) ≤ (k : Int) := by omega
  have hk2 : (k : Int) < 4 := by omega
  have hb1 : bb < w.heap.size + 1 := by omega
  have hb2 : bb < w.heap.size + 1 + 1 := by omega
  go_wp2_with fail
  generalize hW : World.alloc (World.alloc (World.alloc (World.alloc w _) _) _) _ = W
  obtain ⟨hBW, hBX, ⟨b0, b1, b2, b3⟩, hWs⟩ := four_is hW
  have HB := hide hBW
  have HBX := hide hBX
  clear hW hBW hBX x0' x1' x2' x3'
  have e3 : ∀ y : Tm (n + 1), val (n + 1) y = .agg #[.int .i64 y.1.1, .int .i64 y.1.2.1, .string y.1.2.2, .slice y.2.1.1 y.2.2.length y.2.1.2] := fun _ => rfl
  go_region_held3 (fun w' => w'.cell? ⟨w.heap.size + 1 + 1 + 1, 0, none⟩ = some (.int .i64 x.1.1) ∧ w'.cell? ⟨w.heap.size + 1 + 1 + 1, 1, none⟩ = some (.int .i64 x.1.2.1) ∧ w'.cell? ⟨w.heap.size + 1 + 1 + 1, 2, none⟩ = some (.string x.1.2.2) ∧ w'.cell? ⟨w.heap.size + 1 + 1 + 1, 3, none⟩ = some (.slice x.2.1.1 xxl x.2.1.2))
    (go_keep) ((first | (go_at_call 74; refine (HP.out _ HB.out.drew).mono ?_; rintro e w3 ⟨y, rfl, H⟩; rw [e3]; have hcc := below_cells (below_undrew H.out.1); have HB3 : Hid (Below w.heap.size w w3) := (HB.out.drew).trans (H.out.1.mono HB.out.size); have hw3 : w.heap.size + 1 + 1 + 1 < w3.heap.size := Nat.lt_of_lt_of_le hWs H.out.1.size) | (go_at_call 71; refine (HI.out _).mono ?_; rintro e w4 ⟨rfl, hb4⟩; have hcc4 := below_cells hb4; have HBX3 := hide ((HBX.out.below (below_undrew H.out.1)).below hb4); obtain ⟨⟨z0, z1, z2, z3⟩, ⟨f0, f1, f2, f3⟩, hzq⟩ := HBX3.out)))
  have HV := fun v0 v1 v2 v3 => hide (vput_out hn HR.out HB.out.drew (Nat.le_add_right w.heap.size 2) HBX.out.2.2 H.out hb4 cl v0 v1 v2 v3)
  clear H hcc hcc4 hb4
  go_wp2_with fail
  rw [HO.out]
  exact bodyPost_ret (v := .tuple #[.agg #[.int .i64 y.1.1, .int .i64 y.1.2.1, .string y.1.2.2, .slice y.2.1.1 y.2.2.length y.2.1.2], .bool cl]) (by simp [results, Try.results58, go_sem, z0, z1, z2, z3]) rfl (HV _ _ _ _).out

end Go.Proofs.Ytfaoeccnhbcjgab
