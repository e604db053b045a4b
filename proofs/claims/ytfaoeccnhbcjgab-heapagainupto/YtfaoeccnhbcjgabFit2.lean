/- What is proved here: match.bindings' fits, of right terms that lie in memory and four right terms that are owned: it returns whether the plain function fit finds something, leaves that in the owned row, and turns no other memory that was there. No condition but those. -/
import Derived.Test.YtfaoeccnhbcjgabFit1
import Derived.Test.YtfaoeccnhbcjgabOrd
namespace Go.Proofs.Ytfaoeccnhbcjgab
open Go.RowKit

theorem isBound_any (k u : Int) (s : ByteArray) (a : Option Addr) (l c : Nat) (w : World) :
    Calls Try.prog 71 #[.agg #[.int .i64 k, .int .i64 u, .string s, .slice a l c]] w fun e w' => e = .returned (.bool (!(k == 6))) ∧ Below w.heap.size w w' := by
  cases h : k == 6
  all_goals
    go_enter Try.func71, Try.ntmps71
    go_wp2_with fail
    go_ret
    exact ⟨ret_same (by simp [bne, h]), (Below.refl _ _).alloc (Nat.le_refl _) _⟩

theorem order_is (x : An) (y : An) (B : Nat) (w : World) (hx : InA B w x) (hy : InA B w y) (hB : B ≤ w.heap.size) (rx : RightA x) (ry : RightA y) :
    Calls Try.prog 8 #[val x.1 x.2, val y.1 y.2] w fun e w' => ∃ r, e = .returned (.int .i64 r) ∧ Hid ((r == 0) = sameA x y) ∧ Below w.heap.size w w' := by
  refine (order_any x.1 x.2 y.1 y.2 B w hx hy hB).mono ?_
  rintro e w' ⟨rfl, hb⟩
  refine ⟨_, rfl, ?_, hb⟩
  have h := ord_same x.1 x.2 y.1 y.2 rx ry
  unfold Hid sameA
  cases hs : same x.1 x.2 y.1 y.2
  · rw [hs] at h
    simp only [Bool.false_eq_true, iff_false] at h
    simpa using h
  · rw [hs] at h
    simp only [iff_true] at h
    simpa using h

theorem fvar_any (b : List An) (base g c B : Nat) (w : World) (k : Nat) (hk : k < 4) (m : Nat) (t : Tm (m + 1)) (hb : Bnd B w b) (ht : In B w (m + 1) t) (hr : RightA ⟨m + 1, t⟩) (hB : B ≤ base) (H : Has base g c b w) :
    Calls Try.prog 72 #[.slice (some ⟨g, 0, none⟩) 4 c, .int .i64 k, .agg #[.int .i64 t.1.1, .int .i64 t.1.2.1, .string t.1.2.2, .slice t.2.1.1 t.2.2.length t.2.1.2]] w (FitPost base g c (fitV b k ⟨m + 1, t⟩) w) := by
  obtain ⟨y, hy⟩ : ∃ y, b[k]? = some y := ⟨b[k]'(by rw [hb.1]; exact hk), List.getElem?_eq_getElem _⟩
  obtain ⟨hy1, hy2⟩ := hb.2 y (List.mem_of_getElem? hy)
  obtain ⟨n, y⟩ := y
  cases n with
  | zero => exact hy1.elim
  | succ n =>
  have HV : Hid (fitV b k ⟨m + 1, t⟩ = if y.1.1 = 6 then some (b.set k ⟨m + 1, t⟩) else if sameA ⟨n + 1, y⟩ ⟨m + 1, t⟩ then some b else none) := by simp only [Hid, fitV, hy, kindA]; rfl
  obtain ⟨c0, c1, c2, c3⟩ := H.cells k _ hy
  simp only [ndA, hdT, hdOf] at c0 c1 c2 c3
  have hk1 : (0 : Int) ≤ (k : Int) := by omega
  have hk2 : (k : Int) < 4 := by omega
  have HH := hide H
  have HY := hide hy
  have hgw : g < w.heap.size := H.lt.2
  clear hy H
  generalize fitV b k ⟨m + 1, t⟩ = o at *
  cases h6 : y.1.1 == 6
  case true =>
    go_enter Try.func72, Try.ntmps72
    go_wp2_with fail
    refine (isBound_any _ _ _ _ _ _ _).mono ?_
    rintro e w1 ⟨rfl, hb1⟩
    have HB1 := hide hb1
    clear c0 c1 c2 c3
    have H1 : Hid (Has base g c b w1) := (HH.out.kept (World.grownBy_alloc w _ none) (by simp)).below hb1
    have hf := fun j => H1.out.free j
    obtain ⟨⟨t0, t1, t2, t3⟩, _⟩ := boxed hb1
    obtain ⟨c0, c1, c2, c3⟩ := H1.out.cells k _ HY.out
    simp only [ndA, hdT, hdOf] at c0 c1 c2 c3
    clear hb1
    go_wp2_with fail
    go_ret
    have ho : o = some (b.set k ⟨m + 1, t⟩) := by rw [HV.out, if_pos (by simpa using h6)]
    subst ho
    exact ⟨rfl, grown_trans (grown_of_below (((Below.refl _ _).alloc (Nat.le_refl _) _).trans (HB1.out.mono (by simp))) _) (put4_grown _ _ _ _), fun b' e => by obtain rfl := Option.some.inj e; exact H1.out.put k ⟨m + 1, t⟩ (by rw [hb.1]; exact hk)⟩
  case false =>
    go_enter Try.func72, Try.ntmps72
    go_wp2_with fail
    refine (isBound_any _ _ _ _ _ _ _).mono ?_
    rintro e w1 ⟨rfl, hb1⟩
    clear c0 c1 c2 c3
    have HB1 : Hid (Below w.heap.size w w1) := ((Below.refl _ _).alloc (Nat.le_refl _) _).trans (hb1.mono (by simp))
    have H1 : Hid (Has base g c b w1) := (HH.out.kept (World.grownBy_alloc w _ none) (by simp)).below hb1
    obtain ⟨⟨t0, t1, t2, t3⟩, _⟩ := boxed hb1
    obtain ⟨c0, c1, c2, c3⟩ := H1.out.cells k _ HY.out
    simp only [ndA, hdT, hdOf] at c0 c1 c2 c3
    have HBB : Hid (B ≤ w.heap.size) := by have := HH.out.lt; unfold Hid; omega
    have HLT : Hid (w.heap.size < w1.heap.size) := by have := hb1.size; simp at this; unfold Hid; omega
    have HI : Hid (InA B w1 ⟨n + 1, y⟩ ∧ InA B w1 ⟨m + 1, t⟩) := ⟨hy1.below (HB1.out.mono HBB.out), InA.below (x := ⟨m + 1, t⟩) (HB1.out.mono HBB.out) ht⟩
    have HO := hide (order_is ⟨n + 1, y⟩ ⟨m + 1, t⟩ B w1.drew (HI.out.1.below (Below.refl _ _).drew) (HI.out.2.below (Below.refl _ _).drew) (Nat.le_trans HBB.out HB1.out.size) hy2 hr)
    clear hb1 ht hy1 hb hy2 hr
    go_wp2_with fail
    go_region_held3 (fun w' => w'.cell? ⟨g, k * 4, none⟩ = some (.int .i64 y.1.1) ∧ w'.cell? ⟨g, k * 4 + 1, none⟩ = some (.int .i64 y.1.2.1) ∧ w'.cell? ⟨g, k * 4 + 2, none⟩ = some (.string y.1.2.2) ∧ w'.cell? ⟨g, k * 4 + 3, none⟩ = some (.slice y.2.1.1 y.2.2.length y.2.1.2)
          ∧ w'.cell? ⟨w.heap.size, 0, none⟩ = some (.int .i64 t.1.1) ∧ w'.cell? ⟨w.heap.size, 1, none⟩ = some (.int .i64 t.1.2.1) ∧ w'.cell? ⟨w.heap.size, 2, none⟩ = some (.string t.1.2.2) ∧ w'.cell? ⟨w.heap.size, 3, none⟩ = some (.slice t.2.1.1 t.2.2.length t.2.1.2))
        (go_keep) ((go_at_call 8; refine HO.out.mono ?_; rintro e w2 ⟨r, rfl, HR, hb2⟩; have hcc := below_cells (below_undrew hb2); have hgg : g < w1.heap.size := Nat.lt_of_lt_of_le hgw HB1.out.size; have hgh : w.heap.size < w1.heap.size := HLT.out))
    replace hb2 := below_undrew hb2
    have HP : Hid (w.grownBy w2 (some g) ∧ Has base g c b w2) := ⟨grown_of_below (HB1.out.trans (hb2.mono HB1.out.size)) _, H1.out.below hb2⟩
    have ho : o = if sameA ⟨n + 1, y⟩ ⟨m + 1, t⟩ then some b else none := by rw [HV.out, if_neg (by simpa using h6)]
    rw [← HR.out] at ho
    clear HR HV
    cases h0 : r == 0
    all_goals
      rw [h0] at ho
      go_wp2_with fail
      go_ret
      simp only [Bool.false_eq_true, if_false, if_true] at ho
      subst ho
    · exact ⟨rfl, HP.out.1, fun b' e => by cases e⟩
    · exact ⟨rfl, HP.out.1, fun b' e => by obtain rfl := Option.some.inj e; exact HP.out.2⟩
end Go.Proofs.Ytfaoeccnhbcjgab
