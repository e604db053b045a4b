/- What is proved here: clerkkeep.TermBack, called with a term that lies in memory and holds at most 2097152 terms and letters, and with a text, returns true and turns no memory that was there, where the library's table of powers lies as its text lays it. -/
import Derived.Test.YtdlplmpjcemnoabDoorBck2
namespace Go.Proofs.YtdlplmpjcemnoabDoor
open Go.RowKit

/-- Print, of a right term or of another. -/
def PrOut (n : Nat) (x : Tm n) (T : ByteArray) (E : Int) : Prop := E = chk n x ∧ T.size ≤ maxLen ∧ (E = 0 → T.data.toList = wtext n x)
theorem print_out (n : Nat) (x : Tm n) (B : Nat) (w : World) (hx : In B w n x) (hB : B ≤ w.heap.size) (ht : Tab w.heap.size w) (hN : (nodes n x).length ≤ 2097152) (hw : wt n x ≤ 2097152) :
    Calls Tryd.prog 5 #[val n x] w fun e w' => ∃ T E, e = .returned (.tuple #[.string T, .int .i64 E]) ∧ Hid (PrOut n x T E ∧ Below w.heap.size w w') := by
  refine (print_any n x B w hx hB ht hN hw).mono ?_
  rintro e w' ⟨rfl, hb⟩
  have hl := wtext_len n x B w hx
  refine ⟨_, _, rfl, ⟨rfl, ?_, fun h => by rw [if_pos h]⟩, hb⟩
  rw [size_of_list]
  unfold maxLen
  split
  · omega
  · simp
/-- What the reading of a printed text tells. -/
def BkRes (n : Nat) (x : Tm n) (T : ByteArray) (w w' : World) (v : Value) (f : Int) : Prop :=
  Below w.heap.size w w' ∧ ((2048 < T.size ∧ f = 2) ∨ (T.size ≤ 2048 ∧ f = 0 ∧ ∃ (m : Nat) (y : Tm m), v = val m y ∧ In w'.heap.size w' m y ∧ same m y n x = true))
theorem parse_out (n : Nat) (x : Tm n) (T : ByteArray) (E : Int) (w : World) (h : PrOut n x T E) (h0 : E = 0) :
    Calls Tryd.prog 6 #[.string T] w fun e w' => ∃ (k u : Int) (t : ByteArray) (a : Option Addr) (l c : Nat) (p f : Int), e = .returned (.tuple #[.agg #[.int .i64 k, .int .i64 u, .string t, .slice a l c], .int .i64 p, .int .i64 f]) ∧
      Hid (BkRes n x T w w' (.agg #[.int .i64 k, .int .i64 u, .string t, .slice a l c]) f) := by
  refine (parse_any T w h.2.1).mono ?_
  rintro e w' ⟨k, u, t, a, l, c, p, f, rfl, H⟩
  exact ⟨k, u, t, a, l, c, p, f, rfl, H.out.2, back_res (h.1.symm.trans h0) (h.2.2 h0) H.out.1⟩

theorem bk_box {w w' : World} {v0 v1 v2 v3 : Value} (b : Below (w.alloc (.cells #[v0, v1, v2, v3] 24)).heap.size (w.alloc (.cells #[v0, v1, v2, v3] 24)) w') : Bx w.heap.size v0 v1 v2 v3 w' :=
  (Bx.new w v0 v1 v2 v3).block (b.block _ (by simp))
theorem bk_below {w w' : World} {o : Obj} (b : Below (w.alloc o).heap.size (w.alloc o) w') : Below w.heap.size w w' := (below_new (Below.refl _ _) _).trans (b.mono (by simp))

theorem bk_new {n : Nat} {x : Tm n} {w : World} {v : Value} {o : Obj} (h : ∃ (m : Nat) (y : Tm m), v = val m y ∧ In w.heap.size w m y ∧ same m y n x = true) : ∃ (m : Nat) (y : Tm m), v = val m y ∧ In (w.alloc o).heap.size (w.alloc o) m y ∧ same m y n x = true := by
  obtain ⟨m, y, h1, h2, h3⟩ := h
  exact ⟨m, y, h1, (h2.below ((Below.refl _ _).alloc (Nat.le_refl _) o)).mono (by simp), h3⟩
theorem Bx.set4 {q : Nat} {v0 v1 v2 v3 : Value} {w : World} (h : Bx q v0 v1 v2 v3 w) (u0 u1 u2 u3 : Value) : Bx q u0 u1 u2 u3 ((((w.setCell ⟨q, 0, none⟩ u0).setCell ⟨q, 1, none⟩ u1).setCell ⟨q, 2, none⟩ u2).setCell ⟨q, 3, none⟩ u3) := by
  unfold Bx at *
  simp [World.setCell, Array.getElem?_modify, h]
/-- The term that was read, once its box is written. -/
theorem bk_in {w wp w5 : World} {n : Nat} {y : Tm n} (hlt : w.heap.size < wp.heap.size) (h : In w5.heap.size w5 n y) (k : Off (fun q => wp.heap.size ≤ q) n y) (v0 v1 v2 v3 : Value) :
    In w5.heap.size ((((w5.setCell ⟨w.heap.size, 0, none⟩ v0).setCell ⟨w.heap.size, 1, none⟩ v1).setCell ⟨w.heap.size, 2, none⟩ v2).setCell ⟨w.heap.size, 3, none⟩ v3) n y :=
  In.off (fun q hq => set4_block (by omega) _ _ _ _) k h

theorem bk_print (n : Nat) (x : Tm n) (B : Nat) (w : World) (v : Value) (hv : v = val n x) (hx : In B w n x) (hB : B ≤ w.heap.size) (ht : Tab w.heap.size w) (hN : (nodes n x).length ≤ 2097152) (hw : wt n x ≤ 2097152) :
    Calls Tryd.prog 5 #[v] w fun e w' => ∃ T E, e = .returned (.tuple #[.string T, .int .i64 E]) ∧ Hid (PrOut n x T E ∧ Below w.heap.size w w') := by
  subst hv
  exact print_out n x B w hx hB ht hN hw
theorem bk_same (n : Nat) (x : Tm n) (w : World) (v u : Value) (hu : u = val n x) (h : ∃ (m : Nat) (y : Tm m), v = val m y ∧ In w.heap.size w m y ∧ same m y n x = true) (hx : In w.heap.size w n x) :
    Calls Tryd.prog 7 #[v, u] w fun e w' => e = .returned (.bool true) ∧ Below w.heap.size w w' := by
  obtain ⟨m, y, rfl, hy, hsm⟩ := h
  subst hu
  rw [← hsm]
  exact same_any m y n x w.heap.size w hy hx (Nat.le_refl _)

set_option maxHeartbeats 1000000 in
theorem back_walk (n : Nat) (x : Tm n) (B : Nat) (w : World) (k u : Int) (t : ByteArray) (a : Option Addr) (l c : Nat) (s : ByteArray) (hv : .agg #[.int .i64 k, .int .i64 u, .string t, .slice a l c] = val n x) (hs : s.size ≤ maxLen) (hx : In B w n x) (hB : B ≤ w.heap.size) (ht : Tab w.heap.size w) (hN : (nodes n x).length ≤ 2097152) (hw : wt n x ≤ 2097152) :
    Calls Tryd.prog 3 #[.agg #[.int .i64 k, .int .i64 u, .string t, .slice a l c], .string s] w fun e w' => e = .returned (.bool true) ∧ Below w.heap.size w w' := by
  have HT : Hid (∀ w', Below w.heap.size w w' → Tab w'.heap.size w') := fun w' hb => Tab.mono (ht.on hb) hb.size
  have HPR : Hid (∀ w1, Below w.heap.size w w1 → Calls Tryd.prog 5 #[.agg #[.int .i64 k, .int .i64 u, .string t, .slice a l c]] w1 fun e w' => ∃ T E, e = .returned (.tuple #[.string T, .int .i64 E]) ∧ Hid (PrOut n x T E ∧ Below w1.heap.size w1 w')) := by
    intro w1 h1
    rw [hv]
    exact print_out n x B w1 (hx.below (h1.mono hB)) (Nat.le_trans hB h1.size) (HT.out w1 h1) hN hw
  have HSM : Hid (∀ (w1 : World) (v : Value), Below w.heap.size w w1 → (∃ (m : Nat) (y : Tm m), v = val m y ∧ In w1.heap.size w1 m y ∧ same m y n x = true) → Calls Tryd.prog 7 #[v, .agg #[.int .i64 k, .int .i64 u, .string t, .slice a l c]] w1 fun e w' => e = .returned (.bool true) ∧ Below w1.heap.size w1 w') := by
    rintro w1 v h1 ⟨m, y, rfl, hy, hsm⟩
    rw [hv, ← hsm]
    exact same_any m y n x w1.heap.size w1 hy ((hx.below (h1.mono hB)).mono (Nat.le_trans hB h1.size)) (Nat.le_refl _)
  have hs' : s.size ≤ 9223372036854775807 := by unfold maxLen at hs; omega
  replace hs := hide hs
  clear hv hx ht hN hw
  have hzero : True := trivial
  go_enter Tryd.func3, Tryd.ntmps3
  go_wp2_with (first
    | (go_at_call 4; refine (kread_any _ (HT.out _ (below_new (Below.refl _ _) _))).mono ?_; rintro e w1 ⟨rfl, hb⟩; have HP := hide hb; obtain ⟨⟨x0, x1, x2, x3⟩, f0, f1, f2, f3⟩ := (bk_box hb).cells; clear hb)
    | (go_at_call 5; have hone := hzero; clear hzero; refine (HPR.out _ (bk_below HP.out)).mono ?_; rintro e w2 ⟨T, E, rfl, HQ⟩; have HP := hide (HP.out.trans (HQ.out.2.mono HP.out.size)); obtain ⟨⟨y0, y1, y2, y3⟩, g0, g1, g2, g3⟩ := (bk_box HP.out).cells; by_cases hE : E = 0)
    | (go_at_call 6; have htwo := hone; clear hone; refine (parse_out n x T E _ HQ.out.1 hE).mono ?_; rintro e w3 ⟨k1, u1, t1, a1, l1, c1, p1, e1, rfl, HR⟩; have HP := hide (HP.out.trans (HR.out.1.mono HP.out.size)); obtain ⟨⟨z0, z1, z2, z3⟩, h0, h1, h2, h3⟩ := (bk_box HP.out).cells; have hlt3 : w.heap.size < w3.heap.size := ((bk_box HP.out).lt); rcases HR.out.2 with ⟨hbig, rfl⟩ | ⟨hsm, rfl, HY⟩; all_goals (first | (replace HY := hide HY) | skip))
    | (go_at_call 7; have hthree := htwo; clear htwo; have HP4 := hide (below_new HP.out (.cells #[.int .i64 k1, .int .i64 u1, .string t1, .slice a1 l1 c1] 24)); refine (HSM.out (w3.alloc (.cells #[.int .i64 k1, .int .i64 u1, .string t1, .slice a1 l1 c1] 24)) (.agg #[.int .i64 k1, .int .i64 u1, .string t1, .slice a1 l1 c1]) (bk_below HP4.out) (bk_new (o := (.cells #[.int .i64 k1, .int .i64 u1, .string t1, .slice a1 l1 c1] 24)) HY.out)).mono ?_; rintro e w4 ⟨rfl, hb⟩; have HP := hide (HP4.out.trans (hb.mono HP4.out.size)); clear hb; obtain ⟨⟨s0, s1, s2, s3⟩, r0, r1, r2, r3⟩ := (bk_box HP.out).cells))
  · go_ret
    exact ⟨rfl, below_new (bk_below HP.out) _⟩
  all_goals
    have hltp := (bk_box HP.out).lt
    refine (parse_any s _ hs.out).mono ?_
    rintro e w5 ⟨k5, u5, t5, a5, l5, c5, p5, e5, rfl, H5⟩
    have HP := hide (HP.out.trans (H5.out.2.mono HP.out.size))
    have HX5 := hide (bk_box HP.out)
    obtain ⟨⟨q0, q1, q2, q3⟩, m0, m1, m2, m3⟩ := HX5.out.cells
    have HB5 := hide (bk_below HP.out)
    rcases back_read H5.out.1 with ⟨he, hp1, hp2⟩ | ⟨rfl, n5, y5, hv5, i5, o5, hc5, hn5, hw5⟩
    · have he2 : (e5 != 0) = true := by simpa using he
      go_wp2_with fail
      go_ret
      exact ⟨by simp, below_set4 HB5.out _ _ _ _⟩
    · have HI5 := hide (bk_in hltp i5 o5 (.int .i64 k5) (.int .i64 u5) (.string t5) (.slice a5 l5 c5))
      have HB6 := hide (below_set4 HB5.out (.int .i64 k5) (.int .i64 u5) (.string t5) (.slice a5 l5 c5))
      have HX6 := hide (HX5.out.set4 (.int .i64 k5) (.int .i64 u5) (.string t5) (.slice a5 l5 c5))
      have HV := hide (⟨hv5, hc5, hn5, hw5⟩ : _ ∧ _ ∧ _ ∧ _)
      clear hv5 i5 o5 hc5 hn5 hw5
      go_wp2_with fail
      refine (bk_print n5 y5 w5.heap.size _ _ HV.out.1 HI5.out (by rw [set4_size]; exact Nat.le_refl _) (HT.out _ HB6.out) HV.out.2.2.1 HV.out.2.2.2).mono ?_
      rintro e w7 ⟨T7, E7, rfl, H7⟩
      obtain rfl : E7 = 0 := H7.out.1.1.trans HV.out.2.1
      have HX7 := hide (HX6.out.block (H7.out.2.block _ HX6.out.lt))
      have HB7 := hide (HB6.out.trans (H7.out.2.mono HB6.out.size))
      have HI7 := hide ((HI5.out.below (H7.out.2.mono (by rw [set4_size]; exact Nat.le_refl _))).mono (show w5.heap.size ≤ w7.heap.size by have := H7.out.2.size; rw [set4_size] at this; exact this))
      clear HX6 HI5
      go_wp2_with fail
      refine (parse_out n5 y5 T7 0 w7 H7.out.1 rfl).mono ?_
      rintro e w8 ⟨k8, u8, t8, a8, l8, c8, p8, e8, rfl, H8⟩
      have HX8 := hide (HX7.out.block (H8.out.1.block _ HX7.out.lt))
      have HB8 := hide (HB7.out.trans (H8.out.1.mono HB7.out.size))
      have HI8 := hide ((HI7.out.below H8.out.1).mono H8.out.1.size)
      obtain ⟨⟨v0, v1, v2, v3⟩, b0, b1, b2, b3⟩ := HX8.out.cells
      have hlt8 : w.heap.size < w8.heap.size := HX8.out.lt
      have hT7 : T7.size ≤ 9223372036854775807 := by have := H7.out.1.2.1; unfold maxLen at this; omega
      rcases H8.out.2 with ⟨hbig8, rfl⟩ | ⟨hsm8, rfl, HY8⟩
      · have hbig9 : (2048 : Int) < T7.size := by omega
        go_wp2_with fail
        go_ret
        exact ⟨by simp, below_new HB8.out _⟩
      · have hsm9 : (T7.size : Int) ≤ 2048 := by omega
        replace HY8 := hide HY8
        go_wp2_with fail
        refine (bk_same n5 y5 _ _ _ HV.out.1 (bk_new HY8.out) ((HI8.out.below ((Below.refl _ _).alloc (Nat.le_refl _) _)).mono (by simp))).mono ?_
        rintro e w9 ⟨rfl, hb9⟩
        have HB9 := hide ((below_new HB8.out _).trans (hb9.mono (below_new HB8.out _).size))
        clear hb9
        go_wp2_with fail
        go_ret
        exact ⟨by simp, HB9.out⟩

theorem back_any (n : Nat) (x : Tm n) (s : ByteArray) (B : Nat) (w : World) (hs : s.size ≤ maxLen) (hx : In B w n x) (hB : B ≤ w.heap.size) (ht : Tab w.heap.size w) (hw : wt n x ≤ 2097152) :
    Calls Tryd.prog 3 #[val n x, .string s] w fun e w' => e = .returned (.bool true) ∧ Below w.heap.size w w' := by
  have hN := nodes_wt n x
  cases n with
  | zero => exact hx.elim
  | succ n => exact back_walk (n + 1) x B w x.1.1 x.1.2.1 x.1.2.2 x.2.1.1 x.2.2.length x.2.1.2 s rfl hs hx hB ht (by omega) hw
end Go.Proofs.YtdlplmpjcemnoabDoor
