/- What is proved here: clerkkeep.ReckonCloses of two terms, a list of terms that lie in memory, and a number returns true, and turns no memory that was there. Condition: at most 2097152 terms in each. -/
import Derived.Test.YtpehdgbdinjbaabG13
import Derived.Deep.RegionHeld3
import Derived.Deep.DeepCutAuto
import Derived.Deep.QuietTactic
import Derived.Deep.RegionWith
import Derived.BigQuiet
namespace Go.Proofs.Ytpehdgbdinjbaab
open Go.RowKit

set_option maxHeartbeats 1000000 in
theorem rest_any (n m : Int) (hm : 0 < m) (hm2 : m ≤ 1000000) (w : World) : Calls Try.prog 18 #[.int .i64 n, .int .i64 m] w fun e w' => ∃ r, e = .returned (.int .i64 r) ∧ 0 ≤ r ∧ r < m ∧ w' = w := by
  have hne : ¬ m = 0 := by omega
  go_enter Try.func18, Try.ntmps18
  have h1 : n.tmod m < m := Int.tmod_lt_of_pos n hm
  have h2 : -m < n.tmod m := by
    have := Int.lt_tmod_of_pos n hm
    omega
  by_cases h3 : n.tmod m < 0
  · have b3 : decide (n.tmod m < 0) = true := by simpa using h3
    have e : wrap64 (n.tmod m + m) = n.tmod m + m := by unfold wrap64; omega
    go_wp2_with fail
    go_ret
    exact ⟨_, rfl, by omega, by omega, rfl⟩
  · have b3 : decide (n.tmod m < 0) = false := by simpa using h3
    go_wp2_with fail
    go_ret
    exact ⟨_, rfl, by omega, by omega, rfl⟩
/-- The boxes, and what is bound. -/
def StB (w : World) (X T : Nd) (Bb m : Nat) (b : List (Tm m)) (a : Option Addr) (wk : World) : Prop := StC w X T wk ∧ Lies Bb wk m b a ∧ Bb ≤ wk.heap.size
theorem StB.below {w : World} {X T : Nd} {Bb m : Nat} {b : List (Tm m)} {a : Option Addr} {wk w' : World} (h : StB w X T Bb m b a wk) (hb : Below wk.heap.size wk w') : StB w X T Bb m b a w' := ⟨h.1.below hb, h.2.1.below (hb.mono h.2.2), Nat.le_trans h.2.2 hb.size⟩
theorem rv_good {m n : Nat} {b : List (Tm m)} {s : Int} {x : Tm (n + 1)} {w w' : World} {v : Tm (m + n + 1)} {cd : Int} (hbd : bndB m b = true)
    (h : Below w.heap.size w w' ∧ In w'.heap.size w' (m + n + 1) v ∧ Off (fun q => w.heap.size ≤ q) (m + n + 1) v ∧ same (m + n + 1) v (m + n + 1) ((rvO (rvE (chk (n + 1) x) true s) (vl m b s (n + 1) x)).getD (zeroV (m + n))) = true)
    (hcd : rvC (rvE (chk (n + 1) x) true s) (rvO (rvE (chk (n + 1) x) true s) (vl m b s (n + 1) x)) = cd) : cd = 0 → closedT (m + n + 1) v = true ∧ chk (m + n + 1) v = 0 ∧ (nodes (m + n + 1) v).length ≤ 2097152 := by
  intro h0
  rw [h0] at hcd
  unfold rvC at hcd
  split at hcd
  · rename_i hE
    split at hcd
    · rename_i hso
      obtain ⟨z, hz⟩ := Option.isSome_iff_exists.1 hso
      have hs := h.2.2.2
      rw [hz] at hs
      simp only [Option.getD_some] at hs
      obtain ⟨e1, _, e3⟩ := rvE_zero hE
      have hv : vl m b s (n + 1) x = some z ∧ chk (m + n + 1) z = 0 := by
        simp only [rvO, hE, if_true] at hz
        obtain ⟨z', h1, h2⟩ := Option.bind_eq_some_iff.1 hz
        split at h2
        · rename_i hc
          obtain rfl := Option.some.inj h2
          exact ⟨h1, hc⟩
        · cases h2
      refine ⟨?_, ?_, ?_⟩
      · rw [same_closed _ _ _ _ hs]
        exact vl_closed m b s (fun y hy => ((bnd_ok hbd).2 y hy).2.2) (n + 1) x (right_formed.2 (chk_iff.1 e1).1) z hv.1
      · rw [same_chk hs]
        exact hv.2
      · rw [same_nlen _ _ _ _ hs]
        exact Nat.le_trans (chk_nlen hv.2) (by omega)
    · cases hcd
  · rename_i hE
    exact absurd hcd hE
theorem tp2_ok {k g : Nat} {t : Tm (k + 1)} {w : World} (hg : Blk2 g (wdN wPut) (hdOf k t) w) (ht : In w.heap.size w (k + 1) t) (hN : (nodes (k + 1) t).length ≤ 201) : In w.heap.size w (k + 1 + 1) (tp2 g (k + 1) (wdD k wPut) t) ∧ (nodes (k + 1 + 1) (tp2 g (k + 1) (wdD k wPut) t)).length ≤ 2097152 := by
  have hh := Blk2.held (D := k) (a := wdD k wPut) (b := t) (by rw [wd_hd]; exact hg)
  have l3 := lift_nlen (k + 1) 1 (by omega) (wordT wPut)
  refine ⟨tp2_in hg.lt ⟨hh.1, wd_in _ _ (by show (3 : Nat) ≤ 2 ^ 63 - 1; omega) _ _⟩ ⟨hh.2, ht⟩, ?_⟩
  have e : (nodes (k + 1 + 1) (tp2 g (k + 1) (wdD k wPut) t)).length = 1 + ((nodes (k + 1) (wdD k wPut)).length + (nodes (k + 1) t).length) := by
    simp [nodes, tp2]; omega
  have l4 : (nodes 1 (wordT wPut)).length = 1 := rfl
  have l5 : (nodes (k + 1) (wdD k wPut)).length ≤ 1 := Nat.le_trans l3 (Nat.le_of_eq l4)
  omega
theorem put_gives {k m : Nat} {t : Tm (k + 1)} {s : Int} {w : World} {args : Array Value} (h : Calls Try.prog 35 args w (RvOut (m + (k + 1)) (rvE (chk (k + 1 + 1) (tp2 0 (k + 1) (wdD k wPut) t)) true s) (some (lift (m + (k + 1) + 1) (k + 1) t)) w)) (h1 : chk (k + 1) t = 0) (h3 : chk (k + 1 + 1) (tp2 0 (k + 1) (wdD k wPut) t) = 0) (hs : 1 ≤ s ∧ s ≤ 99) :
    Calls Try.prog 35 args w fun e w' => ∃ y : Tm (m + (k + 1) + 1), e = .returned (.tuple #[val (m + (k + 1) + 1) y, .int .i64 0]) ∧ Hid (Below w.heap.size w w' ∧ In w'.heap.size w' (m + (k + 1) + 1) y ∧ Off (fun q => w.heap.size ≤ q) (m + (k + 1) + 1) y ∧ same (m + (k + 1) + 1) y (k + 1) t = true) := by
  have hr : RightA ⟨k + 1, t⟩ := right_formed.2 (chk_iff.1 h1).1
  have hl := lift_same (m + (k + 1) + 1) (k + 1) (by omega) t hr
  have hE : rvE (chk (k + 1 + 1) (tp2 0 (k + 1) (wdD k wPut) t)) true s = 0 := by simp [rvE, h3, hs]
  have hc : chk (m + (k + 1) + 1) (lift (m + (k + 1) + 1) (k + 1) t) = 0 := by rw [same_chk hl]; exact h1
  have ho : rvO 0 (some (lift (m + (k + 1) + 1) (k + 1) t)) = some (lift (m + (k + 1) + 1) (k + 1) t) := by simp [rvO, hc]
  rw [hE] at h
  refine h.mono ?_
  rintro e w' ⟨y, rfl, H⟩
  obtain ⟨k1, k2, k3, k4⟩ := H.out
  rw [ho] at k4
  exact ⟨y, by rw [ho]; rfl, k1, k2, k3, same_trans _ _ _ _ _ _ k4 hl⟩
theorem fin_put {w : World} {X T : Nd} {Bb m : Nat} {b : List (Tm m)} {a : Option Addr} {W1 wk : World} {N q : Nat} {u : Tm N} {P : Prop} (h : StB w X T Bb m b a wk) (hu : Below W1.heap.size W1 wk ∧ In wk.heap.size wk N u ∧ Off (fun q => W1.heap.size ≤ q) N u ∧ P) (hq : q < W1.heap.size) (hB : Bb ≤ q) (hw : w.heap.size + 1 < q) (v0 v1 v2 v3 : Value) :
    StB w X T Bb m b a (put4 wk q 0 v0 v1 v2 v3) ∧ In (put4 wk q 0 v0 v1 v2 v3).heap.size (put4 wk q 0 v0 v1 v2 v3) N u := by
  have hbl : ∀ C, C ≤ q → Below C wk (put4 wk q 0 v0 v1 v2 v3) := fun C hC => ⟨rfl, rfl, rfl, Nat.le_of_eq (put4_size _ _ _ _).symm, fun j hj => put4_block (by omega) _ _ _ _⟩
  refine ⟨⟨⟨put_below h.1.1 (by omega) _ _ _ _, (put4_block (by omega) _ _ _ _).trans h.1.2.1, (put4_block (by omega) _ _ _ _).trans h.1.2.2⟩, h.2.1.below (hbl Bb hB), by rw [put4_size]; exact h.2.2⟩, ?_⟩
  rw [put4_size]
  exact In.off (P := fun b => W1.heap.size ≤ b) (fun b hh => put4_block (by omega) _ _ _ _) hu.2.2.1 hu.2.1
theorem fin_bx {w : World} {X T : Nd} {Bb m : Nat} {b : List (Tm m)} {a : Option Addr} {W1 wk : World} {N q : Nat} {u : Tm N} {P : Prop} {b0 b1 b2 b3 : Value} (_ : BoxT q b0 b1 b2 b3 wk) (h : StB w X T Bb m b a wk) (hu : Below W1.heap.size W1 wk ∧ In wk.heap.size wk N u ∧ Off (fun q => W1.heap.size ≤ q) N u ∧ P) (hq : q < W1.heap.size) (hB : Bb ≤ q) (hw : w.heap.size + 1 < q) (v0 v1 v2 v3 : Value) :
    StB w X T Bb m b a (put4 wk q 0 v0 v1 v2 v3) ∧ In (put4 wk q 0 v0 v1 v2 v3).heap.size (put4 wk q 0 v0 v1 v2 v3) N u := fin_put h hu hq hB hw v0 v1 v2 v3
theorem fin_al {w : World} {X T : Nd} {Bb m : Nat} {b : List (Tm m)} {a : Option Addr} {W1 wk : World} {N : Nat} {u : Tm N} {P : Prop} (h : StB w X T Bb m b a wk) (hu : Below W1.heap.size W1 wk ∧ In wk.heap.size wk N u ∧ Off (fun q => W1.heap.size ≤ q) N u ∧ P) (o : Obj) :
    StB w X T Bb m b a (wk.alloc o) ∧ In (wk.alloc o).heap.size (wk.alloc o) N u := by
  have hb : Below wk.heap.size wk (wk.alloc o) := (Below.refl _ _).alloc (Nat.le_refl _) _
  exact ⟨h.below hb, (hu.2.1.below hb).mono hb.size⟩
theorem BoxT.putB {q : Nat} {u0 u1 u2 u3 : Value} {w : World} (h : BoxT q u0 u1 u2 u3 w) (v0 v1 v2 v3 : Value) : BoxT q v0 v1 v2 v3 (put4 w q 0 v0 v1 v2 v3) := by
  unfold BoxT at *
  simp [put4, World.setCell, Array.getElem?_modify, h]
/-- The boxes, what is bound, and all that was there at wx. -/
def StE (w : World) (X T : Nd) (Bb m : Nat) (b : List (Tm m)) (a : Option Addr) (wx wk : World) : Prop := StB w X T Bb m b a wk ∧ Below wx.heap.size wx wk
theorem StE.below {w : World} {X T : Nd} {Bb m : Nat} {b : List (Tm m)} {a : Option Addr} {wx wk w' : World} (h : StE w X T Bb m b a wx wk) (hb : Below wk.heap.size wk w') : StE w X T Bb m b a wx w' := ⟨h.1.below hb, h.2.trans (hb.mono h.2.size)⟩
theorem fin_bxE {w : World} {X T : Nd} {Bb m : Nat} {b : List (Tm m)} {a : Option Addr} {W1 wx wk : World} {N q : Nat} {u : Tm N} {P : Prop} {b0 b1 b2 b3 : Value} (_ : BoxT q b0 b1 b2 b3 wk) (h : StE w X T Bb m b a wx wk) (hu : Below W1.heap.size W1 wk ∧ In wk.heap.size wk N u ∧ Off (fun q => W1.heap.size ≤ q) N u ∧ P) (hq : q < W1.heap.size) (hB : Bb ≤ q) (hw : w.heap.size + 1 < q) (hx : wx.heap.size ≤ q) (v0 v1 v2 v3 : Value) :
    StE w X T Bb m b a wx (put4 wk q 0 v0 v1 v2 v3) ∧ In (put4 wk q 0 v0 v1 v2 v3).heap.size (put4 wk q 0 v0 v1 v2 v3) N u :=
  ⟨⟨(fin_put h.1 hu hq hB hw v0 v1 v2 v3).1, put_below h.2 hx _ _ _ _⟩, (fin_put h.1 hu hq hB hw v0 v1 v2 v3).2⟩
theorem fin_alE {w : World} {X T : Nd} {Bb m : Nat} {b : List (Tm m)} {a : Option Addr} {W1 wx wk : World} {N : Nat} {u : Tm N} {P : Prop} (h : StE w X T Bb m b a wx wk) (hu : Below W1.heap.size W1 wk ∧ In wk.heap.size wk N u ∧ Off (fun q => W1.heap.size ≤ q) N u ∧ P) (o : Obj) :
    StE w X T Bb m b a wx (wk.alloc o) ∧ In (wk.alloc o).heap.size (wk.alloc o) N u := by
  have hb : Below wk.heap.size wk (wk.alloc o) := (Below.refl _ _).alloc (Nat.le_refl _) _
  exact ⟨h.below hb, (hu.2.1.below hb).mono hb.size⟩
theorem alloc_at1 (w : World) (o1 o2 : Obj) : ((w.alloc o1).alloc o2).heap[w.heap.size + 1]? = some o2 := by
  have e1 : (w.alloc o1).heap.size = w.heap.size + 1 := by simp
  have h := heap_alloc_new (w.alloc o1) o2
  rw [e1] at h
  exact h
theorem box_dr {w w' : World} {v0 v1 v2 v3 : Value} {t : TypeId} (hb : Below (w.alloc (.cells #[v0, v1, v2, v3] t)).drew.heap.size (w.alloc (.cells #[v0, v1, v2, v3] t)).drew w') :
    w'.cell? ⟨w.heap.size, 0, none⟩ = some v0 ∧ w'.cell? ⟨w.heap.size, 1, none⟩ = some v1 ∧ w'.cell? ⟨w.heap.size, 2, none⟩ = some v2 ∧ w'.cell? ⟨w.heap.size, 3, none⟩ = some v3 := (boxed (below_undrew hb)).1

set_option maxHeartbeats 80000000 in
set_option maxRecDepth 100000 in
theorem rclose_walk (n k m0 : Nat) (x : Tm (n + 1)) (t : Tm (k + 1)) (b0 : List (Tm m0)) (a : Option Addr) (ql c : Nat) (B : Nat) (self : Int) (w : World) (hB : B ≤ w.heap.size) (HQL : Hid (b0.length = ql)) (HL0 : Hid (Lies B w m0 b0 a))
    (HX : Hid (In B w (n + 1) x)) (HT : Hid (In B w (k + 1) t)) (HNX : Hid ((nodes (n + 1) x).length ≤ 2097152)) (HNT : Hid ((nodes (k + 1) t).length ≤ 2097152)) (HQ9 : Hid (b0.length ≤ 9223372036854775807)) (HNB : Hid (∀ y ∈ b0, (nodes m0 y).length ≤ 2097152)) :
    Calls Try.prog 7 #[.agg #[.int .i64 x.1.1, .int .i64 x.1.2.1, .string x.1.2.2, .slice x.2.1.1 x.2.2.length x.2.1.2], .agg #[.int .i64 t.1.1, .int .i64 t.1.2.1, .string t.1.2.2, .slice t.2.1.1 t.2.2.length t.2.1.2], .slice a ql c, .int .i64 self] w fun e w' => e = .returned (.bool true) ∧ Below w.heap.size w w' := by
  have HS0 := hide (st_start w (hdOf n x) (hdOf k t))
  simp only [hdOf] at HS0
  go_enter Try.func7, Try.ntmps7
  go_wp2_with fail
  refine (kword_any _ _).mono ?_
  rintro e w1 ⟨rfl, hb⟩
  have HS1 := hide (HS0.out.below hb)
  clear hb HS0
  go_wp2_with fail
  refine (num_any _ _).mono ?_
  rintro e w2 ⟨rfl, hb⟩
  have HS2 := hide (HS1.out.below hb)
  clear hb HS1
  go_wp2_with fail
  refine (num_any _ _).mono ?_
  rintro e w3 ⟨rfl, hb⟩
  have HS3 := hide (HS2.out.below hb)
  clear hb HS2
  go_wp2_with fail
  refine (tuple_any _ _ _ _).mono ?_
  rintro e w4 ⟨rfl, hb⟩
  have HS4 := hide ((HS3.out.al _).below hb)
  have HG4 : Hid (Blk3 w3.heap.size (wdN wAdd) (hdOf 0 (numT 2)) (hdOf 0 (numT 3)) w4) := Blk3.below (heap_alloc_new w3 _) hb
  clear hb HS3
  go_wp2_with fail
  refine (free_any _).mono ?_
  rintro e w5 ⟨q5, rfl, HF⟩
  have HS5 := hide (HS4.out.below HF.out.1)
  have HV5 := hide (smoke_val w3.heap.size q5 w5 (HG4.out.below HF.out.1) HF.out.2.1)
  clear HS4 HG4 HF
  go_wp2_with fail
  refine HV5.out.mono ?_
  rintro e w6 ⟨y, rfl, HY⟩
  have HS6 := hide (HS5.out.below HY.out.1)
  have e3 : val 3 y = .agg #[.int .i64 y.1.1, .int .i64 y.1.2.1, .string y.1.2.2, .slice y.2.1.1 y.2.2.length y.2.1.2] := rfl
  rw [e3]
  clear HS5 HV5 e3
  have HSM : Hid (∀ w1, Below w6.heap.size w6 w1 → Calls Try.prog 13 #[.agg #[.int .i64 y.1.1, .int .i64 y.1.2.1, .string y.1.2.2, .slice y.2.1.1 y.2.2.length y.2.1.2], .agg #[.int .i64 1, .int .i64 5, .string ⟨#[]⟩, .slice none 0 0]] w1 fun e w' => e = .returned (.bool true) ∧ Below w1.heap.size w1 w') := by
    intro w1 h1
    have h := same_any 3 y 1 (numT 5) w1.heap.size w1 ((HY.out.2.1.below h1).mono h1.size) (num_in 5 (by simp [I64]) _ _) (Nat.le_refl _)
    rw [HY.out.2.2] at h
    exact h
  have HA6 : Hid (∀ o : Obj, Below w6.heap.size w6 (w6.alloc o).drew) := fun o => ((Below.refl _ _).alloc (Nat.le_refl _) o).drew
  clear HY
  go_wp2_with fail
  go_region_held3 (fun w' => w'.cell? ⟨w6.heap.size, 0, none⟩ = some (.int .i64 y.1.1) ∧ w'.cell? ⟨w6.heap.size, 1, none⟩ = some (.int .i64 y.1.2.1) ∧ w'.cell? ⟨w6.heap.size, 2, none⟩ = some (.string y.1.2.2) ∧ w'.cell? ⟨w6.heap.size, 3, none⟩ = some (.slice y.2.1.1 y.2.2.length y.2.1.2))
    (go_keep) ((first | (go_at_call 10; refine (num_any _ _).mono ?_; rintro e w7 ⟨rfl, hb7⟩; have HB7 := hide ((HA6.out _).trans (hb7.mono (HA6.out _).size)); obtain ⟨t0, t1, t2, t3⟩ := box_dr hb7; have hw7 : w6.heap.size < w7.heap.size := by have := hb7.size; simp [World.drew] at this; omega) | (go_at_call 13; refine (HSM.out _ HB7.out).mono ?_; rintro e w8 ⟨rfl, hb8⟩; have hcc8 := below_cells hb8)))
  have HS8 := hide ((HS6.out.below HB7.out).below hb8)
  clear HB7 hb7 hb8 hcc8 HSM HA6 HS6 t0 t1 t2 t3
  have HBD8 : Hid (Calls Try.prog 32 #[.slice a ql c] w8 fun e w' => e = .returned (.bool (bndB m0 b0)) ∧ Below w8.heap.size w8 w') := by
    have h := rbound_any m0 b0 a c B w8 (HL0.out.below (HS8.out.1.mono hB)) HQ9.out HNB.out (Nat.le_trans hB HS8.out.1.size)
    rw [HQL.out] at h
    exact h
  obtain ⟨bd, hbd⟩ : ∃ bd, bndB m0 b0 = bd := ⟨_, rfl⟩
  rw [hbd] at HBD8
  have HBD0 := hide hbd
  clear hbd
  go_wp2_with fail
  refine HBD8.out.mono ?_
  rintro e w9 ⟨rfl, hb9⟩
  have HS9 := hide (HS8.out.below hb9)
  clear hb9 HBD8 HS8
  go_upto_if 38 with fail
  go_cut [2] from 18 to 38 (fun v2 wx => ∃ hb ho hc, v2 = .slice (some ⟨hb, ho, none⟩) 4 hc ∧ Hid (∃ (Bb m : Nat) (b : List (Tm m)), StB w (hdOf n x) (hdOf k t) Bb m b (some ⟨hb, ho, none⟩) wx ∧ bndB m b = true))
  case first =>
    cases bd with
    | true =>
      obtain ⟨hb, ho, hqa, hql⟩ : ∃ hb ho, a = some ⟨hb, ho, none⟩ ∧ ql = 4 := by
        have h4 := (bnd_ok HBD0.out).1
        rcases HL0.out with hq | ⟨hb, ho, e, hlt, hq⟩
        · rw [hq] at h4; simp at h4
        · exact ⟨hb, ho, e, by rw [← HQL.out]; exact h4⟩
      subst hqa hql
      go_wp2_with fail
      go_meet
      exact ⟨hb, ho, c, rfl, B, m0, b0, ⟨HS9.out, HL0.out.below (HS9.out.1.mono hB), Nat.le_trans hB HS9.out.1.size⟩, HBD0.out⟩
    | false =>
      go_wp2_with fail
      refine (free_any _).mono ?_
      rintro e w12 ⟨g12, rfl, H12⟩
      go_wp2_with fail
      go_meet
      exact ⟨g12, 0, 4, rfl, w12.heap.size, 1, List.replicate 4 anyT, ⟨HS9.out.below H12.out.1, free_lies H12.out.2.1, Nat.le_refl _⟩, bnd_free⟩
  case rest =>
  obtain ⟨hb, ho, hc, rfl, HCU⟩ := hcut
  obtain ⟨Bb, m, b, HSB, HBN⟩ : ∃ (Bb m : Nat) (b : List (Tm m)), Hid (StB w (hdOf n x) (hdOf k t) Bb m b (some ⟨hb, ho, none⟩) wc) ∧ Hid (bndB m b = true) := HCU.out
  clear HCU HS9 HL0 HQL HBD0 HNB HQ9
  go_wp2_with fail
  refine (rest_any self 99 (by decide) (by decide) _).mono ?_
  rintro e w13 ⟨r, rfl, hr0, hr1, rfl⟩
  have ew : IntKind.i64.wrap (1 + r) = 1 + r := by rw [IntKind.wrap]; simp [IntKind.bits, IntKind.signed]; omega
  have ew2 : IntKind.i64.wrap r = r := by rw [IntKind.wrap]; simp [IntKind.bits, IntKind.signed]; omega
  have HV14 : Hid (∀ w1, Below w13.heap.size w13 w1 → Calls Try.prog 35 #[.agg #[.int .i64 x.1.1, .int .i64 x.1.2.1, .string x.1.2.2, .slice x.2.1.1 x.2.2.length x.2.1.2], .slice (some ⟨hb, ho, none⟩) 4 hc, .int .i64 (1 + r)] w1 (RvOut (m + n) (rvE (chk (n + 1) x) true (1 + r)) (vl m b (1 + r) (n + 1) x) w1)) := by
    intro w1 h1
    have hs1 := HSB.out.below h1
    have h := rvalue_any n m x b (some ⟨hb, ho, none⟩) hc w1.heap.size (1 + r) w1 ((HX.out.below (hs1.1.1.mono hB)).mono (Nat.le_trans hB hs1.1.1.size)) (lies_up hs1.2.1 hs1.2.2) (Nat.le_refl _) HNX.out (by rw [(bnd_ok HBN.out).1]; decide) (fun y hy => Nat.le_trans (chk_nlen ((bnd_ok HBN.out).2 y hy).1) (by omega))
    rw [(bnd_ok HBN.out).1, HBN.out] at h
    exact h
  have HSS : Hid (1 ≤ 1 + r ∧ 1 + r ≤ 99) := ⟨by omega, by omega⟩
  obtain ⟨⟨k0, k1, k2, k3⟩, _⟩ := HSB.out.1.2.1.cells
  simp only [hdOf] at k0 k1 k2 k3
  go_wp2_with fail
  refine (HV14.out _ (Below.refl _ _)).mono ?_
  rintro e w14 ⟨v, rfl, HY⟩
  have HS14 := hide (HSB.out.below HY.out.1)
  obtain ⟨cd, hcd⟩ : ∃ cd, rvC (rvE (chk (n + 1) x) true (1 + r)) (rvO (rvE (chk (n + 1) x) true (1 + r)) (vl m b (1 + r) (n + 1) x)) = cd := ⟨_, rfl⟩
  rw [hcd]
  have HC0 := hide (rv_good HBN.out HY.out hcd)
  have e3 : val (m + n + 1) v = .agg #[.int .i64 v.1.1, .int .i64 v.1.2.1, .string v.1.2.2, .slice v.2.1.1 v.2.2.length v.2.1.2] := rfl
  rw [e3]
  clear HV14 HSB e3 hcd k0 k1 k2 k3
  go_upto_region 8 with fail
  go_cut [61] from 39 to 61 (fun v61 wx => v61 = .bool false ∧ Hid (StB w (hdOf n x) (hdOf k t) Bb m b (some ⟨hb, ho, none⟩) wx))
  case first =>
    have HA14 : Hid (∀ o : Obj, Below w14.heap.size w14 (w14.alloc o)) := fun o => (Below.refl _ _).alloc (Nat.le_refl _) o
    by_cases hc0 : cd = 0
    · have b0 : (cd == 0) = true := by simp [hc0]
      obtain ⟨g1, g2, g3⟩ := HC0.out hc0
      have HCL : Hid (∀ w1, Below w14.heap.size w14 w1 → Calls Try.prog 31 #[.agg #[.int .i64 v.1.1, .int .i64 v.1.2.1, .string v.1.2.2, .slice v.2.1.1 v.2.2.length v.2.1.2]] w1 fun e w' => e = .returned (.bool true) ∧ Below w1.heap.size w1 w') := by
        intro w1 h1
        have h := rclosed_any (m + n + 1) v w1.heap.size w1 ((HY.out.2.1.below h1).mono h1.size) (Nat.le_refl _) g3
        rw [← closed_eq, g1] at h
        exact h
      have HCK : Hid (∀ w1, Below w14.heap.size w14 w1 → Calls Try.prog 12 #[.agg #[.int .i64 v.1.1, .int .i64 v.1.2.1, .string v.1.2.2, .slice v.2.1.1 v.2.2.length v.2.1.2]] w1 fun e w' => e = .returned (.int .i64 0) ∧ Below w1.heap.size w1 w') := by
        intro w1 h1
        have h := rcheck_any (m + n + 1) v w1.heap.size w1 ((HY.out.2.1.below h1).mono h1.size) (Nat.le_refl _) g3
        rw [g2] at h
        exact h
      clear hc0 g1 g2 g3 HY
      go_wp2_with fail
      refine (HCL.out _ (HA14.out _)).mono ?_
      rintro e w15 ⟨rfl, hb15⟩
      have HB15 := hide ((HA14.out _).trans (hb15.mono (HA14.out _).size))
      obtain ⟨t0, t1, t2, t3⟩ := (boxed hb15).1
      clear hb15
      go_wp2_with fail
      refine (HCK.out _ HB15.out).mono ?_
      rintro e w16 ⟨rfl, hb16⟩
      have HS16 := hide ((HS14.out.below HB15.out).below hb16)
      clear hb16
      go_wp2_with fail
      go_meet
      exact ⟨rfl, HS16.out⟩
    · have b0 : (cd == 0) = false := by simpa using hc0
      have HS15 := hide (HS14.out.below (HA14.out (.cells #[.int .i64 v.1.1, .int .i64 v.1.2.1, .string v.1.2.2, .slice v.2.1.1 v.2.2.length v.2.1.2] 24)))
      clear hc0 HY
      go_wp2_with fail
      go_meet
      exact ⟨rfl, HS15.out⟩
  case rest =>
  obtain ⟨rfl, HS17⟩ := hcut
  clear HS14 HC0 HY
  have HKT : Hid (∀ w1, StB w (hdOf n x) (hdOf k t) Bb m b (some ⟨hb, ho, none⟩) w1 → Calls Try.prog 12 #[.agg #[.int .i64 t.1.1, .int .i64 t.1.2.1, .string t.1.2.2, .slice t.2.1.1 t.2.2.length t.2.1.2]] w1 fun e w' => e = .returned (.int .i64 (chk (k + 1) t)) ∧ Below w1.heap.size w1 w') :=
    fun w1 h1 => rcheck_any (k + 1) t w1.heap.size w1 ((HT.out.below (h1.1.1.mono hB)).mono (Nat.le_trans hB h1.1.1.size)) (Nat.le_refl _) HNT.out
  have HLT : Hid (∀ w1, StB w (hdOf n x) (hdOf k t) Bb m b (some ⟨hb, ho, none⟩) w1 → Calls Try.prog 31 #[.agg #[.int .i64 t.1.1, .int .i64 t.1.2.1, .string t.1.2.2, .slice t.2.1.1 t.2.2.length t.2.1.2]] w1 fun e w' => e = .returned (.bool (closedT (k + 1) t)) ∧ Below w1.heap.size w1 w') := by
    intro w1 h1
    rw [closed_eq]
    exact rclosed_any (k + 1) t w1.heap.size w1 ((HT.out.below (h1.1.1.mono hB)).mono (Nat.le_trans hB h1.1.1.size)) (Nat.le_refl _) HNT.out
  obtain ⟨ct, hct⟩ : ∃ ct, chk (k + 1) t = ct := ⟨_, rfl⟩
  obtain ⟨cl, hcl⟩ : ∃ cl, closedT (k + 1) t = cl := ⟨_, rfl⟩
  rw [hct] at HKT
  rw [hcl] at HLT
  have HCT := hide hct
  have HCL := hide hcl
  clear hct hcl
  obtain ⟨⟨k0, k1, k2, k3⟩, _⟩ := HS17.out.1.2.2.cells
  simp only [hdOf] at k0 k1 k2 k3
  have hlt0 : w.heap.size + 1 < wc.heap.size := HS17.out.1.2.2.lt
  have HST : Hid (∀ {w1 w2 : World}, StB w (hdOf n x) (hdOf k t) Bb m b (some ⟨hb, ho, none⟩) w1 → Below w1.heap.size w1 w2 → StB w (hdOf n x) (hdOf k t) Bb m b (some ⟨hb, ho, none⟩) w2) := fun h1 h2 => h1.below h2
  have HDR : Hid (StB w (hdOf n x) (hdOf k t) Bb m b (some ⟨hb, ho, none⟩) wc.drew) := HS17.out.below (Below.refl _ _).drew
  go_upto_region 10 with fail
  go_cut [76] from 62 to 76 (fun v76 wx => ∃ b76, v76 = .bool b76 ∧ Hid (StB w (hdOf n x) (hdOf k t) Bb m b (some ⟨hb, ho, none⟩) wx ∧ (b76 = true → chk (k + 1) t = 0 ∧ closedT (k + 1) t = true ∧ chk (k + 1 + 1) (tp2 0 (k + 1) (wdD k wPut) t) = 0)))
  case first =>
    by_cases hct : ct = 0
    case neg =>
      have b0 : (ct == 0) = false := by simpa using hct
      clear hct
      go_wp2_with fail
      go_region_with ((go_at_call 12; refine (HKT.out _ ?_).mono ?_; exact HDR.out; rintro e w18 ⟨rfl, hb18⟩; have HS18 := hide (HS17.out.below (below_undrew hb18)); obtain ⟨⟨k0, k1, k2, k3⟩, _⟩ := HS18.out.1.2.2.cells; simp only [hdOf] at k0 k1 k2 k3; clear hb18))
      all_goals
        go_wp2_with fail
        go_meet
        exact ⟨_, rfl, HS18.out, fun h => by cases h⟩
    have b0 : (ct == 0) = true := by simp [hct]
    have HT0 := hide hct
    have HIT : Hid (∀ w1, StB w (hdOf n x) (hdOf k t) Bb m b (some ⟨hb, ho, none⟩) w1 → In w1.heap.size w1 (k + 1) t) := fun w1 h1 => (HT.out.below (h1.1.1.mono hB)).mono (Nat.le_trans hB h1.1.1.size)
    have HNT2 : Hid ((nodes (k + 1) t).length ≤ 201) := chk_nlen (HCT.out.trans hct)
    have HKP : Hid (∀ (g : Nat) (w1 : World), StB w (hdOf n x) (hdOf k t) Bb m b (some ⟨hb, ho, none⟩) w1 → Blk2 g (wdN wPut) (hdOf k t) w1 → Calls Try.prog 12 #[.agg #[.int .i64 4, .int .i64 0, .string ⟨#[]⟩, .slice (some ⟨g, 0, none⟩) 2 2]] w1 fun e w' => e = .returned (.int .i64 (chk (k + 1 + 1) (tp2 0 (k + 1) (wdD k wPut) t))) ∧ Below w1.heap.size w1 w') := by
      intro g w1 h1 hg
      obtain ⟨g1, g2⟩ := tp2_ok hg (HIT.out w1 h1) HNT2.out
      have h := rcheck_any (k + 1 + 1) (tp2 g (k + 1) (wdD k wPut) t) w1.heap.size w1 g1 (Nat.le_refl _) g2
      rw [chk_addr2 g 0] at h
      exact h
    obtain ⟨cp, hcp⟩ : ∃ cp, chk (k + 1 + 1) (tp2 0 (k + 1) (wdD k wPut) t) = cp := ⟨_, rfl⟩
    rw [hcp] at HKP
    have HCP := hide hcp
    clear hct hcp
    cases cl with
    | false =>
      go_wp2_with fail
      go_region_with ((first | (go_at_call_of 12 (Value.agg #[.int .i64 t.1.1, .int .i64 t.1.2.1, .string t.1.2.2, .slice t.2.1.1 t.2.2.length t.2.1.2]); refine (HKT.out _ ?_).mono ?_; exact HDR.out; rintro e w18 ⟨rfl, hb18⟩; have HS18 := hide (HS17.out.below (below_undrew hb18)); obtain ⟨⟨k0, k1, k2, k3⟩, _⟩ := HS18.out.1.2.2.cells; simp only [hdOf] at k0 k1 k2 k3; clear hb18) | (go_at_call 31; refine (HLT.out _ ?_).mono ?_; exact HS18.out; rintro e w19 ⟨rfl, hb19⟩; have HS19 := hide (HS18.out.below hb19); obtain ⟨⟨k0, k1, k2, k3⟩, _⟩ := HS19.out.1.2.2.cells; simp only [hdOf] at k0 k1 k2 k3; clear hb19)))
      all_goals
        go_wp2_with fail
        go_meet
        exact ⟨_, rfl, HS19.out, fun h => by cases h⟩
    | true =>
      by_cases hcp : cp = 0
      · have b1 : (cp == 0) = true := by simp [hcp]
        have HP0 := hide hcp
        clear hcp
        go_wp2_with fail
        go_region_with ((first | (go_at_call_of 12 (Value.agg #[.int .i64 t.1.1, .int .i64 t.1.2.1, .string t.1.2.2, .slice t.2.1.1 t.2.2.length t.2.1.2]); refine (HKT.out _ ?_).mono ?_; exact HDR.out; rintro e w18 ⟨rfl, hb18⟩; have HS18 := hide (HS17.out.below (below_undrew hb18)); obtain ⟨⟨k0, k1, k2, k3⟩, _⟩ := HS18.out.1.2.2.cells; simp only [hdOf] at k0 k1 k2 k3; clear hb18) | (go_at_call 31; refine (HLT.out _ ?_).mono ?_; exact HS18.out; rintro e w19 ⟨rfl, hb19⟩; have HS19 := hide (HS18.out.below hb19); obtain ⟨⟨k0, k1, k2, k3⟩, _⟩ := HS19.out.1.2.2.cells; simp only [hdOf] at k0 k1 k2 k3; clear hb19) | (go_at_call 30; refine (kword_any _ _).mono ?_; rintro e w20 ⟨rfl, hb20⟩; have HS20 := hide (HS19.out.below hb20); obtain ⟨⟨k0, k1, k2, k3⟩, _⟩ := HS20.out.1.2.2.cells; simp only [hdOf] at k0 k1 k2 k3; clear hb20) | (go_at_call 28; refine (tuple_any _ _ _ _).mono ?_; rintro e w21 ⟨rfl, hb21⟩; have HS21 := hide ((HS20.out.below ((Below.refl _ _).alloc (Nat.le_refl _) _)).below hb21); have HG21 : Hid (Blk2 w20.heap.size (wdN wPut) (hdOf k t) w21) := Blk2.below (heap_alloc_new w20 _) hb21; obtain ⟨⟨k0, k1, k2, k3⟩, _⟩ := HS21.out.1.2.2.cells; simp only [hdOf] at k0 k1 k2 k3; clear hb21) | (go_at_call 12; refine (HKP.out _ _ ?_ ?_).mono ?_; exact HS21.out; exact HG21.out; rintro e w22 ⟨rfl, hb22⟩; have HS22 := hide (HS21.out.below hb22); obtain ⟨⟨k0, k1, k2, k3⟩, _⟩ := HS22.out.1.2.2.cells; simp only [hdOf] at k0 k1 k2 k3; clear hb22)))
        all_goals
          go_wp2_with fail
          go_meet
          exact ⟨_, rfl, HS22.out, fun _ => ⟨HCT.out.trans HT0.out, HCL.out, HCP.out.trans HP0.out⟩⟩
      · have b1 : (cp == 0) = false := by simpa using hcp
        clear hcp
        go_wp2_with fail
        go_region_with ((first | (go_at_call_of 12 (Value.agg #[.int .i64 t.1.1, .int .i64 t.1.2.1, .string t.1.2.2, .slice t.2.1.1 t.2.2.length t.2.1.2]); refine (HKT.out _ ?_).mono ?_; exact HDR.out; rintro e w18 ⟨rfl, hb18⟩; have HS18 := hide (HS17.out.below (below_undrew hb18)); obtain ⟨⟨k0, k1, k2, k3⟩, _⟩ := HS18.out.1.2.2.cells; simp only [hdOf] at k0 k1 k2 k3; clear hb18) | (go_at_call 31; refine (HLT.out _ ?_).mono ?_; exact HS18.out; rintro e w19 ⟨rfl, hb19⟩; have HS19 := hide (HS18.out.below hb19); obtain ⟨⟨k0, k1, k2, k3⟩, _⟩ := HS19.out.1.2.2.cells; simp only [hdOf] at k0 k1 k2 k3; clear hb19) | (go_at_call 30; refine (kword_any _ _).mono ?_; rintro e w20 ⟨rfl, hb20⟩; have HS20 := hide (HS19.out.below hb20); obtain ⟨⟨k0, k1, k2, k3⟩, _⟩ := HS20.out.1.2.2.cells; simp only [hdOf] at k0 k1 k2 k3; clear hb20) | (go_at_call 28; refine (tuple_any _ _ _ _).mono ?_; rintro e w21 ⟨rfl, hb21⟩; have HS21 := hide ((HS20.out.below ((Below.refl _ _).alloc (Nat.le_refl _) _)).below hb21); have HG21 : Hid (Blk2 w20.heap.size (wdN wPut) (hdOf k t) w21) := Blk2.below (heap_alloc_new w20 _) hb21; obtain ⟨⟨k0, k1, k2, k3⟩, _⟩ := HS21.out.1.2.2.cells; simp only [hdOf] at k0 k1 k2 k3; clear hb21) | (go_at_call 12; refine (HKP.out _ _ ?_ ?_).mono ?_; exact HS21.out; exact HG21.out; rintro e w22 ⟨rfl, hb22⟩; have HS22 := hide (HS21.out.below hb22); obtain ⟨⟨k0, k1, k2, k3⟩, _⟩ := HS22.out.1.2.2.cells; simp only [hdOf] at k0 k1 k2 k3; clear hb22)))
        all_goals
          go_wp2_with fail
          go_meet
          exact ⟨_, rfl, HS22.out, fun h => by cases h⟩
  case rest =>
  obtain ⟨b76, rfl, HQ18⟩ := hcut
  have HS18 : Hid (StB w (hdOf n x) (hdOf k t) Bb m b (some ⟨hb, ho, none⟩) wc) := HQ18.out.1
  have HIT : Hid (∀ w1, StB w (hdOf n x) (hdOf k t) Bb m b (some ⟨hb, ho, none⟩) w1 → In w1.heap.size w1 (k + 1) t) := fun w1 h1 => (HT.out.below (h1.1.1.mono hB)).mono (Nat.le_trans hB h1.1.1.size)
  have HIX : Hid (∀ w1, StB w (hdOf n x) (hdOf k t) Bb m b (some ⟨hb, ho, none⟩) w1 → In w1.heap.size w1 (n + 1) x) := fun w1 h1 => (HX.out.below (h1.1.1.mono hB)).mono (Nat.le_trans hB h1.1.1.size)
  clear HS17 HLT HDR k0 k1 k2 k3 hlt0
  go_upto_if 76 with fail
  go_cut [] from 77 to 94 (fun wx => Hid (StB w (hdOf n x) (hdOf k t) Bb m b (some ⟨hb, ho, none⟩) wx))
  case first =>
    cases b76 with
    | false =>
      go_wp2_with fail
      go_meet
      exact HS18.out
    | true =>
      obtain ⟨p1, p2, p3⟩ := HQ18.out.2 rfl
      have HVP : Hid (∀ (g : Nat) (w1 : World), StB w (hdOf n x) (hdOf k t) Bb m b (some ⟨hb, ho, none⟩) w1 → Blk2 g (wdN wPut) (hdOf k t) w1 → Calls Try.prog 35 #[.agg #[.int .i64 4, .int .i64 0, .string ⟨#[]⟩, .slice (some ⟨g, 0, none⟩) 2 2], .slice (some ⟨hb, ho, none⟩) 4 hc, .int .i64 (1 + r)] w1 fun e w' => ∃ y : Tm (m + (k + 1) + 1), e = .returned (.tuple #[val (m + (k + 1) + 1) y, .int .i64 0]) ∧ Hid (Below w1.heap.size w1 w' ∧ In w'.heap.size w' (m + (k + 1) + 1) y ∧ Off (fun q => w1.heap.size ≤ q) (m + (k + 1) + 1) y ∧ same (m + (k + 1) + 1) y (k + 1) t = true)) :=
        fun g w1 h1 hg => put_gives (val_put k m t b (some ⟨hb, ho, none⟩) hc Bb g (1 + r) w1 (HIT.out w1 h1) h1.2.1 h1.2.2 (chk_nlen p1) HBN.out p2 hg).2.2 p1 p3 HSS.out
      clear p1 p2 p3
      obtain ⟨⟨k0, k1, k2, k3⟩, _⟩ := HS18.out.1.2.2.cells
      simp only [hdOf] at k0 k1 k2 k3
      have hlt0 : w.heap.size + 1 < wc.heap.size := HS18.out.1.2.2.lt
      have e3 : ∀ y : Tm (m + (k + 1) + 1), val (m + (k + 1) + 1) y = .agg #[.int .i64 y.1.1, .int .i64 y.1.2.1, .string y.1.2.2, .slice y.2.1.1 y.2.2.length y.2.1.2] := fun _ => rfl
      go_wp2_with fail
      have hBb : Bb ≤ wc.heap.size := HS18.out.2.2
      have HSM : Hid (∀ (W1 : World) (u : Tm (m + (k + 1) + 1)), StB w (hdOf n x) (hdOf k t) Bb m b (some ⟨hb, ho, none⟩) W1 → In W1.heap.size W1 (m + (k + 1) + 1) u → same (m + (k + 1) + 1) u (k + 1) t = true → Calls Try.prog 13 #[.agg #[.int .i64 u.1.1, .int .i64 u.1.2.1, .string u.1.2.2, .slice u.2.1.1 u.2.2.length u.2.1.2], .agg #[.int .i64 t.1.1, .int .i64 t.1.2.1, .string t.1.2.2, .slice t.2.1.1 t.2.2.length t.2.1.2]] W1 fun e w' => e = .returned (.bool true) ∧ Below W1.heap.size W1 w') := by
        intro W1 u h1 h2 h3
        have h := same_any (m + (k + 1) + 1) u (k + 1) t W1.heap.size W1 h2 (HIT.out W1 h1) (Nat.le_refl _)
        rw [h3] at h
        exact h
      have hn1 : ¬ (wc.heap.size = w.heap.size + 1) := by omega
      have hn2 : ¬ (w.heap.size + 1 = wc.heap.size) := by omega
      go_region_held3 (fun w' => w'.cell? ⟨w.heap.size + 1, 0, none⟩ = some (.int .i64 t.1.1) ∧ w'.cell? ⟨w.heap.size + 1, 1, none⟩ = some (.int .i64 t.1.2.1) ∧ w'.cell? ⟨w.heap.size + 1, 2, none⟩ = some (.string t.1.2.2) ∧ w'.cell? ⟨w.heap.size + 1, 3, none⟩ = some (.slice t.2.1.1 t.2.2.length t.2.1.2)) (go_keep) ((first | (go_at_call 30; refine (kword_any _ _).mono ?_; rintro e w20 ⟨rfl, hb20⟩; (first | (have HSa := hide (HS18.out.below (below_undrew hb20))) | (have HSa := hide ((HS18.out.below ((Below.refl _ _).alloc (Nat.le_refl _) _)).below (below_undrew hb20)); have HBz : Hid (BoxT wc.heap.size (.int .i64 0) (.int .i64 0) (.string ⟨#[]⟩) (.slice none 0 0) w20) := BoxT.below (heap_alloc_new wc _) (below_undrew hb20); obtain ⟨⟨z0, z1, z2, z3⟩, hzf⟩ := HBz.out.cells)); obtain ⟨⟨k0, k1, k2, k3⟩, _⟩ := HSa.out.1.2.2.cells; obtain ⟨⟨l0, l1, l2, l3⟩, _⟩ := HSa.out.1.2.1.cells; simp only [hdOf] at k0 k1 k2 k3 l0 l1 l2 l3; have hlt1 := HSa.out.1.2.2.lt; have hlt2 := HSa.out.1.2.1.lt; have hnn1 := Nat.ne_of_lt hlt1; have hnn2 := Nat.ne_of_gt hlt1; have hnn3 := Nat.ne_of_lt hlt2; have hnn4 := Nat.ne_of_gt hlt2; have hleA := (below_undrew hb20).size; (try simp at hleA); clear hb20) | (go_at_call 28; refine (tuple_any _ _ _ _).mono ?_; rintro e w21 ⟨rfl, hb21⟩; (first | (have HBy := hide ((HBz.out.below ((Below.refl _ _).alloc (Nat.le_refl _) _)).below hb21); clear HBz; have HBz := hide HBy.out; obtain ⟨⟨z0, z1, z2, z3⟩, hzf⟩ := HBz.out.cells; have HSb := hide ((HSa.out.below ((Below.refl _ _).alloc (Nat.le_refl _) _)).below hb21); have HG : Hid (Blk2 w20.heap.size (wdN wPut) (hdOf k t) w21) := Blk2.below (heap_alloc_new w20 _) hb21) | (have HSb := hide ((HSa.out.below ((Below.refl _ _).alloc (Nat.le_refl _) _)).below hb21); have HG : Hid (Blk2 w20.heap.size (wdN wPut) (hdOf k t) w21) := Blk2.below (heap_alloc_new w20 _) hb21) | (have HSb := hide (((HSa.out.below ((Below.refl _ _).alloc (Nat.le_refl _) _)).below ((Below.refl _ _).alloc (Nat.le_refl _) _)).below hb21); have HG : Hid (Blk2 (w20.heap.size + 1) (wdN wPut) (hdOf k t) w21) := Blk2.below (alloc_at1 w20 _ _) hb21; have HBz : Hid (BoxT w20.heap.size (.int .i64 0) (.int .i64 0) (.string ⟨#[]⟩) (.slice none 0 0) w21) := BoxT.below (BoxT.below (heap_alloc_new w20 _) ((Below.refl _ _).alloc (Nat.le_refl _) _)) hb21; obtain ⟨⟨z0, z1, z2, z3⟩, hzf⟩ := HBz.out.cells) | (have HSb := hide (((HSa.out.below ((Below.refl _ _).alloc (Nat.le_refl _) _)).below ((Below.refl _ _).alloc (Nat.le_refl _) _)).below hb21); have HG : Hid (Blk2 w20.heap.size (wdN wPut) (hdOf k t) w21) := Blk2.below (Blk2.below (heap_alloc_new w20 _) ((Below.refl _ _).alloc (Nat.le_refl _) _)) hb21; have HBz : Hid (BoxT (w20.heap.size + 1) (.int .i64 0) (.int .i64 0) (.string ⟨#[]⟩) (.slice none 0 0) w21) := BoxT.below (alloc_at1 w20 _ _) hb21; obtain ⟨⟨z0, z1, z2, z3⟩, hzf⟩ := HBz.out.cells)); obtain ⟨⟨k0, k1, k2, k3⟩, _⟩ := HSb.out.1.2.2.cells; obtain ⟨⟨l0, l1, l2, l3⟩, _⟩ := HSb.out.1.2.1.cells; simp only [hdOf] at k0 k1 k2 k3 l0 l1 l2 l3; have hlt1 := HSb.out.1.2.2.lt; have hlt2 := HSb.out.1.2.1.lt; have hnn1 := Nat.ne_of_lt hlt1; have hnn2 := Nat.ne_of_gt hlt1; have hnn3 := Nat.ne_of_lt hlt2; have hnn4 := Nat.ne_of_gt hlt2; have hleB := hb21.size; (try simp at hleB); clear hb21) | (go_at_call 35; (first | (refine (HVP.out _ _ HSb.out HG.out).mono ?_; rintro e w22 ⟨u, rfl, HU⟩; rw [e3]; (first | (have HBy := hide (HBz.out.below HU.out.1); clear HBz; have HBz := hide HBy.out; obtain ⟨⟨z0, z1, z2, z3⟩, hzf⟩ := HBz.out.cells) | skip); have HSc := hide (HSb.out.below HU.out.1)) | (refine (HVP.out _ _ (HSb.out.below ((Below.refl _ _).alloc (Nat.le_refl _) _)) (HG.out.below ((Below.refl _ _).alloc (Nat.le_refl _) _))).mono ?_; rintro e w22 ⟨u, rfl, HU⟩; rw [e3]; have HBz : Hid (BoxT w21.heap.size (.int .i64 0) (.int .i64 0) (.string ⟨#[]⟩) (.slice none 0 0) w22) := BoxT.below (heap_alloc_new w21 _) HU.out.1; obtain ⟨⟨z0, z1, z2, z3⟩, hzf⟩ := HBz.out.cells; have HSc := hide ((HSb.out.below ((Below.refl _ _).alloc (Nat.le_refl _) _)).below HU.out.1))); obtain ⟨⟨k0, k1, k2, k3⟩, _⟩ := HSc.out.1.2.2.cells; obtain ⟨⟨l0, l1, l2, l3⟩, _⟩ := HSc.out.1.2.1.cells; simp only [hdOf] at k0 k1 k2 k3 l0 l1 l2 l3; have hlt1 := HSc.out.1.2.2.lt; have hlt2 := HSc.out.1.2.1.lt; have hnn1 := Nat.ne_of_lt hlt1; have hnn2 := Nat.ne_of_gt hlt1; have hnn3 := Nat.ne_of_lt hlt2; have hnn4 := Nat.ne_of_gt hlt2; have hleC := HU.out.1.size; (try simp at hleC))))
      all_goals
        (first | (have HF := hide (fin_bx HBz.out HSc.out HU.out (by first | omega | simp) (by omega) (by omega))) | (have HF := hide (fin_al HSc.out HU.out)))
        have HUS := hide HU.out.2.2.2
        (try clear HBz)
        clear HU HSa HSb HSc HG HVP
        go_wp2_with fail
        refine (HSM.out _ u ?_ ?_ HUS.out).mono ?_
        (first | exact (HF.out _ _ _ _).1 | exact (HF.out _).1)
        (first | exact (HF.out _ _ _ _).2 | exact (HF.out _).2)
        rintro e w23 ⟨rfl, hb23⟩
        have HS23 : Hid (StB w (hdOf n x) (hdOf k t) Bb m b (some ⟨hb, ho, none⟩) w23) := (by first | exact (HF.out _ _ _ _).1.below hb23 | exact (HF.out _).1.below hb23)
        clear HF hb23
        go_wp2_with fail
        go_meet
        exact HS23.out
  case rest =>
  have HS30 : Hid (StB w (hdOf n x) (hdOf k t) Bb m b (some ⟨hb, ho, none⟩) wc) := hcut
  have HKX : Hid (∀ w1, StB w (hdOf n x) (hdOf k t) Bb m b (some ⟨hb, ho, none⟩) w1 → Calls Try.prog 12 #[.agg #[.int .i64 x.1.1, .int .i64 x.1.2.1, .string x.1.2.2, .slice x.2.1.1 x.2.2.length x.2.1.2]] w1 fun e w' => e = .returned (.int .i64 (chk (n + 1) x)) ∧ Below w1.heap.size w1 w') :=
    fun w1 h1 => rcheck_any (n + 1) x w1.heap.size w1 (HIX.out w1 h1) (Nat.le_refl _) HNX.out
  obtain ⟨cx, hcx0⟩ : ∃ cx, chk (n + 1) x = cx := ⟨_, rfl⟩
  rw [hcx0] at HKX
  have HCX := hide hcx0
  clear hcx0 HS18 HQ18 hcut
  obtain ⟨⟨l0, l1, l2, l3⟩, _⟩ := HS30.out.1.2.1.cells
  simp only [hdOf] at l0 l1 l2 l3
  go_wp2_with fail
  refine (HKX.out _ HS30.out).mono ?_
  rintro e w31 ⟨rfl, hb31⟩
  have HS31 := hide (HS30.out.below hb31)
  clear hb31 HS30 HKX l0 l1 l2 l3
  by_cases hcx : cx = 0
  case neg =>
    have bx : (cx != 0) = true := by simpa using hcx
    go_wp2_with fail
    go_ret
    exact ⟨rfl, HS31.out.1.1⟩
  have bx : (cx != 0) = false := by simp [hcx]
  have HX0 := hide hcx
  clear hcx
  obtain ⟨⟨k0, k1, k2, k3⟩, _⟩ := HS31.out.1.2.2.cells
  simp only [hdOf] at k0 k1 k2 k3
  go_wp2_with fail
  refine (HKT.out _ HS31.out).mono ?_
  rintro e w32 ⟨rfl, hb32⟩
  have HS32 := hide (HS31.out.below hb32)
  clear hb32 HS31 HKT k0 k1 k2 k3
  by_cases hct : ct = 0
  case neg =>
    have bt : (ct != 0) = true := by simpa using hct
    go_wp2_with fail
    go_ret
    exact ⟨rfl, HS32.out.1.1⟩
  have bt : (ct != 0) = false := by simp [hct]
  have HT0 := hide hct
  clear hct
  have HNX2 : Hid ((nodes (n + 1) x).length ≤ 201) := chk_nlen (HCX.out.trans HX0.out)
  have HNT2 : Hid ((nodes (k + 1) t).length ≤ 201) := chk_nlen (HCT.out.trans HT0.out)
  obtain ⟨cc, hcc⟩ : ∃ cc, rvC (rvE (chk (n + k + 1 + 1) (tp3 0 (n + k + 1) (wdD (n + k) wAdd) (lift (n + k + 1) (n + 1) x) (lift (n + k + 1) (k + 1) t))) true (1 + r)) (rvO (rvE (chk (n + k + 1 + 1) (tp3 0 (n + k + 1) (wdD (n + k) wAdd) (lift (n + k + 1) (n + 1) x) (lift (n + k + 1) (k + 1) t))) true (1 + r)) (sumO (vl m b (1 + r) (n + k + 1) (lift (n + k + 1) (n + 1) x)) (vl m b (1 + r) (n + k + 1) (lift (n + k + 1) (k + 1) t)))) = cc := ⟨_, rfl⟩
  obtain ⟨zz, hzz⟩ : ∃ zz, (rvO (rvE (chk (n + k + 1 + 1) (tp3 0 (n + k + 1) (wdD (n + k) wAdd) (lift (n + k + 1) (n + 1) x) (lift (n + k + 1) (k + 1) t))) true (1 + r)) (sumO (vl m b (1 + r) (n + k + 1) (lift (n + k + 1) (n + 1) x)) (vl m b (1 + r) (n + k + 1) (lift (n + k + 1) (k + 1) t)))).getD (zeroV (m + (n + k + 1))) = zz := ⟨_, rfl⟩
  have HVA : Hid (∀ (g : Nat) (w1 : World), StB w (hdOf n x) (hdOf k t) Bb m b (some ⟨hb, ho, none⟩) w1 → Blk3 g (wdN wAdd) (hdOf n x) (hdOf k t) w1 → Calls Try.prog 35 #[.agg #[.int .i64 4, .int .i64 0, .string ⟨#[]⟩, .slice (some ⟨g, 0, none⟩) 3 3], .slice (some ⟨hb, ho, none⟩) 4 hc, .int .i64 (1 + r)] w1 (fun e w' => ∃ y : Tm (m + (n + k + 1) + 1), e = .returned (.tuple #[val (m + (n + k + 1) + 1) y, .int .i64 cc]) ∧ Hid (Below w1.heap.size w1 w' ∧ In w'.heap.size w' (m + (n + k + 1) + 1) y ∧ Off (fun q => w1.heap.size ≤ q) (m + (n + k + 1) + 1) y ∧ same (m + (n + k + 1) + 1) y (m + (n + k + 1) + 1) zz = true))) := by
    intro g w1 h1 hg
    have h := val_add (n + k) n k m (by omega) (by omega) x t b (some ⟨hb, ho, none⟩) hc Bb g (1 + r) w1 (HIX.out w1 h1) (HIT.out w1 h1) h1.2.1 h1.2.2 HNX2.out HNT2.out HBN.out hg
    refine h.mono ?_
    rintro e w' ⟨y, rfl, H⟩
    obtain ⟨q1, q2, q3, q4⟩ := H.out
    rw [hzz] at q4
    exact ⟨y, by rw [hcc], q1, q2, q3, q4⟩
  have HVB : Hid (∀ (g : Nat) (w1 : World), StB w (hdOf n x) (hdOf k t) Bb m b (some ⟨hb, ho, none⟩) w1 → Blk3 g (wdN wAdd) (hdOf k t) (hdOf n x) w1 → Calls Try.prog 35 #[.agg #[.int .i64 4, .int .i64 0, .string ⟨#[]⟩, .slice (some ⟨g, 0, none⟩) 3 3], .slice (some ⟨hb, ho, none⟩) 4 hc, .int .i64 (1 + r)] w1 (fun e w' => ∃ y : Tm (m + (n + k + 1) + 1), e = .returned (.tuple #[val (m + (n + k + 1) + 1) y, .int .i64 cc]) ∧ Hid (Below w1.heap.size w1 w' ∧ In w'.heap.size w' (m + (n + k + 1) + 1) y ∧ Off (fun q => w1.heap.size ≤ q) (m + (n + k + 1) + 1) y ∧ same (m + (n + k + 1) + 1) y (m + (n + k + 1) + 1) zz = true))) := by
    intro g w1 h1 hg
    have h := val_add (n + k) k n m (by omega) (by omega) t x b (some ⟨hb, ho, none⟩) hc Bb g (1 + r) w1 (HIT.out w1 h1) (HIX.out w1 h1) h1.2.1 h1.2.2 HNT2.out HNX2.out HBN.out hg
    rw [chk_swap 0 0, sumO_comm] at h
    refine h.mono ?_
    rintro e w' ⟨y, rfl, H⟩
    obtain ⟨q1, q2, q3, q4⟩ := H.out
    rw [hzz] at q4
    exact ⟨y, by rw [hcc], q1, q2, q3, q4⟩
  clear hcc hzz HCX HCT HX0 HT0
  have e4 : ∀ y : Tm (m + (n + k + 1) + 1), val (m + (n + k + 1) + 1) y = .agg #[.int .i64 y.1.1, .int .i64 y.1.2.1, .string y.1.2.2, .slice y.2.1.1 y.2.2.length y.2.1.2] := fun _ => rfl
  go_upto_region 16 with fail
  go_cut [12, 15] from 103 to 113 (fun v12 v15 wx => ∃ (qa : Nat) (ua : Tm (m + (n + k + 1) + 1)), v12 = .int .i64 cc ∧ v15 = .pointer (some ⟨qa, 0, none⟩) ∧ Hid (StB w (hdOf n x) (hdOf k t) Bb m b (some ⟨hb, ho, none⟩) wx ∧ BoxT qa (.int .i64 ua.1.1) (.int .i64 ua.1.2.1) (.string ua.1.2.2) (.slice ua.2.1.1 ua.2.2.length ua.2.1.2) wx ∧ In wx.heap.size wx (m + (n + k + 1) + 1) ua ∧ same (m + (n + k + 1) + 1) ua (m + (n + k + 1) + 1) zz = true))
  case first =>
    obtain ⟨⟨k0, k1, k2, k3⟩, _⟩ := HS32.out.1.2.2.cells
    obtain ⟨⟨l0, l1, l2, l3⟩, _⟩ := HS32.out.1.2.1.cells
    simp only [hdOf] at k0 k1 k2 k3 l0 l1 l2 l3
    have hlt0 : w.heap.size + 1 < w32.heap.size := HS32.out.1.2.2.lt
    have hltx : w.heap.size < w32.heap.size := HS32.out.1.2.1.lt
    have hBb : Bb ≤ w32.heap.size := HS32.out.2.2
    have hn1 : ¬ (w32.heap.size = w.heap.size + 1) := by omega
    have hn2 : ¬ (w.heap.size + 1 = w32.heap.size) := by omega
    have hn3 : ¬ (w32.heap.size = w.heap.size) := by omega
    have hn4 : ¬ (w.heap.size = w32.heap.size) := by omega
    go_wp2_with fail
    go_region_held3 (fun w' => w'.cell? ⟨w.heap.size, 0, none⟩ = some (.int .i64 x.1.1) ∧ w'.cell? ⟨w.heap.size, 1, none⟩ = some (.int .i64 x.1.2.1) ∧ w'.cell? ⟨w.heap.size, 2, none⟩ = some (.string x.1.2.2) ∧ w'.cell? ⟨w.heap.size, 3, none⟩ = some (.slice x.2.1.1 x.2.2.length x.2.1.2) ∧ w'.cell? ⟨w.heap.size + 1, 0, none⟩ = some (.int .i64 t.1.1) ∧ w'.cell? ⟨w.heap.size + 1, 1, none⟩ = some (.int .i64 t.1.2.1) ∧ w'.cell? ⟨w.heap.size + 1, 2, none⟩ = some (.string t.1.2.2) ∧ w'.cell? ⟨w.heap.size + 1, 3, none⟩ = some (.slice t.2.1.1 t.2.2.length t.2.1.2)) (go_keep) ((first | (go_at_call 30; refine (kword_any _ _).mono ?_; rintro e w40 ⟨rfl, hb20⟩; (first | (have HSa := hide (HS32.out.below (below_undrew hb20))) | (have HSa := hide ((HS32.out.below ((Below.refl _ _).alloc (Nat.le_refl _) _)).below (below_undrew hb20)); have HBz : Hid (BoxT w32.heap.size (.int .i64 0) (.int .i64 0) (.string ⟨#[]⟩) (.slice none 0 0) w40) := BoxT.below (heap_alloc_new w32 _) (below_undrew hb20); obtain ⟨⟨z0, z1, z2, z3⟩, hzf⟩ := HBz.out.cells)); obtain ⟨⟨k0, k1, k2, k3⟩, _⟩ := HSa.out.1.2.2.cells; obtain ⟨⟨l0, l1, l2, l3⟩, _⟩ := HSa.out.1.2.1.cells; simp only [hdOf] at k0 k1 k2 k3 l0 l1 l2 l3; have hlt1 := HSa.out.1.2.2.lt; have hlt2 := HSa.out.1.2.1.lt; have hnn1 := Nat.ne_of_lt hlt1; have hnn2 := Nat.ne_of_gt hlt1; have hnn3 := Nat.ne_of_lt hlt2; have hnn4 := Nat.ne_of_gt hlt2; have hnn5 := Nat.ne_of_lt (Nat.lt_add_right 1 hlt2); have hnn6 := Nat.ne_of_gt (Nat.lt_add_right 1 hlt2); have hnn7 := Nat.ne_of_lt (Nat.lt_add_right 1 hlt1); have hnn8 := Nat.ne_of_gt (Nat.lt_add_right 1 hlt1); have hleA := (below_undrew hb20).size; (try simp at hleA); clear hb20) | (go_at_call 28; refine (tuple_any _ _ _ _).mono ?_; rintro e w41 ⟨rfl, hb21⟩; (first | (have HBy := hide ((HBz.out.below ((Below.refl _ _).alloc (Nat.le_refl _) _)).below hb21); clear HBz; have HBz := hide HBy.out; obtain ⟨⟨z0, z1, z2, z3⟩, hzf⟩ := HBz.out.cells; have HSb := hide ((HSa.out.below ((Below.refl _ _).alloc (Nat.le_refl _) _)).below hb21); have HG : Hid (Blk3 w40.heap.size (wdN wAdd) (hdOf n x) (hdOf k t) w41) := Blk3.below (heap_alloc_new w40 _) hb21) | (have HSb := hide ((HSa.out.below ((Below.refl _ _).alloc (Nat.le_refl _) _)).below hb21); have HG : Hid (Blk3 w40.heap.size (wdN wAdd) (hdOf n x) (hdOf k t) w41) := Blk3.below (heap_alloc_new w40 _) hb21) | (have HSb := hide (((HSa.out.below ((Below.refl _ _).alloc (Nat.le_refl _) _)).below ((Below.refl _ _).alloc (Nat.le_refl _) _)).below hb21); have HG : Hid (Blk3 (w40.heap.size + 1) (wdN wAdd) (hdOf n x) (hdOf k t) w41) := Blk3.below (alloc_at1 w40 _ _) hb21; have HBz : Hid (BoxT w40.heap.size (.int .i64 0) (.int .i64 0) (.string ⟨#[]⟩) (.slice none 0 0) w41) := BoxT.below (BoxT.below (heap_alloc_new w40 _) ((Below.refl _ _).alloc (Nat.le_refl _) _)) hb21; obtain ⟨⟨z0, z1, z2, z3⟩, hzf⟩ := HBz.out.cells) | (have HSb := hide (((HSa.out.below ((Below.refl _ _).alloc (Nat.le_refl _) _)).below ((Below.refl _ _).alloc (Nat.le_refl _) _)).below hb21); have HG : Hid (Blk3 w40.heap.size (wdN wAdd) (hdOf n x) (hdOf k t) w41) := Blk3.below (Blk3.below (heap_alloc_new w40 _) ((Below.refl _ _).alloc (Nat.le_refl _) _)) hb21; have HBz : Hid (BoxT (w40.heap.size + 1) (.int .i64 0) (.int .i64 0) (.string ⟨#[]⟩) (.slice none 0 0) w41) := BoxT.below (alloc_at1 w40 _ _) hb21; obtain ⟨⟨z0, z1, z2, z3⟩, hzf⟩ := HBz.out.cells)); obtain ⟨⟨k0, k1, k2, k3⟩, _⟩ := HSb.out.1.2.2.cells; obtain ⟨⟨l0, l1, l2, l3⟩, _⟩ := HSb.out.1.2.1.cells; simp only [hdOf] at k0 k1 k2 k3 l0 l1 l2 l3; have hlt1 := HSb.out.1.2.2.lt; have hlt2 := HSb.out.1.2.1.lt; have hnn1 := Nat.ne_of_lt hlt1; have hnn2 := Nat.ne_of_gt hlt1; have hnn3 := Nat.ne_of_lt hlt2; have hnn4 := Nat.ne_of_gt hlt2; have hnn5 := Nat.ne_of_lt (Nat.lt_add_right 1 hlt2); have hnn6 := Nat.ne_of_gt (Nat.lt_add_right 1 hlt2); have hnn7 := Nat.ne_of_lt (Nat.lt_add_right 1 hlt1); have hnn8 := Nat.ne_of_gt (Nat.lt_add_right 1 hlt1); have hleB := hb21.size; (try simp at hleB); clear hb21) | (go_at_call 35; (first | (refine (HVA.out _ _ HSb.out HG.out).mono ?_; rintro e w42 ⟨u, rfl, HU⟩; rw [e4]; (first | (have HBy := hide (HBz.out.below HU.out.1); clear HBz; have HBz := hide HBy.out; obtain ⟨⟨z0, z1, z2, z3⟩, hzf⟩ := HBz.out.cells) | skip); have HSc := hide (HSb.out.below HU.out.1)) | (refine (HVA.out _ _ (HSb.out.below ((Below.refl _ _).alloc (Nat.le_refl _) _)) (HG.out.below ((Below.refl _ _).alloc (Nat.le_refl _) _))).mono ?_; rintro e w42 ⟨u, rfl, HU⟩; rw [e4]; have HBz : Hid (BoxT w41.heap.size (.int .i64 0) (.int .i64 0) (.string ⟨#[]⟩) (.slice none 0 0) w42) := BoxT.below (heap_alloc_new w41 _) HU.out.1; obtain ⟨⟨z0, z1, z2, z3⟩, hzf⟩ := HBz.out.cells; have HSc := hide ((HSb.out.below ((Below.refl _ _).alloc (Nat.le_refl _) _)).below HU.out.1))); obtain ⟨⟨k0, k1, k2, k3⟩, _⟩ := HSc.out.1.2.2.cells; obtain ⟨⟨l0, l1, l2, l3⟩, _⟩ := HSc.out.1.2.1.cells; simp only [hdOf] at k0 k1 k2 k3 l0 l1 l2 l3; have hlt1 := HSc.out.1.2.2.lt; have hlt2 := HSc.out.1.2.1.lt; have hnn1 := Nat.ne_of_lt hlt1; have hnn2 := Nat.ne_of_gt hlt1; have hnn3 := Nat.ne_of_lt hlt2; have hnn4 := Nat.ne_of_gt hlt2; have hnn5 := Nat.ne_of_lt (Nat.lt_add_right 1 hlt2); have hnn6 := Nat.ne_of_gt (Nat.lt_add_right 1 hlt2); have hnn7 := Nat.ne_of_lt (Nat.lt_add_right 1 hlt1); have hnn8 := Nat.ne_of_gt (Nat.lt_add_right 1 hlt1); have hleC := HU.out.1.size; (try simp at hleC))))
    all_goals
      (first | (have HF := hide (fin_bx HBz.out HSc.out HU.out (by first | omega | simp) (by omega) (by omega)); have HBQ := hide (fun v0 v1 v2 v3 => HBz.out.putB v0 v1 v2 v3)) | (have HF := hide (fin_al HSc.out HU.out)))
      have HUS := hide HU.out.2.2.2
      (try clear HBz)
      clear HU HSa HSb HSc HG
      go_wp2_with fail
      go_meet
      (first | exact ⟨_, u, rfl, rfl, (HF.out _ _ _ _).1, HBQ.out _ _ _ _, (HF.out _ _ _ _).2, HUS.out⟩ | exact ⟨_, u, rfl, rfl, (HF.out _).1, heap_alloc_new _ _, (HF.out _).2, HUS.out⟩)
  case rest =>
  obtain ⟨qa, ua, rfl, rfl, HCU⟩ := hcut
  have HS40 : Hid (StE w (hdOf n x) (hdOf k t) Bb m b (some ⟨hb, ho, none⟩) wc wc) := ⟨HCU.out.1, Below.refl _ _⟩
  have HVC : Hid (∀ (g : Nat) (w1 : World), StE w (hdOf n x) (hdOf k t) Bb m b (some ⟨hb, ho, none⟩) wc w1 → Blk3 g (wdN wAdd) (hdOf k t) (hdOf n x) w1 → Calls Try.prog 35 #[.agg #[.int .i64 4, .int .i64 0, .string ⟨#[]⟩, .slice (some ⟨g, 0, none⟩) 3 3], .slice (some ⟨hb, ho, none⟩) 4 hc, .int .i64 (1 + r)] w1 (fun e w' => ∃ y : Tm (m + (n + k + 1) + 1), e = .returned (.tuple #[val (m + (n + k + 1) + 1) y, .int .i64 cc]) ∧ Hid (Below w1.heap.size w1 w' ∧ In w'.heap.size w' (m + (n + k + 1) + 1) y ∧ Off (fun q => w1.heap.size ≤ q) (m + (n + k + 1) + 1) y ∧ same (m + (n + k + 1) + 1) y (m + (n + k + 1) + 1) zz = true))) := fun g w1 h1 hg => HVB.out g w1 h1.1 hg
  have HSM : Hid (∀ (W1 : World) (u : Tm (m + (n + k + 1) + 1)), StE w (hdOf n x) (hdOf k t) Bb m b (some ⟨hb, ho, none⟩) wc W1 → In W1.heap.size W1 (m + (n + k + 1) + 1) u → same (m + (n + k + 1) + 1) u (m + (n + k + 1) + 1) zz = true → Calls Try.prog 13 #[.agg #[.int .i64 ua.1.1, .int .i64 ua.1.2.1, .string ua.1.2.2, .slice ua.2.1.1 ua.2.2.length ua.2.1.2], .agg #[.int .i64 u.1.1, .int .i64 u.1.2.1, .string u.1.2.2, .slice u.2.1.1 u.2.2.length u.2.1.2]] W1 fun e w' => e = .returned (.bool true) ∧ Below W1.heap.size W1 w') := by
    intro W1 u h1 h2 h3
    have h := same_any (m + (n + k + 1) + 1) ua (m + (n + k + 1) + 1) u W1.heap.size W1 ((HCU.out.2.2.1.below h1.2).mono h1.2.size) h2 (Nat.le_refl _)
    rw [same_trans _ _ _ _ _ _ HCU.out.2.2.2 (same_symm _ _ _ _ h3)] at h
    exact h
  have HBA : Hid (∀ W1, StE w (hdOf n x) (hdOf k t) Bb m b (some ⟨hb, ho, none⟩) wc W1 → BoxT qa (.int .i64 ua.1.1) (.int .i64 ua.1.2.1) (.string ua.1.2.2) (.slice ua.2.1.1 ua.2.2.length ua.2.1.2) W1) := fun W1 h1 => HCU.out.2.1.below h1.2
  have hqa : qa < wc.heap.size := HCU.out.2.1.lt
  clear HCU HS32 HVA HVB
  obtain ⟨⟨k0, k1, k2, k3⟩, _⟩ := HS40.out.1.1.2.2.cells
  obtain ⟨⟨l0, l1, l2, l3⟩, _⟩ := HS40.out.1.1.2.1.cells
  simp only [hdOf] at k0 k1 k2 k3 l0 l1 l2 l3
  have hlt0 : w.heap.size + 1 < wc.heap.size := HS40.out.1.1.2.2.lt
  have hltx : w.heap.size < wc.heap.size := HS40.out.1.1.2.1.lt
  have hBb : Bb ≤ wc.heap.size := HS40.out.1.2.2
  have hn1 : ¬ (wc.heap.size = w.heap.size + 1) := by omega
  have hn2 : ¬ (w.heap.size + 1 = wc.heap.size) := by omega
  have hn3 : ¬ (wc.heap.size = w.heap.size) := by omega
  have hn4 : ¬ (w.heap.size = wc.heap.size) := by omega
  go_wp2_with fail
  go_region_held3 (fun w' => w'.cell? ⟨w.heap.size, 0, none⟩ = some (.int .i64 x.1.1) ∧ w'.cell? ⟨w.heap.size, 1, none⟩ = some (.int .i64 x.1.2.1) ∧ w'.cell? ⟨w.heap.size, 2, none⟩ = some (.string x.1.2.2) ∧ w'.cell? ⟨w.heap.size, 3, none⟩ = some (.slice x.2.1.1 x.2.2.length x.2.1.2) ∧ w'.cell? ⟨w.heap.size + 1, 0, none⟩ = some (.int .i64 t.1.1) ∧ w'.cell? ⟨w.heap.size + 1, 1, none⟩ = some (.int .i64 t.1.2.1) ∧ w'.cell? ⟨w.heap.size + 1, 2, none⟩ = some (.string t.1.2.2) ∧ w'.cell? ⟨w.heap.size + 1, 3, none⟩ = some (.slice t.2.1.1 t.2.2.length t.2.1.2)) (go_keep) ((first | (go_at_call 30; refine (kword_any _ _).mono ?_; rintro e w50 ⟨rfl, hb20⟩; (first | (have HSa := hide (HS40.out.below (below_undrew hb20))) | (have HSa := hide ((HS40.out.below ((Below.refl _ _).alloc (Nat.le_refl _) _)).below (below_undrew hb20)); have HBz : Hid (BoxT wc.heap.size (.int .i64 0) (.int .i64 0) (.string ⟨#[]⟩) (.slice none 0 0) w50) := BoxT.below (heap_alloc_new wc _) (below_undrew hb20); obtain ⟨⟨z0, z1, z2, z3⟩, hzf⟩ := HBz.out.cells)); obtain ⟨⟨k0, k1, k2, k3⟩, _⟩ := HSa.out.1.1.2.2.cells; obtain ⟨⟨l0, l1, l2, l3⟩, _⟩ := HSa.out.1.1.2.1.cells; simp only [hdOf] at k0 k1 k2 k3 l0 l1 l2 l3; have hlt1 := HSa.out.1.1.2.2.lt; have hlt2 := HSa.out.1.1.2.1.lt; have hnn1 := Nat.ne_of_lt hlt1; have hnn2 := Nat.ne_of_gt hlt1; have hnn3 := Nat.ne_of_lt hlt2; have hnn4 := Nat.ne_of_gt hlt2; have hnn5 := Nat.ne_of_lt (Nat.lt_add_right 1 hlt2); have hnn6 := Nat.ne_of_gt (Nat.lt_add_right 1 hlt2); have hnn7 := Nat.ne_of_lt (Nat.lt_add_right 1 hlt1); have hnn8 := Nat.ne_of_gt (Nat.lt_add_right 1 hlt1); have hleA := (below_undrew hb20).size; (try simp at hleA); clear hb20) | (go_at_call 28; refine (tuple_any _ _ _ _).mono ?_; rintro e w51 ⟨rfl, hb21⟩; (first | (have HBy := hide ((HBz.out.below ((Below.refl _ _).alloc (Nat.le_refl _) _)).below hb21); clear HBz; have HBz := hide HBy.out; obtain ⟨⟨z0, z1, z2, z3⟩, hzf⟩ := HBz.out.cells; have HSb := hide ((HSa.out.below ((Below.refl _ _).alloc (Nat.le_refl _) _)).below hb21); have HG : Hid (Blk3 w50.heap.size (wdN wAdd) (hdOf k t) (hdOf n x) w51) := Blk3.below (heap_alloc_new w50 _) hb21) | (have HSb := hide ((HSa.out.below ((Below.refl _ _).alloc (Nat.le_refl _) _)).below hb21); have HG : Hid (Blk3 w50.heap.size (wdN wAdd) (hdOf k t) (hdOf n x) w51) := Blk3.below (heap_alloc_new w50 _) hb21) | (have HSb := hide (((HSa.out.below ((Below.refl _ _).alloc (Nat.le_refl _) _)).below ((Below.refl _ _).alloc (Nat.le_refl _) _)).below hb21); have HG : Hid (Blk3 (w50.heap.size + 1) (wdN wAdd) (hdOf k t) (hdOf n x) w51) := Blk3.below (alloc_at1 w50 _ _) hb21; have HBz : Hid (BoxT w50.heap.size (.int .i64 0) (.int .i64 0) (.string ⟨#[]⟩) (.slice none 0 0) w51) := BoxT.below (BoxT.below (heap_alloc_new w50 _) ((Below.refl _ _).alloc (Nat.le_refl _) _)) hb21; obtain ⟨⟨z0, z1, z2, z3⟩, hzf⟩ := HBz.out.cells) | (have HSb := hide (((HSa.out.below ((Below.refl _ _).alloc (Nat.le_refl _) _)).below ((Below.refl _ _).alloc (Nat.le_refl _) _)).below hb21); have HG : Hid (Blk3 w50.heap.size (wdN wAdd) (hdOf k t) (hdOf n x) w51) := Blk3.below (Blk3.below (heap_alloc_new w50 _) ((Below.refl _ _).alloc (Nat.le_refl _) _)) hb21; have HBz : Hid (BoxT (w50.heap.size + 1) (.int .i64 0) (.int .i64 0) (.string ⟨#[]⟩) (.slice none 0 0) w51) := BoxT.below (alloc_at1 w50 _ _) hb21; obtain ⟨⟨z0, z1, z2, z3⟩, hzf⟩ := HBz.out.cells)); obtain ⟨⟨k0, k1, k2, k3⟩, _⟩ := HSb.out.1.1.2.2.cells; obtain ⟨⟨l0, l1, l2, l3⟩, _⟩ := HSb.out.1.1.2.1.cells; simp only [hdOf] at k0 k1 k2 k3 l0 l1 l2 l3; have hlt1 := HSb.out.1.1.2.2.lt; have hlt2 := HSb.out.1.1.2.1.lt; have hnn1 := Nat.ne_of_lt hlt1; have hnn2 := Nat.ne_of_gt hlt1; have hnn3 := Nat.ne_of_lt hlt2; have hnn4 := Nat.ne_of_gt hlt2; have hnn5 := Nat.ne_of_lt (Nat.lt_add_right 1 hlt2); have hnn6 := Nat.ne_of_gt (Nat.lt_add_right 1 hlt2); have hnn7 := Nat.ne_of_lt (Nat.lt_add_right 1 hlt1); have hnn8 := Nat.ne_of_gt (Nat.lt_add_right 1 hlt1); have hleB := hb21.size; (try simp at hleB); clear hb21) | (go_at_call 35; (first | (refine (HVC.out _ _ HSb.out HG.out).mono ?_; rintro e w52 ⟨u, rfl, HU⟩; rw [e4]; (first | (have HBy := hide (HBz.out.below HU.out.1); clear HBz; have HBz := hide HBy.out; obtain ⟨⟨z0, z1, z2, z3⟩, hzf⟩ := HBz.out.cells) | skip); have HSc := hide (HSb.out.below HU.out.1)) | (refine (HVC.out _ _ (HSb.out.below ((Below.refl _ _).alloc (Nat.le_refl _) _)) (HG.out.below ((Below.refl _ _).alloc (Nat.le_refl _) _))).mono ?_; rintro e w52 ⟨u, rfl, HU⟩; rw [e4]; have HBz : Hid (BoxT w51.heap.size (.int .i64 0) (.int .i64 0) (.string ⟨#[]⟩) (.slice none 0 0) w52) := BoxT.below (heap_alloc_new w51 _) HU.out.1; obtain ⟨⟨z0, z1, z2, z3⟩, hzf⟩ := HBz.out.cells; have HSc := hide ((HSb.out.below ((Below.refl _ _).alloc (Nat.le_refl _) _)).below HU.out.1))); obtain ⟨⟨k0, k1, k2, k3⟩, _⟩ := HSc.out.1.1.2.2.cells; obtain ⟨⟨l0, l1, l2, l3⟩, _⟩ := HSc.out.1.1.2.1.cells; simp only [hdOf] at k0 k1 k2 k3 l0 l1 l2 l3; have hlt1 := HSc.out.1.1.2.2.lt; have hlt2 := HSc.out.1.1.2.1.lt; have hnn1 := Nat.ne_of_lt hlt1; have hnn2 := Nat.ne_of_gt hlt1; have hnn3 := Nat.ne_of_lt hlt2; have hnn4 := Nat.ne_of_gt hlt2; have hnn5 := Nat.ne_of_lt (Nat.lt_add_right 1 hlt2); have hnn6 := Nat.ne_of_gt (Nat.lt_add_right 1 hlt2); have hnn7 := Nat.ne_of_lt (Nat.lt_add_right 1 hlt1); have hnn8 := Nat.ne_of_gt (Nat.lt_add_right 1 hlt1); have hleC := HU.out.1.size; (try simp at hleC))))
  all_goals
    (first | (have HF := hide (fin_bxE HBz.out HSc.out HU.out (by first | omega | simp) (by omega) (by omega) (by omega))) | (have HF := hide (fin_alE HSc.out HU.out)))
    have HUS := hide HU.out.2.2.2
    obtain ⟨⟨a0, a1, a2, a3⟩, _⟩ := (HBA.out _ HSc.out).cells
    have hd1 : ¬ (qa = wc.heap.size) := by omega
    have hd2 : ¬ (wc.heap.size = qa) := by omega
    have hd3 : ¬ (qa = w50.heap.size) := by omega
    have hd4 : ¬ (w50.heap.size = qa) := by omega
    have hd5 : ¬ (qa = w50.heap.size + 1) := by omega
    have hd6 : ¬ (w50.heap.size + 1 = qa) := by omega
    have hd7 : ¬ (qa = w51.heap.size) := by omega
    have hd8 : ¬ (w51.heap.size = qa) := by omega
    have hd9 : qa < w52.heap.size := by omega
    have bcc : (cc == cc) = true := by simp
    (try clear HBz)
    clear HU HSa HSb HSc HG
    go_wp2_with fail
    refine (HSM.out _ u ?_ ?_ HUS.out).mono ?_
    (first | exact (HF.out _ _ _ _).1 | exact (HF.out _).1)
    (first | exact (HF.out _ _ _ _).2 | exact (HF.out _).2)
    rintro e w53 ⟨rfl, hb53⟩
    have HB53 : Hid (Below w.heap.size w w53) := (by first | exact ((HF.out _ _ _ _).1.below hb53).1.1.1 | exact ((HF.out _).1.below hb53).1.1.1)
    clear HF hb53
    go_wp2_with fail
    go_ret
    exact ⟨rfl, HB53.out⟩
end Go.Proofs.Ytpehdgbdinjbaab
