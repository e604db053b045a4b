/- What is proved here: the statements' own kept() returns true, and turns no memory that was there. No condition. -/
import Derived.Test.YtfaoeccnhbcjgabKp0
import Derived.Deep.RegionHeld3
namespace Go.Proofs.Ytfaoeccnhbcjgab
open Go.RowKit Go.Maps

theorem cells_two {w1 w2 : World} {o : Obj} {q : Nat} {u0 u1 u2 u3 : Value} (hq : q < w1.heap.size) (h : Below (w1.alloc o).heap.size (w1.alloc o) w2)
    (k : w1.cell? ⟨q, 0, none⟩ = some u0 ∧ w1.cell? ⟨q, 1, none⟩ = some u1 ∧ w1.cell? ⟨q, 2, none⟩ = some u2 ∧ w1.cell? ⟨q, 3, none⟩ = some u3) :
    w2.cell? ⟨q, 0, none⟩ = some u0 ∧ w2.cell? ⟨q, 1, none⟩ = some u1 ∧ w2.cell? ⟨q, 2, none⟩ = some u2 ∧ w2.cell? ⟨q, 3, none⟩ = some u3 :=
  cells_nx hq (((Below.refl w1.heap.size w1).alloc (Nat.le_refl _) o).trans (h.mono (by simp))) k

set_option maxHeartbeats 20000000 in
set_option maxRecDepth 100000 in
theorem kept_any (w : World) : Calls Try.prog 13 #[] w fun e w' => e = .returned (.bool true) ∧ Below w.heap.size w w' := by
  go_enter Try.func13, Try.ntmps13
  go_wp2_with fail
  refine (new_any 10 _).mono ?_
  rintro e w1 ⟨_, h1⟩
  obtain ⟨rfl, hn⟩ := h1 (by decide)
  have HH1 := hide (HpS.new (Below.refl w.heap.size w) hn)
  clear h1 hn
  go_wp2_with fail
  refine (two_new _).mono ?_
  rintro e w2 ⟨g2, rfl, H2⟩
  have HH2 := hide (HH1.out.later H2.out.1)
  have hw1 : w.heap.size < w1.heap.size := (HH1.out.2.2 _ rfl).2
  have HP2 := hide (hput_any 2 (twoT g2) w.heap.size w.heap.size 10 [] [] (fun b => b = w.heap.size) w2 HH2.out.2.1 H2.out.2.1 (off_two (by have := H2.out.2.2; omega)) (by show (3 : Nat) ≤ 2097152; decide) HH2.out.1.size (by decide) (by decide) (by decide) (by decide))
  clear H2 HH1
  go_wp2_with fail
  refine HP2.out.mono ?_
  rintro e w3 ⟨_, h3⟩
  obtain ⟨_, rfl, hl3⟩ := h3 (two_put g2)
  have HH3 := hide (HH2.out.laid hl3)
  have hsz := layF_sizes 2 (twoT g2) [] []
  have e3 : sz 2 (twoT g2) = 3 := by kernel_rfl
  have e4 : (nodes 2 (twoT g2)).length = 3 := rfl
  rw [e3, e4] at hsz
  simp only [List.length_nil] at hsz
  generalize (layF 2 (twoT g2) [] []).2.1 = ws1 at *
  generalize (layF 2 (twoT g2) [] []).2.2 = nm1 at *
  generalize (layF 2 (twoT g2) [] []).1 = v1 at *
  obtain ⟨hsz1, hsz2⟩ := hsz
  have hsz3 : ws1.length = 3 := by omega
  clear h3 hl3 HH2 HP2 e3 e4 hsz1
  obtain ⟨M3, hM3⟩ : ∃ M3 : Nat → Prop, M3 = (fun b => (b = w.heap.size ∨ w2.heap.size ≤ b) ∧ b < w3.heap.size) := ⟨_, rfl⟩
  rw [← hM3] at HH3
  clear hM3
  go_wp2_with fail
  refine (num_any _ _).mono ?_
  rintro e w4 ⟨rfl, hb4⟩
  have HH4 := hide (HH3.out.later hb4)
  have hM4 : ∀ b, M3 b → b < w3.heap.size := fun b hb => (HH3.out.2.2 b hb).2
  have hw34 := hb4.size
  clear hb4 HH3
  go_wp2_with fail
  refine (tuple_any _ _ _ _).mono ?_
  rintro e w5 ⟨rfl, hb5⟩
  have HH5 := hide ((HH4.out.later ((Below.refl _ _).alloc (Nat.le_refl _) _)).later hb5)
  have HG5 : Hid (w5.heap[w4.heap.size]? = some (.cells #[.int .i64 1, .int .i64 7, .string ⟨#[]⟩, .slice none 0 0] 24)) := (hb5.block w4.heap.size (by simp)).trans (heap_alloc_new w4 _)
  have hg5 : w4.heap.size < w5.heap.size := by have := hb5.size; simp at this; omega
  have HP5 := hide (hput_any 2 (sevT w4.heap.size) w.heap.size w.heap.size 10 ws1 nm1 M3 w5 HH5.out.2.1 (sev_in _ _ _ hg5 HG5.out) (off_sev (fun hm => by have := hM4 _ hm; omega)) (by show (2 : Nat) ≤ 2097152; decide) HH5.out.1.size (by decide) (by decide) (by omega) (by omega))
  clear hb5 HH4
  go_wp2_with fail
  refine HP5.out.mono ?_
  rintro e w6 ⟨_, h6⟩
  obtain ⟨_, rfl, hl6⟩ := h6 (sev_put w4.heap.size ws1 hsz3)
  have HH6 := hide (HH5.out.laid hl6)
  have hsz := layF_sizes 2 (sevT w4.heap.size) ws1 nm1
  have e3 : sz 2 (sevT w4.heap.size) = 2 := by kernel_rfl
  have e4 : (nodes 2 (sevT w4.heap.size)).length = 2 := rfl
  have hro := roots_one (n := 2) (x := sevT w4.heap.size) (ws := ws1) (nm := nm1) (sev_right _)
  have hst := layF_stands 2 (sevT w4.heap.size) ws1 nm1 (sev_right _)
  rw [e3] at hro
  rw [e3, e4] at hsz
  generalize (layF 2 (sevT w4.heap.size) ws1 nm1).2.1 = ws2 at *
  generalize (layF 2 (sevT w4.heap.size) ws1 nm1).2.2 = nm2 at *
  generalize (layF 2 (sevT w4.heap.size) ws1 nm1).1 = v7 at *
  obtain ⟨hro1, c7, hro2, hro3⟩ := hro
  have HR1 := hide hro1
  have HR2 := hide hro2
  have HR3 := hide hro3
  have HST := hide hst
  obtain ⟨M6, hM6⟩ : ∃ M6 : Nat → Prop, M6 = (fun b => (M3 b ∨ w5.heap.size ≤ b) ∧ b < w6.heap.size) := ⟨_, rfl⟩
  rw [← hM6] at HH6
  have ews : ws2.length ≤ 1000 := by omega
  have enm : nm2.length ≤ 50000 := by omega
  have HRT : Hid (Roots ws2 nm2 2 [v7] [sevT w4.heap.size]) := by
    refine ⟨⟨rfl, fun i v y hv hy => ?_⟩, fun y hy => ?_, fun y hy => ?_, by simp [e3], by simp [e4], by simp⟩
    · cases i with
      | zero => simp at hv hy; subst hv hy; exact hst
      | succ i => simp at hv
    · simp only [List.mem_singleton] at hy; subst hy; exact sev_right _
    · simp only [List.mem_singleton] at hy; subst hy; exact sev_closed _
  have ev : wdV v7 = .agg #[.int .i64 v7.1, .int .i64 v7.2] := rfl
  rw [ev]
  clear h6 hl6 HH5 HP5 e3 e4 hro1 hro2 hro3 hst hsz hM6 HG5 hM4 ev
  have HC6 : Hid (∀ o t, Calls Try.prog 21 #[.pointer (some ⟨w.heap.size, 0, none⟩), .slice (some ⟨w6.heap.size + 1, 0, none⟩) 1 1] ((w6.alloc o).alloc (.cells #[.int .i64 v7.1, .int .i64 v7.2] t)) fun e w' => ∃ g, e = .returned (.tuple #[.slice (some ⟨g, 0, none⟩) 1 1, .int .i64 0]) ∧ Hid (HpS w w.heap.size 10 (rootsR ws2 2 [v7]).2.1 nm2 (fun b => ((M6 b ∨ ((w6.alloc o).alloc (.cells #[.int .i64 v7.1, .int .i64 v7.2] t)).heap.size ≤ b) ∧ b ≠ g) ∧ b < w'.heap.size) w' ∧ WordsIn w' (rootsR ws2 2 [v7]).1 (some ⟨g, 0, none⟩) ∧ g < w'.heap.size)) := by
    intro o t
    have es : (w6.alloc o).heap.size = w6.heap.size + 1 := by simp
    rw [← es]
    have hh := (HH6.out.later ((Below.refl _ _).alloc (Nat.le_refl _) o)).later ((Below.refl _ _).alloc (Nat.le_refl _) (.cells #[.int .i64 v7.1, .int .i64 v7.2] t))
    refine (hcollect_any 2 [sevT w4.heap.size] [v7] (some ⟨(w6.alloc o).heap.size, 0, none⟩) 1 w.heap.size w.heap.size 10 ws2 nm2 M6 _ hh.2.1 HRT.out (one_word (w6.alloc o) v7.1 v7.2 t) (fun b' o' e => by injection e with e; injection e with e1 _; subst e1; simp) hh.1.size ews enm).mono ?_
    rintro e w' ⟨g, rfl, H⟩
    exact ⟨g, rfl, hh.coll H.out, H.out.2.2.1, H.out.2.2.2.2⟩
  clear HH6 HRT HST
  go_wp2_with fail
  refine (HC6.out _ _).mono ?_
  rintro e w8 ⟨g8, rfl, H8⟩
  obtain ⟨M8, hM8⟩ : ∃ M8 : Nat → Prop, HpS w w.heap.size 10 (rootsR ws2 2 [v7]).2.1 nm2 M8 w8 := ⟨_, H8.out.1⟩
  have HH8 := hide hM8
  have hwi := H8.out.2.1
  rw [HR2.out] at hwi
  obtain ⟨b8, o8, e8, hb8, hc8⟩ : ∃ b o, some (⟨g8, 0, none⟩ : Addr) = some ⟨b, o, none⟩ ∧ b < w8.heap.size ∧ ∀ (i : Nat) (v : Wd), [c7][i]? = some v → w8.cell? ⟨b, o + i * 2, none⟩ = some (.int .i64 v.1) ∧ w8.cell? ⟨b, o + i * 2 + 1, none⟩ = some (.int .i64 v.2) := by
    rcases hwi with h | h
    · cases h
    · exact h
  injection e8 with e8
  injection e8 with e8 e9
  subst e8 e9
  obtain ⟨c0, c1⟩ := hc8 0 c7 rfl
  simp only [Nat.zero_mul, Nat.zero_add, Nat.add_zero] at c0 c1
  have HU8 : Hid (Calls Try.prog 23 #[.pointer (some ⟨w.heap.size, 0, none⟩)] w8 fun e w' => e = .returned (.int .i64 2) ∧ w' = w8) := by
    have h := hused_any HH8.out.2.1
    rw [HR1.out] at h
    exact h
  have HG8 : Hid (∀ w1, Below w8.heap.size w8 w1 → Calls Try.prog 24 #[.pointer (some ⟨w.heap.size, 0, none⟩), .agg #[.int .i64 c7.1, .int .i64 c7.2]] w1 fun e w' => ∃ y : Tm 2, e = .returned (.tuple #[val 2 y, .int .i64 0]) ∧ Hid (Below w1.heap.size w1 w' ∧ In w'.heap.size w' 2 y ∧ Off (fun q => w1.heap.size ≤ q) 2 y ∧ same 2 y 2 (sevT w4.heap.size) = true)) := by
    intro w1 h1
    have hr1 := HR1.out
    exact hget_any 2 (sevT w4.heap.size) c7 w.heap.size w.heap.size 10 _ nm2 M8 w1 (HH8.out.later h1).2.1 HR3.out (sev_right _) (sev_closed _) (by omega) (by omega)
  clear H8 hwi hc8 hM8 HC6 HR1 HR2 HR3
  go_wp2_with fail
  refine HU8.out.mono ?_
  rintro e w9 ⟨rfl, rfl⟩
  go_wp2_with fail
  refine (HG8.out _ (Below.refl _ _)).mono ?_
  rintro e w10 ⟨y, rfl, HY⟩
  have HH10 := hide (HH8.out.later HY.out.1)
  have e3 : val 2 y = .agg #[.int .i64 y.1.1, .int .i64 y.1.2.1, .string y.1.2.2, .slice y.2.1.1 y.2.2.length y.2.1.2] := rfl
  rw [e3]
  clear e3 HU8 HG8 HH8 c0 c1
  have HSM : Hid (∀ (g : Nat) (W1 : World), Below w10.heap.size w10 W1 → W1.heap[g]? = some (.cells #[.int .i64 1, .int .i64 7, .string ⟨#[]⟩, .slice none 0 0] 24) → Calls Try.prog 12 #[.agg #[.int .i64 y.1.1, .int .i64 y.1.2.1, .string y.1.2.2, .slice y.2.1.1 y.2.2.length y.2.1.2], .agg #[.int .i64 4, .int .i64 0, .string ⟨#[]⟩, .slice (some ⟨g, 0, none⟩) 1 1]] W1 fun e w' => e = .returned (.bool true) ∧ Below W1.heap.size W1 w') := by
    intro g W1 h1 hg
    have h := same_any 2 y 2 (sevT g) W1.heap.size W1 ((HY.out.2.1.below h1).mono h1.size) (sev_in g _ _ (Array.getElem?_eq_some_iff.1 hg).1 hg) (Nat.le_refl _)
    have hs : same 2 (sevT w4.heap.size) 2 (sevT g) = true := same_mk rfl (by simp [sevT, sameL, same, numT])
    rw [same_trans _ _ _ _ _ _ HY.out.2.2.2 hs] at h
    exact h
  have HA10 : Hid (∀ o : Obj, Below w10.heap.size w10 (w10.alloc o).drew) := fun o => ((Below.refl _ _).alloc (Nat.le_refl _) o).drew
  clear HY
  go_wp2_with fail
  go_region_held3 (fun w' => w'.cell? ⟨w10.heap.size, 0, none⟩ = some (.int .i64 y.1.1) ∧ w'.cell? ⟨w10.heap.size, 1, none⟩ = some (.int .i64 y.1.2.1) ∧ w'.cell? ⟨w10.heap.size, 2, none⟩ = some (.string y.1.2.2) ∧ w'.cell? ⟨w10.heap.size, 3, none⟩ = some (.slice y.2.1.1 y.2.2.length y.2.1.2))
    (go_keep) ((first
      | (go_at_call 9; refine (num_any _ _).mono ?_; rintro e w11 ⟨rfl, hb11⟩; have HB11 := hide ((HA10.out _).trans (hb11.mono (HA10.out _).size)); obtain ⟨t0, t1, t2, t3⟩ := (boxed (below_undrew hb11)).1; have hw11 : w10.heap.size < w11.heap.size := (by have := (below_undrew hb11).size; simp at this; omega))
      | (go_at_call 27; refine (tuple_any _ _ _ _).mono ?_; rintro e w12 ⟨rfl, hb12⟩; have HB12 := hide ((HB11.out.trans (((Below.refl w11.heap.size w11).alloc (Nat.le_refl _) _).mono HB11.out.size)).trans (hb12.mono (Nat.le_trans HB11.out.size (by simp)))); have HG12 : Hid (w12.heap[w11.heap.size]? = some (.cells #[.int .i64 1, .int .i64 7, .string ⟨#[]⟩, .slice none 0 0] 24)) := (hb12.block w11.heap.size (by simp)).trans (heap_alloc_new w11 _); obtain ⟨s0, s1, s2, s3⟩ := cells_two hw11 hb12 ⟨t0, t1, t2, t3⟩; have hw12 : w10.heap.size < w12.heap.size := (by have := hb12.size; simp at this; omega))
      | (go_at_call 12; refine (HSM.out _ _ HB12.out HG12.out).mono ?_; rintro e w13 ⟨rfl, hb13⟩; have hcc13 := below_cells hb13)))
  have HB13 : Hid (Below w.heap.size w w13) := (HH10.out.1.trans (HB12.out.mono HH10.out.1.size)).trans (hb13.mono (Nat.le_trans HH10.out.1.size HB12.out.size))
  clear hb13 hb12 hb11 hcc13
  go_wp2_with fail
  go_ret
  exact ⟨rfl, HB13.out⟩
end Go.Proofs.Ytfaoeccnhbcjgab
