/- What is proved here: WayRows: of each way what is taken is what was sent, in that order. No condition but that what is handed in lies in memory. -/
import Derived.Test.YtfginhifgljnmabG13
namespace Go.Proofs.Ytfginhifgljnmab
open Go.RowKit Go.Maps

set_option maxRecDepth 100000 in
set_option maxHeartbeats 4000000 in
theorem wrows_walk (N : Nat) (l : List (Wc N)) (la : Option Addr) (lc : Nat) (len : Nat) (w : World) (hlen : l.length = len) (hll : len ≤ 9223372036854775807) (HL : Hid (Wcs w.heap.size w N l la)) :
    Calls Try.prog 9 #[.slice la len lc] w fun e w' => e = .returned (.bool true) ∧ Below w.heap.size w w' := by
  have HNW := hide (wnew_any 1 w)
  have hmm := @run_makeMap Try.prog
  go_enter Try.func9, Try.ntmps9
  go_wp2_with fail
  refine HNW.out.mono ?_
  rintro e w1 ⟨rfl, h1⟩
  obtain ⟨wp, hwp⟩ : ∃ wp, wp = w.heap.size := ⟨_, rfl⟩
  rw [← hwp]
  have H1 : Hid (Below w.heap.size w w1 ∧ WyAt w.heap.size wp none 0 1 (fun _ => []) (fun _ => nilS) w1) := by
    rw [hwp]
    exact ⟨h1.1, h1.2.2⟩
  clear hwp h1 HNW
  go_wp2_with fail
  refine (num_any 5 w1).mono ?_
  rintro e w2 ⟨rfl, hb2⟩
  have HB2 := hide hb2
  clear hb2
  go_wp2_with fail
  refine (pre_send H1.out.2 HB2.out).mono ?_
  rintro e w3 ⟨rfl, H3⟩
  obtain ⟨y, hy⟩ := H3.out.2
  have HY := hide hy
  have HB3 : Hid (Below w.heap.size w w3) := H1.out.1.trans ((HB2.out.mono H1.out.1.size).trans H3.out.1)
  clear hy H3 H1 HB2
  have HM := hide (pre_many HY.out)
  go_wp2_with fail
  refine HM.out.1.mono ?_
  rintro e w4 ⟨rfl, rfl⟩
  go_wp2_with fail
  refine HM.out.2.mono ?_
  rintro e w4 ⟨rfl, rfl⟩
  clear HM
  go_wp2_with fail
  refine (pre_take HY.out).mono ?_
  rintro e w4 ⟨rfl, H4⟩
  have HB4 : Hid (Below w.heap.size w w4) := HB3.out.trans H4.out.1
  have HW5 : Hid (∃ w5 q, (w5 = w4.alloc (.cells #[.int .i64 y.1.1, .int .i64 y.1.2.1, .string y.1.2.2, .slice y.2.1.1 y.2.2.length y.2.1.2] 24) ∧ q = w4.heap.size) ∧ Below w4.heap.size w4 w5 ∧ w5.heap[q]? = some (.cells #[.int .i64 y.1.1, .int .i64 y.1.2.1, .string y.1.2.2, .slice y.2.1.1 y.2.2.length y.2.1.2] 24)) := ⟨_, _, ⟨rfl, rfl⟩, (Below.refl _ _).alloc (Nat.le_refl _) _, heap_alloc_new _ _⟩
  go_wp2_with fail
  obtain ⟨w5, q, ⟨hw5, hq⟩, HS5⟩ := HW5.out
  rw [← hw5, ← hq]
  replace HS5 := hide HS5
  have HYS := hide HY.out.1
  have HYI := hide H4.out.2.1
  have HP2 := hide (H4.out.2.2.later HS5.out.1)
  have HB5 : Hid (Below w.heap.size w w5) := HB4.out.trans (HS5.out.1.mono HB4.out.size)
  have HC5 : Hid (∀ W, Below w5.heap.size w5 W → W.cell? ⟨q, 0, none⟩ = some (.int .i64 y.1.1) ∧ W.cell? ⟨q, 1, none⟩ = some (.int .i64 y.1.2.1) ∧ W.cell? ⟨q, 2, none⟩ = some (.string y.1.2.2) ∧ W.cell? ⟨q, 3, none⟩ = some (.slice y.2.1.1 y.2.2.length y.2.1.2)) := fun W hW => by
    have h := (hW.block q (Array.getElem?_eq_some_iff.1 HS5.out.2).1).trans HS5.out.2
    exact ⟨cell_row h 0, cell_row h 1, cell_row h 2, cell_row h 3⟩
  have HSM : Hid (∀ W, Below w5.heap.size w5 W → Calls Try.prog 14 #[.agg #[.int .i64 y.1.1, .int .i64 y.1.2.1, .string y.1.2.2, .slice y.2.1.1 y.2.2.length y.2.1.2], .agg #[.int .i64 1, .int .i64 5, .string ⟨#[]⟩, .slice none 0 0]] W fun e w' => e = .returned (.bool true) ∧ Below W.heap.size W w') := by
    intro W hW
    have h2 := HS5.out.1.trans (hW.mono HS5.out.1.size)
    have h := same_any 1 y 1 (numT 5) W.heap.size W ((HYI.out.below h2).mono h2.size) (num_in 5 (by simp [I64]) _ _) (Nat.le_refl _)
    rw [HYS.out] at h
    exact h
  clear hw5 hq HW5 H4 HY HB3 HB4
  have HD5 : Hid (Below w5.heap.size w5 w5.drew) := (Below.refl _ _).drew
  obtain ⟨p0, p1, p2, p3⟩ := HC5.out w5 (Below.refl _ _)
  go_wp2_with fail
  go_region_held3 (fun W => W.cell? ⟨q, 0, none⟩ = some (.int .i64 y.1.1) ∧ W.cell? ⟨q, 1, none⟩ = some (.int .i64 y.1.2.1) ∧ W.cell? ⟨q, 2, none⟩ = some (.string y.1.2.2) ∧ W.cell? ⟨q, 3, none⟩ = some (.slice y.2.1.1 y.2.2.length y.2.1.2))
    (first | (go_keep; done) | exact HC5.out _ HD5.out | exact HC5.out _ HB8.out | exact HC5.out _ HB7.out | exact HC5.out _ HB6.out) ((first
      | (go_at_call 11; refine (num_any _ _).mono ?_; rintro e w6 ⟨rfl, hb6⟩; have HB6 := hide (HD5.out.trans (hb6.mono HD5.out.size)); clear hb6)
      | (go_at_call 14; refine (HSM.out _ HB6.out).mono ?_; rintro e w7 ⟨rfl, hb7⟩; have HB7 := hide (HB6.out.trans (hb7.mono HB6.out.size)); clear hb7)
      | (go_at_call 50; refine (pre_all (HP2.out.later HB7.out)).mono ?_; rintro e w8 ⟨rfl, hb8⟩; have HB8 := hide (HB7.out.trans (hb8.mono HB7.out.size)); clear hb8)))
  have HB9 : Hid (Below w.heap.size w w8) := HB5.out.trans (HB8.out.mono HB5.out.size)
  have HP8 := hide (HP2.out.later HB8.out)
  clear HP2 HYS HYI HC5 HSM HD5 HB6 HB7 HB8 HS5 HB5 p0 p1 p2 p3
  by_cases h100 : len ≤ 100
  rotate_left
  · have h100' : (100 : Int) < (len : Int) := by omega
    go_wp2_with fail
    go_ret
    exact ⟨rfl, HB9.out⟩
  · have h100' : ¬ (100 : Int) < (len : Int) := by omega
    have HR0 : Hid (∃ wA ms mt, (wA = (w8.alloc (.map #[] 0)).alloc (.map #[] 0) ∧ ms = w8.heap.size ∧ mt = w8.heap.size + 1) ∧ RS w wp ms mt N 2 wA) := ⟨_, _, _, ⟨rfl, rfl, rfl⟩, RS.start HB9.out HP8.out⟩
    go_wp2_with fail
    obtain ⟨wA, ms, mt, ⟨hwA, hms, hmt⟩, HRA⟩ := HR0.out
    rw [← hwA, ← hmt, ← hms]
    replace HRA := hide HRA
    clear hwA hms hmt HR0 HP8 HB9
    obtain ⟨it, hit, htz0, htz1, htz2⟩ := info_parts infoTermR
    have HIT : Hid (Try.prog.info? 24 = some it ∧ it.zero = some (.agg #[.int .i64 0, .int .i64 0, .string ⟨#[]⟩, .slice none 0 0]) ∧ it.size = 4 ∧ it.bytes = 56) := ⟨hit, htz0, htz1, htz2⟩
    clear hit htz0 htz1 htz2
    go_loopw [57] (fun i wr => ∃ j n : Nat, j ≤ len ∧ i = .int .i64 j ∧ n ≤ 2 * j + 2 ∧ Hid (RS w wp ms mt N n wr)) (fun i _ => len - (intOf i).toNat)
    case atStart => exact ⟨0, 2, Nat.zero_le _, rfl, by omega, HRA.out⟩
    case round =>
    obtain ⟨j, n, hj, rfl, hn, HR⟩ := hrel
    by_cases hjl : j < len
    · obtain ⟨c, hc⟩ : ∃ c, l[j]? = some c := ⟨l[j]'(by omega), List.getElem?_eq_getElem _⟩
      obtain ⟨⟨ck, ca, cb⟩, x⟩ := c
      obtain ⟨lb, lo, rfl, hlb, HCC⟩ : ∃ b o, la = some ⟨b, o, none⟩ ∧ b < w.heap.size ∧ Hid ((∀ (t : Nat) (u : Value), (wc7 N ((ck, ca, cb), x))[t]? = some u → w.cell? ⟨b, o + j * 7 + t, none⟩ = some u) ∧ I64 ck ∧ I2 (ca, cb) ∧ In w.heap.size w (N + 1) x ∧ (nodes (N + 1) x).length ≤ 2097152) := by
        rcases HL.out with e | ⟨b, o, e, hb, h⟩
        · rw [e] at hc
          simp at hc
        · exact ⟨b, o, e, hb, h j _ hc⟩
      have hcell : ∀ (t : Nat) (u : Value), (wc7 N ((ck, ca, cb), x))[t]? = some u → wr.cell? ⟨lb, lo + j * 7 + t, none⟩ = some u := fun t u ht => (HR.out.below.cell (p := ⟨lb, lo + j * 7 + t, none⟩) hlb).trans (HCC.out.1 t u ht)
      have x0 : wr.cell? ⟨lb, lo + j * 7, none⟩ = some (.int .i64 ck) := hcell 0 _ rfl
      have x1 := hcell 1 _ rfl
      have x2 := hcell 2 _ rfl
      have x3 := hcell 3 _ rfl
      have x4 := hcell 4 _ rfl
      have x5 := hcell 5 _ rfl
      have x6 := hcell 6 _ rfl
      have j1 : (0 : Int) ≤ (j : Int) := by omega
      have j2 : (j : Int) < (len : Int) := by omega
      have HW2 : Hid (∃ w2 q1 q2, (w2 = (wr.alloc (.cells #[.int .i64 ck, .int .i64 ca, .int .i64 cb, .int .i64 x.1.1, .int .i64 x.1.2.1, .string x.1.2.2, .slice x.2.1.1 x.2.2.length x.2.1.2] 96)).alloc (.cells #[.int .i64 ca, .int .i64 cb] 97) ∧ q1 = wr.heap.size ∧ q2 = wr.heap.size + 1) ∧ Below wr.heap.size wr w2 ∧ wr.heap.size ≤ q1 ∧ wr.heap.size ≤ q2 ∧ w2.heap[q1]? = some (.cells #[.int .i64 ck, .int .i64 ca, .int .i64 cb, .int .i64 x.1.1, .int .i64 x.1.2.1, .string x.1.2.2, .slice x.2.1.1 x.2.2.length x.2.1.2] 96) ∧ w2.heap[q2]? = some (.cells #[.int .i64 ca, .int .i64 cb] 97)) := by
        refine ⟨_, _, _, ⟨rfl, rfl, rfl⟩, ((Below.refl _ _).alloc (Nat.le_refl _) _).alloc (by simp) _, Nat.le_refl _, by omega, ?_, ?_⟩
        · exact (((Below.refl _ _).alloc (Nat.le_refl _) _).block wr.heap.size (by simp)).trans (heap_alloc_new wr _)
        · have h := heap_alloc_new (wr.alloc (.cells #[.int .i64 ck, .int .i64 ca, .int .i64 cb, .int .i64 x.1.1, .int .i64 x.1.2.1, .string x.1.2.2, .slice x.2.1.1 x.2.2.length x.2.1.2] 96)) (.cells #[.int .i64 ca, .int .i64 cb] 97)
          have e : (wr.alloc (.cells #[.int .i64 ck, .int .i64 ca, .int .i64 cb, .int .i64 x.1.1, .int .i64 x.1.2.1, .string x.1.2.2, .slice x.2.1.1 x.2.2.length x.2.1.2] 96)).heap.size = wr.heap.size + 1 := by simp
          rwa [e] at h
      clear hcell
      by_cases h0 : ck = 0
      · subst h0
        go_wp2_with fail
        obtain ⟨w2, q1, q2, ⟨hw2, hq1, hq2⟩, HS2⟩ := HW2.out
        rw [← hw2, ← hq2, ← hq1]
        replace HS2 := hide HS2
        clear hw2 hq1 hq2 HW2 x0 x1 x2 x3 x4 x5 x6
        refine (HR.out.send HS2.out.1 HCC.out.2.2.1 x HCC.out.2.2.2.1 HCC.out.2.2.2.2 (by omega)).mono ?_
        rintro e w3 ⟨err, rfl, H3⟩
        by_cases he : err = 0
        rotate_left
        · have he' : ¬ (0 : Int) = err := fun e => he e.symm
          have HR3 := hide (H3.out.1 he)
          go_wp2_with fail
          go_roundw
          case rel => exact ⟨j + 1, n, by omega, by go_num, by omega, HR3.out⟩
          case measure => simp [intOf]; omega
        · subst he
          obtain ⟨hbox, hap⟩ := H3.out.2 rfl
          have e1 := (hbox q1 HS2.out.2.1 (Array.getElem?_eq_some_iff.1 HS2.out.2.2.2.1).1).trans HS2.out.2.2.2.1
          have e2 := (hbox q2 HS2.out.2.2.1 (Array.getElem?_eq_some_iff.1 HS2.out.2.2.2.2).1).trans HS2.out.2.2.2.2
          have t0 : w3.cell? ⟨q1, 3, none⟩ = some (.int .i64 x.1.1) := cell_row e1 3
          have t1 : w3.cell? ⟨q1, 4, none⟩ = some (.int .i64 x.1.2.1) := cell_row e1 4
          have t2 : w3.cell? ⟨q1, 5, none⟩ = some (.string x.1.2.2) := cell_row e1 5
          have t3 : w3.cell? ⟨q1, 6, none⟩ = some (.slice x.2.1.1 x.2.2.length x.2.1.2) := cell_row e1 6
          have k0 : w3.cell? ⟨q2, 0, none⟩ = some (.int .i64 ca) := cell_row e2 0
          have k1 : w3.cell? ⟨q2, 1, none⟩ = some (.int .i64 cb) := cell_row e2 1
          have hap' : Appends w.heap.size ms (ca, cb) [.int .i64 x.1.1, .int .i64 x.1.2.1, .string x.1.2.2, .slice x.2.1.1 x.2.2.length x.2.1.2] (RS w wp ms mt N (n + 2)) w3 := hap
          obtain ⟨sa, L, sc, xs, st, W1, hLL, hbA, hE1, HA⟩ := hap'.step
          simp only at hE1
          clear hap hap' hbox e1 e2 H3
          go_wp2_with (first
            | (at_builtin; refine wpList_append_lies _ rfl _ _ 22 rfl w.heap.size 24 it _ 4 56 Try.underlying22 HIT.out.1 HIT.out.2.1 HIT.out.2.2.1 HIT.out.2.2.2 rfl (by decide) (.slice sa L sc) L xs rfl HA.out.1 ⟨w3.heap.size, 0, none⟩ 1 1 [.int .i64 x.1.1, .int .i64 x.1.2.1, .string x.1.2.2, .slice x.2.1.1 x.2.2.length x.2.1.2] rfl rfl (World.news_of_block (cs := #[.int .i64 x.1.1, .int .i64 x.1.2.1, .string x.1.2.2, .slice x.2.1.1 x.2.2.length x.2.1.2]) (t := 24) (fr := (0, 0)) HA.out.2.1) (by simp [Value.oneCell']) (by decide) (by unfold maxLen; omega) (by omega) hbA _ rfl ?_; intro g5 c5 w5 hown5 hgrow5 hat5 hlt5; obtain ⟨w6, hE6, hR6⟩ := HA.out.2.2 g5 c5 w5 hgrow5 hown5 hat5; have HR6 := hide hR6; clear hown5 hgrow5 hat5 hlt5 hR6))
          go_roundw
          case rel => exact ⟨j + 1, n + 2, by omega, by go_num, by omega, HR6.out⟩
          case measure => simp [intOf]; omega
      · have h0' : ¬ (0 : Int) = ck := fun e => h0 e.symm
        go_wp2_with fail
        obtain ⟨w2, q1, q2, ⟨hw2, hq1, hq2⟩, HS2⟩ := HW2.out
        rw [← hw2, ← hq2, ← hq1]
        replace HS2 := hide HS2
        clear hw2 hq1 hq2 HW2 x0 x1 x2 x3 x4 x5 x6
        refine (HR.out.take HS2.out.1 HCC.out.2.2.1 (by omega)).mono ?_
        rintro e w3 ⟨z0, z1, zs, za, zl, zc, err, rfl, H3⟩
        by_cases he : err = 0
        rotate_left
        · have he' : ¬ (0 : Int) = err := fun e => he e.symm
          have HR3 := hide ((H3.out.1 he).later ((Below.refl _ _).alloc (Nat.le_refl _) (.cells #[.int .i64 z0, .int .i64 z1, .string zs, .slice za zl zc] 24)))
          go_wp2_with fail
          go_roundw
          case rel => exact ⟨j + 1, n, by omega, by go_num, by omega, HR3.out⟩
          case measure => simp [intOf]; omega
        · subst he
          obtain ⟨hbox, hap⟩ := H3.out.2 rfl
          have e2 := (hbox q2 HS2.out.2.2.1 (Array.getElem?_eq_some_iff.1 HS2.out.2.2.2.2).1).trans HS2.out.2.2.2.2
          have hq2 : q2 < w3.heap.size := (Array.getElem?_eq_some_iff.1 e2).1
          have e3 := (((Below.refl w3.heap.size w3).alloc (Nat.le_refl _) (.cells #[.int .i64 z0, .int .i64 z1, .string zs, .slice za zl zc] 24)).block q2 hq2).trans e2
          have k0 : w3.cell? ⟨q2, 0, none⟩ = some (.int .i64 ca) := cell_row e2 0
          have k1 : w3.cell? ⟨q2, 1, none⟩ = some (.int .i64 cb) := cell_row e2 1
          have k2 : (w3.alloc (.cells #[.int .i64 z0, .int .i64 z1, .string zs, .slice za zl zc] 24)).cell? ⟨q2, 0, none⟩ = some (.int .i64 ca) := cell_row e3 0
          have k3 : (w3.alloc (.cells #[.int .i64 z0, .int .i64 z1, .string zs, .slice za zl zc] 24)).cell? ⟨q2, 1, none⟩ = some (.int .i64 cb) := cell_row e3 1
          obtain ⟨sa, L, sc, xs, st, W1, hLL, hbA, hE1, HA⟩ := (hap (w3.alloc (.cells #[.int .i64 z0, .int .i64 z1, .string zs, .slice za zl zc] 24)) ((Below.refl _ _).alloc (Nat.le_refl _) _)).step
          simp only at hE1
          have HA2 : Hid (W1.heap[w3.heap.size + 1]? = some (.cells #[.int .i64 z0, .int .i64 z1, .string zs, .slice za zl zc] 24)) := by
            have h := HA.out.2.1
            rwa [World.size_alloc] at h
          clear hap hbox e2 e3 H3
          go_wp2_with (first
            | (at_builtin; refine wpList_append_lies _ rfl _ _ 22 rfl w.heap.size 24 it _ 4 56 Try.underlying22 HIT.out.1 HIT.out.2.1 HIT.out.2.2.1 HIT.out.2.2.2 rfl (by decide) (.slice sa L sc) L xs rfl HA.out.1 ⟨w3.heap.size + 1, 0, none⟩ 1 1 [.int .i64 z0, .int .i64 z1, .string zs, .slice za zl zc] rfl rfl (World.news_of_block (cs := #[.int .i64 z0, .int .i64 z1, .string zs, .slice za zl zc]) (t := 24) (fr := (0, 0)) HA2.out) (by simp [Value.oneCell']) (by decide) (by unfold maxLen; omega) (by omega) hbA _ rfl ?_; intro g5 c5 w5 hown5 hgrow5 hat5 hlt5; obtain ⟨w6, hE6, hR6⟩ := HA.out.2.2 g5 c5 w5 hgrow5 hown5 hat5; have HR6 := hide hR6; clear hown5 hgrow5 hat5 hlt5 hR6))
          go_roundw
          case rel => exact ⟨j + 1, n + 2, by omega, by go_num, by omega, HR6.out⟩
          case measure => simp [intOf]; omega
    · obtain rfl : j = len := by omega
      obtain ⟨Ds, Dt, os, ot, hsz, HLK⟩ := HR.out.last (by omega)
      replace HLK := hide HLK
      have HBw := hide HR.out.below
      have HOT := hide ot
      have HSZ := hide hsz
      clear ot hsz HR
      go_wp2_with (first
        | (at_range; refine wpList_range_own _ rfl _ 94 rfl 97 22 pairLaw Try.underlying94 _ ms n _ rfl os ?_; intro wq hrq hgq hsq))
      go_frame
      have HBQ : Hid (Below wr.heap.size wr wq) := ⟨hgq.os, hgq.tape, hgq.output, hgq.size, fun b hb => hgq.block b hb (by simp)⟩
      clear hgq hsq
      obtain ⟨w9, hw9⟩ : ∃ w9, w9 = wr := ⟨_, rfl⟩
      subst hw9
      go_loopw [14] (fun _ wr => ∃ (left : Lit → Bool) (cnt : Nat), wr.ranges Try.prog 97 rawE ms w9.heap.size n Ds left cnt ∧ Hid (Below w9.heap.size w9 wr ∧ ∀ x, left x = true → has Ds x = true))
        (fun _ wr => wr.rangeLeft ms w9.heap.size)
      case atStart => exact ⟨_, _, hrq, HBQ.out, fun x hx => hx⟩
      case round =>
        obtain ⟨left, cnt, hrg, HV⟩ := hrel
        go_wp2_with (first
          | (at_next; refine wpList_next_ranges _ rfl _ rfl 97 pairLaw rawE pk id (fun key kl hk => by obtain ⟨k, _, e, _⟩ := key_pk hk; exact ⟨k, e⟩) (fun v y hv => ⟨v, rfl⟩) ms w9.heap.size n _ _ _ rfl hrg ?_ ?_))
        · intro hc0 hl0
          have l1 := fun ty => (HOT.out.kept (grown_of_belowW HV.out.1) (by simp)).len Try.underlying94 ty
          have l2 := fun ty => hrg.owns.len Try.underlying94 ty
          have l3 : ((Maps.size Dt : Nat) : Int) ≤ ((Maps.size Ds : Nat) : Int) := by have := HSZ.out; omega
          go_wp2_with fail
          go_ret
          exact ⟨rfl, HBw.out.trans (HV.out.1.mono HBw.out.size)⟩
        · intro k0 k1 c klv yd yp w2 cnt2 hkey hlk hv hat hrg2 hlt hg2 hs2 hen
          obtain ⟨k, hkI, e1, rfl⟩ := key_pk hkey
          obtain rfl : (k0, k1) = k := by
            simp only [pk, Value.agg.injEq, Array.mk.injEq, List.cons.injEq, Value.int.injEq, true_and, and_true] at e1
            exact Prod.ext e1.1 e1.2
          obtain ⟨g, L, cc, a', nt, c', rfl, hnt, hLc, hL, HLO, HSA, HMA⟩ := HLK.out (k0, k1) c hkI (HV.out.2 _ hlk) (fun zd => (hat zd).trans (rawE_inv hv))
          have HB2 : Hid (Below w9.heap.size w9 w2) := ⟨hg2.os.trans HV.out.1.os, hg2.tape.trans HV.out.1.tape, hg2.output.trans HV.out.1.output, Nat.le_trans HV.out.1.size hg2.size, fun b hb => (hg2.block b (Nat.lt_of_lt_of_le hb HV.out.1.size) (by simp; omega)).trans (HV.out.1.block b hb)⟩
          have HLT : Hid (cnt2 < cnt ∧ ∀ x, (left x && !x.sameKey (kl (k0, k1))) = true → has Ds x = true) := ⟨hlt, fun x hx => HV.out.2 x (by simp at hx; exact hx.1)⟩
          have HRG := hide hrg
          have HRG2 := hide hrg2
          clear hs2 hkey hlk hv hat hlt hg2 e1 hkI hrg hrg2
          simp only [pk] at hen ⊢
          simp only at HLO HSA HMA
          have HW3 : Hid (∃ w3 q3, (w3 = w2.alloc (.cells #[.int .i64 k0, .int .i64 k1] 97) ∧ q3 = w2.heap.size) ∧ Below w2.heap.size w2 w3 ∧ w3.heap[q3]? = some (.cells #[.int .i64 k0, .int .i64 k1] 97)) := ⟨_, _, ⟨rfl, rfl⟩, (Below.refl _ _).alloc (Nat.le_refl _) _, heap_alloc_new _ _⟩
          have HB3a : Hid (Below w9.heap.size w9 (w2.alloc (.cells #[.int .i64 k0, .int .i64 k1] 97))) := HB2.out.alloc HB2.out.size _
          have hl1 := HLO.out _ HB3a.out
          have g1 : ¬ (L : Int) < (nt : Int) := by omega
          have g2 : (0 : Int) ≤ (nt : Int) := by omega
          have g3 : (nt : Int) ≤ (cc : Int) := by omega
          have hsl := fun W => slice_upto W g L cc nt (by omega)
          go_wp2_with fail
          obtain ⟨w3, q3, ⟨hw3, hq3⟩, HS3⟩ := HW3.out
          rw [← hw3, ← hq3]
          rw [← hw3] at HB3a hl1
          replace HS3 := hide HS3
          clear hw3 hq3 HW3 hen hl1
          have HK3 : Hid (∀ W, Below w3.heap.size w3 W → W.cell? ⟨q3, 0, none⟩ = some (.int .i64 k0) ∧ W.cell? ⟨q3, 1, none⟩ = some (.int .i64 k1)) := fun W hW => by
            have h := (hW.block q3 (Array.getElem?_eq_some_iff.1 HS3.out.2).1).trans HS3.out.2
            exact ⟨cell_row h 0, cell_row h 1⟩
          have HD3 : Hid (Below w3.heap.size w3 w3.drew) := (Below.refl _ _).drew
          have HB3D := hide (HB3a.out.trans (HD3.out.mono HB3a.out.size))
          have hl2 := HLO.out _ HB3D.out
          obtain ⟨p0, p1⟩ := HK3.out w3 (Below.refl _ _)
          have g4 : (0 : Int) ≤ (L : Int) - (nt : Int) := by omega
          have g6 : decide ((L : Int) < (nt : Int)) = false := by simpa using g1
          have g7 : ¬ L < nt := by omega
          have g8 : decide (L < nt) = false := by simpa using g7
          have g9 : wrap64 ((L : Int) - (nt : Int)) = (L : Int) - (nt : Int) := by unfold wrap64; omega
          have g10 : IntKind.i64.wrap ((L : Int) - (nt : Int)) = (L : Int) - (nt : Int) := by rw [IntKind.wrap_i64]; omega
          have g5 : (L : Int) - (nt : Int) ≤ 1000 := by omega
          go_region_held3 (fun W => W.cell? ⟨q3, 0, none⟩ = some (.int .i64 k0) ∧ W.cell? ⟨q3, 1, none⟩ = some (.int .i64 k1))
            (first | (go_keep; done) | exact HK3.out _ HD3.out | exact HK3.out _ HB4.out) ((first
              | (go_at_call 35; refine (HSA.out _ HB3D.out).mono ?_; rintro e w4 ⟨rfl, hb4⟩; have HB4 := hide (HD3.out.trans (hb4.mono HD3.out.size)); have HB94 := hide (HB3D.out.trans (hb4.mono HB3D.out.size)); clear hb4)
              | (go_at_call 48; refine (HMA.out _ HB94.out).mono ?_; rintro e w5 ⟨rfl, rfl⟩)))
          have HRG4 := hide (HRG2.out.kept (grown_of_belowW (HS3.out.1.trans (HB4.out.mono HS3.out.1.size))) (by simp) (by simp))
          go_wp2_with fail
          go_roundw
          case rel => exact ⟨_, cnt2, HRG4.out, HB94.out, HLT.out.2⟩
          case measure =>
            rw [HRG4.out.left_eq, HRG.out.left_eq]
            exact HLT.out.1
end Go.Proofs.Ytfginhifgljnmab
