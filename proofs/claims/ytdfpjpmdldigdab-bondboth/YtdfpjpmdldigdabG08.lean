/- What is proved here: BondBoth: who is with one has it with itself; who ended is with nobody; who is told was with one told ahead, or with who ended. No condition but that what is handed in lies in memory. -/
import Derived.Test.YtdfpjpmdldigdabG07
import Derived.Deep.RegionWith
namespace Go.Proofs.Ytdfpjpmdldigdab
open Go.RowKit Go.Maps

set_option maxRecDepth 100000 in
set_option maxHeartbeats 8000000 in
theorem bboth_walk (l : List (Int × Int × Int)) (la : Option Addr) (lc : Nat) (len : Nat) (x : Int) (w : World) (hlen : l.length = len) (hll : len ≤ 9223372036854775807) (HL : Hid (Bcs w.heap.size w la l)) :
    Calls Try.prog 10 #[.slice la len lc, .int .i64 x] w fun e w' => e = .returned (.bool true) ∧ Below w.heap.size w w' := by
  obtain ⟨it, hit, htz0, htz1, htz2⟩ := info_parts infoInt
  have HIT : Hid (Try.prog.info? 3 = some it ∧ it.zero = some (.int .i64 0) ∧ it.size = 1 ∧ it.bytes = 8) := ⟨hit, htz0, htz1, htz2⟩
  clear hit htz0 htz1 htz2
  have HNW := hide (bnew_any w)
  go_enter Try.func10, Try.ntmps10
  go_wp2_with fail
  refine HNW.out.mono ?_
  rintro e w1 ⟨rfl, h1⟩
  obtain ⟨bp, hbp⟩ : ∃ bp, bp = w.heap.size := ⟨_, rfl⟩
  rw [← hbp]
  have H1 : Hid (BSt w bp none 0 (fun _ => false) w1) := by
    rw [hbp, h1]
    exact ⟨⟨Nat.le_refl _, heap_alloc_new _ _, Or.inl ⟨rfl, rfl⟩⟩, fun _ h => (by cases h), (Below.refl _ _).alloc (Nat.le_refl _) _⟩
  clear h1 hbp HNW
  have HK1 := hide (H1.out.link (x := 1) (y := 2) (by unfold I64; omega) (by unfold I64; omega) (by omega))
  rw [show lnkE 1 2 = 0 from by decide, if_pos rfl] at HK1
  go_wp2_with fail
  refine HK1.out.mono ?_
  rintro e w2 ⟨rfl, H2⟩
  obtain ⟨mo2, h2⟩ := H2.out
  have HK2 := hide (h2.link (x := 2) (y := 3) (by unfold I64; omega) (by unfold I64; omega) (by omega))
  rw [show lnkE 2 3 = 0 from by decide, if_pos rfl] at HK2
  clear H1 HK1 H2 h2
  go_wp2_with fail
  refine HK2.out.mono ?_
  rintro e w3 ⟨rfl, H3⟩
  obtain ⟨mo3, h3⟩ := H3.out
  have h3' : BSt w bp mo3 2 gS w3 := h3
  have HE3 := hide (h3'.end' (x := 1) (by unfold I64; omega))
  rw [toldS, show (1 :: [2, 3] : List Int) = [1, 2, 3] from rfl, woS] at HE3
  clear HK2 H3 h3 h3'
  go_wp2_with fail
  refine HE3.out.mono ?_
  rintro e w4 ⟨u4, rfl, H4⟩
  have HEQ : Hid (Calls Try.prog 54 #[u4, .slice (some ⟨w4.heap.size, 0, none⟩) 2 2] (w4.alloc (.cells #[.int .i64 2, .int .i64 3] 3)) fun e w' => e = .returned (.bool true) ∧ Below (w4.alloc (.cells #[.int .i64 2, .int .i64 3] 3)).heap.size (w4.alloc (.cells #[.int .i64 2, .int .i64 3] 3)) w') :=
    iequal_any (l := [2, 3]) (H4.out.1.row.later ((Below.refl _ _).alloc (Nat.le_refl _) _)) (row_two w4 2 3) (by decide)
  have HB4 := hide (H4.out.2.1.later ((Below.refl _ _).alloc (Nat.le_refl _) (.cells #[.int .i64 2, .int .i64 3] 3)))
  clear HE3 H4
  go_wp2_with fail
  refine HEQ.out.mono ?_
  rintro e w5 ⟨rfl, hb5⟩
  have HB5 := hide (HB4.out.later hb5)
  have HOF := hide (HB5.out.of0 (x := 3) (by unfold I64; omega) (ofS 3))
  clear hb5 HB4 HEQ
  go_wp2_with fail
  refine HOF.out.mono ?_
  rintro e w6 ⟨a6, c6, rfl, hb6⟩
  have HB6 := hide (HB5.out.later hb6.out)
  clear hb6 HB5 HOF
  by_cases h100 : len ≤ 100
  rotate_left
  · have h100' : (100 : Int) < (len : Int) := by omega
    go_wp2_with fail
    go_ret
    exact ⟨rfl, HB6.out.2.2⟩
  · have h100' : ¬ (100 : Int) < (len : Int) := by omega
    go_wp2_with fail
    go_loopw [44] (fun i wr => ∃ j n : Nat, j ≤ len ∧ i = .int .i64 j ∧ n ≤ j + 2 ∧ Hid (∃ mo g, BSt w bp mo n g wr)) (fun i _ => len - (intOf i).toNat)
    case atStart => exact ⟨0, 2, Nat.zero_le _, rfl, by omega, mo3, _, HB6.out⟩
    case round =>
    clear HB6
    obtain ⟨j, n, hj, rfl, hn, HR⟩ := hrel
    by_cases hjl : j < len
    · obtain ⟨c, hc⟩ : ∃ c, l[j]? = some c := ⟨l[j]'(by omega), List.getElem?_eq_getElem _⟩
      obtain ⟨ck, cx, cy⟩ := c
      obtain ⟨lb, lo, rfl, hlb, HCC⟩ : ∃ b o, la = some ⟨b, o, none⟩ ∧ b < w.heap.size ∧ Hid ((∀ (t : Nat) (u : Value), (b3 (ck, cx, cy))[t]? = some u → w.cell? ⟨b, o + j * 3 + t, none⟩ = some u) ∧ I64 ck ∧ I64 cx ∧ I64 cy) := by
        rcases HL.out with e | ⟨b, o, e, hb, h⟩
        · rw [e] at hc
          simp at hc
        · exact ⟨b, o, e, hb, h j _ hc⟩
      obtain ⟨mo, g, hP⟩ := HR.out
      have HP := hide hP
      have hcell : ∀ (t : Nat) (u : Value), (b3 (ck, cx, cy))[t]? = some u → wr.cell? ⟨lb, lo + j * 3 + t, none⟩ = some u := fun t u ht => (hP.2.2.cell (p := ⟨lb, lo + j * 3 + t, none⟩) hlb).trans (HCC.out.1 t u ht)
      have x0 : wr.cell? ⟨lb, lo + j * 3, none⟩ = some (.int .i64 ck) := hcell 0 _ rfl
      have x1 := hcell 1 _ rfl
      have x2 := hcell 2 _ rfl
      have j1 : (0 : Int) ≤ (j : Int) := by omega
      have j2 : (j : Int) < (len : Int) := by omega
      have HIX := hide HCC.out.2.2.1
      have HIY := hide HCC.out.2.2.2
      have HB2 := hide (hP.later ((Below.refl _ _).alloc (Nat.le_refl _) (.cells #[.int .i64 ck, .int .i64 cx, .int .i64 cy] 107)))
      have HLK := hide (HB2.out.link HIX.out HIY.out (by omega))
      clear hcell hP HCC HR
      by_cases h0 : ck = 0
      · have HC0 := hide h0
        subst h0
        go_wp2_with fail
        refine HLK.out.mono ?_
        rintro e w2 ⟨rfl, H2⟩
        obtain ⟨mo2, h2⟩ := H2.out
        have HF : Hid (∃ mo g, BSt w bp mo (n + 1) g w2) := ⟨mo2, _, h2⟩
        clear h2 H2
        go_wp2_with fail
        go_roundw
        case rel => exact ⟨j + 1, n + 1, by omega, by go_num, by omega, HF.out⟩
        case measure => simp [intOf]; omega
      · have h0' : ¬ (0 : Int) = ck := fun e => h0 e.symm
        go_wp2_with fail
        go_roundw
        case rel => exact ⟨j + 1, n, by omega, by go_num, by omega, mo, g, HB2.out⟩
        case measure => simp [intOf]; omega
    · obtain rfl : j = len := by omega
      obtain ⟨mo, g, hP⟩ := HR.out
      have HP := hide hP
      clear hP HR
      go_wp2_with fail
      refine (brest_any x 99 (by omega) (by omega) wr).mono ?_
      rintro e w7 ⟨r, rfl, hr0, hr1, rfl⟩
      obtain ⟨X, hX⟩ : ∃ X : Int, X = 1 + r := ⟨_, rfl⟩
      have hX1 : 1 ≤ X := by omega
      have hX2 : X ≤ 99 := by omega
      have HXI : Hid (I64 X) := by unfold Hid I64; omega
      have HXE := hide hX
      clear hX
      have HWS : Hid (∃ wz wb wm, (wz = (w7.alloc (.map #[] 0)).alloc (.cells #[.map (some w7.heap.size)] 108) ∧ wb = w7.heap.size + 1 ∧ wm = w7.heap.size) ∧ WiAt w wb wm 0 g 0 (fun _ => nilS) wz ∧ BSt w bp mo n g wz ∧ mo ≠ some wm ∧ w.heap.size ≤ wm) := by
        refine ⟨_, _, _, ⟨rfl, rfl, rfl⟩, WiAt.start w g, HP.out.later (((Below.refl _ _).alloc (Nat.le_refl _) _).alloc (by simp) _), fun e => ?_, HP.out.2.2.size⟩
        have := (HP.out.1.lt _ (Or.inr e)).2
        omega
      have hmm := @run_makeMap Try.prog
      go_wp2_with fail
      obtain ⟨wz, wb, wm, ⟨hwz, hwb, hwm⟩, hWi, hB, hne, hwl⟩ := HWS.out
      rw [← hwz, ← hwb, ← HXE.out]
      have HWI := hide hWi
      have HBZ := hide hB
      have HNE := hide hne
      have HWL := hide hwl
      clear hwz hwb hwm hWi hB hne hwl HWS hmm HXE hr0 hr1 HP
      go_loopw [9] (fun i wr => ∃ i' : Nat, 1 ≤ i' ∧ i' ≤ 100 ∧ i = .int .i64 i' ∧ Hid (∃ sl n', n' ≤ i' ∧ WiAt w wb wm n' g (i' - 1) sl wr ∧ BSt w bp mo n g wr)) (fun i _ => 100 - (intOf i).toNat)
      case atStart => exact ⟨1, by omega, by omega, rfl, _, 0, by omega, HWI.out, HBZ.out⟩
      case round =>
      clear HWI HBZ
      obtain ⟨i, hi1, hi2, rfl, HI⟩ := hrel
      by_cases hi : i ≤ 99
      · have hi' : (i : Int) ≤ 99 := by omega
        obtain ⟨sl, n', hn', hWi, hB⟩ := HI.out
        have HII : Hid (I64 (i : Int)) := num64 i (by omega)
        have c0 := hWi.cell
        have HW := hide hWi
        have HB := hide hB
        clear hWi hB HI
        have HD0 : Hid (Below wr.heap.size wr wr.drew) := (Below.refl _ _).drew
        have HWD := hide (HW.out.later HD0.out)
        have HBD := hide (HB.out.later HD0.out)
        have HOF := hide (HBD.out.of HII.out)
        have d0 := HWD.out.cell
        go_wp2_with fail
        go_region_held3 (fun W => W.cell? ⟨wb, 0, none⟩ = some (.map (some wm))) (first | (go_keep; done) | exact HW3.out.cell | exact HW4.out.cell) ((first
          | (go_at_call 56; refine HOF.out.mono ?_; rintro e w3 ⟨v3, rfl, H3⟩; have HW3 := hide (HWD.out.later H3.out.2); have HB3 := hide (HBD.out.later H3.out.2); have hput := HW3.out.put (by omega) (by omega) (v := v3) (by rw [show ((i - 1 : Nat) : Int) + 1 = (i : Int) from by omega]; exact own_base H3.out.1 HBD.out.2.2.size); rw [show ((i - 1 : Nat) : Int) + 1 = (i : Int) from by omega] at hput; obtain ⟨w4, hu4, hw4, hk4⟩ := hput; have HW4 := hide hw4; have HK4 := hide hk4; clear hw4 hk4)))
        have HB4 : Hid (BSt w bp mo n g w4) := by
          have hmo : ∀ b, bdM bp mo b → b ≠ wm := fun b hb e => by
            rcases hb with hb | hb
            · have h1 := HB3.out.1.2.1
              obtain ⟨D, ⟨es, clock, hm, _⟩, _⟩ := HW3.out.map
              rw [← hb, e, hm] at h1
              cases h1
            · exact HNE.out (by rw [hb, e])
          refine ⟨HB3.out.1.kee HK4.out fun b hb e => hmo b hb e, HB3.out.2.1, HB3.out.2.2.trans (HK4.out.below HB3.out.2.2.size fun b hb e => ?_)⟩
          have := HWL.out
          omega
        obtain ⟨v4, hv4⟩ : ∃ v4, v4 = updI sl (i : Int) v3 (i : Int) := ⟨_, rfl⟩
        have hlk := HW4.out.look (k := (i : Int)) (by omega) (by omega) (by omega)
        have hrow := HW4.out.row (i : Int) (by omega) (by omega)
        rw [← hv4] at hlk hrow
        obtain ⟨M, hM⟩ : ∃ M, M = (ofL g (i : Int)).length := ⟨_, rfl⟩
        have hM99 : M ≤ 99 := by rw [hM]; exact ofL_length g _
        obtain ⟨ra, rc, hv⟩ : ∃ ra rc, v4 = .slice ra M rc := by
          obtain ⟨a', c', e, _⟩ := hrow.row
          exact ⟨a', c', by rw [hM]; exact e⟩
        subst hv
        have HROW := hide hrow
        have HM := hide hM
        have c4 := HW4.out.cell
        have HG := hide HB4.out.2.1
        have HW5 : Hid (WiAt w wb wm (n' + 1) g i (updI sl (i : Int) v3) w4) := by
          have h := HW4.out
          rw [show i - 1 + 1 = i from by omega] at h
          exact h
        clear hrow hM hv4 HW HB HWD HBD HOF H3 HW3 HB3 hu4 HK4 HW4 c0 d0
        go_wp2_with fail
        go_loopw [75] (fun q wr => ∃ q' : Nat, q' ≤ M ∧ q = .int .i64 q' ∧ Hid (Below w4.heap.size w4 wr)) (fun q _ => M - (intOf q).toNat)
        case atStart => exact ⟨0, Nat.zero_le _, rfl, Below.refl _ _⟩
        case round =>
          obtain ⟨q, hq, rfl, HBW⟩ := hrel
          by_cases hqM : q < M
          · obtain ⟨k, hk⟩ : ∃ k, (ofL g (i : Int))[q]? = some k := ⟨(ofL g (i : Int))[q]'(by rw [← HM.out]; exact hqM), List.getElem?_eq_getElem _⟩
            obtain ⟨gr, ro, rfl, ck⟩ := slice_cells (HROW.out.later HBW.out).row rfl q k hk
            have hmk := List.mem_of_getElem? hk
            have HKI : Hid (I64 k) := by
              have := (mem_ofL.1 hmk).1
              unfold Hid I64
              omega
            have hki : ¬ k = (i : Int) := fun e => ofL_self HG.out (i : Int) (e ▸ hmk)
            have hki' : ¬ (i : Int) = k := fun e => hki e.symm
            have HCT : Hid ((ofL g k).contains (i : Int) = true) := List.contains_iff_mem.2 (ofL_symm HG.out hmk)
            have q1 : (0 : Int) ≤ (q : Int) := by omega
            have q2 : (q : Int) < (M : Int) := by omega
            have HOF := hide ((HB4.out.later HBW.out).of HKI.out)
            clear hk hmk
            go_wp2_with fail
            refine HOF.out.mono ?_
            rintro e w5 ⟨v5, rfl, H5⟩
            have HBW5 := hide (HBW.out.trans (H5.out.2.mono HBW.out.size))
            have HCN := hide (icontains_any H5.out.1.row (by have := ofL_length g k; omega) (i : Int))
            rw [HCT.out] at HCN
            clear H5 HOF
            go_wp2_with fail
            refine HCN.out.mono ?_
            rintro e w6 ⟨rfl, rfl⟩
            go_wp2_with fail
            go_roundw
            case rel => exact ⟨q + 1, by omega, by go_num, HBW5.out⟩
            case measure => simp [intOf]; omega
          · obtain rfl : q = M := by omega
            have HF : Hid (∃ sl n'', n'' ≤ i + 1 ∧ WiAt w wb wm n'' g (i + 1 - 1) sl wr ∧ BSt w bp mo n g wr) := ⟨_, n' + 1, by omega, HW5.out.later HBW.out, HB4.out.later HBW.out⟩
            go_wp2_with fail
            go_roundw
            case rel => exact ⟨i + 1, by omega, by omega, by go_num, HF.out⟩
            case measure => simp [intOf]; omega
      · obtain rfl : i = 100 := by omega
        obtain ⟨sl, n', hn', hWi, hB⟩ := HI.out
        rw [show 100 - 1 = 99 from rfl] at hWi
        have HW := hide hWi
        have HB := hide hB
        have HG := hide hB.2.1
        have HE := hide (hB.end' HXI.out)
        clear hWi hB HI
        go_wp2_with fail
        refine HE.out.mono ?_
        rintro e wE ⟨uE, rfl, HEE⟩
        obtain ⟨T, hT⟩ : ∃ T, T = toldL g X := ⟨_, rfl⟩
        rw [← hT] at HEE
        have HTD : Hid (Told g X T) := by rw [hT]; exact toldL_told HG.out X
        have HAP : Hid (∀ y, y ∉ X :: T → ofL (wo g (X :: T)) y = ofL g y) := by rw [hT]; exact fun y hy => ofL_apart HG.out hy
        obtain ⟨M, hM⟩ : ∃ M, M = T.length := ⟨_, rfl⟩
        have hM99 : M ≤ 99 := by rw [hM]; exact HTD.out.le
        obtain ⟨ta, tc, hv⟩ : ∃ ta tc, uE = .slice ta M tc := by
          obtain ⟨a', c', e, _⟩ := HEE.out.1.row
          exact ⟨a', c', by rw [hM]; exact e⟩
        subst hv
        have HTR : Hid (NRow w.heap.size (.slice ta M tc) T wE) := own_base HEE.out.1 HB.out.2.2.size
        have HWE := hide (HW.out.bond HB.out.1 HNE.out HEE.out.2.2)
        have HBE := hide HEE.out.2.1
        have HM := hide hM
        clear hT hM HEE HE HW HB
        go_wp2_with fail
        go_loopw [96] (fun q wr => ∃ q' : Nat, q' ≤ M ∧ q = .int .i64 q' ∧ Hid (Below wE.heap.size wE wr)) (fun q _ => M - (intOf q).toNat)
        case atStart => exact ⟨0, Nat.zero_le _, rfl, Below.refl _ _⟩
        case round =>
        obtain ⟨q, hq, rfl, HBW⟩ := hrel
        by_cases hqM : q < M
        · obtain ⟨y, hy⟩ : ∃ y, T[q]? = some y := ⟨T[q]'(by rw [← HM.out]; exact hqM), List.getElem?_eq_getElem _⟩
          obtain ⟨gr, ro, rfl, ck⟩ := slice_cells (HTR.out.later HBW.out).row rfl q y hy
          have HY := hide hy
          have HYI : Hid (I64 y) := by
            have := HTD.out.rng y (List.mem_of_getElem? hy)
            unfold Hid I64
            omega
          have q1 : (0 : Int) ≤ (q : Int) := by omega
          have q2 : (q : Int) < (M : Int) := by omega
          have q3 : (q : Int) ≤ (tc : Int) := by
            have h := HTR.out.2
            rcases h with ⟨e, _⟩ | ⟨_, cap, _, e, _, _, h, _⟩
            · injection e with e1 e2 e3
              omega
            · injection e with e1 e2 e3
              rw [← HM.out] at h
              omega
          clear hy
          have HBA : Hid (Below wr.heap.size wr ((wr.alloc (.cells #[.int .i64 y] 3)).alloc (.cells #[.int .i64 X] 3))) := ((Below.refl _ _).alloc (Nat.le_refl _) _).alloc (by simp) _
          have HFR := hide (from_row X T gr ro q tc (wr.heap.size + 1) ((wr.alloc (.cells #[.int .i64 y] 3)).alloc (.cells #[.int .i64 X] 3)) (by rw [← HM.out]; omega) (by rw [← HM.out]; omega) (fun i k hk => by
            obtain ⟨g', o', e, hc⟩ := slice_cells (HTR.out.later (HBW.out.trans (HBA.out.mono HBW.out.size))).row rfl i k hk
            injection e with e
            injection e with e1 e2
            subst e1 e2
            exact hc) (by
            have h := heap_alloc_new (wr.alloc (.cells #[.int .i64 y] 3)) (.cells #[.int .i64 X] 3)
            rw [World.size_alloc] at h
            exact h))
          obtain ⟨g5, c5, w5, hr5, hn5, hk5⟩ := HFR.out
          have HN5 := hide hn5
          have HR5 := hide hr5
          have HB5 : Hid (Below wE.heap.size wE w5) := by
            refine (HBW.out.trans (HBA.out.mono HBW.out.size)).trans (hk5.below (Nat.le_trans HBW.out.size HBA.out.size) fun b hb e => ?_)
            have := HBW.out.size
            omega
          have HY5 : Hid (w5.cell? ⟨wr.heap.size, 0, none⟩ = some (.int .i64 y) ∧ wr.heap.size < w5.heap.size) := by
            have h1 : ((wr.alloc (.cells #[.int .i64 y] 3)).alloc (.cells #[.int .i64 X] 3)).heap[wr.heap.size]? = some (.cells #[.int .i64 y] 3 (0, 0)) := (((Below.refl _ _).alloc (Nat.le_refl _) _).block wr.heap.size (by simp)).trans (heap_alloc_new wr _)
            have h2 := (Array.getElem?_eq_some_iff.1 h1).1
            exact ⟨cell_row ((hk5.block wr.heap.size h2 (by omega)).trans h1) 0, Nat.lt_of_lt_of_le h2 hk5.size⟩
          obtain ⟨yb, hyb⟩ : ∃ yb, yb = wr.heap.size := ⟨_, rfl⟩
          rw [← hyb] at HY5
          have HYB := hide hyb
          have HFL : Hid ((X :: T.take q).length ≤ 1000000 ∧ (∀ k ∈ X :: T.take q, 1 ≤ k ∧ k ≤ (99 : Nat))) := by
            refine ⟨by rw [List.length_cons, List.length_take]; omega, fun k hk => ?_⟩
            rcases List.mem_cons.1 hk with e | e
            · omega
            · have := HTD.out.rng k (List.mem_of_mem_take e)
              omega
          have HCN := hide (icontains_any HN5.out.row HFL.out.1 y)
          rw [show (X :: T.take q).contains y = false from by simpa using told_ahead HTD.out HY.out] at HCN
          have HOF := hide ((HBE.out.later HB5.out).of0 HYI.out (ofL_gone (List.mem_cons_of_mem _ (List.mem_of_getElem? HY.out))))
          have HCF : Hid (∀ W, Below w5.heap.size w5 W → Calls Try.prog 57 #[.slice (some ⟨g5, 0, none⟩) (1 + q) c5, .func (.func 58) #[] #[.pointer (some ⟨wb, 0, none⟩), .pointer (some ⟨yb, 0, none⟩)]] W fun e w' => e = .returned (.bool true) ∧ w' = W) := fun W hW => by
            have h := containsf_any (HN5.out.later hW).row HFL.out.1 (HWE.out.later (HB5.out.trans (hW.mono HB5.out.size))) (by omega) HFL.out.2 (y := y) ((hW.cell (p := ⟨yb, 0, none⟩) HY5.out.2).trans HY5.out.1)
            rw [show ((X :: T.take q).any fun k => (ofL g k).contains y) = true from by
              obtain ⟨k, hk, hk2⟩ := HTD.out.from' q y HY.out
              exact List.any_eq_true.2 ⟨k, hk, List.contains_iff_mem.2 hk2⟩] at h
            exact h
          have y5 := HY5.out.1
          clear hn5 hk5 hr5 HFR HBA hyb
          go_wp2_with (first
            | (at_builtin; refine wpList_append_nt 54 rfl _ _ rfl rfl rfl HR5.out ?_; rw [← HYB.out]; clear HR5))
          refine HCN.out.mono ?_
          rintro e w6 ⟨rfl, rfl⟩
          go_wp2_with fail
          refine HOF.out.mono ?_
          rintro e w7 ⟨a7, c7, rfl, hb7⟩
          have HB7 := hide hb7.out
          have HBW7 := hide (HB5.out.trans (HB7.out.mono HB5.out.size))
          have HCF7 := hide (HCF.out _ HB7.out)
          clear hb7 HCF HOF HCN y5
          go_wp2_with fail
          refine HCF7.out.mono ?_
          rintro e w8 ⟨rfl, rfl⟩
          go_wp2_with fail
          go_roundw
          case rel => exact ⟨q + 1, by omega, by go_num, HBW7.out⟩
          case measure => simp [intOf]; omega
        · obtain rfl : q = M := by omega
          have HWF := hide (HWE.out.later HBW.out)
          have HBF := hide (HBE.out.later HBW.out)
          have HTF := hide (HTR.out.later HBW.out)
          obtain ⟨wF, hwF⟩ : ∃ wF, wF = wr := ⟨_, rfl⟩
          subst hwF
          clear HWE HBE HTR HBW
          go_wp2_with fail
          go_loopw [16] (fun i wr => ∃ i' : Nat, 1 ≤ i' ∧ i' ≤ 100 ∧ i = .int .i64 i' ∧ Hid (Below wF.heap.size wF wr)) (fun i _ => 100 - (intOf i).toNat)
          case atStart => exact ⟨1, by omega, by omega, rfl, Below.refl _ _⟩
          case round =>
          obtain ⟨i, hi1, hi2, rfl, HBW⟩ := hrel
          by_cases hi : i ≤ 99
          · have hi' : (i : Int) ≤ 99 := by omega
            have HII : Hid (I64 (i : Int)) := num64 i (by omega)
            have HD0 : Hid (Below wF.heap.size wF wr.drew) := HBW.out.drew
            have c0 := (HWF.out.later HBW.out).cell
            have HCB : Hid (∀ W, Below wF.heap.size wF W → W.cell? ⟨wb, 0, none⟩ = some (.map (some wm))) := fun W hW => (HWF.out.later hW).cell
            by_cases hiX : (i : Int) = X
            · have hiX' : ((i : Int) != X) = false := by simp [hiX]
              go_wp2_with fail
              go_region
              go_wp2_with fail
              go_roundw
              case rel => exact ⟨i + 1, by omega, by omega, by go_num, HD0.out⟩
              case measure => simp [intOf]; omega
            · have hiX' : ((i : Int) != X) = true := by simpa using hiX
              have HCN := hide (icontains_any (HTF.out.later HD0.out).row (by rw [← HM.out]; omega) (i : Int))
              obtain ⟨t, ht⟩ : ∃ t, t = T.contains (i : Int) := ⟨_, rfl⟩
              rw [← ht] at HCN
              have HT := hide ht
              clear ht
              cases t
              · have HNI : Hid ((i : Int) ∉ X :: T) := fun hm => by
                  rcases List.mem_cons.1 hm with e | e
                  · exact hiX e
                  · have h := HT.out
                    rw [List.contains_iff_mem.2 e] at h
                    cases h
                have HOF : Hid (∀ W, Below wF.heap.size wF W → Calls Try.prog 56 #[.pointer (some ⟨bp, 0, none⟩), .int .i64 i] W fun e w' => ∃ v, e = .returned v ∧ Hid (NRow W.heap.size v (ofL g (i : Int)) w' ∧ Below W.heap.size W w')) := fun W hW => by
                  have h := (HBF.out.later hW).of HII.out
                  rw [HAP.out _ HNI.out] at h
                  exact h
                have HLK : Hid (∀ W, Below wF.heap.size wF W → (Instr.lookup 108 (.map (some wm)) (.int .i64 (i : Int)) false).run Try.prog W = .ok (sl (i : Int)) W) := fun W hW => (HWF.out.later hW).look (by omega) (by omega) (by omega)
                have HRO : Hid (∀ W, Below wF.heap.size wF W → NRow w.heap.size (sl (i : Int)) (ofL g (i : Int)) W) := fun W hW => (HWF.out.later hW).row (i : Int) (by omega) (by omega)
                have hl0 := HLK.out _ HD0.out
                have HL99 := hide (ofL_length g (i : Int))
                clear HNI HT
                go_wp2_with fail
                go_region_held3 (fun W => W.cell? ⟨wb, 0, none⟩ = some (.map (some wm))) (first | (go_keep; done) | exact HCB.out _ HD0.out | exact HCB.out _ HB3.out | exact HCB.out _ HB4.out) ((first
                  | (go_at_call 42; refine HCN.out.mono ?_; rintro e w2 ⟨rfl, rfl⟩)
                  | (go_at_call 56; refine (HOF.out _ HD0.out).mono ?_; rintro e w3 ⟨v3, rfl, H3⟩; have HB3 := hide (HD0.out.trans (H3.out.2.mono HD0.out.size)); have hl3 := HLK.out _ HB3.out; have HEQ := hide (iequal_any H3.out.1.row (HRO.out _ HB3.out).row (by have := HL99.out; omega)))
                  | (go_at_call 54; refine HEQ.out.mono ?_; rintro e w4 ⟨rfl, hb4⟩; have HB4 := hide (HB3.out.trans (hb4.mono HB3.out.size)); clear hb4)))
                all_goals
                  go_wp2_with fail
                  go_roundw
                  case rel => exact ⟨i + 1, by omega, by omega, by go_num, HB4.out⟩
                  case measure => simp [intOf]; omega
              · go_wp2_with fail
                refine wp_region_held_drew (S := fun _ => True) (by kernel_rfl) trivial (fun _ => ?_)
                refine wpAnyH_take (i := 0) (v := ?_) rfl (by kernel_rfl) (by kernel_rfl) (by kernel_rfl) (fun _ _ _ h => h) (Or.inl ⟨rfl, ?_⟩) trivial ?_
                rotate_left
                · intro w' _
                  go_simp
                  try with_reducible rfl
                try simp only [Act.put, List.getElem_toArray, List.getElem_cons_zero, List.setIfInBounds_toArray, List.set_cons_zero, List.set_cons_succ]
                refine wpAnyH_take (i := 1) (v := ?_) rfl (by kernel_rfl) (by kernel_rfl) (by kernel_rfl) (fun _ _ _ h => h) (Or.inl ⟨rfl, ?_⟩) trivial ?_
                rotate_left
                · intro w' _
                  go_simp
                  try with_reducible rfl
                try simp only [Act.put, List.getElem_toArray, List.getElem_cons_zero, List.getElem_cons_succ, List.setIfInBounds_toArray, List.set_cons_zero, List.set_cons_succ]
                refine wpAnyH_take (i := 2) (v := ?_) rfl (by kernel_rfl) (by kernel_rfl) (by kernel_rfl) (fun _ _ _ h => h) (Or.inl ⟨rfl, ?_⟩) trivial ?_
                rotate_left
                · intro w' _
                  go_simp
                  try with_reducible rfl
                try simp only [Act.put, List.getElem_toArray, List.getElem_cons_zero, List.getElem_cons_succ, List.setIfInBounds_toArray, List.set_cons_zero, List.set_cons_succ]
                refine wpAnyH_take (i := 3) (v := ?_) rfl (by kernel_rfl) (by kernel_rfl) (by kernel_rfl) (fun _ _ _ h => h) (Or.inl ⟨rfl, ?_⟩) trivial ?_
                rotate_left
                · intro w' _
                  go_simp
                  try with_reducible rfl
                try simp only [Act.put, List.getElem_toArray, List.getElem_cons_zero, List.getElem_cons_succ, List.setIfInBounds_toArray, List.set_cons_zero, List.set_cons_succ]
                refine wpAnyH_take (i := 4) (v := ?_) rfl (by kernel_rfl) (by kernel_rfl) (by kernel_rfl) (fun _ _ _ h => h) (Or.inl ⟨rfl, ?_⟩) trivial ?_
                rotate_left
                · intro w' _
                  go_simp
                  try with_reducible rfl
                try simp only [Act.put, List.getElem_toArray, List.getElem_cons_zero, List.getElem_cons_succ, List.setIfInBounds_toArray, List.set_cons_zero, List.set_cons_succ]
                refine wpAnyH_take (i := 5) (v := ?_) rfl (by kernel_rfl) (by kernel_rfl) (by kernel_rfl) (fun _ _ _ h => h) (Or.inl ⟨rfl, ?_⟩) trivial ?_
                rotate_left
                · intro w' _
                  go_simp
                  try with_reducible rfl
                try simp only [Act.put, List.getElem_toArray, List.getElem_cons_zero, List.getElem_cons_succ, List.setIfInBounds_toArray, List.set_cons_zero, List.set_cons_succ]
                refine wpAnyH_ready (rs := [6]) (by kernel_rfl) (by simp) ?_
                refine AllReadyH.cons rfl (fun K hK => ?_) AllReadyH.nil
                go_simp
                refine HCN.out.mono ?_
                rintro e w2 ⟨rfl, rfl⟩
                refine hK.out _ _ trivial (fun _ => ?_)
                clear hK K
                try simp only [Act.put, List.getElem_toArray, List.getElem_cons_zero, List.getElem_cons_succ, List.setIfInBounds_toArray, List.set_cons_zero, List.set_cons_succ]
                refine wpAnyH_take (i := 7) (v := ?_) rfl (by kernel_rfl) (by kernel_rfl) (by kernel_rfl) (fun _ _ _ h => h) (Or.inl ⟨rfl, ?_⟩) trivial ?_
                rotate_left
                · intro w' _
                  go_simp
                  try with_reducible rfl
                try simp only [Act.put, List.getElem_toArray, List.getElem_cons_zero, List.getElem_cons_succ, List.setIfInBounds_toArray, List.set_cons_zero, List.set_cons_succ]
                refine wpAnyH_take (i := 8) (v := ?_) rfl (by kernel_rfl) (by kernel_rfl) (by kernel_rfl) (fun _ _ _ h => h) (Or.inl ⟨rfl, ?_⟩) trivial ?_
                rotate_left
                · intro w' _
                  go_simp
                  try with_reducible rfl
                try simp only [Act.put, List.getElem_toArray, List.getElem_cons_zero, List.getElem_cons_succ, List.setIfInBounds_toArray, List.set_cons_zero, List.set_cons_succ]
                refine wpAnyH_take (i := 9) (v := ?_) rfl (by kernel_rfl) (by kernel_rfl) (by kernel_rfl) (fun _ _ _ h => h) (Or.inl ⟨rfl, ?_⟩) trivial ?_
                rotate_left
                · intro w' _
                  go_simp
                  try with_reducible rfl
                try simp only [Act.put, List.getElem_toArray, List.getElem_cons_zero, List.getElem_cons_succ, List.setIfInBounds_toArray, List.set_cons_zero, List.set_cons_succ]
                refine wpAnyH_take (i := 10) (v := undef) rfl (by kernel_rfl) (by kernel_rfl) (by kernel_rfl) (fun _ _ _ h => h) (Or.inr ⟨rfl, rfl⟩) trivial ?_
                try simp only [Act.put, List.getElem_toArray, List.getElem_cons_zero, List.getElem_cons_succ, List.setIfInBounds_toArray, List.set_cons_zero, List.set_cons_succ]
                refine wpAnyH_take (i := 11) (v := undef) rfl (by kernel_rfl) (by kernel_rfl) (by kernel_rfl) (fun _ _ _ h => h) (Or.inr ⟨rfl, rfl⟩) trivial ?_
                try simp only [Act.put, List.getElem_toArray, List.getElem_cons_zero, List.getElem_cons_succ, List.setIfInBounds_toArray, List.set_cons_zero, List.set_cons_succ]
                refine wpAnyH_take (i := 12) (v := undef) rfl (by kernel_rfl) (by kernel_rfl) (by kernel_rfl) (fun _ _ _ h => h) (Or.inr ⟨rfl, rfl⟩) trivial ?_
                try simp only [Act.put, List.getElem_toArray, List.getElem_cons_zero, List.getElem_cons_succ, List.setIfInBounds_toArray, List.set_cons_zero, List.set_cons_succ]
                refine wpAnyH_take (i := 13) (v := undef) rfl (by kernel_rfl) (by kernel_rfl) (by kernel_rfl) (fun _ _ _ h => h) (Or.inr ⟨rfl, rfl⟩) trivial ?_
                try simp only [Act.put, List.getElem_toArray, List.getElem_cons_zero, List.getElem_cons_succ, List.setIfInBounds_toArray, List.set_cons_zero, List.set_cons_succ]
                refine wpAnyH_take (i := 14) (v := undef) rfl (by kernel_rfl) (by kernel_rfl) (by kernel_rfl) (fun _ _ _ h => h) (Or.inr ⟨rfl, rfl⟩) trivial ?_
                try simp only [Act.put, List.getElem_toArray, List.getElem_cons_zero, List.getElem_cons_succ, List.setIfInBounds_toArray, List.set_cons_zero, List.set_cons_succ]
                refine wpAnyH_take (i := 15) (v := undef) rfl (by kernel_rfl) (by kernel_rfl) (by kernel_rfl) (fun _ _ _ h => h) (Or.inr ⟨rfl, rfl⟩) trivial ?_
                try simp only [Act.put, List.getElem_toArray, List.getElem_cons_zero, List.getElem_cons_succ, List.setIfInBounds_toArray, List.set_cons_zero, List.set_cons_succ]
                refine wpAnyH_take (i := 16) (v := undef) rfl (by kernel_rfl) (by kernel_rfl) (by kernel_rfl) (fun _ _ _ h => h) (Or.inr ⟨rfl, rfl⟩) trivial ?_
                try simp only [Act.put, List.getElem_toArray, List.getElem_cons_zero, List.getElem_cons_succ, List.setIfInBounds_toArray, List.set_cons_zero, List.set_cons_succ]
                refine wpAnyH_take (i := 17) (v := undef) rfl (by kernel_rfl) (by kernel_rfl) (by kernel_rfl) (fun _ _ _ h => h) (Or.inr ⟨rfl, rfl⟩) trivial ?_
                try simp only [Act.put, List.getElem_toArray, List.getElem_cons_zero, List.getElem_cons_succ, List.setIfInBounds_toArray, List.set_cons_zero, List.set_cons_succ]
                refine wpAnyH_take (i := 18) (v := ?_) rfl (by kernel_rfl) (by kernel_rfl) (by kernel_rfl) (fun _ _ _ h => h) (Or.inl ⟨rfl, ?_⟩) trivial ?_
                rotate_left
                · intro w' _
                  go_simp
                  try with_reducible rfl
                try simp only [Act.put, List.getElem_toArray, List.getElem_cons_zero, List.getElem_cons_succ, List.setIfInBounds_toArray, List.set_cons_zero, List.set_cons_succ]
                refine wpAnyH_done (by kernel_rfl) ?_ _
                go_wp2_with fail
                go_roundw
                case rel => exact ⟨i + 1, by omega, by omega, by go_num, HD0.out⟩
                case measure => simp [intOf]; omega
          · obtain rfl : i = 100 := by omega
            have HOF := hide ((HBF.out.later HBW.out).of0 HXI.out (ofL_gone (List.mem_cons_self ..)))
            have HBL := hide (HBF.out.later HBW.out).2.2
            go_wp2_with fail
            refine HOF.out.mono ?_
            rintro e w7 ⟨a7, c7, rfl, hb7⟩
            go_wp2_with fail
            go_ret
            exact ⟨rfl, HBL.out.trans (hb7.out.mono HBL.out.size)⟩
end Go.Proofs.Ytdfpjpmdldigdab
