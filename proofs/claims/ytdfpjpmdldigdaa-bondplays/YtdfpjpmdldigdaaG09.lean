/- What is proved here: BondPlays: bonds do what the document says, call by call. No condition but that what is handed in lies in memory. -/
import Derived.Test.YtdfpjpmdldigdaaG08
import Derived.Deep.CutBlock
import Derived.Deep.CutRange
namespace Go.Proofs.Ytdfpjpmdldigdaa
open Go.RowKit Go.Maps

def PD (w : World) (bp sp mp mw mb n : Nat) (W : World) : Prop := ∃ mo g h l v, PB w bp mo n g sp mp mw mb h l v W ∧ Dir h g
def cbox (ck cx cy : Int) : Obj := .cells #[.int .i64 ck, .int .i64 cx, .int .i64 cy] 106 (0, 0)
def PDQ (w : World) (bp sp mp mw mb n q : Nat) (ck cx cy : Int) (W : World) : Prop := ∃ mo g h l v, PB w bp mo n g sp mp mw mb h l v W ∧ Dir h g ∧ QB w bp mo sp mp mb v q (cbox ck cx cy) W
theorem QB.cells {w : World} {bp : Nat} {mo : Option Nat} {sp mp mb : Nat} {v : Value} {q : Nat} {ck cx cy : Int} {W : World} (h : QB w bp mo sp mp mb v q (cbox ck cx cy) W) : W.cell? ⟨q, 0, none⟩ = some (.int .i64 ck) ∧ W.cell? ⟨q, 1, none⟩ = some (.int .i64 cx) ∧ W.cell? ⟨q, 2, none⟩ = some (.int .i64 cy) := ⟨cell_row h.1 0, cell_row h.1 1, cell_row h.1 2⟩
/-- Who is told, of the ends that the document tells. -/
def wantL (l : List (Int × Int)) : List Int := (l.map Prod.fst).drop 1
theorem want_evL (how x : Int) (r : List Int) : wantL (evL how (x :: r)) = r := by
  unfold wantL
  rw [evL_tail]
  rfl
theorem want_next (l : List (Int × Int)) (i : Nat) (k : Int × Int) (hk : l[i]? = some k) : wantL (l.take (i + 1)) = wantL (l.take i) ++ if i = 0 then [] else [k.1] := by
  unfold wantL
  rw [List.take_add_one, hk, List.map_append]
  have hlt := (List.getElem?_eq_some_iff.1 hk).1
  cases i with
  | zero => simp
  | succ i =>
    rw [List.drop_append_of_le_length (by simp; omega)]
    simp
theorem want_len (l : List (Int × Int)) : (wantL l).length ≤ l.length := by
  unfold wantL
  simp
theorem ev_cells (l : List (Int × Int)) (i : Nat) (k : Int × Int) (hk : l[i]? = some k) (j : Nat) (u : Value) (hu : (evC k)[j]? = some u) : (l.flatMap evC)[i * 7 + j]? = some u := by
  induction l generalizing i with
  | nil => simp at hk
  | cons x l ih =>
    cases i with
    | zero =>
      simp at hk
      subst hk
      rw [List.flatMap_cons, List.getElem?_append_left (by have := (List.getElem?_eq_some_iff.1 hu).1; simp [evC] at this ⊢; omega)]
      simpa using hu
    | succ i =>
      have := ih i (by simpa using hk)
      rw [List.flatMap_cons, List.getElem?_append_right (by simp [evC]; omega)]
      have e : (i + 1) * 7 + j - (evC x).length = i * 7 + j := by simp [evC]; omega
      rw [e]
      exact this
theorem DsAt.ev {base sp mp mw mb n : Nat} {h : Int × Int → Bool} {l : List (Int × Int)} {v : Value} {w : World} (d : DsAt base sp mp mw mb n h l v w) : ∃ va vc, v = .slice va l.length vc ∧ ∀ (i : Nat) (k : Int × Int), l[i]? = some k → ∃ g, va = some ⟨g, 0, none⟩ ∧ ∀ (j : Nat) (u : Value), (evC k)[j]? = some u → w.cell? ⟨g, i * 7 + j, none⟩ = some u := by
  have hr : w.ownsRow base 110 7 v l.length (l.flatMap evC) := d.evs
  rcases d.evs.2 with ⟨e, e0⟩ | ⟨g, cap, cur, e, _⟩
  · refine ⟨none, 0, by rw [e, e0], fun i k hk => ?_⟩
    rw [List.eq_nil_of_length_eq_zero e0] at hk
    simp at hk
  · refine ⟨_, cap, e, fun i k hk => ⟨g, rfl, fun j u hu => ?_⟩⟩
    subst e
    have h := World.ownsRow.cells hr (g := g) rfl _ _ (ev_cells l i k hk j u hu)
    rw [Addr.add_lit, Nat.zero_add] at h
    exact h
set_option maxRecDepth 100000 in
set_option maxHeartbeats 8000000 in
theorem bplays_walk (l : List (Int × Int × Int)) (la : Option Addr) (lc : Nat) (len : Nat) (w : World) (hlen : l.length = len) (hll : len ≤ 9223372036854775807) (HL : Hid (Bcs w.heap.size w la l)) :
    Calls Try.prog 10 #[.slice la len lc] w fun e w' => e = .returned (.bool true) ∧ Below w.heap.size w w' := by
  obtain ⟨it, hit, htz0, htz1, htz2⟩ := info_parts infoInt
  have HIT : Hid (Try.prog.info? 3 = some it ∧ it.zero = some (.int .i64 0) ∧ it.size = 1 ∧ it.bytes = 8) := ⟨hit, htz0, htz1, htz2⟩
  clear hit htz0 htz1 htz2
  have HNW := hide (bnew_any w)
  go_enter Try.func10, Try.ntmps10
  go_wp2_with fail
  refine HNW.out.mono ?_
  rintro e w1 ⟨rfl, h1⟩
  have H1 := hide h1
  obtain ⟨bp, hbp⟩ : ∃ bp, bp = w.heap.size := ⟨_, rfl⟩
  rw [← hbp]
  have HBP := hide hbp
  clear h1 HNW hbp
  by_cases h100 : len ≤ 100
  rotate_left
  · have h100' : (100 : Int) < (len : Int) := by omega
    go_wp2_with fail
    go_ret
    exact ⟨rfl, by rw [H1.out]; exact (Below.refl _ _).alloc (Nat.le_refl _) _⟩
  · have h100' : ¬ (100 : Int) < (len : Int) := by omega
    go_wp2_with fail
    refine (bnsys_any w1).mono ?_
    rintro e w2 ⟨rfl, hw2⟩
    obtain ⟨sp, hsp⟩ : ∃ sp, sp = w1.heap.size + 3 := ⟨_, rfl⟩
    obtain ⟨mp, hmp⟩ : ∃ mp, mp = w1.heap.size := ⟨_, rfl⟩
    obtain ⟨mw, hmw⟩ : ∃ mw, mw = w1.heap.size + 1 := ⟨_, rfl⟩
    obtain ⟨mb, hmb⟩ : ∃ mb, mb = w1.heap.size + 2 := ⟨_, rfl⟩
    rw [← hsp]
    have HRA : Hid (PD w bp sp mp mw mb 0 w2) := by
      rw [hsp, hmp, hmw, hmb, HBP.out]
      exact ⟨_, _, _, _, _, PB.start w H1.out hw2, Dir.none⟩
    clear hsp hmp hmw hmb hw2 H1 HBP
    go_wp2_with fail
    go_loopw [23] (fun i wr => ∃ j n : Nat, j ≤ len ∧ i = .int .i64 j ∧ n ≤ 2 * j ∧ Hid (PD w bp sp mp mw mb n wr)) (fun i _ => len - (intOf i).toNat)
    case atStart => exact ⟨0, 0, Nat.zero_le _, rfl, by omega, HRA.out⟩
    case round =>
    obtain ⟨j, n, hj, rfl, hn, HR⟩ := hrel
    by_cases hjl : j < len
    · obtain ⟨c, hc⟩ : ∃ c, l[j]? = some c := ⟨l[j]'(by omega), List.getElem?_eq_getElem _⟩
      obtain ⟨ck, cx, cy⟩ := c
      obtain ⟨lb, lo, rfl, hlb, HCC⟩ : ∃ b o, la = some ⟨b, o, none⟩ ∧ b < w.heap.size ∧ Hid ((∀ (t : Nat) (u : Value), (b3 (ck, cx, cy))[t]? = some u → w.cell? ⟨b, o + j * 3 + t, none⟩ = some u) ∧ I64 ck ∧ I64 cx ∧ I64 cy) := by
        rcases HL.out with e | ⟨b, o, e, hb, h⟩
        · rw [e] at hc
          simp at hc
        · exact ⟨b, o, e, hb, h j _ hc⟩
      obtain ⟨mo, g, h, ev, v, hP, hD⟩ := HR.out
      have HP := hide hP
      have HD := hide hD
      have hcell : ∀ (t : Nat) (u : Value), (b3 (ck, cx, cy))[t]? = some u → wr.cell? ⟨lb, lo + j * 3 + t, none⟩ = some u := fun t u ht => (hP.below.cell (p := ⟨lb, lo + j * 3 + t, none⟩) hlb).trans (HCC.out.1 t u ht)
      have x0 : wr.cell? ⟨lb, lo + j * 3, none⟩ = some (.int .i64 ck) := hcell 0 _ rfl
      have x1 := hcell 1 _ rfl
      have x2 := hcell 2 _ rfl
      have j1 : (0 : Int) ≤ (j : Int) := by omega
      have j2 : (j : Int) < (len : Int) := by omega
      have HIX := hide HCC.out.2.2.1
      have HIY := hide HCC.out.2.2.2
      have HW2 : Hid (∃ w2 q, (w2 = wr.alloc (.cells #[.int .i64 ck, .int .i64 cx, .int .i64 cy] 106) ∧ q = wr.heap.size) ∧ PB w bp mo n g sp mp mw mb h ev v w2 ∧ QB w bp mo sp mp mb v q (cbox ck cx cy) w2) := ⟨_, _, ⟨rfl, rfl⟩, hP.later ((Below.refl _ _).alloc (Nat.le_refl _) _), hP.new _⟩
      clear hcell hP hD HCC
      go_upto_block 2 with fail
      obtain ⟨w2, q, ⟨hw2, hq⟩, hP2, hQ2⟩ := HW2.out
      rw [← hw2, ← hq]
      have HP2 := hide hP2
      have HQ2 := hide hQ2
      clear hw2 hq HW2 hP2 hQ2 x0 x1 x2 HP
      go_cut [7, 8, 9, 10, 11] from 29 to 111 (fun v7 v8 v9 v10 v11 wx => ∃ n', n' ≤ n + 2 ∧ Hid (PDQ w bp sp mp mw mb n' q ck cx cy wx))
      case first =>
        by_cases h0 : ck = 0
        · subst h0
          obtain ⟨_, c1, c2⟩ := HQ2.out.cells
          have HIA := hide fun W => binr_any cx 1 99 W
          have HIB := hide fun W => binr_any cy 1 99 W
          obtain ⟨pa, hpa⟩ : ∃ pa, (decide (1 ≤ cx) && decide (cx ≤ 99)) = pa := ⟨_, rfl⟩
          obtain ⟨pb, hpb⟩ : ∃ pb, (decide (1 ≤ cy) && decide (cy ≤ 99)) = pb := ⟨_, rfl⟩
          have HLE : Hid (lnkE cx cy = if pa = true ∧ pb = true ∧ cx ≠ cy then 0 else 1) := by
            rw [← hpa, ← hpb]
            rfl
          rw [hpa] at HIA
          rw [hpb] at HIB
          have HPA : Hid (pa = true → 1 ≤ cx ∧ cx ≤ 99) := fun e => by rw [e] at hpa; simpa using hpa
          have HPB : Hid (pb = true → 1 ≤ cy ∧ cy ≤ 99) := fun e => by rw [e] at hpb; simpa using hpb
          clear hpa hpb
          have HLK := hide (HP2.out.link HIX.out HIY.out (by omega))
          by_cases hok : pa = true ∧ pb = true ∧ cx ≠ cy
          · obtain ⟨rfl, rfl, hne⟩ := hok
            have e0 : lnkE cx cy = 0 := by rw [HLE.out, if_pos ⟨rfl, rfl, hne⟩]
            rw [e0, if_pos rfl] at HLK
            have HDL := hide (HD.out.link (HPA.out rfl) (HPB.out rfl) hne)
            have hne' : ¬ cy = cx := fun e => hne e.symm
            clear e0 HLE HPA HPB
            go_wp2_with fail
            refine (HIA.out _).mono ?_
            rintro e w3 ⟨rfl, rfl⟩
            go_wp2_with fail
            refine (HIB.out _).mono ?_
            rintro e w4 ⟨rfl, rfl⟩
            go_wp2_with fail
            refine HLK.out.mono ?_
            rintro e w5 ⟨rfl, H5⟩
            obtain ⟨mo5, hP5, hQS5⟩ := H5.out
            have HQ5 := hide (hQS5 _ _ HQ2.out)
            have HP5 := hide hP5
            have HP5D := hide (hP5.later (Below.refl _ _).drew)
            have HQ5D := hide (HQ5.out.later (Below.refl _ _).drew)
            obtain ⟨w6, hu6, H6⟩ := HP5D.out.put (k := (cx, cy)) ⟨HIX.out, HIY.out⟩ (by omega)
            have HQ6 := hide (H6.out.2 _ _ HQ5D.out)
            have d5 := hP5.ds.cells.2.1
            obtain ⟨_, d1, d2⟩ := HQ5.out.cells
            have e5 := HP5D.out.ds.cells.2.1
            obtain ⟨_, e1, e2⟩ := HQ5D.out.cells
            have f5 := H6.out.1.ds.cells.2.1
            obtain ⟨_, f1, f2⟩ := HQ6.out.cells
            clear hP5 hQS5 H5 c1 c2 HLK HP2 HQ2
            go_wp2_with fail
            go_region_held3 (fun W => W.cell? ⟨sp, 5, none⟩ = some (.map (some mb)) ∧ W.cell? ⟨q, 1, none⟩ = some (.int .i64 cx) ∧ W.cell? ⟨q, 2, none⟩ = some (.int .i64 cy)) (first | (go_keep; done) | exact ⟨f5, f1, f2⟩) (fail)
            go_wp2_with fail
            go_meet
            exact ⟨n + 2, by omega, mo5, _, _, ev, v, H6.out.1, HDL.out, HQ6.out⟩
          · have e0 : lnkE cx cy = 1 := by rw [HLE.out, if_neg hok]
            rw [e0, if_neg (by decide)] at HLK
            clear e0 HLE HPA HPB
            cases pa with
            | false =>
              clear hok
              go_wp2_with fail
              refine (HIA.out _).mono ?_
              rintro e w3 ⟨rfl, rfl⟩
              go_wp2_with fail
              refine HLK.out.mono ?_
              rintro e w5 ⟨rfl, H5⟩
              obtain ⟨mo5, hP5, hQS5⟩ := H5.out
              have HQ5 := hide (hQS5 _ _ HQ2.out)
              have HP5 := hide hP5
              clear hP5 hQS5 H5
              go_wp2_with fail
              go_meet
              exact ⟨n + 1, by omega, mo5, _, _, ev, v, HP5.out, HD.out, HQ5.out⟩
            | true =>
              cases pb with
              | false =>
                clear hok
                go_wp2_with fail
                refine (HIA.out _).mono ?_
                rintro e w3 ⟨rfl, rfl⟩
                go_wp2_with fail
                refine (HIB.out _).mono ?_
                rintro e w4 ⟨rfl, rfl⟩
                go_wp2_with fail
                refine HLK.out.mono ?_
                rintro e w5 ⟨rfl, H5⟩
                obtain ⟨mo5, hP5, hQS5⟩ := H5.out
                have HQ5 := hide (hQS5 _ _ HQ2.out)
                have HP5 := hide hP5
                clear hP5 hQS5 H5
                go_wp2_with fail
                go_meet
                exact ⟨n + 1, by omega, mo5, _, _, ev, v, HP5.out, HD.out, HQ5.out⟩
              | true =>
                have he : cx = cy := by
                  by_cases e : cx = cy
                  · exact e
                  · exact absurd ⟨rfl, rfl, e⟩ hok
                have HE := hide he
                clear hok
                subst he
                go_wp2_with fail
                refine (HIA.out _).mono ?_
                rintro e w3 ⟨rfl, rfl⟩
                go_wp2_with fail
                refine (HIB.out _).mono ?_
                rintro e w4 ⟨rfl, rfl⟩
                go_wp2_with fail
                refine HLK.out.mono ?_
                rintro e w5 ⟨rfl, H5⟩
                obtain ⟨mo5, hP5, hQS5⟩ := H5.out
                have HQ5 := hide (hQS5 _ _ HQ2.out)
                have HP5 := hide hP5
                clear hP5 hQS5 H5
                go_wp2_with fail
                go_meet
                exact ⟨n + 1, by omega, mo5, _, _, ev, v, HP5.out, HD.out, HQ5.out⟩
        · by_cases h12 : ck = 1 ∨ ck = 2
          · obtain ⟨_, c1, c2⟩ := HQ2.out.cells
            obtain ⟨c0, _, _⟩ := HQ2.out.cells
            have h0' : ¬ (0 : Int) = ck := fun e => h0 e.symm
            have HIA := hide fun W => binr_any cx 1 99 W
            obtain ⟨pa, hpa⟩ : ∃ pa, (decide (1 ≤ cx) && decide (cx ≤ 99)) = pa := ⟨_, rfl⟩
            rw [hpa] at HIA
            have HPA : Hid (pa = true → 1 ≤ cx ∧ cx ≤ 99) := fun e => by rw [e] at hpa; simpa using hpa
            have HPN : Hid (pa = false → ¬ (1 ≤ cx ∧ cx ≤ 99)) := fun e => by rw [e] at hpa; simp at hpa; omega
            clear hpa
            have HCL := hide HP2.out.clear
            have s6 := HP2.out.ds.cells.2.2.1
            have f6 := HP2.out.ds.cells.2.2.2
            have HW3 : Hid (∃ w3, w3 = w2.setCell ⟨sp, 6, none⟩ (.slice none 0 0) ∧ PB w bp mo n g sp mp mw mb h [] (.slice none 0 0) w3 ∧ QB w bp mo sp mp mb (.slice none 0 0) q (cbox ck cx cy) w3) := ⟨_, rfl, HCL.out.1, HCL.out.2 _ _ HQ2.out⟩
            obtain ⟨w3, hw3, hP3, hQ3⟩ := HW3.out
            have HP3 := hide hP3
            have HQ3 := hide hQ3
            obtain ⟨d0, d1, d2⟩ := hQ3.cells
            replace hw3 := hide hw3
            clear hP3 hQ3 HW3 HCL
            rcases h12 with h12 | h12
            · subst h12
              cases pa with
              | false =>
                go_wp2_with fail
                rw [← hw3.out]
                refine (HIA.out _).mono ?_
                rintro e wm ⟨rfl, rfl⟩
                obtain ⟨v2, hv⟩ : ∃ v2 : Value, v2 = .slice none 0 0 := ⟨_, rfl⟩
                obtain ⟨h2, hh2⟩ : ∃ h2, h2 = h := ⟨_, rfl⟩
                obtain ⟨l2, hl2⟩ : ∃ l2 : List (Int × Int), l2 = [] := ⟨_, rfl⟩
                have hP5 : PB w bp mo n g sp mp mw mb h2 l2 v2 wm := by
                  rw [hh2, hl2, hv]
                  exact HP3.out
                have hQ5 : QB w bp mo sp mp mb v2 q (cbox 1 cx cy) wm := by
                  rw [hv]
                  exact HQ3.out
                have HEN := hide (end_none HD.out.ok (HPN.out (by first | rfl | trivial)) false)
                have HWN := hide (wo_none HD.out.ok (HPN.out (by first | rfl | trivial)))
                clear hv
                -- the ends that the document tells
                have HMID : Hid (PB w bp mo n g sp mp mw mb h2 l2 v2 wm ∧ Dir h2 (wo g (cx :: endL g cx false)) ∧ wantL l2 = endL g cx false ∧ l2.length ≤ 100 ∧ QB w bp mo sp mp mb v2 q (cbox 1 cx cy) wm) := ⟨hP5, by rw [hh2, HEN.out, HWN.out]; exact HD.out, by rw [HEN.out, hl2]; rfl, by rw [hl2]; exact Nat.zero_le _, hQ5⟩
                clear hh2 hl2 hP5 hQ5 HEN HWN
                obtain ⟨va, vc, hv2, hev⟩ := HMID.out.1.ds.ev
                obtain ⟨M, hM⟩ : ∃ M, M = l2.length := ⟨_, rfl⟩
                rw [← hM] at hv2
                have HEV : Hid (∀ (i : Nat) (k : Int × Int), l2[i]? = some k → ∃ g, va = some ⟨g, 0, none⟩ ∧ g < wm.heap.size ∧ ∀ W, Below wm.heap.size wm W → W.cell? ⟨g, i * 7, none⟩ = some (.string endW) ∧ W.cell? ⟨g, i * 7 + 1, none⟩ = some (.int .i64 k.1) ∧ W.cell? ⟨g, i * 7 + 2, none⟩ = some (.int .i64 k.2) ∧ W.cell? ⟨g, i * 7 + 3, none⟩ = some (.int .i64 0) ∧ W.cell? ⟨g, i * 7 + 4, none⟩ = some (.int .i64 0) ∧ W.cell? ⟨g, i * 7 + 5, none⟩ = some (.string ⟨#[]⟩) ∧ W.cell? ⟨g, i * 7 + 6, none⟩ = some (.slice none 0 0)) := fun i k hk => by
                  obtain ⟨g, e, hc⟩ := hev i k hk
                  have hlt : g < wm.heap.size := World.block_lt_of_cell? wm ⟨g, i * 7 + 1, none⟩ (hc 1 _ rfl)
                  refine ⟨g, e, hlt, fun W hW => ?_⟩
                  have cc := fun j => hW.cell (p := ⟨g, i * 7 + j, none⟩) hlt
                  exact ⟨(cc 0).trans (hc 0 _ rfl), (cc 1).trans (hc 1 _ rfl), (cc 2).trans (hc 2 _ rfl), (cc 3).trans (hc 3 _ rfl), (cc 4).trans (hc 4 _ rfl), (cc 5).trans (hc 5 _ rfl), (cc 6).trans (hc 6 _ rfl)⟩
                have HM100 : Hid (l2.length = M ∧ M ≤ 100) := ⟨hM.symm, by rw [hM]; exact HMID.out.2.2.2.1⟩
                have s6 := HMID.out.1.ds.cells.2.2.1
                rw [hv2] at s6
                clear hev hv2 hM
                go_wp2_with fail
                go_loopw [9, 89] (fun vw i wr => ∃ (i' : Nat) (a : Option Addr) (L c : Nat), vw = .slice a L c ∧ i = .int .i64 i' ∧ i' ≤ M ∧ L ≤ i' ∧ Hid ((wantL (l2.take i')).length = L ∧ NRow wm.heap.size (.slice a L c) (wantL (l2.take i')) wr ∧ Below wm.heap.size wm wr)) (fun _ i _ => M - (intOf i).toNat)
                case atStart => exact ⟨0, none, 0, 0, rfl, rfl, Nat.zero_le _, Nat.le_refl _, rfl, NRow.nil _ _, Below.refl _ _⟩
                case round =>
                  obtain ⟨i, wa, L, wc', rfl, rfl, hi, hLi, HI⟩ := hrel
                  have hM1 := HM100.out.2
                  by_cases hiM : i < M
                  · obtain ⟨⟨ka, kb⟩, hk⟩ : ∃ k, l2[i]? = some k := ⟨l2[i]'(by rw [HM100.out.1]; exact hiM), List.getElem?_eq_getElem _⟩
                    obtain ⟨eg, rfl, hegl, hec⟩ := HEV.out i _ hk
                    have HK := hide hk
                    obtain ⟨u0, u1, u2', u3, u4, u5, u6⟩ := hec wr HI.out.2.2
                    clear hk hec
                    have i1 : (0 : Int) ≤ (i : Int) := by omega
                    have i2 : (i : Int) < (M : Int) := by omega
                    have HNX := hide (want_next l2 i _ HK.out)

                    by_cases hi0 : i = 0
                    · have hi0' : ¬ (0 : Int) < (i : Int) := by omega
                      have HNW := hide (show wantL (l2.take (i + 1)) = wantL (l2.take i) by rw [HNX.out, if_pos hi0, List.append_nil])
                      clear hi0
                      have HB1 : Hid (∀ o : Obj, Below wm.heap.size wm (wr.alloc o)) := fun o => HI.out.2.2.trans ((Below.refl _ _).alloc HI.out.2.2.size o)
                      go_wp2_with fail
                      go_roundw
                      case rel => exact ⟨i + 1, wa, L, wc', rfl, by go_num, by omega, by omega, by rw [HNW.out]; exact HI.out.1, by rw [HNW.out]; exact HI.out.2.1.later ((Below.refl _ _).alloc (Nat.le_refl _) _), HB1.out _⟩
                      case measure => simp [intOf]; omega
                    · have hi0' : (0 : Int) < (i : Int) := by omega
                      have HNW := hide (show wantL (l2.take (i + 1)) = wantL (l2.take i) ++ [ka] by rw [HNX.out, if_neg hi0])
                      clear hi0
                      have HWX : Hid (∃ wx p, (wx = wr.alloc (.cells #[.string endW, .int .i64 ka, .int .i64 kb, .int .i64 0, .int .i64 0, .string ⟨#[]⟩, .slice none 0 0] 110) ∧ p = wr.heap.size) ∧ wx.cell? ⟨p, 1, none⟩ = some (.int .i64 ka) ∧ Hid (wx.ownsRow wm.heap.size 3 1 (.slice wa L wc') L (iCells (wantL (l2.take i))) ∧ Below wm.heap.size wm wx)) := by
                        refine ⟨_, _, ⟨rfl, rfl⟩, cell_row (heap_alloc_new _ _) 1, ?_, HI.out.2.2.trans ((Below.refl _ _).alloc HI.out.2.2.size _)⟩
                        have h := HI.out.2.1.later ((Below.refl _ _).alloc (Nat.le_refl _) (.cells #[.string endW, .int .i64 ka, .int .i64 kb, .int .i64 0, .int .i64 0, .string ⟨#[]⟩, .slice none 0 0] 110))
                        unfold NRow at h
                        rw [HI.out.1] at h
                        exact h
                      have HLL := hide HI.out.1
                      clear HI
                      go_upto_region 31 with fail
                      obtain ⟨wx, p, ⟨hwx, hp⟩, cp, HO⟩ := HWX.out
                      rw [← hwx, ← hp]
                      have HSZ := hide HO.out.2.size
                      clear hwx hp HWX u0 u1 u2' u3 u4 u5 u6
                      go_wp2_with (first
                        | (at_builtin; refine wpList_append_lies _ rfl _ _ 39 rfl wm.heap.size 3 it _ 1 8 Try.underlying39 HIT.out.1 HIT.out.2.1 HIT.out.2.2.1 HIT.out.2.2.2 rfl (by decide) (.slice wa L wc') L (iCells (wantL (l2.take i))) rfl (HO.out.1.alloc _) ⟨wx.heap.size, 0, none⟩ 1 1 [.int .i64 ka] rfl rfl (World.news_of_block (cs := #[.int .i64 ka]) (t := 3) (fr := (0, 0)) (heap_alloc_new wx _)) (by simp [Value.oneCell']) (by decide) (by unfold maxLen; omega) (by omega) (by have := HSZ.out; simp; omega) _ rfl ?_; intro g5 c5 w5 hown5 hgrow5 hat5 hlt5; have HO5 := hide hown5; have HB5 := hide (HO.out.2.trans (below_grown' HO.out.1 hgrow5 HO.out.2.size)); clear hown5 hgrow5 hat5 hlt5))
                      go_roundw
                      case rel =>
                        refine ⟨i + 1, some ⟨g5, 0, none⟩, L + 1, c5, rfl, by go_num, by omega, by omega, ?_, ?_, HB5.out⟩
                        · rw [HNW.out, List.length_append, HLL.out]
                          rfl
                        · unfold NRow
                          rw [HNW.out, iCells_snoc, List.length_append, HLL.out]
                          exact HO5.out
                      case measure => simp [intOf]; omega
                  · obtain rfl : i = M := by omega
                    have HP6 := hide (HMID.out.1.later HI.out.2.2)
                    have HQ6 := hide (HMID.out.2.2.2.2.later HI.out.2.2)
                    have HWR : Hid (NRow wm.heap.size (.slice wa L wc') (endL g cx false) wr) := by
                      have h := HI.out.2.1
                      rw [List.take_of_length_le (by rw [HM100.out.1]; exact Nat.le_refl _), HMID.out.2.2.1] at h
                      exact h
                    have HNO : Hid (∀ b, (Value.slice wa L wc').ownBlock = some b → wm.heap.size ≤ b ∧ b < wr.heap.size) := fun b hb => HWR.out.lt b hb
                    have HMO : Hid (∀ b, mo = some b → b < wm.heap.size) := fun b e => (HMID.out.1.bd.lt b (Or.inr e)).2
                    have HDF := hide HMID.out.2.1
                    have HEB := hide (HP6.out.endB HD.out.ok HIX.out false)
                    obtain ⟨k0, k1, k2⟩ := HQ6.out.cells
                    clear HI HMID HEV s6 HM100
                    go_wp2_with fail
                    refine HEB.out.mono ?_
                    rintro e w7 ⟨v7, rfl, H7⟩
                    have HEQ : Hid (Calls Try.prog 54 #[v7, .slice wa L wc'] w7 fun e w' => e = .returned (.bool true) ∧ Below w7.heap.size w7 w') := by
                      refine iequal_any H7.out.1.row ?_ (by have := end_le HD.out.ok cx false; omega)
                      refine NRow.row (row_kee HWR.out H7.out.2.2 fun b hb e => ?_)
                      have := HNO.out b hb
                      have := HMO.out b e
                      omega
                    have HP7 := hide H7.out.2.1.1
                    have HQ7 := hide (H7.out.2.1.2 _ _ HQ6.out)
                    clear H7 HEB HP6 HQ6 HWR
                    go_wp2_with fail
                    refine HEQ.out.mono ?_
                    rintro e w8 ⟨rfl, hb8⟩
                    have HP8 := hide (HP7.out.later hb8)
                    have HQ8 := hide (HQ7.out.later hb8)
                    clear hb8
                    go_wp2_with fail
                    go_meet
                    exact ⟨n, by omega, mo, _, h2, l2, v2, HP8.out, HDF.out, HQ8.out⟩
              | true =>
                go_wp2_with fail
                rw [← hw3.out]
                refine (HIA.out _).mono ?_
                rintro e w4 ⟨rfl, rfl⟩
                have HED := hide (HP3.out.endD HD.out HIX.out 2)
                go_wp2_with fail
                refine HED.out.mono ?_
                rintro e wm ⟨rfl, H5⟩
                obtain ⟨v2, hP5, hQS5⟩ := H5.out
                obtain ⟨h2, hh2⟩ : ∃ h2, h2 = wo h (cx :: endL g cx ((2 : Int) == 1)) := ⟨_, rfl⟩
                obtain ⟨l2, hl2⟩ : ∃ l2, l2 = evL 2 (cx :: endL g cx ((2 : Int) == 1)) := ⟨_, rfl⟩
                rw [← hh2, ← hl2] at hP5
                have eal : ((2 : Int) == 1) = false := by decide
                rw [eal] at hh2 hl2
                -- the ends that the document tells
                have HMID : Hid (PB w bp mo n g sp mp mw mb h2 l2 v2 wm ∧ Dir h2 (wo g (cx :: endL g cx false)) ∧ wantL l2 = endL g cx false ∧ l2.length ≤ 100 ∧ QB w bp mo sp mp mb v2 q (cbox 1 cx cy) wm) := ⟨hP5, by rw [hh2]; exact HD.out.wo _, by rw [hl2]; exact want_evL _ _ _, by rw [hl2, evL_length, List.length_cons]; have := end_le HD.out.ok cx false; omega, hQS5 _ _ HQ3.out⟩
                clear hh2 hl2 hP5 hQS5 H5 eal
                obtain ⟨va, vc, hv2, hev⟩ := HMID.out.1.ds.ev
                obtain ⟨M, hM⟩ : ∃ M, M = l2.length := ⟨_, rfl⟩
                rw [← hM] at hv2
                have HEV : Hid (∀ (i : Nat) (k : Int × Int), l2[i]? = some k → ∃ g, va = some ⟨g, 0, none⟩ ∧ g < wm.heap.size ∧ ∀ W, Below wm.heap.size wm W → W.cell? ⟨g, i * 7, none⟩ = some (.string endW) ∧ W.cell? ⟨g, i * 7 + 1, none⟩ = some (.int .i64 k.1) ∧ W.cell? ⟨g, i * 7 + 2, none⟩ = some (.int .i64 k.2) ∧ W.cell? ⟨g, i * 7 + 3, none⟩ = some (.int .i64 0) ∧ W.cell? ⟨g, i * 7 + 4, none⟩ = some (.int .i64 0) ∧ W.cell? ⟨g, i * 7 + 5, none⟩ = some (.string ⟨#[]⟩) ∧ W.cell? ⟨g, i * 7 + 6, none⟩ = some (.slice none 0 0)) := fun i k hk => by
                  obtain ⟨g, e, hc⟩ := hev i k hk
                  have hlt : g < wm.heap.size := World.block_lt_of_cell? wm ⟨g, i * 7 + 1, none⟩ (hc 1 _ rfl)
                  refine ⟨g, e, hlt, fun W hW => ?_⟩
                  have cc := fun j => hW.cell (p := ⟨g, i * 7 + j, none⟩) hlt
                  exact ⟨(cc 0).trans (hc 0 _ rfl), (cc 1).trans (hc 1 _ rfl), (cc 2).trans (hc 2 _ rfl), (cc 3).trans (hc 3 _ rfl), (cc 4).trans (hc 4 _ rfl), (cc 5).trans (hc 5 _ rfl), (cc 6).trans (hc 6 _ rfl)⟩
                have HM100 : Hid (l2.length = M ∧ M ≤ 100) := ⟨hM.symm, by rw [hM]; exact HMID.out.2.2.2.1⟩
                have s6 := HMID.out.1.ds.cells.2.2.1
                rw [hv2] at s6
                clear hev hv2 hM
                go_wp2_with fail
                go_loopw [9, 89] (fun vw i wr => ∃ (i' : Nat) (a : Option Addr) (L c : Nat), vw = .slice a L c ∧ i = .int .i64 i' ∧ i' ≤ M ∧ L ≤ i' ∧ Hid ((wantL (l2.take i')).length = L ∧ NRow wm.heap.size (.slice a L c) (wantL (l2.take i')) wr ∧ Below wm.heap.size wm wr)) (fun _ i _ => M - (intOf i).toNat)
                case atStart => exact ⟨0, none, 0, 0, rfl, rfl, Nat.zero_le _, Nat.le_refl _, rfl, NRow.nil _ _, Below.refl _ _⟩
                case round =>
                  obtain ⟨i, wa, L, wc', rfl, rfl, hi, hLi, HI⟩ := hrel
                  have hM1 := HM100.out.2
                  by_cases hiM : i < M
                  · obtain ⟨⟨ka, kb⟩, hk⟩ : ∃ k, l2[i]? = some k := ⟨l2[i]'(by rw [HM100.out.1]; exact hiM), List.getElem?_eq_getElem _⟩
                    obtain ⟨eg, rfl, hegl, hec⟩ := HEV.out i _ hk
                    have HK := hide hk
                    obtain ⟨u0, u1, u2', u3, u4, u5, u6⟩ := hec wr HI.out.2.2
                    clear hk hec
                    have i1 : (0 : Int) ≤ (i : Int) := by omega
                    have i2 : (i : Int) < (M : Int) := by omega
                    have HNX := hide (want_next l2 i _ HK.out)

                    by_cases hi0 : i = 0
                    · have hi0' : ¬ (0 : Int) < (i : Int) := by omega
                      have HNW := hide (show wantL (l2.take (i + 1)) = wantL (l2.take i) by rw [HNX.out, if_pos hi0, List.append_nil])
                      clear hi0
                      have HB1 : Hid (∀ o : Obj, Below wm.heap.size wm (wr.alloc o)) := fun o => HI.out.2.2.trans ((Below.refl _ _).alloc HI.out.2.2.size o)
                      go_wp2_with fail
                      go_roundw
                      case rel => exact ⟨i + 1, wa, L, wc', rfl, by go_num, by omega, by omega, by rw [HNW.out]; exact HI.out.1, by rw [HNW.out]; exact HI.out.2.1.later ((Below.refl _ _).alloc (Nat.le_refl _) _), HB1.out _⟩
                      case measure => simp [intOf]; omega
                    · have hi0' : (0 : Int) < (i : Int) := by omega
                      have HNW := hide (show wantL (l2.take (i + 1)) = wantL (l2.take i) ++ [ka] by rw [HNX.out, if_neg hi0])
                      clear hi0
                      have HWX : Hid (∃ wx p, (wx = wr.alloc (.cells #[.string endW, .int .i64 ka, .int .i64 kb, .int .i64 0, .int .i64 0, .string ⟨#[]⟩, .slice none 0 0] 110) ∧ p = wr.heap.size) ∧ wx.cell? ⟨p, 1, none⟩ = some (.int .i64 ka) ∧ Hid (wx.ownsRow wm.heap.size 3 1 (.slice wa L wc') L (iCells (wantL (l2.take i))) ∧ Below wm.heap.size wm wx)) := by
                        refine ⟨_, _, ⟨rfl, rfl⟩, cell_row (heap_alloc_new _ _) 1, ?_, HI.out.2.2.trans ((Below.refl _ _).alloc HI.out.2.2.size _)⟩
                        have h := HI.out.2.1.later ((Below.refl _ _).alloc (Nat.le_refl _) (.cells #[.string endW, .int .i64 ka, .int .i64 kb, .int .i64 0, .int .i64 0, .string ⟨#[]⟩, .slice none 0 0] 110))
                        unfold NRow at h
                        rw [HI.out.1] at h
                        exact h
                      have HLL := hide HI.out.1
                      clear HI
                      go_upto_region 31 with fail
                      obtain ⟨wx, p, ⟨hwx, hp⟩, cp, HO⟩ := HWX.out
                      rw [← hwx, ← hp]
                      have HSZ := hide HO.out.2.size
                      clear hwx hp HWX u0 u1 u2' u3 u4 u5 u6
                      go_wp2_with (first
                        | (at_builtin; refine wpList_append_lies _ rfl _ _ 39 rfl wm.heap.size 3 it _ 1 8 Try.underlying39 HIT.out.1 HIT.out.2.1 HIT.out.2.2.1 HIT.out.2.2.2 rfl (by decide) (.slice wa L wc') L (iCells (wantL (l2.take i))) rfl (HO.out.1.alloc _) ⟨wx.heap.size, 0, none⟩ 1 1 [.int .i64 ka] rfl rfl (World.news_of_block (cs := #[.int .i64 ka]) (t := 3) (fr := (0, 0)) (heap_alloc_new wx _)) (by simp [Value.oneCell']) (by decide) (by unfold maxLen; omega) (by omega) (by have := HSZ.out; simp; omega) _ rfl ?_; intro g5 c5 w5 hown5 hgrow5 hat5 hlt5; have HO5 := hide hown5; have HB5 := hide (HO.out.2.trans (below_grown' HO.out.1 hgrow5 HO.out.2.size)); clear hown5 hgrow5 hat5 hlt5))
                      go_roundw
                      case rel =>
                        refine ⟨i + 1, some ⟨g5, 0, none⟩, L + 1, c5, rfl, by go_num, by omega, by omega, ?_, ?_, HB5.out⟩
                        · rw [HNW.out, List.length_append, HLL.out]
                          rfl
                        · unfold NRow
                          rw [HNW.out, iCells_snoc, List.length_append, HLL.out]
                          exact HO5.out
                      case measure => simp [intOf]; omega
                  · obtain rfl : i = M := by omega
                    have HP6 := hide (HMID.out.1.later HI.out.2.2)
                    have HQ6 := hide (HMID.out.2.2.2.2.later HI.out.2.2)
                    have HWR : Hid (NRow wm.heap.size (.slice wa L wc') (endL g cx false) wr) := by
                      have h := HI.out.2.1
                      rw [List.take_of_length_le (by rw [HM100.out.1]; exact Nat.le_refl _), HMID.out.2.2.1] at h
                      exact h
                    have HNO : Hid (∀ b, (Value.slice wa L wc').ownBlock = some b → wm.heap.size ≤ b ∧ b < wr.heap.size) := fun b hb => HWR.out.lt b hb
                    have HMO : Hid (∀ b, mo = some b → b < wm.heap.size) := fun b e => (HMID.out.1.bd.lt b (Or.inr e)).2
                    have HDF := hide HMID.out.2.1
                    have HEB := hide (HP6.out.endB HD.out.ok HIX.out false)
                    obtain ⟨k0, k1, k2⟩ := HQ6.out.cells
                    clear HI HMID HEV s6 HM100
                    go_wp2_with fail
                    refine HEB.out.mono ?_
                    rintro e w7 ⟨v7, rfl, H7⟩
                    have HEQ : Hid (Calls Try.prog 54 #[v7, .slice wa L wc'] w7 fun e w' => e = .returned (.bool true) ∧ Below w7.heap.size w7 w') := by
                      refine iequal_any H7.out.1.row ?_ (by have := end_le HD.out.ok cx false; omega)
                      refine NRow.row (row_kee HWR.out H7.out.2.2 fun b hb e => ?_)
                      have := HNO.out b hb
                      have := HMO.out b e
                      omega
                    have HP7 := hide H7.out.2.1.1
                    have HQ7 := hide (H7.out.2.1.2 _ _ HQ6.out)
                    clear H7 HEB HP6 HQ6 HWR
                    go_wp2_with fail
                    refine HEQ.out.mono ?_
                    rintro e w8 ⟨rfl, hb8⟩
                    have HP8 := hide (HP7.out.later hb8)
                    have HQ8 := hide (HQ7.out.later hb8)
                    clear hb8
                    go_wp2_with fail
                    go_meet
                    exact ⟨n, by omega, mo, _, h2, l2, v2, HP8.out, HDF.out, HQ8.out⟩
            · subst h12
              cases pa with
              | false =>
                go_wp2_with fail
                rw [← hw3.out]
                refine (HIA.out _).mono ?_
                rintro e wm ⟨rfl, rfl⟩
                obtain ⟨v2, hv⟩ : ∃ v2 : Value, v2 = .slice none 0 0 := ⟨_, rfl⟩
                obtain ⟨h2, hh2⟩ : ∃ h2, h2 = h := ⟨_, rfl⟩
                obtain ⟨l2, hl2⟩ : ∃ l2 : List (Int × Int), l2 = [] := ⟨_, rfl⟩
                have hP5 : PB w bp mo n g sp mp mw mb h2 l2 v2 wm := by
                  rw [hh2, hl2, hv]
                  exact HP3.out
                have hQ5 : QB w bp mo sp mp mb v2 q (cbox 2 cx cy) wm := by
                  rw [hv]
                  exact HQ3.out
                have HEN := hide (end_none HD.out.ok (HPN.out (by first | rfl | trivial)) true)
                have HWN := hide (wo_none HD.out.ok (HPN.out (by first | rfl | trivial)))
                clear hv
                -- the ends that the document tells
                have HMID : Hid (PB w bp mo n g sp mp mw mb h2 l2 v2 wm ∧ Dir h2 (wo g (cx :: endL g cx true)) ∧ wantL l2 = endL g cx true ∧ l2.length ≤ 100 ∧ QB w bp mo sp mp mb v2 q (cbox 2 cx cy) wm) := ⟨hP5, by rw [hh2, HEN.out, HWN.out]; exact HD.out, by rw [HEN.out, hl2]; rfl, by rw [hl2]; exact Nat.zero_le _, hQ5⟩
                clear hh2 hl2 hP5 hQ5 HEN HWN
                obtain ⟨va, vc, hv2, hev⟩ := HMID.out.1.ds.ev
                obtain ⟨M, hM⟩ : ∃ M, M = l2.length := ⟨_, rfl⟩
                rw [← hM] at hv2
                have HEV : Hid (∀ (i : Nat) (k : Int × Int), l2[i]? = some k → ∃ g, va = some ⟨g, 0, none⟩ ∧ g < wm.heap.size ∧ ∀ W, Below wm.heap.size wm W → W.cell? ⟨g, i * 7, none⟩ = some (.string endW) ∧ W.cell? ⟨g, i * 7 + 1, none⟩ = some (.int .i64 k.1) ∧ W.cell? ⟨g, i * 7 + 2, none⟩ = some (.int .i64 k.2) ∧ W.cell? ⟨g, i * 7 + 3, none⟩ = some (.int .i64 0) ∧ W.cell? ⟨g, i * 7 + 4, none⟩ = some (.int .i64 0) ∧ W.cell? ⟨g, i * 7 + 5, none⟩ = some (.string ⟨#[]⟩) ∧ W.cell? ⟨g, i * 7 + 6, none⟩ = some (.slice none 0 0)) := fun i k hk => by
                  obtain ⟨g, e, hc⟩ := hev i k hk
                  have hlt : g < wm.heap.size := World.block_lt_of_cell? wm ⟨g, i * 7 + 1, none⟩ (hc 1 _ rfl)
                  refine ⟨g, e, hlt, fun W hW => ?_⟩
                  have cc := fun j => hW.cell (p := ⟨g, i * 7 + j, none⟩) hlt
                  exact ⟨(cc 0).trans (hc 0 _ rfl), (cc 1).trans (hc 1 _ rfl), (cc 2).trans (hc 2 _ rfl), (cc 3).trans (hc 3 _ rfl), (cc 4).trans (hc 4 _ rfl), (cc 5).trans (hc 5 _ rfl), (cc 6).trans (hc 6 _ rfl)⟩
                have HM100 : Hid (l2.length = M ∧ M ≤ 100) := ⟨hM.symm, by rw [hM]; exact HMID.out.2.2.2.1⟩
                have s6 := HMID.out.1.ds.cells.2.2.1
                rw [hv2] at s6
                clear hev hv2 hM
                go_wp2_with fail
                go_loopw [9, 89] (fun vw i wr => ∃ (i' : Nat) (a : Option Addr) (L c : Nat), vw = .slice a L c ∧ i = .int .i64 i' ∧ i' ≤ M ∧ L ≤ i' ∧ Hid ((wantL (l2.take i')).length = L ∧ NRow wm.heap.size (.slice a L c) (wantL (l2.take i')) wr ∧ Below wm.heap.size wm wr)) (fun _ i _ => M - (intOf i).toNat)
                case atStart => exact ⟨0, none, 0, 0, rfl, rfl, Nat.zero_le _, Nat.le_refl _, rfl, NRow.nil _ _, Below.refl _ _⟩
                case round =>
                  obtain ⟨i, wa, L, wc', rfl, rfl, hi, hLi, HI⟩ := hrel
                  have hM1 := HM100.out.2
                  by_cases hiM : i < M
                  · obtain ⟨⟨ka, kb⟩, hk⟩ : ∃ k, l2[i]? = some k := ⟨l2[i]'(by rw [HM100.out.1]; exact hiM), List.getElem?_eq_getElem _⟩
                    obtain ⟨eg, rfl, hegl, hec⟩ := HEV.out i _ hk
                    have HK := hide hk
                    obtain ⟨u0, u1, u2', u3, u4, u5, u6⟩ := hec wr HI.out.2.2
                    clear hk hec
                    have i1 : (0 : Int) ≤ (i : Int) := by omega
                    have i2 : (i : Int) < (M : Int) := by omega
                    have HNX := hide (want_next l2 i _ HK.out)

                    by_cases hi0 : i = 0
                    · have hi0' : ¬ (0 : Int) < (i : Int) := by omega
                      have HNW := hide (show wantL (l2.take (i + 1)) = wantL (l2.take i) by rw [HNX.out, if_pos hi0, List.append_nil])
                      clear hi0
                      have HB1 : Hid (∀ o : Obj, Below wm.heap.size wm (wr.alloc o)) := fun o => HI.out.2.2.trans ((Below.refl _ _).alloc HI.out.2.2.size o)
                      go_wp2_with fail
                      go_roundw
                      case rel => exact ⟨i + 1, wa, L, wc', rfl, by go_num, by omega, by omega, by rw [HNW.out]; exact HI.out.1, by rw [HNW.out]; exact HI.out.2.1.later ((Below.refl _ _).alloc (Nat.le_refl _) _), HB1.out _⟩
                      case measure => simp [intOf]; omega
                    · have hi0' : (0 : Int) < (i : Int) := by omega
                      have HNW := hide (show wantL (l2.take (i + 1)) = wantL (l2.take i) ++ [ka] by rw [HNX.out, if_neg hi0])
                      clear hi0
                      have HWX : Hid (∃ wx p, (wx = wr.alloc (.cells #[.string endW, .int .i64 ka, .int .i64 kb, .int .i64 0, .int .i64 0, .string ⟨#[]⟩, .slice none 0 0] 110) ∧ p = wr.heap.size) ∧ wx.cell? ⟨p, 1, none⟩ = some (.int .i64 ka) ∧ Hid (wx.ownsRow wm.heap.size 3 1 (.slice wa L wc') L (iCells (wantL (l2.take i))) ∧ Below wm.heap.size wm wx)) := by
                        refine ⟨_, _, ⟨rfl, rfl⟩, cell_row (heap_alloc_new _ _) 1, ?_, HI.out.2.2.trans ((Below.refl _ _).alloc HI.out.2.2.size _)⟩
                        have h := HI.out.2.1.later ((Below.refl _ _).alloc (Nat.le_refl _) (.cells #[.string endW, .int .i64 ka, .int .i64 kb, .int .i64 0, .int .i64 0, .string ⟨#[]⟩, .slice none 0 0] 110))
                        unfold NRow at h
                        rw [HI.out.1] at h
                        exact h
                      have HLL := hide HI.out.1
                      clear HI
                      go_upto_region 31 with fail
                      obtain ⟨wx, p, ⟨hwx, hp⟩, cp, HO⟩ := HWX.out
                      rw [← hwx, ← hp]
                      have HSZ := hide HO.out.2.size
                      clear hwx hp HWX u0 u1 u2' u3 u4 u5 u6
                      go_wp2_with (first
                        | (at_builtin; refine wpList_append_lies _ rfl _ _ 39 rfl wm.heap.size 3 it _ 1 8 Try.underlying39 HIT.out.1 HIT.out.2.1 HIT.out.2.2.1 HIT.out.2.2.2 rfl (by decide) (.slice wa L wc') L (iCells (wantL (l2.take i))) rfl (HO.out.1.alloc _) ⟨wx.heap.size, 0, none⟩ 1 1 [.int .i64 ka] rfl rfl (World.news_of_block (cs := #[.int .i64 ka]) (t := 3) (fr := (0, 0)) (heap_alloc_new wx _)) (by simp [Value.oneCell']) (by decide) (by unfold maxLen; omega) (by omega) (by have := HSZ.out; simp; omega) _ rfl ?_; intro g5 c5 w5 hown5 hgrow5 hat5 hlt5; have HO5 := hide hown5; have HB5 := hide (HO.out.2.trans (below_grown' HO.out.1 hgrow5 HO.out.2.size)); clear hown5 hgrow5 hat5 hlt5))
                      go_roundw
                      case rel =>
                        refine ⟨i + 1, some ⟨g5, 0, none⟩, L + 1, c5, rfl, by go_num, by omega, by omega, ?_, ?_, HB5.out⟩
                        · rw [HNW.out, List.length_append, HLL.out]
                          rfl
                        · unfold NRow
                          rw [HNW.out, iCells_snoc, List.length_append, HLL.out]
                          exact HO5.out
                      case measure => simp [intOf]; omega
                  · obtain rfl : i = M := by omega
                    have HP6 := hide (HMID.out.1.later HI.out.2.2)
                    have HQ6 := hide (HMID.out.2.2.2.2.later HI.out.2.2)
                    have HWR : Hid (NRow wm.heap.size (.slice wa L wc') (endL g cx true) wr) := by
                      have h := HI.out.2.1
                      rw [List.take_of_length_le (by rw [HM100.out.1]; exact Nat.le_refl _), HMID.out.2.2.1] at h
                      exact h
                    have HNO : Hid (∀ b, (Value.slice wa L wc').ownBlock = some b → wm.heap.size ≤ b ∧ b < wr.heap.size) := fun b hb => HWR.out.lt b hb
                    have HMO : Hid (∀ b, mo = some b → b < wm.heap.size) := fun b e => (HMID.out.1.bd.lt b (Or.inr e)).2
                    have HDF := hide HMID.out.2.1
                    have HEB := hide (HP6.out.endB HD.out.ok HIX.out true)
                    obtain ⟨k0, k1, k2⟩ := HQ6.out.cells
                    clear HI HMID HEV s6 HM100
                    go_wp2_with fail
                    refine HEB.out.mono ?_
                    rintro e w7 ⟨v7, rfl, H7⟩
                    have HEQ : Hid (Calls Try.prog 54 #[v7, .slice wa L wc'] w7 fun e w' => e = .returned (.bool true) ∧ Below w7.heap.size w7 w') := by
                      refine iequal_any H7.out.1.row ?_ (by have := end_le HD.out.ok cx true; omega)
                      refine NRow.row (row_kee HWR.out H7.out.2.2 fun b hb e => ?_)
                      have := HNO.out b hb
                      have := HMO.out b e
                      omega
                    have HP7 := hide H7.out.2.1.1
                    have HQ7 := hide (H7.out.2.1.2 _ _ HQ6.out)
                    clear H7 HEB HP6 HQ6 HWR
                    go_wp2_with fail
                    refine HEQ.out.mono ?_
                    rintro e w8 ⟨rfl, hb8⟩
                    have HP8 := hide (HP7.out.later hb8)
                    have HQ8 := hide (HQ7.out.later hb8)
                    clear hb8
                    go_wp2_with fail
                    go_meet
                    exact ⟨n, by omega, mo, _, h2, l2, v2, HP8.out, HDF.out, HQ8.out⟩
              | true =>
                go_wp2_with fail
                rw [← hw3.out]
                refine (HIA.out _).mono ?_
                rintro e w4 ⟨rfl, rfl⟩
                have HED := hide (HP3.out.endD HD.out HIX.out 1)
                go_wp2_with fail
                refine HED.out.mono ?_
                rintro e wm ⟨rfl, H5⟩
                obtain ⟨v2, hP5, hQS5⟩ := H5.out
                obtain ⟨h2, hh2⟩ : ∃ h2, h2 = wo h (cx :: endL g cx ((1 : Int) == 1)) := ⟨_, rfl⟩
                obtain ⟨l2, hl2⟩ : ∃ l2, l2 = evL 1 (cx :: endL g cx ((1 : Int) == 1)) := ⟨_, rfl⟩
                rw [← hh2, ← hl2] at hP5
                have eal : ((1 : Int) == 1) = true := by decide
                rw [eal] at hh2 hl2
                -- the ends that the document tells
                have HMID : Hid (PB w bp mo n g sp mp mw mb h2 l2 v2 wm ∧ Dir h2 (wo g (cx :: endL g cx true)) ∧ wantL l2 = endL g cx true ∧ l2.length ≤ 100 ∧ QB w bp mo sp mp mb v2 q (cbox 2 cx cy) wm) := ⟨hP5, by rw [hh2]; exact HD.out.wo _, by rw [hl2]; exact want_evL _ _ _, by rw [hl2, evL_length, List.length_cons]; have := end_le HD.out.ok cx true; omega, hQS5 _ _ HQ3.out⟩
                clear hh2 hl2 hP5 hQS5 H5 eal
                obtain ⟨va, vc, hv2, hev⟩ := HMID.out.1.ds.ev
                obtain ⟨M, hM⟩ : ∃ M, M = l2.length := ⟨_, rfl⟩
                rw [← hM] at hv2
                have HEV : Hid (∀ (i : Nat) (k : Int × Int), l2[i]? = some k → ∃ g, va = some ⟨g, 0, none⟩ ∧ g < wm.heap.size ∧ ∀ W, Below wm.heap.size wm W → W.cell? ⟨g, i * 7, none⟩ = some (.string endW) ∧ W.cell? ⟨g, i * 7 + 1, none⟩ = some (.int .i64 k.1) ∧ W.cell? ⟨g, i * 7 + 2, none⟩ = some (.int .i64 k.2) ∧ W.cell? ⟨g, i * 7 + 3, none⟩ = some (.int .i64 0) ∧ W.cell? ⟨g, i * 7 + 4, none⟩ = some (.int .i64 0) ∧ W.cell? ⟨g, i * 7 + 5, none⟩ = some (.string ⟨#[]⟩) ∧ W.cell? ⟨g, i * 7 + 6, none⟩ = some (.slice none 0 0)) := fun i k hk => by
                  obtain ⟨g, e, hc⟩ := hev i k hk
                  have hlt : g < wm.heap.size := World.block_lt_of_cell? wm ⟨g, i * 7 + 1, none⟩ (hc 1 _ rfl)
                  refine ⟨g, e, hlt, fun W hW => ?_⟩
                  have cc := fun j => hW.cell (p := ⟨g, i * 7 + j, none⟩) hlt
                  exact ⟨(cc 0).trans (hc 0 _ rfl), (cc 1).trans (hc 1 _ rfl), (cc 2).trans (hc 2 _ rfl), (cc 3).trans (hc 3 _ rfl), (cc 4).trans (hc 4 _ rfl), (cc 5).trans (hc 5 _ rfl), (cc 6).trans (hc 6 _ rfl)⟩
                have HM100 : Hid (l2.length = M ∧ M ≤ 100) := ⟨hM.symm, by rw [hM]; exact HMID.out.2.2.2.1⟩
                have s6 := HMID.out.1.ds.cells.2.2.1
                rw [hv2] at s6
                clear hev hv2 hM
                go_wp2_with fail
                go_loopw [9, 89] (fun vw i wr => ∃ (i' : Nat) (a : Option Addr) (L c : Nat), vw = .slice a L c ∧ i = .int .i64 i' ∧ i' ≤ M ∧ L ≤ i' ∧ Hid ((wantL (l2.take i')).length = L ∧ NRow wm.heap.size (.slice a L c) (wantL (l2.take i')) wr ∧ Below wm.heap.size wm wr)) (fun _ i _ => M - (intOf i).toNat)
                case atStart => exact ⟨0, none, 0, 0, rfl, rfl, Nat.zero_le _, Nat.le_refl _, rfl, NRow.nil _ _, Below.refl _ _⟩
                case round =>
                  obtain ⟨i, wa, L, wc', rfl, rfl, hi, hLi, HI⟩ := hrel
                  have hM1 := HM100.out.2
                  by_cases hiM : i < M
                  · obtain ⟨⟨ka, kb⟩, hk⟩ : ∃ k, l2[i]? = some k := ⟨l2[i]'(by rw [HM100.out.1]; exact hiM), List.getElem?_eq_getElem _⟩
                    obtain ⟨eg, rfl, hegl, hec⟩ := HEV.out i _ hk
                    have HK := hide hk
                    obtain ⟨u0, u1, u2', u3, u4, u5, u6⟩ := hec wr HI.out.2.2
                    clear hk hec
                    have i1 : (0 : Int) ≤ (i : Int) := by omega
                    have i2 : (i : Int) < (M : Int) := by omega
                    have HNX := hide (want_next l2 i _ HK.out)

                    by_cases hi0 : i = 0
                    · have hi0' : ¬ (0 : Int) < (i : Int) := by omega
                      have HNW := hide (show wantL (l2.take (i + 1)) = wantL (l2.take i) by rw [HNX.out, if_pos hi0, List.append_nil])
                      clear hi0
                      have HB1 : Hid (∀ o : Obj, Below wm.heap.size wm (wr.alloc o)) := fun o => HI.out.2.2.trans ((Below.refl _ _).alloc HI.out.2.2.size o)
                      go_wp2_with fail
                      go_roundw
                      case rel => exact ⟨i + 1, wa, L, wc', rfl, by go_num, by omega, by omega, by rw [HNW.out]; exact HI.out.1, by rw [HNW.out]; exact HI.out.2.1.later ((Below.refl _ _).alloc (Nat.le_refl _) _), HB1.out _⟩
                      case measure => simp [intOf]; omega
                    · have hi0' : (0 : Int) < (i : Int) := by omega
                      have HNW := hide (show wantL (l2.take (i + 1)) = wantL (l2.take i) ++ [ka] by rw [HNX.out, if_neg hi0])
                      clear hi0
                      have HWX : Hid (∃ wx p, (wx = wr.alloc (.cells #[.string endW, .int .i64 ka, .int .i64 kb, .int .i64 0, .int .i64 0, .string ⟨#[]⟩, .slice none 0 0] 110) ∧ p = wr.heap.size) ∧ wx.cell? ⟨p, 1, none⟩ = some (.int .i64 ka) ∧ Hid (wx.ownsRow wm.heap.size 3 1 (.slice wa L wc') L (iCells (wantL (l2.take i))) ∧ Below wm.heap.size wm wx)) := by
                        refine ⟨_, _, ⟨rfl, rfl⟩, cell_row (heap_alloc_new _ _) 1, ?_, HI.out.2.2.trans ((Below.refl _ _).alloc HI.out.2.2.size _)⟩
                        have h := HI.out.2.1.later ((Below.refl _ _).alloc (Nat.le_refl _) (.cells #[.string endW, .int .i64 ka, .int .i64 kb, .int .i64 0, .int .i64 0, .string ⟨#[]⟩, .slice none 0 0] 110))
                        unfold NRow at h
                        rw [HI.out.1] at h
                        exact h
                      have HLL := hide HI.out.1
                      clear HI
                      go_upto_region 31 with fail
                      obtain ⟨wx, p, ⟨hwx, hp⟩, cp, HO⟩ := HWX.out
                      rw [← hwx, ← hp]
                      have HSZ := hide HO.out.2.size
                      clear hwx hp HWX u0 u1 u2' u3 u4 u5 u6
                      go_wp2_with (first
                        | (at_builtin; refine wpList_append_lies _ rfl _ _ 39 rfl wm.heap.size 3 it _ 1 8 Try.underlying39 HIT.out.1 HIT.out.2.1 HIT.out.2.2.1 HIT.out.2.2.2 rfl (by decide) (.slice wa L wc') L (iCells (wantL (l2.take i))) rfl (HO.out.1.alloc _) ⟨wx.heap.size, 0, none⟩ 1 1 [.int .i64 ka] rfl rfl (World.news_of_block (cs := #[.int .i64 ka]) (t := 3) (fr := (0, 0)) (heap_alloc_new wx _)) (by simp [Value.oneCell']) (by decide) (by unfold maxLen; omega) (by omega) (by have := HSZ.out; simp; omega) _ rfl ?_; intro g5 c5 w5 hown5 hgrow5 hat5 hlt5; have HO5 := hide hown5; have HB5 := hide (HO.out.2.trans (below_grown' HO.out.1 hgrow5 HO.out.2.size)); clear hown5 hgrow5 hat5 hlt5))
                      go_roundw
                      case rel =>
                        refine ⟨i + 1, some ⟨g5, 0, none⟩, L + 1, c5, rfl, by go_num, by omega, by omega, ?_, ?_, HB5.out⟩
                        · rw [HNW.out, List.length_append, HLL.out]
                          rfl
                        · unfold NRow
                          rw [HNW.out, iCells_snoc, List.length_append, HLL.out]
                          exact HO5.out
                      case measure => simp [intOf]; omega
                  · obtain rfl : i = M := by omega
                    have HP6 := hide (HMID.out.1.later HI.out.2.2)
                    have HQ6 := hide (HMID.out.2.2.2.2.later HI.out.2.2)
                    have HWR : Hid (NRow wm.heap.size (.slice wa L wc') (endL g cx true) wr) := by
                      have h := HI.out.2.1
                      rw [List.take_of_length_le (by rw [HM100.out.1]; exact Nat.le_refl _), HMID.out.2.2.1] at h
                      exact h
                    have HNO : Hid (∀ b, (Value.slice wa L wc').ownBlock = some b → wm.heap.size ≤ b ∧ b < wr.heap.size) := fun b hb => HWR.out.lt b hb
                    have HMO : Hid (∀ b, mo = some b → b < wm.heap.size) := fun b e => (HMID.out.1.bd.lt b (Or.inr e)).2
                    have HDF := hide HMID.out.2.1
                    have HEB := hide (HP6.out.endB HD.out.ok HIX.out true)
                    obtain ⟨k0, k1, k2⟩ := HQ6.out.cells
                    clear HI HMID HEV s6 HM100
                    go_wp2_with fail
                    refine HEB.out.mono ?_
                    rintro e w7 ⟨v7, rfl, H7⟩
                    have HEQ : Hid (Calls Try.prog 54 #[v7, .slice wa L wc'] w7 fun e w' => e = .returned (.bool true) ∧ Below w7.heap.size w7 w') := by
                      refine iequal_any H7.out.1.row ?_ (by have := end_le HD.out.ok cx true; omega)
                      refine NRow.row (row_kee HWR.out H7.out.2.2 fun b hb e => ?_)
                      have := HNO.out b hb
                      have := HMO.out b e
                      omega
                    have HP7 := hide H7.out.2.1.1
                    have HQ7 := hide (H7.out.2.1.2 _ _ HQ6.out)
                    clear H7 HEB HP6 HQ6 HWR
                    go_wp2_with fail
                    refine HEQ.out.mono ?_
                    rintro e w8 ⟨rfl, hb8⟩
                    have HP8 := hide (HP7.out.later hb8)
                    have HQ8 := hide (HQ7.out.later hb8)
                    clear hb8
                    go_wp2_with fail
                    go_meet
                    exact ⟨n, by omega, mo, _, h2, l2, v2, HP8.out, HDF.out, HQ8.out⟩
          · have h1 : ¬ ck = 1 := fun e => h12 (Or.inl e)
            have h2 : ¬ ck = 2 := fun e => h12 (Or.inr e)
            have h0' : ¬ (0 : Int) = ck := fun e => h0 e.symm
            have h1' : ¬ (1 : Int) = ck := fun e => h1 e.symm
            have h2' : ¬ (2 : Int) = ck := fun e => h2 e.symm
            go_wp2_with fail
            go_meet
            exact ⟨n, by omega, mo, g, h, ev, v, HP2.out, HD.out, HQ2.out⟩
      case rest =>
      obtain ⟨n', hn', HC⟩ := hcut
      clear HP2 HQ2 HD HR HRA
      obtain ⟨mo', g', h', ev', v', hP', hD', hQ'⟩ := HC.out
      have HP := hide hP'
      have HD := hide hD'
      have HQ := hide hQ'
      obtain ⟨_, c1, c2⟩ := hQ'.cells
      clear HC hP' hD' hQ'
      have HW5 : Hid (∃ wz r, (wz = wc.alloc (.cells #[.int .i64 cx, .int .i64 cy] 3) ∧ r = wc.heap.size) ∧ PB w bp mo' n' g' sp mp mw mb h' ev' v' wz ∧ (∀ W, Below wz.heap.size wz W → W.cell? ⟨r, 0, none⟩ = some (.int .i64 cx) ∧ W.cell? ⟨r, 1, none⟩ = some (.int .i64 cy))) := by
        refine ⟨_, _, ⟨rfl, rfl⟩, HP.out.later ((Below.refl _ _).alloc (Nat.le_refl _) _), fun W hW => ?_⟩
        have h := (hW.block wc.heap.size (by simp)).trans (heap_alloc_new wc _)
        exact ⟨cell_row h 0, cell_row h 1⟩
      go_wp2_with fail
      obtain ⟨wz, r, ⟨hwz, hr⟩, hPz, hcz⟩ := HW5.out
      rw [← hwz, ← hr]
      have HPZ := hide hPz
      have HCZ := hide hcz
      clear hwz hr HW5 hPz hcz HP HQ c1 c2
      go_loopw [118] (fun i wr => ∃ i' : Nat, i' ≤ 2 ∧ i = .int .i64 i' ∧ Hid (Below wz.heap.size wz wr)) (fun i _ => 2 - (intOf i).toNat)
      case atStart => exact ⟨0, by omega, rfl, Below.refl _ _⟩
      case round =>
        obtain ⟨i, hi, rfl, HB⟩ := hrel
        by_cases hi2 : i < 2
        · obtain ⟨t, ht, HTI⟩ : ∃ t : Int, wr.cell? ⟨r, i, none⟩ = some (.int .i64 t) ∧ Hid (I64 t) := by
            obtain ⟨k0, k1⟩ := HCZ.out wr HB.out
            rcases Nat.lt_or_ge i 1 with e | e
            · obtain rfl : i = 0 := by omega
              exact ⟨cx, k0, HIX.out⟩
            · obtain rfl : i = 1 := by omega
              exact ⟨cy, k1, HIY.out⟩
          have i1 : (0 : Int) ≤ (i : Int) := by omega
          have i2 : (i : Int) < 2 := by omega
          have HIN := hide fun W => binr_any t 1 99 W
          obtain ⟨pt, hpt⟩ : ∃ pt, (decide (1 ≤ t) && decide (t ≤ 99)) = pt := ⟨_, rfl⟩
          rw [hpt] at HIN
          clear hpt
          cases pt with
          | false =>
            go_wp2_with fail
            refine (HIN.out _).mono ?_
            rintro e w3 ⟨rfl, rfl⟩
            go_wp2_with fail
            go_roundw
            case rel => exact ⟨i + 1, by omega, by go_num, HB.out⟩
            case measure => simp [intOf]; omega
          | true =>
            have HOF := hide (bof_any (HPZ.out.bd.later HB.out) HTI.out)
            go_wp2_with fail
            refine (HIN.out _).mono ?_
            rintro e w3 ⟨rfl, rfl⟩
            go_wp2_with fail
            refine HOF.out.mono ?_
            rintro e w4 ⟨v4, rfl, H4⟩
            have HB4 := hide (HB.out.trans (H4.out.2.mono HB.out.size))
            have HLI := hide ((HPZ.out.ds.later HB4.out).linked HTI.out)
            go_wp2_with fail
            refine HLI.out.mono ?_
            rintro e w5 ⟨v5, rfl, H5⟩
            have HB5 := hide (HB4.out.trans (H5.out.2.mono HB4.out.size))
            have HEQ : Hid (Calls Try.prog 54 #[v4, v5] w5 fun e w' => e = .returned (.bool true) ∧ Below w5.heap.size w5 w') := by
              refine iequal_any (l := ofL g' t) (H4.out.1.later H5.out.2).row ?_ (by have := ofL_length g' t; omega)
              rw [← HD.out.lnk]
              exact H5.out.1.row
            clear H4 H5 HOF HLI
            go_wp2_with fail
            refine HEQ.out.mono ?_
            rintro e w6 ⟨rfl, hb6⟩
            have HB6 := hide (HB5.out.trans (hb6.mono HB5.out.size))
            clear hb6
            go_wp2_with fail
            go_roundw
            case rel => exact ⟨i + 1, by omega, by go_num, HB6.out⟩
            case measure => simp [intOf]; omega
        · obtain rfl : i = 2 := by omega
          have HF : Hid (PD w bp sp mp mw mb n' wr) := ⟨mo', g', h', ev', v', HPZ.out.later HB.out, HD.out⟩
          go_wp2_with fail
          go_roundw
          case rel => exact ⟨j + 1, n', by omega, by go_num, by omega, HF.out⟩
          case measure => simp [intOf]; omega
    · obtain rfl : j = len := by omega
      have HB : Hid (Below w.heap.size w wr) := by
        obtain ⟨mo, g, h, ev, v, hP, _⟩ := HR.out
        exact hP.below
      go_wp2_with fail
      go_ret
      exact ⟨rfl, HB.out⟩
end Go.Proofs.Ytdfpjpmdldigdaa
