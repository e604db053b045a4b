/- What is proved here: the document's Read: for every text: a text of more than 2048 signs is too long; else the words tell one term, whose check is told, or the place where they can't go on. Only new memory turns. -/
import Derived.Test.YtpehdgbdinjbaaaG09
namespace Go.Proofs.Ytpehdgbdinjbaaa
open Go.RowKit

set_option maxHeartbeats 4000000 in
theorem read_any (s : ByteArray) (w : World) (hs : s.size ≤ maxLen) :
    Calls Try.prog 13 #[.string s] w fun e w' => POut s w w' e := by
  unfold maxLen at hs
  by_cases hbig : 2048 < s.size
  · have hbig' : (2048 : Int) < s.size := by omega
    go_enter Try.func13, Try.ntmps13
    go_wp2_with fail
    exact bodyPost_ret (v := .tuple #[zeroT, .int .i64 0, .int .i64 2]) (by simp [results, Try.results13, go_sem, zeroT]) rfl ⟨0, 0, ⟨#[]⟩, none, 0, 0, 0, 2, rfl, Or.inl ⟨hbig, rfl, rfl, rfl⟩, by go_grown⟩
  · have hbig' : (s.size : Int) ≤ 2048 := by omega
    have hs2 : s.size ≤ 2048 := by omega
    clear hbig
    have HTL := hide (Nat.le_trans (toks_length s s.size 0 (by omega)) (show s.size - 0 ≤ 2048 by omega))
    have HTS := hide (fun t (ht : t ∈ toks s 0) => toks_size s _ _ t ht)
    go_enter Try.func13, Try.ntmps13
    go_wp2_with (go_at_call 51; refine (words_any s _ hs2).mono ?_; rintro e w1 ⟨a1, a2, L, c1, c2, rfl, HW⟩)
    have hb1 : Below w.heap.size w w1 := (below_new (Below.refl _ _) _).trans (HW.out.2.1.mono (by simp))
    have HX1 : Hid (Bx w.heap.size (.int .i64 0) (.int .i64 0) (.string ⟨#[]⟩) (.slice none 0 0) w1) := (Bx.new w _ _ _ _).block (HW.out.2.1.block _ (by simp))
    have HB1 := hide hb1
    clear hb1
    have hL : L ≤ 2048 := by rw [HW.out.1]; exact HTL.out
    go_loopw [7, 8] (fun dv iv wr => ∃ i D : Nat, i ≤ L ∧ D ≤ i ∧ dv = .int .i64 D ∧ iv = .int .i64 i ∧ Hid (Below w1.heap.size w1 wr ∧ St s.size (toks s 0) i D (exp s.size (toks s 0) 0))) (fun _ iv _ => L - (intOf iv).toNat)
    case atStart => exact ⟨0, 0, Nat.zero_le _, Nat.le_refl _, rfl, rfl, Below.refl _ _, st_start _ _⟩
    case round =>
      obtain ⟨i, D, hi, hD, rfl, rfl, HQ⟩ := hrel
      have HXr := hide (HX1.out.block (HQ.out.1.block _ HX1.out.lt))
      obtain ⟨⟨x0, x1, x2, x3⟩, f0, f1, f2, f3⟩ := HXr.out.cells
      have hlr : w.heap.size < wr.heap.size := HXr.out.lt
      have HBr : Hid (Below w.heap.size w wr) := HB1.out.trans (HQ.out.1.mono HB1.out.size)
      by_cases hlt : i < L
      · obtain ⟨g, h, rfl, rfl, hg, hh, HG, HH⟩ := rea_cells HW.out.2.2.1 HW.out.2.2.2 (by omega) HQ.out.1
        obtain ⟨⟨p, x⟩, ht⟩ : ∃ t, (toks s 0)[i]? = some t := ⟨_, List.getElem?_eq_getElem (by rw [← HW.out.1]; exact hlt)⟩
        have hx : wr.cell? ⟨g, i, none⟩ = some (.string x) := HG i (p, x) ht
        have hp : wr.cell? ⟨h, i, none⟩ = some (.int .i64 p) := HH i (p, x) ht
        obtain ⟨hx0, hx1⟩ := HTS.out (p, x) (List.mem_of_getElem? ht)
        simp only at hx0 hx1
        replace hx1 : x.size ≤ 2048 := by omega
        have HT := hide ht
        clear HG HH ht
        have hh1 : w.heap.size < h := by simp at hh; omega
        have hh2 : ¬ h = w.heap.size := by omega
        have hi0 : (0 : Int) ≤ (i : Int) := by omega
        have hi1 : (i : Int) < (L : Int) := by omega
        have hD0 : (0 : Int) ≤ (D : Int) := by omega
        cases hO : (x.toList == [40])
        · have hO1 : (x.toList = [40]) = False := by simpa using hO
          cases hC : (x.toList == [41])
          · have hC1 : (x.toList = [41]) = False := by simpa using hC
            by_cases hi2 : i = 0
            · subst hi2
              obtain rfl : D = 0 := by omega
              go_wp2_with (go_at_call 52; refine (leaf_any x _ hx1 hx0).mono ?_; rintro e w2 ⟨⟨k, u, t, ok, rfl, HV⟩, hb2⟩; have HB2 := hide hb2; obtain ⟨⟨y0, y1, y2, y3⟩, g0, g1, g2, g3⟩ := (HXr.out.block (HB2.out.block _ hlr)).cells; have hl2 : w.heap.size < w2.heap.size := (Nat.lt_of_lt_of_le hlr hb2.size); have hp2 : w2.cell? ⟨h, 0, none⟩ = some (.int .i64 p) := ((hb2.cell (p := ⟨h, 0, none⟩) (World.block_lt_of_cell? _ _ hp)).trans hp); have hlh : h < w2.heap.size := (World.block_lt_of_cell? _ _ hp2); clear hb2; cases ok)
              · have HE := hide (st_no HQ.out.2 (Or.inl rfl) HT.out hO (Or.inl rfl) HV.out.1.symm)
                go_region
                go_wp2_with fail
                exact bodyPost_ret (v := .tuple #[zeroT, .int .i64 p, .int .i64 3]) (by simp [results, Try.results13, go_sem, zeroT, y0, y1, y2, y3, hl2]) rfl ⟨0, 0, ⟨#[]⟩, none, 0, 0, p, 3, rfl, Or.inr (Or.inl ⟨p, hs2, HE.out, rfl, rfl, rfl⟩), below_drew (below_new (below_set4 (HBr.out.trans (HB2.out.mono HBr.out.size)) _ _ _ _) _) 1⟩
              · go_roundw
                case rel => exact ⟨1, 0, by omega, by omega, rfl, by go_num, below_new (HQ.out.1.trans (HB2.out.mono HQ.out.1.size)) _, st_leaf HQ.out.2 (Or.inl rfl) HT.out hO hC HV.out.1.symm⟩
                case measure => simp [intOf]; omega
            · have hi3 : (0 : Int) < (i : Int) := by omega
              by_cases hD2 : D = 0
              · subst hD2
                have HE := hide (st_bad HQ.out.2 (by omega) HT.out)
                go_wp2_with (go_at_call 52; refine (leaf_any x _ hx1 hx0).mono ?_; rintro e w2 ⟨⟨k, u, t, ok, rfl, HV⟩, hb2⟩; have HB2 := hide hb2; obtain ⟨⟨y0, y1, y2, y3⟩, g0, g1, g2, g3⟩ := (HXr.out.block (HB2.out.block _ hlr)).cells; have hl2 : w.heap.size < w2.heap.size := (Nat.lt_of_lt_of_le hlr hb2.size); have hp2 : w2.cell? ⟨h, i, none⟩ = some (.int .i64 p) := ((hb2.cell (p := ⟨h, i, none⟩) (World.block_lt_of_cell? _ _ hp)).trans hp); have hlh : h < w2.heap.size := (World.block_lt_of_cell? _ _ hp2); clear hb2; cases ok)
                all_goals
                  go_region
                  go_wp2_with fail
                  exact bodyPost_ret (v := .tuple #[zeroT, .int .i64 p, .int .i64 3]) (by simp [results, Try.results13, go_sem, zeroT, y0, y1, y2, y3, hl2]) rfl ⟨0, 0, ⟨#[]⟩, none, 0, 0, p, 3, rfl, Or.inr (Or.inl ⟨p, hs2, HE.out, rfl, rfl, rfl⟩), below_drew (below_new (below_set4 (HBr.out.trans (HB2.out.mono HBr.out.size)) _ _ _ _) _) 1⟩
              · have hD3 : ((D : Int) == 0) = false := by simp; omega
                have hD4 : (0 : Int) < (D : Int) := by omega
                go_wp2_with (go_at_call 52; refine (leaf_any x _ hx1 hx0).mono ?_; rintro e w2 ⟨⟨k, u, t, ok, rfl, HV⟩, hb2⟩; have HB2 := hide hb2; obtain ⟨⟨y0, y1, y2, y3⟩, g0, g1, g2, g3⟩ := (HXr.out.block (HB2.out.block _ hlr)).cells; have hl2 : w.heap.size < w2.heap.size := (Nat.lt_of_lt_of_le hlr hb2.size); have hp2 : w2.cell? ⟨h, i, none⟩ = some (.int .i64 p) := ((hb2.cell (p := ⟨h, i, none⟩) (World.block_lt_of_cell? _ _ hp)).trans hp); have hlh : h < w2.heap.size := (World.block_lt_of_cell? _ _ hp2); clear hb2; cases ok)
                · have HE := hide (st_no HQ.out.2 (Or.inr (by omega)) HT.out hO (Or.inr hC) HV.out.1.symm)
                  go_region
                  go_wp2_with fail
                  exact bodyPost_ret (v := .tuple #[zeroT, .int .i64 p, .int .i64 3]) (by simp [results, Try.results13, go_sem, zeroT, y0, y1, y2, y3, hl2]) rfl ⟨0, 0, ⟨#[]⟩, none, 0, 0, p, 3, rfl, Or.inr (Or.inl ⟨p, hs2, HE.out, rfl, rfl, rfl⟩), below_drew (below_new (below_set4 (HBr.out.trans (HB2.out.mono HBr.out.size)) _ _ _ _) _) 1⟩
                · go_roundw
                  case rel => exact ⟨i + 1, D, by omega, by omega, rfl, by go_num, below_new (HQ.out.1.trans (HB2.out.mono HQ.out.1.size)) _, st_leaf HQ.out.2 (Or.inr (by omega)) HT.out hO hC HV.out.1.symm⟩
                  case measure => simp [intOf]; omega
          · by_cases hi2 : i = 0
            · subst hi2
              obtain rfl : D = 0 := by omega
              have HE := hide (st_no HQ.out.2 (Or.inl rfl) HT.out hO (Or.inl rfl) (leaf_close hC).1)
              go_wp2_with fail
              go_region
              go_wp2_with fail
              exact bodyPost_ret (v := .tuple #[zeroT, .int .i64 p, .int .i64 3]) (by simp [results, Try.results13, go_sem, zeroT, x0, x1, x2, x3]) rfl ⟨0, 0, ⟨#[]⟩, none, 0, 0, p, 3, rfl, Or.inr (Or.inl ⟨p, hs2, HE.out, rfl, rfl, rfl⟩), below_set4 (below_drew HBr.out 1) _ _ _ _⟩
            · have hi3 : (0 : Int) < (i : Int) := by omega
              by_cases hD2 : D = 0
              · subst hD2
                have HE := hide (st_bad HQ.out.2 (by omega) HT.out)
                go_wp2_with fail
                go_region
                go_wp2_with fail
                exact bodyPost_ret (v := .tuple #[zeroT, .int .i64 p, .int .i64 3]) (by simp [results, Try.results13, go_sem, zeroT, x0, x1, x2, x3]) rfl ⟨0, 0, ⟨#[]⟩, none, 0, 0, p, 3, rfl, Or.inr (Or.inl ⟨p, hs2, HE.out, rfl, rfl, rfl⟩), below_set4 (below_drew HBr.out 1) _ _ _ _⟩
              · have hD3 : ((D : Int) == 0) = false := by simp; omega
                have hD4 : (0 : Int) < (D : Int) := by omega
                obtain ⟨D, rfl⟩ : ∃ k, D = k + 1 := ⟨D - 1, by omega⟩
                go_wp2_with fail
                go_roundw
                case rel => exact ⟨i + 1, D, by omega, by omega, by go_num, by go_num, HQ.out.1, st_close HQ.out.2 HT.out hC⟩
                case measure => simp [intOf]; omega
        · by_cases hi2 : i = 0
          · subst hi2
            obtain rfl : D = 0 := by omega
            go_wp2_with fail
            go_roundw
            case rel => exact ⟨1, 1, by omega, by omega, by go_num, by go_num, HQ.out.1, st_open HQ.out.2 (Or.inl rfl) HT.out hO⟩
            case measure => simp [intOf]; omega
          · have hi3 : (0 : Int) < (i : Int) := by omega
            by_cases hD2 : D = 0
            · subst hD2
              have HE := hide (st_bad HQ.out.2 (by omega) HT.out)
              go_wp2_with fail
              go_region
              go_wp2_with fail
              exact bodyPost_ret (v := .tuple #[zeroT, .int .i64 p, .int .i64 3]) (by simp [results, Try.results13, go_sem, zeroT, x0, x1, x2, x3]) rfl ⟨0, 0, ⟨#[]⟩, none, 0, 0, p, 3, rfl, Or.inr (Or.inl ⟨p, hs2, HE.out, rfl, rfl, rfl⟩), below_set4 (below_drew HBr.out 1) _ _ _ _⟩
            · have hD3 : ((D : Int) == 0) = false := by simp; omega
              have hD4 : (0 : Int) < (D : Int) := by omega
              go_wp2_with fail
              go_roundw
              case rel => exact ⟨i + 1, D + 1, by omega, by omega, by go_num, by go_num, HQ.out.1, st_open HQ.out.2 (Or.inr (by omega)) HT.out hO⟩
              case measure => simp [intOf]; omega
      · have hiL : i = L := by omega
        subst hiL
        have HEnd : Hid (((0 < D ∨ i = 0) → exp s.size (toks s 0) 0 = some s.size) ∧ (D = 0 → 0 < i → exp s.size (toks s 0) 0 = none)) := by
          have h2 := HQ.out.2
          rw [HW.out.1] at h2 ⊢
          exact st_end h2
        clear hlt
        by_cases hD2 : D = 0
        · subst hD2
          by_cases hi2 : i = 0
          · subst hi2
            have HE := hide (HEnd.out.1 (Or.inr rfl))
            go_wp2_with fail
            exact bodyPost_ret (v := .tuple #[zeroT, .int .i64 s.size, .int .i64 3]) (by simp [results, Try.results13, go_sem, zeroT, x0, x1, x2, x3]) rfl ⟨0, 0, ⟨#[]⟩, none, 0, 0, s.size, 3, rfl, Or.inr (Or.inl ⟨s.size, hs2, HE.out, rfl, rfl, rfl⟩), below_set4 HBr.out _ _ _ _⟩
          · have hi3 : ((i : Int) == 0) = false := by simp; omega
            have hi4 : ¬ (i : Int) = 0 := by omega
            have HE := hide (HEnd.out.2 rfl (by omega))
            obtain ⟨g, h, rfl, rfl, hg, hh, HG, HH⟩ := rea_cells HW.out.2.2.1 HW.out.2.2.2 (by omega) HQ.out.1
            have HC : Hid (Calls Try.prog 53 #[.slice (some ⟨g, 0, none⟩) i c1, .int .i64 0] wr fun e w' => BOut 2049 (toks s 0) s.size 0 0 wr w' e) := by
              have := built_any 2048 (toks s 0) s.size 0 0 g c1 wr HG (Nat.lt_of_lt_of_le hg HQ.out.1.size) HTL.out (fun t ht => Nat.le_trans (HTS.out t ht).2 hs2) (by have := HTL.out; omega) (by simpa using HE.out)
              rw [← HW.out.1] at this
              exact this
            clear HG HH
            go_wp2_with (first
              | (go_at_call 53; refine HC.out.mono ?_; rintro e w2 ⟨k, u, t, a, l, c, q, rfl, HR⟩)
              | (go_at_call 10; obtain ⟨y, hv, HY⟩ := rea_tree HR.out HTL.out; replace HY := hide HY; refine (show Calls _ _ #[.agg #[.int .i64 k, .int .i64 u, .string t, .slice a l c]] _ _ from hv ▸ rcheck_any 2049 y _ _ (in_new _ HY.out.2.1 HY.out.2.2.1) (Nat.le_refl _) HY.out.2.2.2).mono ?_; rintro e3 w3 ⟨rfl, hb3⟩; have HX2 := hide (HXr.out.block (HR.out.1.block _ hlr)); obtain ⟨⟨y0, y1, y2, y3⟩, g0, g1, g2, g3⟩ := ((HX2.out.block (alloc_block _ _ HX2.out.lt)).block (hb3.block _ (Nat.lt_of_lt_of_le HX2.out.lt (by simp)))).cells; obtain ⟨⟨z0, z1, z2, z3⟩, p0, p1, p2, p3⟩ := ((Bx.new w2 (.int .i64 k) (.int .i64 u) (.string t) (.slice a l c)).block (hb3.block _ (by simp))).cells; have HB3 := hide hb3; clear hb3; replace hv := hide hv; obtain ⟨E, hE⟩ : ∃ E, chk 2049 y = E := ⟨_, rfl⟩; rw [hE]; replace hE := hide hE; by_cases hE0 : E = 0))
            · have hb2 : Below w.heap.size w w2 := HBr.out.trans (HR.out.1.mono HBr.out.size)
              have hb3 : Below w.heap.size w w3 := (below_new hb2 _).trans (HB3.out.mono (below_new hb2 _).size)
              exact bodyPost_ret (v := .tuple #[.agg #[.int .i64 k, .int .i64 u, .string t, .slice a l c], .int .i64 0, .int .i64 0]) (by simp [results, Try.results13, go_sem, y0, y1, y2, y3]) rfl ⟨k, u, t, a, l, c, 0, 0, rfl, Or.inr (Or.inr ⟨hs2, HE.out, 2049, y, HY.out.1, rea_in HY.out.2.1 (HY.out.2.2.1.mono fun p hp => by omega) HB3.out _ _ _ _, HY.out.2.2.1.mono (fun p hp => by omega), rfl, (hE.out.trans hE0).symm, Or.inr ⟨hE.out.trans hE0, hv.out⟩⟩), below_set4 hb3 _ _ _ _⟩
            · have hb2 : Below w.heap.size w w2 := HBr.out.trans (HR.out.1.mono HBr.out.size)
              have hb3 : Below w.heap.size w w3 := (below_new hb2 _).trans (HB3.out.mono (below_new hb2 _).size)
              exact bodyPost_ret (v := .tuple #[zeroT, .int .i64 0, .int .i64 E]) (by simp [results, Try.results13, go_sem, zeroT, y0, y1, y2, y3]) rfl ⟨0, 0, ⟨#[]⟩, none, 0, 0, 0, E, rfl, Or.inr (Or.inr ⟨hs2, HE.out, 2049, y, HY.out.1, rea_in HY.out.2.1 (HY.out.2.2.1.mono fun p hp => by omega) HB3.out _ _ _ _, HY.out.2.2.1.mono (fun p hp => by omega), rfl, hE.out.symm, Or.inl ⟨by rw [hE.out]; exact hE0, rfl⟩⟩), below_set4 hb3 _ _ _ _⟩
        · have hD3 : (0 : Int) < (D : Int) := by omega
          have HE := hide (HEnd.out.1 (Or.inl (by omega)))
          go_wp2_with fail
          exact bodyPost_ret (v := .tuple #[zeroT, .int .i64 s.size, .int .i64 3]) (by simp [results, Try.results13, go_sem, zeroT, x0, x1, x2, x3]) rfl ⟨0, 0, ⟨#[]⟩, none, 0, 0, s.size, 3, rfl, Or.inr (Or.inl ⟨s.size, hs2, HE.out, rfl, rfl, rfl⟩), below_set4 HBr.out _ _ _ _⟩
end Go.Proofs.Ytpehdgbdinjbaaa
