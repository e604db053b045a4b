/- What is proved here: the document's term out of words (built): for every row of at most 2048 words that can go on: the term that it begins with, and where it ends. Only new memory turns. -/
import Derived.Test.YtmdlgcefppllkaaBui0
import Derived.Test.YtmdlgcefppllkaaRLeaf
namespace Go.Proofs.Ytmdlgcefppllkaa
open Go.RowKit

theorem bui_leaf {n : Nat} {T : List Tok} {L0 d k : Nat} {w w1 : World} {t : Tok} {k1 u : Int} {s : ByteArray} (ht : T[k]? = some t) (ho : isO t.2 = false) (hl : leafB t.2 = true) (he : exp L0 (T.drop k) d = none) (hv : (k1, u, s) = leafV t.2) (hs : s.size ≤ 2048) (hk : I64 k1) (hu : I64 u)
    (b : Below w.heap.size w w1) : BRes (n + 1) T L0 d k w w1 (.agg #[.int .i64 k1, .int .i64 u, .string s, .slice none 0 0]) (k + 1) := by
  obtain ⟨hlt, _⟩ := List.getElem?_eq_some_iff.1 ht
  rw [drop_cons ht] at he
  simp only [exp, ho, hl] at he
  refine ⟨b, by omega, by omega, by simpa using he, ((k1, u, s), (none, 0), []), rfl, ?_, ⟨⟨hk, hu, by unfold maxLen; simp only; omega, Nat.zero_le _, Nat.zero_le _⟩, Or.inl rfl⟩, Or.inl rfl⟩
  rw [drop_cons ht]
  exact ⟨t, _, rfl, Or.inl ⟨ho, hl, hv, rfl, rfl⟩⟩

theorem leaf_pos {x : ByteArray} (h : leafB x = true) : 0 < x.size := by
  by_cases hz : 0 < x.size
  · exact hz
  · have h2 := size_nil hz
    rw [leaf_nil (by simpa using h2)] at h
    exact absurd h (by simp)

theorem built_leaf (n : Nat) (T : List Tok) (L0 d k g c L : Nat) (hL : T.length = L) (t : Tok) (ht : T[k]? = some t) (w : World) (hw : Ws T g w) (hg : g < w.heap.size) (hT : L ≤ 2048) (hts : t.2.size ≤ 2048) (ho : isO t.2 = false) (hl : leafB t.2 = true) (he : exp L0 (T.drop k) d = none) :
    Calls Try.prog 38 #[.slice (some ⟨g, 0, none⟩) L c, .int .i64 k] w fun e w' => BOut (n + 1) T L0 d k w w' e := by
  obtain ⟨hlt, _⟩ := List.getElem?_eq_some_iff.1 ht
  rw [hL] at hlt
  have hx := hw k t ht
  have HA := hide (⟨ht, ho, hl, he⟩ : _ ∧ _ ∧ _ ∧ _)
  clear hw ht ho hl he
  have h0 := leaf_pos HA.out.2.2.1
  obtain ⟨p, x⟩ := t
  simp only at hx hts h0
  have hc : (x.toList == [40]) = false := HA.out.2.1
  have hc1 : (x.toList = [40]) = False := by simpa using hc
  have hc2 : (x.toList != [40]) = true := by simpa using hc
  have hk0 : (0 : Int) ≤ (k : Int) := by omega
  have hk1 : (k : Int) < (L : Int) := by omega
  go_enter Try.func38, Try.ntmps38
  go_wp2_with (go_at_call 37; refine (leaf_any x _ hts h0).mono ?_; rintro e w2 ⟨⟨k1, u, s, ok, rfl, HV⟩, hb⟩; obtain ⟨⟨x0, x1, x2, x3⟩, f0, f1, f2, f3⟩ := box_of hb; have hl2 : w.heap.size < w2.heap.size := (by have := hb.size; simp at this; omega); have HB := hide hb; clear hb)
  have HBB : Hid (Below w.heap.size w w2) := (below_new (Below.refl _ _) _).trans (HB.out.mono (by simp))
  obtain ⟨v1, v2, v3, v4, v5⟩ := HV.out
  exact bodyPost_ret (v := .tuple #[.agg #[.int .i64 k1, .int .i64 u, .string s, .slice none 0 0], .int .i64 ((k + 1 : Nat) : Int)]) (by simp [results, Try.results38, go_sem, x0, x1, x2, x3, hl2]) rfl ⟨k1, u, s, none, 0, 0, k + 1, rfl, bui_leaf HA.out.1 HA.out.2.1 HA.out.2.2.1 HA.out.2.2.2 (v2 (v1.trans HA.out.2.2.1)) (by omega) v4 v5 (below_new (below_set4 HBB.out _ _ _ _) _)⟩

theorem four_at (w : World) (v0 v1 v2 v3 : Value) (e : TypeId) {H : Nat} (hH : w.heap.size = H) : ∀ (j : Nat) (u : Value), [v0, v1, v2, v3][j]? = some u → (w.alloc (.cells #[v0, v1, v2, v3] e)).cell? ((⟨H, 0, none⟩ : Addr).add j) = some u := by
  intro j u h
  subst hH
  rw [add_none]
  rw [World.cell?_alloc_at _ _ _ _ rfl]
  simpa using h

set_option maxHeartbeats 1000000 in
theorem built_tup (n : Nat) (ih : FBuilt n) (T : List Tok) (L0 d k g c L : Nat) (hL : T.length = L) (t0 : Tok) (ht : T[k]? = some t0) (w : World) (hw : Ws T g w) (hg : g < w.heap.size) (hT : L ≤ 2048) (hts : ∀ t ∈ T, t.2.size ≤ 2048) (hn : T.length ≤ n + 1 + k) (ho : isO t0.2 = true) (he : exp L0 (T.drop k) d = none) :
    Calls Try.prog 38 #[.slice (some ⟨g, 0, none⟩) L c, .int .i64 k] w fun e w' => BOut (n + 2) T L0 d k w w' e := by
  obtain ⟨it, hit, htz0, htz1, htz2⟩ := info_parts infoTerm
  have HT := hide (⟨hit, htz0, htz1, htz2⟩ : _ ∧ _ ∧ _ ∧ _)
  clear hit htz0 htz1 htz2
  obtain ⟨hlt, _⟩ := List.getElem?_eq_some_iff.1 ht
  have hsc : scanD L0 (T.drop (k + 1)) (d + 1) = none := by
    rw [drop_cons ht] at he
    simpa [exp, ho] using he
  have hx := hw k t0 ht
  have H0 := hide (bui_start (n := n) (w := w) hlt hsc)
  rw [hL] at hlt
  have HA := hide (⟨ht, ho, hw, hts, hn⟩ : _ ∧ _ ∧ _ ∧ _ ∧ _)
  have HI := hide ih
  have HL := hide hL
  clear hw ht he hsc hts hn ih hL
  obtain ⟨p0, x⟩ := t0
  have hc0 : (x.toList == [40]) = true := ho
  clear ho
  simp only at hx
  have hk0 : (0 : Int) ≤ (k : Int) := by omega
  have hk1 : (k : Int) < (L : Int) := by omega
  go_enter Try.func38, Try.ntmps38
  go_wp2_with fail
  go_loopw [1] (fun iv wr => ∃ (q : Nat) (a : Option Addr) (M c1 : Nat) (l : List (Tm (n + 1))), k + 1 ≤ q ∧ q ≤ L ∧ iv = .int .i64 q ∧ Hid (BuiQ n T L0 d k w q (.slice a M c1) wr l)) (fun iv _ => L - (intOf iv).toNat)
  case atStart => exact ⟨k + 1, none, 0, 0, [], Nat.le_refl _, by omega, by go_num, H0.out⟩
  case round =>
    obtain ⟨q, a, M, c1, l, hq1, hq2, rfl, HQ⟩ := hrel
    obtain ⟨⟨p, y⟩, hy⟩ := bui_word HQ.out
    have hy1 : wr.cell? ⟨g, q, none⟩ = some (.string y) := (HA.out.2.2.1.below HQ.out.1 hg) q (p, y) hy
    have hq3 : q < L := by have := (List.getElem?_eq_some_iff.1 hy).1; have := HL.out; omega
    have hq4 : (q : Int) < (L : Int) := by omega
    have hq5 : (0 : Int) ≤ (q : Int) := by omega
    have HY := hide hy
    clear hy
    cases hc : (y.toList == [41])
    · have hc1 : (y.toList = [41]) = False := by simpa using hc
      have hc2 : (y.toList != [41]) = true := by simpa using hc
      have HC : Hid (Calls Try.prog 38 #[.slice (some ⟨g, 0, none⟩) L c, .int .i64 q] (wr.alloc (.cells #[.int .i64 0, .int .i64 0, .string ⟨#[]⟩, .slice none 0 0] 24)) fun e w' => BOut (n + 1) T L0 (d + 1) q (wr.alloc (.cells #[.int .i64 0, .int .i64 0, .string ⟨#[]⟩, .slice none 0 0] 24)) w' e) := by
        have hb := below_new HQ.out.1 (.cells #[.int .i64 0, .int .i64 0, .string ⟨#[]⟩, .slice none 0 0] 24)
        have h6 := HQ.out.2.2.2.2.2.1
        rw [scan_exp _ _ _ (fun t ts' e => by rw [drop_cons HY.out] at e; injection e with e _; rw [← e]; exact hc)] at h6
        have := HI.out T L0 (d + 1) q g c (wr.alloc (.cells #[.int .i64 0, .int .i64 0, .string ⟨#[]⟩, .slice none 0 0] 24)) (HA.out.2.2.1.below hb hg) (Nat.lt_of_lt_of_le hg hb.size) (by rw [HL.out]; exact hT) HA.out.2.2.2.1 (by have := HA.out.2.2.2.2; omega) h6
        rw [HL.out] at this
        exact this
      go_wp2_with (first
        | (go_at_call 38; refine HC.out.mono ?_; rintro e w2 ⟨k1, u, t, a1, l1, c3, q', rfl, HR⟩; obtain ⟨r1, r2, r3, hlt2, hlt3⟩ := bui_boxes HQ.out HR.out.1; have hlt4 : w.heap.size < w2.heap.size := (by omega); have hlt5 : w.heap.size + 1 < w2.heap.size := (by omega); have hne1 : ¬ w.heap.size = wr.heap.size := (by omega); have hne2 : ¬ w.heap.size + 1 = wr.heap.size := (by omega); obtain ⟨⟨x0, x1, x2, x3⟩, f0, f1, f2, f3⟩ := r1.cells; obtain ⟨⟨y0, y1, y2, y3⟩, k0, k4, k2, k3⟩ := r2.cells; obtain ⟨⟨z0, z1, z2, z3⟩, p0, p1, p2, p3⟩ := r3.cells; clear r1 r2 r3)
        | (at_builtin; have HO := hide (bui_own HQ.out HR.out.1 (.int .i64 k1) (.int .i64 u) (.string t) (.slice a1 l1 c3) (by rw [HL.out]; exact hT)); refine wpList_append_lies _ rfl _ _ 22 rfl (w.heap.size + 2) 24 it _ 4 56 Try.underlying22 HT.out.1 HT.out.2.1 HT.out.2.2.1 HT.out.2.2.2 rfl (by decide) _ M _ rfl (HO.out.2.2 _) ⟨w2.heap.size, 0, none⟩ 1 1 [.int .i64 k1, .int .i64 u, .string t, .slice a1 l1 c3] rfl rfl (four_at _ _ _ _ _ _ (set4_size _ _ _ _)) (four_one _ _ _ _ _ _) (by decide) (by have := HO.out.2.1; unfold maxLen; omega) (by have := HO.out.2.1; omega) (by simp; omega) (w2.heap.size + 1) (by simp) ?_; intro g2 c2 w3 hown2 hgrow2 hat2 hlt6; obtain ⟨_, j6, j7, j5, X, j1, j2, j3, j4⟩ := HR.out; have HJ := hide (⟨j6, j7⟩ : _ ∧ _); have H2 := hide (bui_round HQ.out HR.out.1 j1 j2 j3 j4 j5 j6 j7 HO.out.1 hown2 hgrow2 hat2); obtain ⟨⟨s0, s1, s2, s3⟩, t0, t1, t2, t3⟩ := H2.out.1.cells; clear j1 j2 j3 j4 j5 j6 j7 hown2 hgrow2 hat2 hlt6))
      have hq8 : q' ≤ L := by have := HJ.out.1; rw [HL.out] at this; exact this
      go_roundw
      case rel => exact ⟨q', _, _, _, _, by have := HJ.out.2; omega, hq8, rfl, H2.out.2⟩
      case measure => have := HJ.out.2; simp [intOf]; omega
    · obtain ⟨⟨x0, x1, x2, x3⟩, f0, f1, f2, f3⟩ := HQ.out.2.2.1.cells
      obtain ⟨⟨y0, y1, y2, y3⟩, k0, k1, k2, k3⟩ := HQ.out.2.2.2.1.cells
      go_wp2_with fail
      exact bodyPost_ret (v := .tuple #[.agg #[.int .i64 4, .int .i64 0, .string ⟨#[]⟩, .slice a M c1], .int .i64 ((q + 1 : Nat) : Int)]) (by simp [results, Try.results38, go_sem, x0, x1, x2, x3]) rfl ⟨4, 0, ⟨#[]⟩, a, M, c1, q + 1, rfl, bui_close HQ.out HA.out.1 HA.out.2.1 HY.out hc _ _ _ _⟩

theorem built_any (n : Nat) : FBuilt n := by
  have key : ∀ (T : List Tok) (L0 d k : Nat), exp L0 (T.drop k) d = none → ∃ t, T[k]? = some t ∧ (isO t.2 = false → leafB t.2 = true) := by
    intro T L0 d k he
    by_cases hk : k < T.length
    · have ht := List.getElem?_eq_getElem hk
      refine ⟨T[k], ht, fun ho => ?_⟩
      rw [drop_cons ht] at he
      cases hl : leafB T[k].2
      · simp [exp, ho, hl] at he
      · rfl
    · rw [List.drop_of_length_le (by omega)] at he
      simp [exp] at he
  induction n with
  | zero =>
    intro T L0 d k g c w hw hg hT hts hn he
    obtain ⟨t, ht, _⟩ := key T L0 d k he
    have := (List.getElem?_eq_some_iff.1 ht).1
    omega
  | succ n ih =>
    intro T L0 d k g c w hw hg hT hts hn he
    obtain ⟨t, ht, hl⟩ := key T L0 d k he
    cases ho : isO t.2 with
    | false => exact built_leaf (n + 1) T L0 d k g c T.length rfl t ht w hw hg hT (hts t (List.mem_of_getElem? ht)) ho (hl ho) he
    | true => exact built_tup n ih T L0 d k g c T.length rfl t ht w hw hg hT hts hn ho he
end Go.Proofs.Ytmdlgcefppllkaa
