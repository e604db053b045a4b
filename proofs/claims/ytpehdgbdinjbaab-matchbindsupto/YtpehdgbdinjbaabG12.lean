/- What is proved here: clerkkeep.MatchBinds of two terms and a list of terms that lie in memory returns true, and turns no memory that was there. Condition: at most 2097152 terms in each. -/
import Derived.Test.YtpehdgbdinjbaabG11
import Derived.Deep.RegionHeld3
import Derived.Deep.DeepCutAuto
import Derived.Deep.QuietTactic
import Derived.BigQuiet
namespace Go.Proofs.Ytpehdgbdinjbaab
open Go.RowKit

/-- The small pattern fits the small tuple. -/
theorem small_fits (g1 g2 g3 : Nat) (w : World) (h1 : In w.heap.size w 2 (patT g1)) (h2 : In w.heap.size w 2 (twoT g2)) (h3 : Lies w.heap.size w 1 (List.replicate 4 anyT) (some ⟨g3, 0, none⟩)) :
    Calls Try.prog 27 #[.agg #[.int .i64 4, .int .i64 0, .string ⟨#[]⟩, .slice (some ⟨g1, 0, none⟩) 2 2], .agg #[.int .i64 4, .int .i64 0, .string ⟨#[]⟩, .slice (some ⟨g2, 0, none⟩) 2 2], .slice (some ⟨g3, 0, none⟩) 4 4] w fun e w' =>
      ∃ a c l, e = .returned (.tuple #[.slice a 4 c, .bool true, .int .i64 0]) ∧ Hid (Below w.heap.size w w' ∧ Lies w'.heap.size w' (top firstL) l a ∧ l.length = 4 ∧ ∃ y, l[0]? = some y ∧ same (top firstL) y 1 (wordT ⟨#[97]⟩) = true) := by
  have hN : (nodes 2 (patT g1)).length ≤ 2097152 := by show (3 : Nat) ≤ 2097152; decide
  have hN2 : (nodes 2 (twoT g2)).length ≤ 2097152 := by show (3 : Nat) ≤ 2097152; decide
  have hw := mfits_any 2 2 1 (patT g1) (twoT g2) (List.replicate 4 anyT) (some ⟨g3, 0, none⟩) 4 w.heap.size w h1 h2 h3 (Nat.le_refl _) hN hN2 (fun y hy => by rw [List.eq_of_mem_replicate hy]; show (1 : Nat) ≤ 2097152; decide) (by simp)
  rw [fit_small, chk_pat, chk_two, clo_two, bnd_free] at hw
  refine Calls.mono hw ?_
  rintro e w' ⟨a, len, c, r, rfl, H⟩
  obtain ⟨hb, _, hs⟩ := H.out
  obtain ⟨rfl, rfl, h4, w1, l, _, hcp⟩ := hs firstL rfl rfl
  obtain ⟨k1, k2, k3, k4⟩ := fit_row hcp first_right h4
  obtain ⟨y, hy, hys, _⟩ := k3 0 ⟨1, wordT ⟨#[97]⟩⟩ rfl
  exact ⟨a, c, l, rfl, hb, k1, k2, y, hy, hys⟩

theorem first_same {T : Nat} {l : List (Tm T)} {a : Option Addr} {w5 : World} {y : Tm T} (hl : Lies w5.heap.size w5 T l a) (h4 : l.length = 4) (hy : l[0]? = some y) (hs : same T y 1 (wordT ⟨#[97]⟩) = true) :
    ∃ (T : Nat) (y : Tm (T + 1)) (b5 o5 : Nat), a = some ⟨b5, o5, none⟩ ∧ b5 < w5.heap.size ∧ Held w5 b5 o5 (T + 1) y ∧ Hid (∀ w6, Below w5.heap.size w5 w6 → Calls Try.prog 13 #[.agg #[.int .i64 y.1.1, .int .i64 y.1.2.1, .string y.1.2.2, .slice y.2.1.1 y.2.2.length y.2.1.2], .agg #[.int .i64 2, .int .i64 0, .string ⟨#[97]⟩, .slice none 0 0]] w6 fun e w' => e = .returned (.bool true) ∧ Below w6.heap.size w6 w') := by
  rcases hl with hl | ⟨b, o, rfl, hb, hl⟩
  · rw [hl] at h4; simp at h4
  · obtain ⟨k1, k2⟩ := hl 0 y hy
    cases T with
    | zero => exact k2.elim
    | succ T =>
      refine ⟨T, y, b, o, rfl, hb, by simpa using k1, fun w6 h6 => ?_⟩
      have h := same_any (T + 1) y 1 (wordT ⟨#[97]⟩) w6.heap.size w6 ((k2.below h6).mono h6.size) (word_in _ (by show (1 : Nat) ≤ 2 ^ 63 - 1; omega) _ _) (Nat.le_refl _)
      rw [hs] at h
      exact h

theorem nodes_sz : (n : Nat) → (x : Tm n) → RightA ⟨n, x⟩ → ((nodes n x).length : Int) ≤ sz n x + 1
  | 0, _, h => (zero_bad h).elim
  | n + 1, x, h => by
    have gx := good_parts (hdOf n x) (h (hdOf n x) (by simp [nodes, hdOf]))
    by_cases h4 : x.1.1 = 4
    · have key : ∀ l : List (Tm n), (∀ y ∈ l, RightA ⟨n, y⟩) → ((l.flatMap fun y => nodes n y).length : Int) ≤ (l.map fun y => 1 + sz n y).sum := by
        intro l
        induction l with
        | nil => intro _; simp
        | cons y l ih =>
          intro hl
          have h1 := nodes_sz n y (hl y (by simp))
          have h2 := ih fun z hz => hl z (List.mem_cons_of_mem _ hz)
          simp only [List.flatMap_cons, List.length_append, List.map_cons, List.sum_cons]
          omega
      have := key x.2.2 fun y hy => parts_right n x y h hy
      simp only [nodes, List.length_cons, sz, if_pos h4]
      omega
    · have : x.2.2 = [] := List.eq_nil_of_length_eq_zero (gx.2.2.2.2 h4)
      simp [nodes, this, sz, h4]
theorem chk_nodes {n : Nat} {x : Tm n} (h : chk n x = 0) : (nodes n x).length ≤ 2097152 := by
  obtain ⟨h1, _, h3⟩ := chk_zero.1 h
  have := nodes_sz n x (right_formed.2 h1)
  omega
theorem bnd_nodes {n : Nat} {q : List (Tm n)} (h : bndB n q = true) : ∀ y ∈ q, (nodes n y).length ≤ 2097152 := by
  intro y hy
  unfold bndB at h
  simp only [Bool.and_eq_true, List.all_eq_true] at h
  have h2 := h.2 y hy
  unfold okB at h2
  simp only [Bool.and_eq_true, beq_iff_eq] at h2
  exact chk_nodes h2.1
theorem bnd_ok {n : Nat} {q : List (Tm n)} (h : bndB n q = true) : ∀ y ∈ anL n q, OkA y := by
  intro y hy
  simp only [anL, List.mem_map] at hy
  obtain ⟨x, hx, rfl⟩ := hy
  unfold bndB at h
  simp only [Bool.and_eq_true, List.all_eq_true] at h
  have h2 := h.2 x hx
  unfold okB at h2
  simp only [Bool.and_eq_true, beq_iff_eq, Bool.or_eq_true] at h2
  refine ⟨h2.1, ?_⟩
  rcases h2.2 with h3 | h3
  · exact Or.inl h3
  · exact Or.inr (by rw [closed_eq]; exact h3)
theorem mb_row {n m o' : Nat} {p : Tm n} {t : Tm m} {q' : List (Tm o')} {b : List An} {wc w13 : World} {a13 : Option Addr} {l13 c13 : Nat} {r13 : Bool}
    (h : Below wc.heap.size wc w13 ∧ ((¬ ((0 : Int) = 0 ∧ (some b).isSome = true) → l13 = 0 ∧ r13 = false) ∧ ∀ b', (0 : Int) = 0 → some b = some b' → r13 = true ∧ l13 = 4 ∧ b'.length = 4 ∧ ∃ w1 l, wc.heap.size ≤ w1.heap.size ∧ CpRow (top b') (uni b') w1 w13 a13 c13 l))
    (hf : fit n p m t (anL o' q') = some b) (hbn : bndB o' q' = true) (ht : chk m t = 0) (hc : closedB m t = true) :
    ∃ (D : Nat) (lt : List (Tm D)) (b13 o13 : Nat), a13 = some ⟨b13, o13, none⟩ ∧ l13 = 4 ∧ r13 = true ∧ Hid (Lies w13.heap.size w13 D lt (some ⟨b13, o13, none⟩)) ∧ Hid (lt.length = 4) ∧ Hid (Tells4 D lt b) ∧ Hid (∀ y ∈ lt, RightA ⟨D, y⟩) ∧ Hid (bndB D lt = true) ∧ Hid (Ext (anL o' q') b) := by
  obtain ⟨hr, hl, h4, w1, l, _, hcp⟩ := h.2.2 b rfl rfl
  have hok := fit_keep OkA parts_ok n p m t ⟨ht, Or.inr (by rw [closed_eq]; exact hc)⟩ (anL o' q') b ⟨by rw [anL_length]; exact bnd_four hbn, bnd_ok hbn⟩ hf
  have hrt : ∀ y ∈ b, RightA y := fun y hy => right_formed.2 (chk_zero.1 (hok.2 y hy).1).1
  obtain ⟨k1, k2, k3, k4⟩ := fit_row hcp hrt h4
  have hbl := tells_bnd hok.2 k2 h4 k3
  rcases k1 with k1 | ⟨b13, o13, rfl, hlt, k1⟩
  · rw [k1] at k2; simp at k2
  · exact ⟨top b, l, b13, o13, rfl, hl, hr, Or.inr ⟨b13, o13, rfl, hlt, k1⟩, k2, k3, k4, hbl, fit_ext n p m t _ b hf⟩

theorem lies_up {w w' : World} {n : Nat} {q : List (Tm n)} {a : Option Addr} (h : Lies w.heap.size w n q a) (hb : Below w.heap.size w w') : Lies w'.heap.size w' n q a := by
  rcases h.below hb with h | ⟨b, o, e, hlt, h⟩
  · exact Or.inl h
  · exact Or.inr ⟨b, o, e, Nat.lt_of_lt_of_le hlt hb.size, fun i y hy => ⟨(h i y hy).1, (h i y hy).2.mono hb.size⟩⟩
theorem lies_at {w w' : World} {n : Nat} {q : List (Tm n)} {b o k : Nat} {x : Tm n} (h : Lies w.heap.size w n q (some ⟨b, o, none⟩)) (hx : q[k]? = some x) (hb : Below w.heap.size w w') : Held w' b (o + k * 4) n x ∧ In w'.heap.size w' n x ∧ b < w'.heap.size := by
  rcases lies_up h hb with h | ⟨b', o', e, hlt, h⟩
  · rw [h] at hx; simp at hx
  · simp at e
    obtain ⟨rfl, rfl⟩ := e
    exact ⟨(h k x hx).1, (h k x hx).2, hlt⟩
theorem mb_same {o' D : Nat} {q' : List (Tm o')} {lt : List (Tm D)} {b : List An} (he : Ext (anL o' q') b) (ht : Tells4 D lt b) {k : Nat} {x : Tm o'} {y : Tm D} (hx : q'[k]? = some x) (hy : lt[k]? = some y) (hk : kindA ⟨o', x⟩ ≠ 6) : same o' x D y = true := by
  have h1 := he.2 k ⟨o', x⟩ (by simp [anL, hx]) hk
  obtain ⟨y', hy', hs, _⟩ := ht k _ h1
  rw [hy] at hy'
  obtain rfl := Option.some.inj hy'
  exact same_symm _ _ _ _ hs

theorem below_drewN {B : Nat} {w w' : World} (h : Below B w w') (n : Nat) : Below B w (w'.drewN n) := ⟨h.os, h.tape, h.output, h.size, h.block⟩
theorem mb_terms {D : Nat} {lt : List (Tm D)} {w16 w17 : World} {a17 : Option Addr} {l17 c17 c13 b13 o13 : Nat} {r17 : Bool}
    (h : Below w16.heap.size w16 w17 ∧ ((¬ ((0 : Int) = 0 ∧ (some (anL D lt)).isSome = true) → l17 = 0 ∧ r17 = false) ∧ ∀ b', (0 : Int) = 0 → some (anL D lt) = some b' → r17 = true ∧ l17 = 4 ∧ b'.length = 4 ∧ ∃ w1 l, w16.heap.size ≤ w1.heap.size ∧ CpRow (top b') (uni b') w1 w17 a17 c17 l))
    (h4 : lt.length = 4) (hr : ∀ y ∈ lt, RightA ⟨D, y⟩) (hl : Lies w17.heap.size w17 D lt (some ⟨b13, o13, none⟩)) :
    r17 = true ∧ l17 = 4 ∧ Hid (Calls Try.prog 34 #[.slice (some ⟨b13, o13, none⟩) 4 c13, .slice a17 4 c17] w17 fun e w' => e = .returned (.bool true) ∧ Below w17.heap.size w17 w') := by
  obtain ⟨hr17, hl17, hb4, w1, l, _, hcp⟩ := h.2.2 _ rfl rfl
  have hrb : ∀ y ∈ anL D lt, RightA y := by
    intro y hy
    simp only [anL, List.mem_map] at hy
    obtain ⟨x, hx, rfl⟩ := hy
    exact hr x hx
  obtain ⟨k1, k2, k3, k4⟩ := fit_row hcp hrb hb4
  refine ⟨hr17, hl17, ?_⟩
  have hs := sameTerms_any D (top (anL D lt)) (same_any _) lt l (some ⟨b13, o13, none⟩) a17 c13 c17 w17.heap.size w17 hl k1 (by omega) (by omega) (Nat.le_refl _)
  have e : sameL (fun a b => same D a (top (anL D lt)) b) lt l = true := sameL_of _ _ _ (by omega) fun i x y hx hy => by
    obtain ⟨y', hy', hs, _⟩ := k3 i ⟨D, x⟩ (by simp [anL, hx])
    rw [hy] at hy'
    obtain rfl := Option.some.inj hy'
    exact same_symm _ _ _ _ hs
  rw [e, h4, k2] at hs
  exact hs

set_option maxHeartbeats 4000000 in
set_option maxRecDepth 100000 in
theorem mbinds_walk (n m o : Nat) (p : Tm (n + 1)) (t : Tm (m + 1)) (q : List (Tm o)) (qa : Option Addr) (qc ql : Nat) (B : Nat) (w : World) (xl yl : Nat) (hB : B ≤ w.heap.size) (HXL : Hid (p.2.2.length = xl)) (HYL : Hid (t.2.2.length = yl)) (HQL : Hid (q.length = ql))
    (HP : Hid (In B w (n + 1) p)) (HT : Hid (In B w (m + 1) t)) (HQ : Hid (Lies B w o q qa))
    (HNP : Hid ((nodes (n + 1) p).length ≤ 2097152)) (HNT : Hid ((nodes (m + 1) t).length ≤ 2097152)) (HNQ : Hid (∀ y ∈ q, (nodes o y).length ≤ 2097152)) (HQ9 : Hid (q.length ≤ 9223372036854775807)) :
    Calls Try.prog 6 #[.agg #[.int .i64 p.1.1, .int .i64 p.1.2.1, .string p.1.2.2, .slice p.2.1.1 xl p.2.1.2], .agg #[.int .i64 t.1.1, .int .i64 t.1.2.1, .string t.1.2.2, .slice t.2.1.1 yl t.2.1.2], .slice qa ql qc] w fun e w' => e = .returned (.bool true) ∧ Below w.heap.size w w' := by
  go_enter Try.func6, Try.ntmps6
  go_wp2_with fail
  refine (num_any _ _).mono ?_
  rintro e w1 ⟨rfl, hb1⟩
  have H1 := hide ((Bx2.new w (.int .i64 p.1.1) (.int .i64 p.1.2.1) (.string p.1.2.2) (.slice p.2.1.1 xl p.2.1.2) (.int .i64 t.1.1) (.int .i64 t.1.2.1) (.string t.1.2.2) (.slice t.2.1.1 yl t.2.1.2) 24 24).next hb1)
  clear hb1
  go_wp2_with fail
  refine (tuple_any _ _ _ _).mono ?_
  rintro e w2 ⟨rfl, hb2⟩
  have HA2 : Hid (w2.heap[w1.heap.size]? = some (.cells #[.int .i64 5, .int .i64 0, .string ⟨#[]⟩, .slice none 0 0, .int .i64 1, .int .i64 5, .string ⟨#[]⟩, .slice none 0 0] 24 (0, 0)) ∧ w1.heap.size < w2.heap.size) :=
    ⟨(hb2.block w1.heap.size (by simp)).trans (heap_alloc_new w1 _), by have := hb2.size; simp at this; omega⟩
  have H2 := hide (H1.out.next (((Below.refl _ _).alloc (Nat.le_refl _) _).trans (hb2.mono (by simp))))
  clear hb2 H1
  go_wp2_with fail
  refine (two_any _).mono ?_
  rintro e w3 ⟨g3, rfl, H3a⟩
  have H3 := hide (H2.out.next H3a.out.1)
  go_wp2_with fail
  refine (free_any _).mono ?_
  rintro e w4 ⟨g4, rfl, H4a⟩
  have H4 := hide (H3.out.next H4a.out.1)
  have HI1 : Hid (In w4.heap.size w4 2 (patT w1.heap.size)) := by
    have hb : Below w2.heap.size w2 w4 := H3a.out.1.trans (H4a.out.1.mono H3a.out.1.size)
    have hlt := HA2.out.2
    have hs := hb.size
    exact pat_in _ _ _ (by omega) 24 (0, 0) ((hb.block _ hlt).trans HA2.out.1)
  have HI2 : Hid (In w4.heap.size w4 2 (twoT g3)) := (H3a.out.2.below H4a.out.1).mono H4a.out.1.size
  have HSF := hide (small_fits w1.heap.size g3 g4 w4 HI1.out HI2.out (free_lies H4a.out.2.1))
  clear HA2 H3a H4a HI1 HI2 H2 H3
  go_wp2_with fail
  refine HSF.out.mono ?_
  rintro e w5 ⟨a5, c5, l5, rfl, HO5⟩
  have H5 := hide (H4.out.next HO5.out.1)
  clear HSF H4
  obtain ⟨T, y, b5, o5, ha5, hlt5, hh5, HSM5⟩ : ∃ (T : Nat) (y : Tm (T + 1)) (b5 o5 : Nat), a5 = some ⟨b5, o5, none⟩ ∧ b5 < w5.heap.size ∧ Held w5 b5 o5 (T + 1) y ∧ Hid (∀ w6, Below w5.heap.size w5 w6 → Calls Try.prog 13 #[.agg #[.int .i64 y.1.1, .int .i64 y.1.2.1, .string y.1.2.2, .slice y.2.1.1 y.2.2.length y.2.1.2], .agg #[.int .i64 2, .int .i64 0, .string ⟨#[97]⟩, .slice none 0 0]] w6 fun e w' => e = .returned (.bool true) ∧ Below w6.heap.size w6 w') := by
    obtain ⟨_, hl, h4, y, hy, hs⟩ := HO5.out
    exact first_same hl h4 hy hs
  subst ha5
  clear HO5
  obtain ⟨y0, y1, y2, y3⟩ := hh5
  go_wp2_with fail
  go_region_held3 (fun w' => w'.cell? ⟨b5, o5, none⟩ = some (.int .i64 y.1.1) ∧ w'.cell? ⟨b5, o5 + 1, none⟩ = some (.int .i64 y.1.2.1) ∧ w'.cell? ⟨b5, o5 + 2, none⟩ = some (.string y.1.2.2) ∧ w'.cell? ⟨b5, o5 + 3, none⟩ = some (.slice y.2.1.1 y.2.2.length y.2.1.2))
    (go_keep) ((first
      | (go_at_call 30; refine (kword_any _ _).mono ?_; rintro e w6 ⟨rfl, hb6⟩; have HB6 := hide (below_undrew hb6); have hcc6 := below_cells HB6.out; clear hb6)
      | (go_at_call 13; refine (HSM5.out _ HB6.out).mono ?_; rintro e w7 ⟨rfl, hb7⟩; have HB7 := hide hb7; have hcc7 := below_cells hb7; have hlt6 := Nat.lt_of_lt_of_le hlt5 HB6.out.size; clear hb7)))
  have H7 := hide ((H5.out.next HB6.out).next HB7.out)
  clear H5 HB6 HB7 HSM5 hcc6 hcc7 y0 y1 y2 y3
  have EVP : Hid (val (n + 1) p = .agg #[.int .i64 p.1.1, .int .i64 p.1.2.1, .string p.1.2.2, .slice p.2.1.1 xl p.2.1.2]) := by rw [← HXL.out]; rfl
  have EVT : Hid (val (m + 1) t = .agg #[.int .i64 t.1.1, .int .i64 t.1.2.1, .string t.1.2.2, .slice t.2.1.1 yl t.2.1.2]) := by rw [← HYL.out]; rfl
  obtain ⟨cp, hcp0⟩ : ∃ cp, chk (n + 1) p = cp := ⟨_, rfl⟩
  obtain ⟨ct, hct0⟩ : ∃ ct, chk (m + 1) t = ct := ⟨_, rfl⟩
  obtain ⟨cl, hcl0⟩ : ∃ cl, closedB (m + 1) t = cl := ⟨_, rfl⟩
  obtain ⟨bd, hbd0⟩ : ∃ bd, bndB o q = bd := ⟨_, rfl⟩
  have HCP0 := hide hcp0
  have HCT0 := hide hct0
  have HCL0 := hide hcl0
  have HBD0 := hide hbd0
  have HCP : Hid (∀ w1, Below w.heap.size w w1 → Calls Try.prog 12 #[.agg #[.int .i64 p.1.1, .int .i64 p.1.2.1, .string p.1.2.2, .slice p.2.1.1 xl p.2.1.2]] w1 fun e w' => e = .returned (.int .i64 cp) ∧ Below w1.heap.size w1 w') := fun w1 h1 => by
    rw [← EVP.out, ← HCP0.out]
    exact rcheck_any (n + 1) p B w1 (HP.out.below (h1.mono hB)) (Nat.le_trans hB h1.size) HNP.out
  have HCT : Hid (∀ w1, Below w.heap.size w w1 → Calls Try.prog 12 #[.agg #[.int .i64 t.1.1, .int .i64 t.1.2.1, .string t.1.2.2, .slice t.2.1.1 yl t.2.1.2]] w1 fun e w' => e = .returned (.int .i64 ct) ∧ Below w1.heap.size w1 w') := fun w1 h1 => by
    rw [← EVT.out, ← HCT0.out]
    exact rcheck_any (m + 1) t B w1 (HT.out.below (h1.mono hB)) (Nat.le_trans hB h1.size) HNT.out
  have HCL : Hid (∀ w1, Below w.heap.size w w1 → Calls Try.prog 31 #[.agg #[.int .i64 t.1.1, .int .i64 t.1.2.1, .string t.1.2.2, .slice t.2.1.1 yl t.2.1.2]] w1 fun e w' => e = .returned (.bool cl) ∧ Below w1.heap.size w1 w') := fun w1 h1 => by
    rw [← EVT.out, ← HCL0.out]
    exact rclosed_any (m + 1) t B w1 (HT.out.below (h1.mono hB)) (Nat.le_trans hB h1.size) HNT.out
  have HBD : Hid (∀ w1, Below w.heap.size w w1 → Calls Try.prog 32 #[.slice qa ql qc] w1 fun e w' => e = .returned (.bool bd) ∧ Below w1.heap.size w1 w') := fun w1 h1 => by
    rw [← HQL.out, ← HBD0.out]
    exact rbound_any o q qa qc B w1 (HQ.out.below (h1.mono hB)) HQ9.out HNQ.out (Nat.le_trans hB h1.size)
  clear hcp0 hct0 hcl0 hbd0
  obtain ⟨⟨v0, v1, v2, v3⟩, u0, u1, u2, u3⟩ := H7.out.2.2
  go_wp2_with fail
  refine (HCP.out _ H7.out.1).mono ?_
  rintro e w8 ⟨rfl, hb8⟩
  have H8 := hide (H7.out.next hb8)
  clear hb8 HCP H7 v0 v1 v2 v3 u0 u1 u2 u3
  obtain ⟨⟨v0, v1, v2, v3⟩, u0, u1, u2, u3⟩ := H8.out.2.2
  by_cases hcp : cp = 0
  case neg =>
    have h0 : (cp != 0) = true := by simpa using hcp
    clear hcp
    go_wp2_with fail
    go_ret
    exact ⟨rfl, H8.out.1⟩
  have h0 : (cp != 0) = false := by simp [hcp]
  have HC1 : Hid (chk (n + 1) p = 0) := by have := HCP0.out; rw [hcp] at this; exact this
  clear hcp HCP0
  go_wp2_with fail
  refine (HCT.out _ H8.out.1).mono ?_
  rintro e w9 ⟨rfl, hb9⟩
  have H9 := hide (H8.out.next hb9)
  clear hb9 HCT H8 v0 v1 v2 v3 u0 u1 u2 u3
  obtain ⟨⟨v0, v1, v2, v3⟩, u0, u1, u2, u3⟩ := H9.out.2.2
  by_cases hct : ct = 0
  case neg =>
    have h1 : (ct != 0) = true := by simpa using hct
    clear hct
    go_wp2_with fail
    go_ret
    exact ⟨rfl, H9.out.1⟩
  have h1 : (ct != 0) = false := by simp [hct]
  have HC2 : Hid (chk (m + 1) t = 0) := by have := HCT0.out; rw [hct] at this; exact this
  clear hct HCT0
  go_wp2_with fail
  refine (HCL.out _ H9.out.1).mono ?_
  rintro e w10 ⟨rfl, hb10⟩
  have H10 := hide (H9.out.next hb10)
  clear hb10 HCL H9 v0 v1 v2 v3 u0 u1 u2 u3
  cases cl with
  | false =>
    go_wp2_with fail
    go_ret
    exact ⟨rfl, H10.out.1⟩
  | true =>
  go_wp2_with fail
  refine (HBD.out _ H10.out.1).mono ?_
  rintro e w11 ⟨rfl, hb11⟩
  have H11 := hide (H10.out.next hb11)
  clear hb11 HBD H10
  go_upto_if 61 with fail
  go_cut [2] (fun v2 wx => ∃ hb ho hc, v2 = .slice (some ⟨hb, ho, none⟩) 4 hc ∧ Hid (Bx2 w (.int .i64 p.1.1) (.int .i64 p.1.2.1) (.string p.1.2.2) (.slice p.2.1.1 xl p.2.1.2) (.int .i64 t.1.1) (.int .i64 t.1.2.1) (.string t.1.2.2) (.slice t.2.1.1 yl t.2.1.2) wx ∧ ∃ (o' : Nat) (q' : List (Tm o')), q'.length = 4 ∧ Lies wx.heap.size wx o' q' (some ⟨hb, ho, none⟩) ∧ bndB o' q' = true))
  case first =>
    cases bd with
    | true =>
      obtain ⟨hb, ho, hqa, hql, hli⟩ : ∃ hb ho, qa = some ⟨hb, ho, none⟩ ∧ ql = 4 ∧ Hid (Lies w11.heap.size w11 o q qa) := by
        have h4 := bnd_four HBD0.out
        have hli := HQ.out.below (H11.out.1.mono hB)
        rcases hli with hq | ⟨hb, ho, e, hlt, hq⟩
        · rw [hq] at h4; simp at h4
        · exact ⟨hb, ho, e, by rw [← HQL.out]; exact h4, Or.inr ⟨hb, ho, e, Nat.lt_of_lt_of_le hlt (Nat.le_trans hB H11.out.1.size), fun i y hy => ⟨(hq i y hy).1, (hq i y hy).2.mono (Nat.le_trans hB H11.out.1.size)⟩⟩⟩
      subst hqa hql
      go_wp2_with fail
      go_meet
      exact ⟨hb, ho, qc, rfl, H11.out, o, q, bnd_four HBD0.out, hli.out, HBD0.out⟩
    | false =>
      go_wp2_with fail
      refine (free_any _).mono ?_
      rintro e w12 ⟨g12, rfl, H12⟩
      go_wp2_with fail
      go_meet
      exact ⟨g12, 0, 4, rfl, H11.out.next H12.out.1, 1, List.replicate 4 anyT, by simp, free_lies H12.out.2.1, bnd_free⟩
  case rest =>
  obtain ⟨hb, ho, hc, rfl, HCU⟩ := hcut
  obtain ⟨H12, o', q', HQ4, HLI, HBN⟩ : Hid (Bx2 w (.int .i64 p.1.1) (.int .i64 p.1.2.1) (.string p.1.2.2) (.slice p.2.1.1 xl p.2.1.2) (.int .i64 t.1.1) (.int .i64 t.1.2.1) (.string t.1.2.2) (.slice t.2.1.1 yl t.2.1.2) wc) ∧ ∃ (o' : Nat) (q' : List (Tm o')), Hid (q'.length = 4) ∧ Hid (Lies wc.heap.size wc o' q' (some ⟨hb, ho, none⟩)) ∧ Hid (bndB o' q' = true) := HCU.out
  clear HCU H11 HQ HNQ HQ9 HQL HBD0
  have HPC : Hid (In wc.heap.size wc (n + 1) p) := (HP.out.below (H12.out.1.mono hB)).mono (Nat.le_trans hB H12.out.1.size)
  have HTC : Hid (In wc.heap.size wc (m + 1) t) := (HT.out.below (H12.out.1.mono hB)).mono (Nat.le_trans hB H12.out.1.size)
  obtain ⟨fo, hfo⟩ : ∃ fo, fit (n + 1) p (m + 1) t (anL o' q') = fo := ⟨_, rfl⟩
  have HFO := hide hfo
  clear hfo
  have HFI : Hid (Calls Try.prog 27 #[.agg #[.int .i64 p.1.1, .int .i64 p.1.2.1, .string p.1.2.2, .slice p.2.1.1 xl p.2.1.2], .agg #[.int .i64 t.1.1, .int .i64 t.1.2.1, .string t.1.2.2, .slice t.2.1.1 yl t.2.1.2], .slice (some ⟨hb, ho, none⟩) 4 hc] wc (FitOut 0 fo wc)) := by
    have h := mfits_any (n + 1) (m + 1) o' p t q' (some ⟨hb, ho, none⟩) hc wc.heap.size wc HPC.out HTC.out HLI.out (Nat.le_refl _) HNP.out HNT.out (bnd_nodes HBN.out) (by have := HQ4.out; omega)
    rw [HC1.out, HC2.out, HCL0.out, HBN.out, HFO.out, EVP.out, EVT.out, HQ4.out] at h
    exact h
  obtain ⟨⟨v0, v1, v2, v3⟩, u0, u1, u2, u3⟩ := H12.out.2.2
  go_wp2_with fail
  refine HFI.out.mono ?_
  rintro e w13 ⟨a13, l13, c13, r13, rfl, HO13⟩
  have H13 := hide (H12.out.next HO13.out.1)
  clear HFI v0 v1 v2 v3 u0 u1 u2 u3
  cases fo with
  | none =>
    obtain ⟨hl13, hr13⟩ := HO13.out.2.1 (fun h => by cases h.2)
    subst hl13 hr13
    clear HO13
    go_wp2_with fail
    go_ret
    exact ⟨rfl, H13.out.1⟩
  | some b =>
  obtain ⟨D, lt, b13, o13, ha13, hl13, hr13, HLL, HL4, HTL, HLR, HBL, HEX⟩ : ∃ (D : Nat) (lt : List (Tm D)) (b13 o13 : Nat), a13 = some ⟨b13, o13, none⟩ ∧ l13 = 4 ∧ r13 = true ∧ Hid (Lies w13.heap.size w13 D lt (some ⟨b13, o13, none⟩)) ∧ Hid (lt.length = 4) ∧ Hid (Tells4 D lt b) ∧ Hid (∀ y ∈ lt, RightA ⟨D, y⟩) ∧ Hid (bndB D lt = true) ∧ Hid (Ext (anL o' q') b) :=
    mb_row HO13.out HFO.out HBN.out HC2.out HCL0.out
  subst ha13 hl13 hr13
  have HB13 : Hid (Below wc.heap.size wc w13) := HO13.out.1
  clear HO13
  have HPA := hide (fun (X : Tm (D + (n + 1))) (hX : PutR D lt (n + 1) p X) => put_all HFO.out HC1.out HC2.out (by rw [closed_eq]; exact HCL0.out) HTL.out hX)
  have HLQ : Hid (Lies w13.heap.size w13 o' q' (some ⟨hb, ho, none⟩)) := lies_up HLI.out HB13.out
  have HSA : Hid (∀ (k : Nat) (x : Tm o') (y : Tm D), q'[k]? = some x → lt[k]? = some y → kindA ⟨o', x⟩ ≠ 6 → same o' x D y = true) := fun k x y hx hy hk => mb_same HEX.out HTL.out hx hy hk
  clear HLI HB13 HFO HPC HTC HBN HEX
  go_wp2_with fail
  go_loopw [86] (fun i wr => ∃ k : Nat, k ≤ 4 ∧ i = .int .i64 k ∧ Hid (Below w13.heap.size w13 wr)) (fun i _ => 4 - (intOf i).toNat)
  case atStart => exact ⟨0, by omega, rfl, Below.refl _ _⟩
  case round =>
    obtain ⟨k, hk, rfl, HBR⟩ := hrel
    by_cases hlt : k < 4
    · obtain ⟨x, hx⟩ : ∃ x, q'[k]? = some x := ⟨q'[k]'(by rw [HQ4.out]; exact hlt), List.getElem?_eq_getElem _⟩
      obtain ⟨y, hy⟩ : ∃ y, lt[k]? = some y := ⟨lt[k]'(by rw [HL4.out]; exact hlt), List.getElem?_eq_getElem _⟩
      obtain ⟨hx1, hx2, hhl⟩ := lies_at HLQ.out hx HBR.out
      obtain ⟨hy1, hy2, hbl⟩ := lies_at HLL.out hy HBR.out
      have HSK := hide (HSA.out k x y hx hy)
      clear hx hy HLQ HLL HSA HPA HTL HLR HBL HL4 HQ4
      cases o' with
      | zero => exact hx1.elim
      | succ o' =>
      cases D with
      | zero => exact hy1.elim
      | succ D =>
      obtain ⟨x0, x1, x2, x3⟩ := hx1
      obtain ⟨y0, y1, y2, y3⟩ := hy1
      have hk1 : (0 : Int) ≤ (k : Int) := by omega
      have hk2 : (k : Int) < 4 := by omega
      by_cases h6 : x.1.1 = 6
      · rw [h6] at x0
        clear h6 HSK hx2 hy2
        go_wp2_with fail
        go_quiet (fail)
        go_wp2_with fail
        go_roundw
        case rel => exact ⟨k + 1, by omega, by go_num, below_drewN HBR.out _⟩
        case measure => simp [intOf]; omega
      · have e6 : (x.1.1 != 6) = true := by simpa using h6
        have HCD : Hid (Calls Try.prog 13 #[.agg #[.int .i64 x.1.1, .int .i64 x.1.2.1, .string x.1.2.2, .slice x.2.1.1 x.2.2.length x.2.1.2], .agg #[.int .i64 y.1.1, .int .i64 y.1.2.1, .string y.1.2.2, .slice y.2.1.1 y.2.2.length y.2.1.2]] wr.drew fun e w' => e = .returned (.bool true) ∧ Below wr.drew.heap.size wr.drew w') := by
          have h := same_any (o' + 1) x (D + 1) y wr.heap.size wr.drew (hx2.below (Below.refl _ _).drew) (hy2.below (Below.refl _ _).drew) (Nat.le_refl _)
          rw [HSK.out h6] at h
          exact h
        clear h6 HSK hx2 hy2
        go_wp2_with fail
        go_region_held3 (fun w' => w'.cell? ⟨hb, ho + k * 4, none⟩ = some (.int .i64 x.1.1) ∧ w'.cell? ⟨hb, ho + k * 4 + 1, none⟩ = some (.int .i64 x.1.2.1) ∧ w'.cell? ⟨hb, ho + k * 4 + 2, none⟩ = some (.string x.1.2.2) ∧ w'.cell? ⟨hb, ho + k * 4 + 3, none⟩ = some (.slice x.2.1.1 x.2.2.length x.2.1.2)
            ∧ w'.cell? ⟨b13, o13 + k * 4, none⟩ = some (.int .i64 y.1.1) ∧ w'.cell? ⟨b13, o13 + k * 4 + 1, none⟩ = some (.int .i64 y.1.2.1) ∧ w'.cell? ⟨b13, o13 + k * 4 + 2, none⟩ = some (.string y.1.2.2) ∧ w'.cell? ⟨b13, o13 + k * 4 + 3, none⟩ = some (.slice y.2.1.1 y.2.2.length y.2.1.2))
          (go_keep) ((go_at_call 13; refine HCD.out.mono ?_; rintro e w14 ⟨rfl, hb14⟩; have HB14 := hide (below_undrew hb14); have hcc := below_cells HB14.out; clear hb14))
        go_wp2_with fail
        go_roundw
        case rel => exact ⟨k + 1, by omega, by go_num, HBR.out.trans (HB14.out.mono HBR.out.size)⟩
        case measure => simp [intOf]; omega
    · have H14 := hide (H13.out.next HBR.out)
      have HLW : Hid (Lies wr.heap.size wr D lt (some ⟨b13, o13, none⟩)) := lies_up HLL.out HBR.out
      have HPW : Hid (In wr.heap.size wr (n + 1) p) := (HP.out.below (H14.out.1.mono hB)).mono (Nat.le_trans hB H14.out.1.size)
      have HTW : Hid (In wr.heap.size wr (m + 1) t) := (HT.out.below (H14.out.1.mono hB)).mono (Nat.le_trans hB H14.out.1.size)
      have HPU : Hid (Calls Try.prog 33 #[.agg #[.int .i64 p.1.1, .int .i64 p.1.2.1, .string p.1.2.2, .slice p.2.1.1 xl p.2.1.2], .slice (some ⟨b13, o13, none⟩) 4 c13] wr fun e w' => ∃ X : Tm (D + n + 1), e = .returned (val (D + n + 1) X) ∧ Hid (Below wr.heap.size wr w' ∧ In w'.heap.size w' (D + n + 1) X ∧ PutR D lt (n + 1) p X)) := by
        have h := put_any D lt HL4.out HLR.out (n + 1) p wr.heap.size wr (some ⟨b13, o13, none⟩) c13 HPW.out HLW.out (Nat.le_refl _) (chk_good _ _ HC1.out)
        rw [EVP.out] at h
        refine h.mono ?_
        rintro e w' ⟨X, rfl, H⟩
        exact ⟨X, rfl, H.out.1, H.out.2.1, H.out.2.2.2⟩
      obtain ⟨⟨v0, v1, v2, v3⟩, u0, u1, u2, u3⟩ := H14.out.2.2
      clear H13 HLQ HLL HSA HP HT HPW HQ4
      go_wp2_with fail
      refine HPU.out.mono ?_
      rintro e w15 ⟨X, rfl, HX⟩
      have H15 := hide (H14.out.next HX.out.1)
      have HPX := hide (HPA.out X HX.out.2.2)
      have HLX : Hid (Lies w15.heap.size w15 D lt (some ⟨b13, o13, none⟩)) := lies_up HLW.out HX.out.1
      have HTX : Hid (In w15.heap.size w15 (m + 1) t) := (HTW.out.below HX.out.1).mono HX.out.1.size
      have HIX : Hid (In w15.heap.size w15 (D + n + 1) X) := HX.out.2.1
      have e3 : val (D + n + 1) X = .agg #[.int .i64 X.1.1, .int .i64 X.1.2.1, .string X.1.2.2, .slice X.2.1.1 X.2.2.length X.2.1.2] := rfl
      rw [e3]
      clear e3 HPU HX H14 HPA HLW HTW v0 v1 v2 v3 u0 u1 u2 u3
      have HCX : Hid (∀ w1, Below w15.heap.size w15 w1 → Calls Try.prog 12 #[.agg #[.int .i64 X.1.1, .int .i64 X.1.2.1, .string X.1.2.2, .slice X.2.1.1 X.2.2.length X.2.1.2]] w1 fun e w' => e = .returned (.int .i64 0) ∧ Below w1.heap.size w1 w') := fun w1 h1 => by
        have h := rcheck_any (D + n + 1) X w15.heap.size w1 (HIX.out.below h1) h1.size (chk_nodes HPX.out.1)
        have e0 : chk (D + n + 1) X = 0 := HPX.out.1
        rw [e0] at h
        exact h
      have HF2 : Hid (∀ w1, Below w15.heap.size w15 w1 → Calls Try.prog 27 #[.agg #[.int .i64 X.1.1, .int .i64 X.1.2.1, .string X.1.2.2, .slice X.2.1.1 X.2.2.length X.2.1.2], .agg #[.int .i64 t.1.1, .int .i64 t.1.2.1, .string t.1.2.2, .slice t.2.1.1 yl t.2.1.2], .slice (some ⟨b13, o13, none⟩) 4 c13] w1 (FitOut 0 (some (anL D lt)) w1)) := fun w1 h1 => by
        have h := mfits_any (D + n + 1) (m + 1) D X t lt (some ⟨b13, o13, none⟩) c13 w15.heap.size w1 (HIX.out.below h1) (HTX.out.below h1) (HLX.out.below h1) h1.size (chk_nodes HPX.out.1) HNT.out (bnd_nodes HBL.out) (by have := HL4.out; omega)
        have e0 : chk (D + n + 1) X = 0 := HPX.out.1
        have e1 : fit (D + n + 1) X (m + 1) t (anL D lt) = some (anL D lt) := HPX.out.2.1 _
        rw [e0, e1, HC2.out, HCL0.out, HBL.out, EVT.out, HL4.out] at h
        exact h
      have HCC : Hid (∀ w1, Below w15.heap.size w15 w1 → Calls Try.prog 31 #[.agg #[.int .i64 X.1.1, .int .i64 X.1.2.1, .string X.1.2.2, .slice X.2.1.1 X.2.2.length X.2.1.2]] w1 fun e w' => e = .returned (.bool (closedB (D + n + 1) X)) ∧ Below w1.heap.size w1 w') := fun w1 h1 =>
        rclosed_any (D + n + 1) X w15.heap.size w1 (HIX.out.below h1) h1.size (chk_nodes HPX.out.1)
      have HSX : Hid (closedB (D + n + 1) X = true → ∀ w1, Below w15.heap.size w15 w1 → Calls Try.prog 13 #[.agg #[.int .i64 X.1.1, .int .i64 X.1.2.1, .string X.1.2.2, .slice X.2.1.1 X.2.2.length X.2.1.2], .agg #[.int .i64 t.1.1, .int .i64 t.1.2.1, .string t.1.2.2, .slice t.2.1.1 yl t.2.1.2]] w1 fun e w' => e = .returned (.bool true) ∧ Below w1.heap.size w1 w') := fun hc w1 h1 => by
        have h := same_any (D + n + 1) X (m + 1) t w15.heap.size w1 (HIX.out.below h1) (HTX.out.below h1) h1.size
        have e0 : same (D + n + 1) X (m + 1) t = true := HPX.out.2.2 hc
        rw [e0, EVT.out] at h
        exact h
      have HBX : Hid (∀ o, Below w15.heap.size w15 (w15.alloc o)) := fun o => (Below.refl _ _).alloc (Nat.le_refl _) _
      clear HPX HIX HTX
      generalize closedB (D + n + 1) X = cx at *
      go_wp2_with fail
      refine (HCX.out _ (HBX.out _)).mono ?_
      rintro e w16 ⟨rfl, hb16⟩
      obtain ⟨⟨s0, s1, s2, s3⟩, _⟩ := boxed hb16
      have HB16 : Hid (Below w15.heap.size w15 w16) := (HBX.out _).trans (hb16.mono (by simp))
      have HLT16 : Hid (w15.heap.size < w16.heap.size) := by have := hb16.size; simp at this; unfold Hid; omega
      have H16 := hide (H15.out.next HB16.out)
      obtain ⟨_, u0, u1, u2, u3⟩ := H16.out.2.2
      clear hb16 HCX H15 HBX
      go_wp2_with fail
      refine (HF2.out _ HB16.out).mono ?_
      rintro e w17 ⟨a17, l17, c17, r17, rfl, HO17⟩
      obtain ⟨hr17, hl17, HS17⟩ : r17 = true ∧ l17 = 4 ∧ Hid (Calls Try.prog 34 #[.slice (some ⟨b13, o13, none⟩) 4 c13, .slice a17 4 c17] w17 fun e w' => e = .returned (.bool true) ∧ Below w17.heap.size w17 w') := mb_terms HO17.out HL4.out HLR.out (lies_up (lies_up HLX.out HB16.out) HO17.out.1)
      subst hr17 hl17
      have HB17 : Hid (Below w16.heap.size w16 w17) := HO17.out.1
      have H17 := hide (H16.out.next HB17.out)
      obtain ⟨r0, r1, r2, r3⟩ := cells_nx HLT16.out HB17.out ⟨s0, s1, s2, s3⟩
      have HLT17 : Hid (w15.heap.size < w17.heap.size) := Nat.lt_of_lt_of_le HLT16.out HB17.out.size
      have HW17 : Hid (Below w15.heap.size w15 w17) := HB16.out.trans (HB17.out.mono HB16.out.size)
      clear HO17 HF2 s0 s1 s2 s3 u0 u1 u2 u3 HB16 HB17 H16
      go_wp2_with fail
      refine HS17.out.mono ?_
      rintro e w18 ⟨rfl, hb18⟩
      have H18 := hide (H17.out.next hb18)
      have HW18 : Hid (Below w15.heap.size w15 w18) := HW17.out.trans (hb18.mono HW17.out.size)
      obtain ⟨s0, s1, s2, s3⟩ := cells_nx HLT17.out hb18 ⟨r0, r1, r2, r3⟩
      have HLT18 : Hid (w15.heap.size < w18.heap.size) := Nat.lt_of_lt_of_le HLT17.out hb18.size
      clear hb18 r0 r1 r2 r3 H17 HS17
      go_wp2_with fail
      refine (HCC.out _ HW18.out).mono ?_
      rintro e w19 ⟨rfl, hb19⟩
      have H19 := hide (H18.out.next hb19)
      have HW19 : Hid (Below w15.heap.size w15 w19) := HW18.out.trans (hb19.mono HW18.out.size)
      obtain ⟨r0, r1, r2, r3⟩ := cells_nx HLT18.out hb19 ⟨s0, s1, s2, s3⟩
      obtain ⟨_, u0, u1, u2, u3⟩ := H19.out.2.2
      clear hb19 s0 s1 s2 s3 H18 HCC
      cases cx with
      | false =>
        go_wp2_with fail
        go_ret
        exact ⟨rfl, H19.out.1⟩
      | true =>
        have HSX2 := hide (HSX.out rfl)
        clear HSX
        go_wp2_with fail
        refine (HSX2.out _ HW19.out).mono ?_
        rintro e w20 ⟨rfl, hb20⟩
        have HB20 : Hid (Below w.heap.size w w20) := H19.out.1.trans (hb20.mono H19.out.1.size)
        clear hb20
        go_wp2_with fail
        go_ret
        exact ⟨rfl, HB20.out⟩

theorem mbinds_any (n m o : Nat) (p : Tm n) (t : Tm m) (q : List (Tm o)) (a : Option Addr) (c B : Nat) (w : World) (hp : In B w n p) (ht : In B w m t) (hq : Lies B w o q a) (hB : B ≤ w.heap.size)
    (hNp : (nodes n p).length ≤ 2097152) (hNt : (nodes m t).length ≤ 2097152) (hNq : ∀ y ∈ q, (nodes o y).length ≤ 2097152) (hql : q.length ≤ 9223372036854775807) :
    Calls Try.prog 6 #[val n p, val m t, .slice a q.length c] w fun e w' => e = .returned (.bool true) ∧ Below w.heap.size w w' := by
  cases n with
  | zero => exact hp.elim
  | succ n =>
  cases m with
  | zero => exact ht.elim
  | succ m =>
  exact mbinds_walk n m o p t q a c q.length B w p.2.2.length t.2.2.length hB rfl rfl rfl hp ht hq hNp hNt hNq hql
end Go.Proofs.Ytpehdgbdinjbaab
