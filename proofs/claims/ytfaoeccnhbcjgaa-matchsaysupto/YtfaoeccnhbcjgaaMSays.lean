/- What is proved here: clerklaw.MatchSays of two terms and a list of terms that lie in memory returns true, and turns no memory that was there. Condition: at most 2097152 terms in each. -/
import Derived.Test.YtfaoeccnhbcjgaaRFit
namespace Go.Proofs.Ytfaoeccnhbcjgaa
open Go.RowKit

theorem rfits_any (n m o : Nat) (p : Tm n) (t : Tm m) (q : List (Tm o)) (a : Option Addr) (c B : Nat) (w : World) (hp : In B w n p) (ht : In B w m t) (hq : Lies B w o q a) (hB : B ≤ w.heap.size)
    (hNp : (nodes n p).length ≤ 2097152) (rp : RightA ⟨n, p⟩) (rt : RightA ⟨m, t⟩) (hbd : bndB o q = true) :
    Calls Try.prog 30 #[val n p, val m t, .slice a q.length c] w (RfOut B (fit n p m t (anL o q)) w) := by
  cases n with
  | zero => exact hp.elim
  | succ n =>
  cases m with
  | zero => exact ht.elim
  | succ m =>
  have h4 := bnd_four hbd
  rcases hq with hq | ⟨pb, po, rfl, hb, hq⟩
  · rw [hq] at h4; simp at h4
  · have hl : Lies B w o q (some ⟨pb, po, none⟩) := Or.inr ⟨pb, po, rfl, hb, hq⟩
    rw [h4]
    refine rfits_walk w B hB p.1.1 p.1.2.1 t.1.1 t.1.2.1 p.1.2.2 t.1.2.2 p.2.1.1 t.2.1.1 p.2.2.length p.2.1.2 t.2.2.length t.2.1.2 ⟨pb, po, none⟩ c _ (anL o q) (⟨n + 1, p⟩, ⟨m + 1, t⟩) ?_ ?_ ?_ ?_ ?_ ?_ ?_
    · exact fun w1 h1 => held_cells fun i y hy => (hq i y hy).1.below (h1.mono hB) hb
    · show (anL o q).length = 4
      rw [anL_length]; exact h4
    · show todoN _ ≤ 2097152
      simpa [todoN] using hNp
    · exact lies_bnd hl hbd
    · exact ⟨⟨hp, rp⟩, ht, rt⟩
    · show (fitA ⟨n + 1, p⟩ ⟨m + 1, t⟩ (anL o q)).bind (fits []) = fit (n + 1) p (m + 1) t (anL o q)
      cases h : fitA ⟨n + 1, p⟩ ⟨m + 1, t⟩ (anL o q) with
      | none => exact h.symm
      | some b => exact h.symm
    · rfl

theorem sameTerms_nil (a : Option Addr) (c : Nat) (a' : Option Addr) (c' : Nat) (w : World) : Calls Try.prog 32 #[.slice a 0 c, .slice a' 0 c'] w fun e w' => e = .returned (.bool true) ∧ w' = w := by
  go_enter Try.func32, Try.ntmps32
  go_wp2_with fail
  refine (equal_nil a a' c c' w).mono ?_
  rintro e w' ⟨rfl, rfl⟩
  go_wp2_with fail
  go_ret
  exact ⟨rfl, rfl⟩

set_option maxHeartbeats 2000000 in
set_option maxRecDepth 100000 in
theorem msays_walk (w : World) (B : Nat) (hB : B ≤ w.heap.size) (k u k' u' : Int) (s s' : ByteArray) (a a' : Option Addr) (l pc l' pc' : Nat) (qa : Option Addr) (ql qc : Nat) (cp ct : Int) (cl bd : Bool) (o : Option (List An))
    (HCP : Hid (∀ w1, Below w.heap.size w w1 → Calls Try.prog 9 #[.agg #[.int .i64 k, .int .i64 u, .string s, .slice a l pc]] w1 fun e w' => e = .returned (.int .i64 cp) ∧ Below w1.heap.size w1 w'))
    (HCT : Hid (∀ w1, Below w.heap.size w w1 → Calls Try.prog 9 #[.agg #[.int .i64 k', .int .i64 u', .string s', .slice a' l' pc']] w1 fun e w' => e = .returned (.int .i64 ct) ∧ Below w1.heap.size w1 w'))
    (HCL : Hid (∀ w1, Below w.heap.size w w1 → Calls Try.prog 28 #[.agg #[.int .i64 k', .int .i64 u', .string s', .slice a' l' pc']] w1 fun e w' => e = .returned (.bool cl) ∧ Below w1.heap.size w1 w'))
    (HBD : Hid (∀ w1, Below w.heap.size w w1 → Calls Try.prog 29 #[.slice qa ql qc] w1 fun e w' => e = .returned (.bool bd) ∧ Below w1.heap.size w1 w'))
    (HRF : Hid (errF cp ct cl bd = 0 → ∀ w1, Below w.heap.size w w1 → Calls Try.prog 30 #[.agg #[.int .i64 k, .int .i64 u, .string s, .slice a l pc], .agg #[.int .i64 k', .int .i64 u', .string s', .slice a' l' pc'], .slice qa ql qc] w1 (RfOut B o w1)))
    (HM : Hid (∀ w1, Below w.heap.size w w1 → Calls Try.prog 31 #[.agg #[.int .i64 k, .int .i64 u, .string s, .slice a l pc], .agg #[.int .i64 k', .int .i64 u', .string s', .slice a' l' pc'], .slice qa ql qc] w1 (FitOut (errF cp ct cl bd) o w1)))
    (HSN : Hid (∀ a c a' c' w1, Calls Try.prog 32 #[.slice a 0 c, .slice a' 0 c'] w1 fun e w' => e = .returned (.bool true) ∧ w' = w1))
    (HSR : Hid (∀ (b : List An) (g base c c1 : Nat) (a1 : Option Addr) (w7 w8 w1 : World) (l1 : List (Tm (top b))), b.length = 4 → Has base g c b w7 → Bnd B w7 b → B ≤ w7.heap.size → Below w7.heap.size w7 w8 → w7.heap.size ≤ w1.heap.size → CpRow (top b) (uni b) w1 w8 a1 c1 l1 →
      Calls Try.prog 32 #[.slice a1 4 c1, .slice (some ⟨g, 0, none⟩) 4 c] w8 fun e w' => e = .returned (.bool true) ∧ Below w8.heap.size w8 w')) :
    Calls Try.prog 6 #[.agg #[.int .i64 k, .int .i64 u, .string s, .slice a l pc], .agg #[.int .i64 k', .int .i64 u', .string s', .slice a' l' pc'], .slice qa ql qc] w fun e w' => e = .returned (.bool true) ∧ Below w.heap.size w w' := by
  obtain ⟨err, herr⟩ : ∃ err, err = errF cp ct cl bd := ⟨_, rfl⟩
  rw [← herr] at HRF HM
  have HE := hide herr
  clear herr
  go_enter Try.func6, Try.ntmps6
  go_wp2_with fail
  refine (HCP.out _ (Bx2.new w _ _ _ _ _ _ _ _ _ _).1).mono ?_
  rintro e w1 ⟨rfl, hb1⟩
  have H1 := hide ((Bx2.new w (.int .i64 k) (.int .i64 u) (.string s) (.slice a l pc) (.int .i64 k') (.int .i64 u') (.string s') (.slice a' l' pc') 24 24).next hb1)
  obtain ⟨⟨v0, v1, v2, v3⟩, u0, u1, u2, u3⟩ := H1.out.2.2
  clear hb1 HCP
  by_cases hcp : cp = 0
  case neg =>
    have h0 : (cp == 0) = false := by simpa using hcp
    have HE2 : Hid (¬ err = 0) := by have := HE.out; unfold errF at this; rw [if_neg hcp] at this; unfold Hid; rw [this]; exact hcp
    have HE3 : Hid (err = cp) := by have := HE.out; unfold errF at this; rw [if_neg hcp] at this; exact this
    have hee : (cp == cp) = true := by simp
    clear hcp HE HRF HCT HCL HBD
    go_wp2_with fail
    refine (HM.out _ H1.out.1).mono ?_
    rintro e w8 ⟨a8, l8, c8, r8, rfl, HO8⟩
    have HB8 : Hid (Below w.heap.size w w8) := H1.out.1.trans (HO8.out.1.mono H1.out.1.size)
    obtain ⟨hl8, hr8⟩ := HO8.out.2.1 (fun h => HE2.out h.1)
    subst hl8 hr8
    rw [HE3.out]
    clear HO8
    go_wp2_with fail
    refine (HSN.out _ _ _ _ _).mono ?_
    rintro e w9 ⟨rfl, rfl⟩
    go_wp2_with fail
    go_ret
    exact ⟨rfl, HB8.out⟩
  have h0 : (cp == 0) = true := by simp [hcp]
  go_wp2_with fail
  refine (HCT.out _ H1.out.1).mono ?_
  rintro e w2 ⟨rfl, hb2⟩
  have H2 := hide (H1.out.next hb2)
  clear hb2 HCT H1 v0 v1 v2 v3 u0 u1 u2 u3
  obtain ⟨⟨v0, v1, v2, v3⟩, u0, u1, u2, u3⟩ := H2.out.2.2
  by_cases hct : ct = 0
  case neg =>
    have h1 : (ct == 0) = false := by simpa using hct
    have HE2 : Hid (¬ err = 0) := by have := HE.out; unfold errF at this; rw [if_pos hcp, if_neg hct] at this; unfold Hid; rw [this]; exact hct
    have HE3 : Hid (err = ct) := by have := HE.out; unfold errF at this; rw [if_pos hcp, if_neg hct] at this; exact this
    have hee : (ct == ct) = true := by simp
    clear hct hcp HE HRF HCL HBD
    go_wp2_with fail
    refine (HM.out _ H2.out.1).mono ?_
    rintro e w8 ⟨a8, l8, c8, r8, rfl, HO8⟩
    have HB8 : Hid (Below w.heap.size w w8) := H2.out.1.trans (HO8.out.1.mono H2.out.1.size)
    obtain ⟨hl8, hr8⟩ := HO8.out.2.1 (fun h => HE2.out h.1)
    subst hl8 hr8
    rw [HE3.out]
    clear HO8
    go_wp2_with fail
    refine (HSN.out _ _ _ _ _).mono ?_
    rintro e w9 ⟨rfl, rfl⟩
    go_wp2_with fail
    go_ret
    exact ⟨rfl, HB8.out⟩
  have h1 : (ct == 0) = true := by simp [hct]
  have HC0 : Hid (ct = 0) := hct
  have HE1 : Hid (err = if cl && bd then 0 else 5) := by have := HE.out; unfold errF at this; rw [if_pos hcp, if_pos hct] at this; exact this
  clear hct hcp HE
  go_wp2_with fail
  refine (HCL.out _ H2.out.1).mono ?_
  rintro e w3 ⟨rfl, hb3⟩
  have H3 := hide (H2.out.next hb3)
  clear hb3 HCL H2 v0 v1 v2 v3 u0 u1 u2 u3
  obtain ⟨⟨v0, v1, v2, v3⟩, u0, u1, u2, u3⟩ := H3.out.2.2
  cases cl with
  | false =>
    have HE2 : Hid (¬ err = 0) := by have := HE1.out; simp at this; unfold Hid; rw [this]; decide
    have HE3 : Hid (err = 5) := by have := HE1.out; simp at this; exact this
    clear HE1 HRF HBD
    go_wp2_with fail
    refine (HM.out _ H3.out.1).mono ?_
    rintro e w8 ⟨a8, l8, c8, r8, rfl, HO8⟩
    have HB8 : Hid (Below w.heap.size w w8) := H3.out.1.trans (HO8.out.1.mono H3.out.1.size)
    obtain ⟨hl8, hr8⟩ := HO8.out.2.1 (fun h => HE2.out h.1)
    subst hl8 hr8
    rw [HE3.out]
    clear HO8
    go_wp2_with fail
    refine (HSN.out _ _ _ _ _).mono ?_
    rintro e w9 ⟨rfl, rfl⟩
    go_wp2_with fail
    go_ret
    exact ⟨rfl, HB8.out⟩
  | true =>
  go_wp2_with fail
  refine (HBD.out _ H3.out.1).mono ?_
  rintro e w4 ⟨rfl, hb4⟩
  have H4 := hide (H3.out.next hb4)
  clear hb4 HBD H3 v0 v1 v2 v3 u0 u1 u2 u3
  obtain ⟨⟨v0, v1, v2, v3⟩, u0, u1, u2, u3⟩ := H4.out.2.2
  cases bd with
  | false =>
    have HE2 : Hid (¬ err = 0) := by have := HE1.out; simp at this; unfold Hid; rw [this]; decide
    have HE3 : Hid (err = 5) := by have := HE1.out; simp at this; exact this
    clear HE1 HRF
    go_wp2_with fail
    refine (HM.out _ H4.out.1).mono ?_
    rintro e w8 ⟨a8, l8, c8, r8, rfl, HO8⟩
    have HB8 : Hid (Below w.heap.size w w8) := H4.out.1.trans (HO8.out.1.mono H4.out.1.size)
    obtain ⟨hl8, hr8⟩ := HO8.out.2.1 (fun h => HE2.out h.1)
    subst hl8 hr8
    rw [HE3.out]
    clear HO8
    go_wp2_with fail
    refine (HSN.out _ _ _ _ _).mono ?_
    rintro e w9 ⟨rfl, rfl⟩
    go_wp2_with fail
    go_ret
    exact ⟨rfl, HB8.out⟩
  | true =>
  have HE2 : Hid (err = 0) := by have := HE1.out; simp at this; exact this
  have HRF2 := hide (HRF.out HE2.out)
  clear HE1 HRF
  obtain rfl : ct = 0 := HC0.out
  go_wp2_with fail
  refine (HRF2.out _ H4.out.1).mono ?_
  rintro e w7 ⟨a7, l7, c7, r7, rfl, HO7⟩
  have H7 := hide (H4.out.next HO7.out.1)
  have HBW7 : Hid (B ≤ w7.heap.size) := Nat.le_trans hB H7.out.1.size
  clear HRF2 H4 v0 v1 v2 v3 u0 u1 u2 u3
  obtain ⟨⟨v0, v1, v2, v3⟩, u0, u1, u2, u3⟩ := H7.out.2.2
  cases o with
  | none =>
    obtain ⟨hl7, hr7⟩ := HO7.out.2.1 rfl
    subst hl7 hr7
    clear HO7
    go_wp2_with fail
    refine (HM.out _ H7.out.1).mono ?_
    rintro e w8 ⟨a8, l8, c8, r8, rfl, HO8⟩
    have HB8 : Hid (Below w.heap.size w w8) := H7.out.1.trans (HO8.out.1.mono H7.out.1.size)
    obtain ⟨hl8, hr8⟩ := HO8.out.2.1 (fun h => by cases h.2)
    subst hl8 hr8
    rw [HE2.out]
    clear HO8
    go_wp2_with fail
    refine (HSN.out _ _ _ _ _).mono ?_
    rintro e w9 ⟨rfl, rfl⟩
    go_wp2_with fail
    go_ret
    exact ⟨rfl, HB8.out⟩
  | some b =>
    obtain ⟨hr7, g, base, ha7, hh7, hl7, hbn7⟩ := HO7.out.2.2 b rfl
    have h4 : b.length = 4 := hbn7.1
    rw [h4] at hl7
    subst hr7 ha7 hl7
    have HH7 := hide hh7
    have HBN7 := hide hbn7
    clear hh7 hbn7 HO7
    go_wp2_with fail
    refine (HM.out _ H7.out.1).mono ?_
    rintro e w8 ⟨a8, l8, c8, r8, rfl, HO8⟩
    have HB8 : Hid (Below w.heap.size w w8) := H7.out.1.trans (HO8.out.1.mono H7.out.1.size)
    obtain ⟨hr8, hl8, _, w1', l1, hw1, hcp⟩ := HO8.out.2.2 b HE2.out rfl
    subst hr8 hl8
    rw [HE2.out]
    have HSQ := hide (HSR.out b g base c7 c8 a8 w7 w8 w1' l1 h4 HH7.out HBN7.out HBW7.out HO8.out.1 hw1 hcp)
    clear HO8 hcp hw1
    go_wp2_with fail
    refine HSQ.out.mono ?_
    rintro e w9 ⟨rfl, hb9⟩
    have HB9 : Hid (Below w.heap.size w w9) := HB8.out.trans (hb9.mono HB8.out.size)
    clear hb9
    go_wp2_with fail
    go_ret
    exact ⟨rfl, HB9.out⟩

theorem msays_same (B : Nat) (b : List An) (g base c c1 : Nat) (a1 : Option Addr) (w7 w8 w1 : World) (l1 : List (Tm (top b))) (h4 : b.length = 4) (hh : Has base g c b w7) (hb : Bnd B w7 b) (hB : B ≤ w7.heap.size) (h78 : Below w7.heap.size w7 w8) (hcp : CpRow (top b) (uni b) w1 w8 a1 c1 l1) :
    Calls Try.prog 32 #[.slice a1 4 c1, .slice (some ⟨g, 0, none⟩) 4 c] w8 fun e w' => e = .returned (.bool true) ∧ Below w8.heap.size w8 w' := by
  obtain ⟨k1, k2, k3, k4, k5, k6⟩ := hcp
  have hu : (uni b).length = 4 := by simp [uni, h4]
  have hl := (uni_lies hh (fun y hy => (hb.2 y hy).1) hB).below h78
  have hlies : Lies w8.heap.size w8 (top b) l1 a1 := by
    rcases k6 with k6 | ⟨q, o, e, hq1, hq2, k6⟩
    · exact Or.inl k6
    · exact Or.inr ⟨q, o, e, hq2, fun i y hy => ⟨(k6 i y hy).1, (k6 i y hy).2.1⟩⟩
  have hl2 : Lies w8.heap.size w8 (top b) (uni b) (some ⟨g, 0, none⟩) := by
    rcases hl with hl | ⟨q, o, e, hq1, hl⟩
    · exact Or.inl hl
    · exact Or.inr ⟨q, o, e, Nat.lt_of_lt_of_le hq1 h78.size, fun i y hy => ⟨(hl i y hy).1, (hl i y hy).2.mono h78.size⟩⟩
  have hs := sameTerms_any (top b) (top b) (same_any _) l1 (uni b) a1 (some ⟨g, 0, none⟩) c1 c w8.heap.size w8 hlies hl2 (by omega) (by omega) (Nat.le_refl _)
  rw [k5, hu, k2, hu] at hs
  exact hs

theorem msays_any (n m o : Nat) (p : Tm n) (t : Tm m) (q : List (Tm o)) (a : Option Addr) (c B : Nat) (w : World) (hp : In B w n p) (ht : In B w m t) (hq : Lies B w o q a) (hB : B ≤ w.heap.size)
    (hNp : (nodes n p).length ≤ 2097152) (hNt : (nodes m t).length ≤ 2097152) (hNq : ∀ y ∈ q, (nodes o y).length ≤ 2097152) (hql : q.length ≤ 9223372036854775807) :
    Calls Try.prog 6 #[val n p, val m t, .slice a q.length c] w fun e w' => e = .returned (.bool true) ∧ Below w.heap.size w w' := by
  cases n with
  | zero => exact hp.elim
  | succ n =>
  cases m with
  | zero => exact ht.elim
  | succ m =>
  refine msays_walk w B hB p.1.1 p.1.2.1 t.1.1 t.1.2.1 p.1.2.2 t.1.2.2 p.2.1.1 t.2.1.1 p.2.2.length p.2.1.2 t.2.2.length t.2.1.2 a q.length c (chk (n + 1) p) (chk (m + 1) t) (closedB (m + 1) t) (bndB o q) (fit (n + 1) p (m + 1) t (anL o q)) ?_ ?_ ?_ ?_ ?_ ?_ ?_ ?_
  · exact fun w1 h1 => rcheck_any (n + 1) p B w1 (hp.below (h1.mono hB)) (Nat.le_trans hB h1.size) hNp
  · exact fun w1 h1 => rcheck_any (m + 1) t B w1 (ht.below (h1.mono hB)) (Nat.le_trans hB h1.size) hNt
  · exact fun w1 h1 => rclosed_any (m + 1) t B w1 (ht.below (h1.mono hB)) (Nat.le_trans hB h1.size) hNt
  · exact fun w1 h1 => rbound_any o q a c B w1 (hq.below (h1.mono hB)) hql hNq (Nat.le_trans hB h1.size)
  · intro he w1 h1
    obtain ⟨e1, e2, e3, e4⟩ := errF_zero he
    exact rfits_any (n + 1) (m + 1) o p t q a c B w1 (hp.below (h1.mono hB)) (ht.below (h1.mono hB)) (hq.below (h1.mono hB)) (Nat.le_trans hB h1.size) hNp (chk_good _ _ e1) (chk_good _ _ e2) e4
  · exact fun w1 h1 => mfits_any (n + 1) (m + 1) o p t q a c B w1 (hp.below (h1.mono hB)) (ht.below (h1.mono hB)) (hq.below (h1.mono hB)) (Nat.le_trans hB h1.size) hNp hNt hNq hql
  · exact sameTerms_nil
  · exact fun b g base c c1 a1 w7 w8 w1 l1 h4 hh hb hB7 h78 _ hcp => msays_same B b g base c c1 a1 w7 w8 w1 l1 h4 hh hb hB7 h78 hcp
end Go.Proofs.Ytfaoeccnhbcjgaa
