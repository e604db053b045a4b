/- What is proved here: plain facts and contracts that the claimed theorem stands on, several texts in one: clerklaw.MatchSays of two terms and a list of terms that lie in memory returns true, and turns no memory that was there. Condition: at most 2097152 terms in each. a plain fact: a term has at most as many terms in it as it holds terms and letters. No condition. whatever reads as a term is a tree that lies in memory, no larger than the reading's bulk; and a row over terms follows from what the call does. No condition. whatever reads as a list of terms is a list of trees that lies in memory, no larger than the reading's bulk. No condition. -/
import Derived.Test.YtpehdgbdinjbaaaG10
import Derived.Test.YtpehdgbdinjbaaaG01
import Derived.ProofKit
import Derived.OpenShut
import Derived.JoinedCond
import Derived.Test.YtpehdgbdinjbaaaG06
namespace Go.Proofs.Ytpehdgbdinjbaaa
open Go.RowKit

theorem rfits_any (n m o : Nat) (p : Tm n) (t : Tm m) (q : List (Tm o)) (a : Option Addr) (c B : Nat) (w : World) (hp : In B w n p) (ht : In B w m t) (hq : Lies B w o q a) (hB : B ≤ w.heap.size)
    (hNp : (nodes n p).length ≤ 2097152) (rp : RightA ⟨n, p⟩) (rt : RightA ⟨m, t⟩) (hbd : bndB o q = true) :
    Calls Try.prog 31 #[val n p, val m t, .slice a q.length c] w (RfOut B (fit n p m t (anL o q)) w) := by
  cases n with
  | zero => exact hp.elim
  | succ n =>
  cases m with
  | zero => exact ht.elim
  | succ m =>
  have h4 := bnd_four hbd
  rcases hq with hq | ⟨pb, po, rfl, hb, hq⟩
  · rw [hq] at h4; simp at h4
  · have hl : Lies B w o q (some ⟨pb, po, none⟩) := Or.inr ⟨pb, po, rfl, hb, hq⟩
    rw [h4]
    refine rfits_walk w B hB p.1.1 p.1.2.1 t.1.1 t.1.2.1 p.1.2.2 t.1.2.2 p.2.1.1 t.2.1.1 p.2.2.length p.2.1.2 t.2.2.length t.2.1.2 ⟨pb, po, none⟩ c _ (anL o q) (⟨n + 1, p⟩, ⟨m + 1, t⟩) ?_ ?_ ?_ ?_ ?_ ?_ ?_
    · exact fun w1 h1 => held_cells fun i y hy => (hq i y hy).1.below (h1.mono hB) hb
    · show (anL o q).length = 4
      rw [anL_length]; exact h4
    · show todoN _ ≤ 2097152
      simpa [todoN] using hNp
    · exact lies_bnd hl hbd
    · exact ⟨⟨hp, rp⟩, ht, rt⟩
    · show (fitA ⟨n + 1, p⟩ ⟨m + 1, t⟩ (anL o q)).bind (fits []) = fit (n + 1) p (m + 1) t (anL o q)
      cases h : fitA ⟨n + 1, p⟩ ⟨m + 1, t⟩ (anL o q) with
      | none => exact h.symm
      | some b => exact h.symm
    · rfl

theorem sameTerms_nil (a : Option Addr) (c : Nat) (a' : Option Addr) (c' : Nat) (w : World) : Calls Try.prog 33 #[.slice a 0 c, .slice a' 0 c'] w fun e w' => e = .returned (.bool true) ∧ w' = w := by
  go_enter Try.func33, Try.ntmps33
  go_wp2_with fail
  refine (equal_nil a a' c c' w).mono ?_
  rintro e w' ⟨rfl, rfl⟩
  go_wp2_with fail
  go_ret
  exact ⟨rfl, rfl⟩

set_option maxHeartbeats 2000000 in
set_option maxRecDepth 100000 in
theorem msays_walk (w : World) (B : Nat) (hB : B ≤ w.heap.size) (k u k' u' : Int) (s s' : ByteArray) (a a' : Option Addr) (l pc l' pc' : Nat) (qa : Option Addr) (ql qc : Nat) (cp ct : Int) (cl bd : Bool) (o : Option (List An))
    (HCP : Hid (∀ w1, Below w.heap.size w w1 → Calls Try.prog 10 #[.agg #[.int .i64 k, .int .i64 u, .string s, .slice a l pc]] w1 fun e w' => e = .returned (.int .i64 cp) ∧ Below w1.heap.size w1 w'))
    (HCT : Hid (∀ w1, Below w.heap.size w w1 → Calls Try.prog 10 #[.agg #[.int .i64 k', .int .i64 u', .string s', .slice a' l' pc']] w1 fun e w' => e = .returned (.int .i64 ct) ∧ Below w1.heap.size w1 w'))
    (HCL : Hid (∀ w1, Below w.heap.size w w1 → Calls Try.prog 29 #[.agg #[.int .i64 k', .int .i64 u', .string s', .slice a' l' pc']] w1 fun e w' => e = .returned (.bool cl) ∧ Below w1.heap.size w1 w'))
    (HBD : Hid (∀ w1, Below w.heap.size w w1 → Calls Try.prog 30 #[.slice qa ql qc] w1 fun e w' => e = .returned (.bool bd) ∧ Below w1.heap.size w1 w'))
    (HRF : Hid (errF cp ct cl bd = 0 → ∀ w1, Below w.heap.size w w1 → Calls Try.prog 31 #[.agg #[.int .i64 k, .int .i64 u, .string s, .slice a l pc], .agg #[.int .i64 k', .int .i64 u', .string s', .slice a' l' pc'], .slice qa ql qc] w1 (RfOut B o w1)))
    (HM : Hid (∀ w1, Below w.heap.size w w1 → Calls Try.prog 32 #[.agg #[.int .i64 k, .int .i64 u, .string s, .slice a l pc], .agg #[.int .i64 k', .int .i64 u', .string s', .slice a' l' pc'], .slice qa ql qc] w1 (FitOut (errF cp ct cl bd) o w1)))
    (HSN : Hid (∀ a c a' c' w1, Calls Try.prog 33 #[.slice a 0 c, .slice a' 0 c'] w1 fun e w' => e = .returned (.bool true) ∧ w' = w1))
    (HSR : Hid (∀ (b : List An) (g base c c1 : Nat) (a1 : Option Addr) (w7 w8 w1 : World) (l1 : List (Tm (top b))), b.length = 4 → Has base g c b w7 → Bnd B w7 b → B ≤ w7.heap.size → Below w7.heap.size w7 w8 → w7.heap.size ≤ w1.heap.size → CpRow (top b) (uni b) w1 w8 a1 c1 l1 →
      Calls Try.prog 33 #[.slice a1 4 c1, .slice (some ⟨g, 0, none⟩) 4 c] w8 fun e w' => e = .returned (.bool true) ∧ Below w8.heap.size w8 w')) :
    Calls Try.prog 6 #[.agg #[.int .i64 k, .int .i64 u, .string s, .slice a l pc], .agg #[.int .i64 k', .int .i64 u', .string s', .slice a' l' pc'], .slice qa ql qc] w fun e w' => e = .returned (.bool true) ∧ Below w.heap.size w w' := by
  obtain ⟨err, herr⟩ : ∃ err, err = errF cp ct cl bd := ⟨_, rfl⟩
  rw [← herr] at HRF HM
  have HE := hide herr
  clear herr
  go_enter Try.func6, Try.ntmps6
  go_wp2_with fail
  refine (HCP.out _ (Bx2.new w _ _ _ _ _ _ _ _ _ _).1).mono ?_
  rintro e w1 ⟨rfl, hb1⟩
  have H1 := hide ((Bx2.new w (.int .i64 k) (.int .i64 u) (.string s) (.slice a l pc) (.int .i64 k') (.int .i64 u') (.string s') (.slice a' l' pc') 24 24).next hb1)
  obtain ⟨⟨v0, v1, v2, v3⟩, u0, u1, u2, u3⟩ := H1.out.2.2
  clear hb1 HCP
  by_cases hcp : cp = 0
  case neg =>
    have h0 : (cp == 0) = false := by simpa using hcp
    have HE2 : Hid (¬ err = 0) := by have := HE.out; unfold errF at this; rw [if_neg hcp] at this; unfold Hid; rw [this]; exact hcp
    have HE3 : Hid (err = cp) := by have := HE.out; unfold errF at this; rw [if_neg hcp] at this; exact this
    have hee : (cp == cp) = true := by simp
    clear hcp HE HRF HCT HCL HBD
    go_wp2_with fail
    refine (HM.out _ H1.out.1).mono ?_
    rintro e w8 ⟨a8, l8, c8, r8, rfl, HO8⟩
    have HB8 : Hid (Below w.heap.size w w8) := H1.out.1.trans (HO8.out.1.mono H1.out.1.size)
    obtain ⟨hl8, hr8⟩ := HO8.out.2.1 (fun h => HE2.out h.1)
    subst hl8 hr8
    rw [HE3.out]
    clear HO8
    go_wp2_with fail
    refine (HSN.out _ _ _ _ _).mono ?_
    rintro e w9 ⟨rfl, rfl⟩
    go_wp2_with fail
    go_ret
    exact ⟨rfl, HB8.out⟩
  have h0 : (cp == 0) = true := by simp [hcp]
  go_wp2_with fail
  refine (HCT.out _ H1.out.1).mono ?_
  rintro e w2 ⟨rfl, hb2⟩
  have H2 := hide (H1.out.next hb2)
  clear hb2 HCT H1 v0 v1 v2 v3 u0 u1 u2 u3
  obtain ⟨⟨v0, v1, v2, v3⟩, u0, u1, u2, u3⟩ := H2.out.2.2
  by_cases hct : ct = 0
  case neg =>
    have h1 : (ct == 0) = false := by simpa using hct
    have HE2 : Hid (¬ err = 0) := by have := HE.out; unfold errF at this; rw [if_pos hcp, if_neg hct] at this; unfold Hid; rw [this]; exact hct
    have HE3 : Hid (err = ct) := by have := HE.out; unfold errF at this; rw [if_pos hcp, if_neg hct] at this; exact this
    have hee : (ct == ct) = true := by simp
    clear hct hcp HE HRF HCL HBD
    go_wp2_with fail
    refine (HM.out _ H2.out.1).mono ?_
    rintro e w8 ⟨a8, l8, c8, r8, rfl, HO8⟩
    have HB8 : Hid (Below w.heap.size w w8) := H2.out.1.trans (HO8.out.1.mono H2.out.1.size)
    obtain ⟨hl8, hr8⟩ := HO8.out.2.1 (fun h => HE2.out h.1)
    subst hl8 hr8
    rw [HE3.out]
    clear HO8
    go_wp2_with fail
    refine (HSN.out _ _ _ _ _).mono ?_
    rintro e w9 ⟨rfl, rfl⟩
    go_wp2_with fail
    go_ret
    exact ⟨rfl, HB8.out⟩
  have h1 : (ct == 0) = true := by simp [hct]
  have HC0 : Hid (ct = 0) := hct
  have HE1 : Hid (err = if cl && bd then 0 else 5) := by have := HE.out; unfold errF at this; rw [if_pos hcp, if_pos hct] at this; exact this
  clear hct hcp HE
  go_wp2_with fail
  refine (HCL.out _ H2.out.1).mono ?_
  rintro e w3 ⟨rfl, hb3⟩
  have H3 := hide (H2.out.next hb3)
  clear hb3 HCL H2 v0 v1 v2 v3 u0 u1 u2 u3
  obtain ⟨⟨v0, v1, v2, v3⟩, u0, u1, u2, u3⟩ := H3.out.2.2
  cases cl with
  | false =>
    have HE2 : Hid (¬ err = 0) := by have := HE1.out; simp at this; unfold Hid; rw [this]; decide
    have HE3 : Hid (err = 5) := by have := HE1.out; simp at this; exact this
    clear HE1 HRF HBD
    go_wp2_with fail
    refine (HM.out _ H3.out.1).mono ?_
    rintro e w8 ⟨a8, l8, c8, r8, rfl, HO8⟩
    have HB8 : Hid (Below w.heap.size w w8) := H3.out.1.trans (HO8.out.1.mono H3.out.1.size)
    obtain ⟨hl8, hr8⟩ := HO8.out.2.1 (fun h => HE2.out h.1)
    subst hl8 hr8
    rw [HE3.out]
    clear HO8
    go_wp2_with fail
    refine (HSN.out _ _ _ _ _).mono ?_
    rintro e w9 ⟨rfl, rfl⟩
    go_wp2_with fail
    go_ret
    exact ⟨rfl, HB8.out⟩
  | true =>
  go_wp2_with fail
  refine (HBD.out _ H3.out.1).mono ?_
  rintro e w4 ⟨rfl, hb4⟩
  have H4 := hide (H3.out.next hb4)
  clear hb4 HBD H3 v0 v1 v2 v3 u0 u1 u2 u3
  obtain ⟨⟨v0, v1, v2, v3⟩, u0, u1, u2, u3⟩ := H4.out.2.2
  cases bd with
  | false =>
    have HE2 : Hid (¬ err = 0) := by have := HE1.out; simp at this; unfold Hid; rw [this]; decide
    have HE3 : Hid (err = 5) := by have := HE1.out; simp at this; exact this
    clear HE1 HRF
    go_wp2_with fail
    refine (HM.out _ H4.out.1).mono ?_
    rintro e w8 ⟨a8, l8, c8, r8, rfl, HO8⟩
    have HB8 : Hid (Below w.heap.size w w8) := H4.out.1.trans (HO8.out.1.mono H4.out.1.size)
    obtain ⟨hl8, hr8⟩ := HO8.out.2.1 (fun h => HE2.out h.1)
    subst hl8 hr8
    rw [HE3.out]
    clear HO8
    go_wp2_with fail
    refine (HSN.out _ _ _ _ _).mono ?_
    rintro e w9 ⟨rfl, rfl⟩
    go_wp2_with fail
    go_ret
    exact ⟨rfl, HB8.out⟩
  | true =>
  have HE2 : Hid (err = 0) := by have := HE1.out; simp at this; exact this
  have HRF2 := hide (HRF.out HE2.out)
  clear HE1 HRF
  obtain rfl : ct = 0 := HC0.out
  go_wp2_with fail
  refine (HRF2.out _ H4.out.1).mono ?_
  rintro e w7 ⟨a7, l7, c7, r7, rfl, HO7⟩
  have H7 := hide (H4.out.next HO7.out.1)
  have HBW7 : Hid (B ≤ w7.heap.size) := Nat.le_trans hB H7.out.1.size
  clear HRF2 H4 v0 v1 v2 v3 u0 u1 u2 u3
  obtain ⟨⟨v0, v1, v2, v3⟩, u0, u1, u2, u3⟩ := H7.out.2.2
  cases o with
  | none =>
    obtain ⟨hl7, hr7⟩ := HO7.out.2.1 rfl
    subst hl7 hr7
    clear HO7
    go_wp2_with fail
    refine (HM.out _ H7.out.1).mono ?_
    rintro e w8 ⟨a8, l8, c8, r8, rfl, HO8⟩
    have HB8 : Hid (Below w.heap.size w w8) := H7.out.1.trans (HO8.out.1.mono H7.out.1.size)
    obtain ⟨hl8, hr8⟩ := HO8.out.2.1 (fun h => by cases h.2)
    subst hl8 hr8
    rw [HE2.out]
    clear HO8
    go_wp2_with fail
    refine (HSN.out _ _ _ _ _).mono ?_
    rintro e w9 ⟨rfl, rfl⟩
    go_wp2_with fail
    go_ret
    exact ⟨rfl, HB8.out⟩
  | some b =>
    obtain ⟨hr7, g, base, ha7, hh7, hl7, hbn7⟩ := HO7.out.2.2 b rfl
    have h4 : b.length = 4 := hbn7.1
    rw [h4] at hl7
    subst hr7 ha7 hl7
    have HH7 := hide hh7
    have HBN7 := hide hbn7
    clear hh7 hbn7 HO7
    go_wp2_with fail
    refine (HM.out _ H7.out.1).mono ?_
    rintro e w8 ⟨a8, l8, c8, r8, rfl, HO8⟩
    have HB8 : Hid (Below w.heap.size w w8) := H7.out.1.trans (HO8.out.1.mono H7.out.1.size)
    obtain ⟨hr8, hl8, _, w1', l1, hw1, hcp⟩ := HO8.out.2.2 b HE2.out rfl
    subst hr8 hl8
    rw [HE2.out]
    have HSQ := hide (HSR.out b g base c7 c8 a8 w7 w8 w1' l1 h4 HH7.out HBN7.out HBW7.out HO8.out.1 hw1 hcp)
    clear HO8 hcp hw1
    go_wp2_with fail
    refine HSQ.out.mono ?_
    rintro e w9 ⟨rfl, hb9⟩
    have HB9 : Hid (Below w.heap.size w w9) := HB8.out.trans (hb9.mono HB8.out.size)
    clear hb9
    go_wp2_with fail
    go_ret
    exact ⟨rfl, HB9.out⟩

theorem msays_same (B : Nat) (b : List An) (g base c c1 : Nat) (a1 : Option Addr) (w7 w8 w1 : World) (l1 : List (Tm (top b))) (h4 : b.length = 4) (hh : Has base g c b w7) (hb : Bnd B w7 b) (hB : B ≤ w7.heap.size) (h78 : Below w7.heap.size w7 w8) (hcp : CpRow (top b) (uni b) w1 w8 a1 c1 l1) :
    Calls Try.prog 33 #[.slice a1 4 c1, .slice (some ⟨g, 0, none⟩) 4 c] w8 fun e w' => e = .returned (.bool true) ∧ Below w8.heap.size w8 w' := by
  obtain ⟨k1, k2, k3, k4, k5, k6⟩ := hcp
  have hu : (uni b).length = 4 := by simp [uni, h4]
  have hl := (uni_lies hh (fun y hy => (hb.2 y hy).1) hB).below h78
  have hlies : Lies w8.heap.size w8 (top b) l1 a1 := by
    rcases k6 with k6 | ⟨q, o, e, hq1, hq2, k6⟩
    · exact Or.inl k6
    · exact Or.inr ⟨q, o, e, hq2, fun i y hy => ⟨(k6 i y hy).1, (k6 i y hy).2.1⟩⟩
  have hl2 : Lies w8.heap.size w8 (top b) (uni b) (some ⟨g, 0, none⟩) := by
    rcases hl with hl | ⟨q, o, e, hq1, hl⟩
    · exact Or.inl hl
    · exact Or.inr ⟨q, o, e, Nat.lt_of_lt_of_le hq1 h78.size, fun i y hy => ⟨(hl i y hy).1, (hl i y hy).2.mono h78.size⟩⟩
  have hs := sameTerms_any (top b) (top b) (same_any _) l1 (uni b) a1 (some ⟨g, 0, none⟩) c1 c w8.heap.size w8 hlies hl2 (by omega) (by omega) (Nat.le_refl _)
  rw [k5, hu, k2, hu] at hs
  exact hs

theorem msays_any (n m o : Nat) (p : Tm n) (t : Tm m) (q : List (Tm o)) (a : Option Addr) (c B : Nat) (w : World) (hp : In B w n p) (ht : In B w m t) (hq : Lies B w o q a) (hB : B ≤ w.heap.size)
    (hNp : (nodes n p).length ≤ 2097152) (hNt : (nodes m t).length ≤ 2097152) (hNq : ∀ y ∈ q, (nodes o y).length ≤ 2097152) (hql : q.length ≤ 9223372036854775807) :
    Calls Try.prog 6 #[val n p, val m t, .slice a q.length c] w fun e w' => e = .returned (.bool true) ∧ Below w.heap.size w w' := by
  cases n with
  | zero => exact hp.elim
  | succ n =>
  cases m with
  | zero => exact ht.elim
  | succ m =>
  refine msays_walk w B hB p.1.1 p.1.2.1 t.1.1 t.1.2.1 p.1.2.2 t.1.2.2 p.2.1.1 t.2.1.1 p.2.2.length p.2.1.2 t.2.2.length t.2.1.2 a q.length c (chk (n + 1) p) (chk (m + 1) t) (closedB (m + 1) t) (bndB o q) (fit (n + 1) p (m + 1) t (anL o q)) ?_ ?_ ?_ ?_ ?_ ?_ ?_ ?_
  · exact fun w1 h1 => rcheck_any (n + 1) p B w1 (hp.below (h1.mono hB)) (Nat.le_trans hB h1.size) hNp
  · exact fun w1 h1 => rcheck_any (m + 1) t B w1 (ht.below (h1.mono hB)) (Nat.le_trans hB h1.size) hNt
  · exact fun w1 h1 => rclosed_any (m + 1) t B w1 (ht.below (h1.mono hB)) (Nat.le_trans hB h1.size) hNt
  · exact fun w1 h1 => rbound_any o q a c B w1 (hq.below (h1.mono hB)) hql hNq (Nat.le_trans hB h1.size)
  · intro he w1 h1
    obtain ⟨e1, e2, e3, e4⟩ := errF_zero he
    exact rfits_any (n + 1) (m + 1) o p t q a c B w1 (hp.below (h1.mono hB)) (ht.below (h1.mono hB)) (hq.below (h1.mono hB)) (Nat.le_trans hB h1.size) hNp (chk_good _ _ e1) (chk_good _ _ e2) e4
  · exact fun w1 h1 => mfits_any (n + 1) (m + 1) o p t q a c B w1 (hp.below (h1.mono hB)) (ht.below (h1.mono hB)) (hq.below (h1.mono hB)) (Nat.le_trans hB h1.size) hNp hNt hNq hql
  · exact sameTerms_nil
  · exact fun b g base c c1 a1 w7 w8 w1 l1 h4 hh hb hB7 h78 _ hcp => msays_same B b g base c c1 a1 w7 w8 w1 l1 h4 hh hb hB7 h78 hcp
end Go.Proofs.Ytpehdgbdinjbaaa
namespace Go.Proofs.Ytpehdgbdinjbaaa

/-- How much a term holds: its terms, and the letters of their names. -/
def wt : (n : Nat) → Tm n → Nat
  | 0, _ => 1
  | n + 1, x => 1 + x.1.2.2.size + (x.2.2.map fun y => wt n y).sum

theorem nodes_wt : (n : Nat) → (x : Tm n) → (nodes n x).length ≤ wt n x
  | 0, _ => by simp [nodes, wt]
  | n + 1, x => by
    have key : ∀ l : List (Tm n), (l.flatMap fun y => nodes n y).length ≤ (l.map fun y => wt n y).sum := by
      intro l
      induction l with
      | nil => simp
      | cons y l ih =>
        have := nodes_wt n y
        simp only [List.flatMap_cons, List.length_append, List.map_cons, List.sum_cons]
        omega
    have := key x.2.2
    simp only [nodes, wt, List.length_cons]
    omega
end Go.Proofs.Ytpehdgbdinjbaaa
namespace Go.Proofs.Ytpehdgbdinjbaaa
open Go.ChangeShapes Go.WideShapes Go.ChangeAt Go.RowKit

theorem own : ownKnob Try.prog.godebug = none := by kernel_rfl
theorem laidOut : laidOutB Try.prog = true := by kernel_rfl
theorem cellsTerm : Try.prog.cellsOf 24 = 4 := by kernel_rfl
theorem cellsInt : Try.prog.cellsOf 3 = 1 := by kernel_rfl
theorem cellsString : Try.prog.cellsOf 9 = 1 := by kernel_rfl
theorem cellsTerms : Try.prog.cellsOf 22 = 1 := by kernel_rfl

theorem list_of {α : Type} {P : Nat → α → Prop} : (len : Nat) → (∀ i, i < len → ∃ y, P i y) → ∃ l : List α, l.length = len ∧ ∀ i y, l[i]? = some y → P i y
  | 0, _ => ⟨[], rfl, fun i y h => by simp at h⟩
  | len + 1, h => by
    obtain ⟨l, hl, hp⟩ := list_of len (fun i hi => h i (by omega))
    obtain ⟨z, hz⟩ := h len (by omega)
    refine ⟨l ++ [z], by simp [hl], fun i y hy => ?_⟩
    by_cases hi : i < l.length
    · rw [List.getElem?_append_left hi] at hy
      exact hp i y hy
    · rw [List.getElem?_append_right (by omega)] at hy
      have h0 : i - l.length = 0 := by
        by_cases h0 : i - l.length = 0
        · exact h0
        · rw [List.getElem?_eq_none (by simp; omega)] at hy; cases hy
      rw [h0] at hy
      have e1 : z = y := by simpa using hy
      have e2 : i = len := by omega
      rw [e2, ← e1]
      exact hz

theorem wt_le {H : Type} {n : Nat} : (p : List (Tm n)) → (es : List (DataW H)) → (∀ (i : Nat) (y : Tm n) (e : DataW H), p[i]? = some y → es[i]? = some e → wt n y ≤ Rows.uptoBulk e) → p.length = es.length → (p.map fun y => wt n y).sum ≤ Rows.uptoBulkAll es
  | [], es, _, h => by simp
  | y :: p, [], _, h => by simp at h
  | y :: p, e :: es, hp, h => by
    have h0 := hp 0 y e (by simp) (by simp)
    have h1 := wt_le p es (fun i y' e' hy he => hp (i + 1) y' e' (by simpa using hy) (by simpa using he)) (by simpa using h)
    simp only [List.map_cons, List.sum_cons, Rows.uptoBulkAll]
    omega

theorem add_add (b o i j : Nat) : ((⟨b, o, none⟩ : Addr).add i).add j = ⟨b, o + i + j, none⟩ := by
  unfold Addr.add
  split <;> split <;> simp_all
theorem spot_none {w : World} {a : Addr} {v : Value} (h : w.cell? ((a.add 0).add 0) = some v) : a = ⟨a.block, a.off, none⟩ := by
  have e : (a.add 0).add 0 = a := rfl
  rw [e] at h
  unfold World.cell? at h
  split at h
  · split at h
    · cases h
    · rename_i hs
      cases a with
      | mk b o s => cases s with
        | none => rfl
        | some q => simp at hs
  · cases h

theorem wf64 {k : Int} (h : (Lit.int .i64 k).wf = true) : I64 k := by
  have : -9223372036854775808 ≤ k ∧ k ≤ 9223372036854775807 := by simpa [Lit.wf, IntKind.min, IntKind.max, IntKind.signed, IntKind.bits] using h
  exact this

set_option maxRecDepth 100000 in
theorem tree_of {H : Type} (enc : TypeId × Value → H) (w : World) (sp : Nat → Bool) : (n f : Nat) → f ≤ 2 * n + 1 → (cs : List Value) → (x : DataW H × List MemPlace) →
    DataW.trod enc Try.prog w 0 sp true f 24 cs = some x →
    ∃ t : Tm (n + 1), cs = [.int .i64 t.1.1, .int .i64 t.1.2.1, .string t.1.2.2, .slice t.2.1.1 t.2.2.length t.2.1.2] ∧ In w.heap.size w (n + 1) t ∧ wt (n + 1) t ≤ Rows.uptoBulk x.1 := by
  intro n
  induction n with
  | zero =>
    intro f hf cs x h
    obtain ⟨xs, m, rfl, rfl, hl, hx, hg⟩ := DataW.trod_struct Try.underlying24 h
    have h0 : DataW.trod enc Try.prog w 0 sp true m 3 ((cs.drop 0).take (Try.prog.cellsOf 3)) = xs[0]? := hg 0 _ rfl
    obtain rfl : m = 0 := by omega
    have hx' : xs.length = 4 := hx
    rw [List.getElem?_eq_getElem (by omega)] at h0
    cases h0
  | succ n ih =>
    intro f hf cs x h
    obtain ⟨xs, m, rfl, rfl, hl, hx, hg⟩ := DataW.trod_struct Try.underlying24 h
    have h0 : DataW.trod enc Try.prog w 0 sp true m 3 ((cs.drop 0).take (Try.prog.cellsOf 3)) = xs[0]? := hg 0 _ rfl
    have h1 : DataW.trod enc Try.prog w 0 sp true m 3 ((cs.drop 1).take (Try.prog.cellsOf 3)) = xs[1]? := hg 1 _ rfl
    have h2 : DataW.trod enc Try.prog w 0 sp true m 9 ((cs.drop 2).take (Try.prog.cellsOf 9)) = xs[2]? := hg 2 _ rfl
    have h3 : DataW.trod enc Try.prog w 0 sp true m 22 ((cs.drop 3).take (Try.prog.cellsOf 22)) = xs[3]? := hg 3 _ rfl
    rw [cellsInt] at h0 h1
    rw [cellsString] at h2
    rw [cellsTerms] at h3
    rw [cellsTerm] at hl
    obtain ⟨c0, c1, c2, c3, rfl⟩ : ∃ c0 c1 c2 c3, cs = [c0, c1, c2, c3] := by
      match cs, hl with
      | [c0, c1, c2, c3], _ => exact ⟨c0, c1, c2, c3, rfl⟩
    obtain ⟨y0, y1, y2, y3, rfl⟩ : ∃ y0 y1 y2 y3, xs = [y0, y1, y2, y3] := by
      match xs, hx with
      | [y0, y1, y2, y3], _ => exact ⟨y0, y1, y2, y3, rfl⟩
    obtain ⟨k, e0, z0, w0⟩ := DataW.trod_int Try.underlying3 (x := y0) (by simpa using h0)
    obtain ⟨u, e1, z1, w1⟩ := DataW.trod_int Try.underlying3 (x := y1) (by simpa using h1)
    obtain ⟨s, e2, z2, w2⟩ := DataW.trod_string Try.underlying9 (x := y2) (by simpa using h2)
    have h3' : DataW.trod enc Try.prog w 0 sp true m 22 [c3] = some y3 := by simpa using h3
    simp at e0 e1 e2
    subst e0 e1 e2 z0 z1 z2
    rcases DataW.trod_slice Try.underlying22 h3' with ⟨e3, rfl⟩ | ⟨a, len, cap, elems, rest, m', rfl, e3, rfl, _, hlc, hcm, hel, hat, _, _⟩
    · simp at e3
      subst e3
      refine ⟨((k, u, s), (none, 0), []), rfl, ⟨⟨wf64 w0, wf64 w1, w2, Nat.le_refl _, Nat.zero_le _⟩, Or.inl rfl⟩, ?_⟩
      have es : s.data.toList.length = s.size := by rw [Array.length_toList]; rfl
      simp only [wt, Rows.uptoBulk, Rows.uptoBulkAll, List.map_cons, List.map_nil, List.sum_nil]
      omega
    · simp at e3
      subst e3
      simp only [cellsTerm] at hat
      have key : ∀ i, i < len → ∃ t : Tm (n + 1), (∃ b o, a = ⟨b, o, none⟩ ∧ b < w.heap.size ∧ Held w b (o + i * 4) (n + 1) t) ∧ In w.heap.size w (n + 1) t ∧ ∀ e, (elems.map (·.1))[i]? = some e → wt (n + 1) t ≤ Rows.uptoBulk e := by
        intro i hi
        have hi' := hat i hi
        have hi0 := hat 0 (by omega)
        rw [List.getElem?_eq_getElem (by omega)] at hi' hi0
        obtain ⟨cs', hcs, htr⟩ := Option.bind_eq_some_iff.1 hi'
        obtain ⟨cs0, hcs0, htr0⟩ := Option.bind_eq_some_iff.1 hi0
        obtain ⟨_, hlen, hcell⟩ := World.cells?_some hcs
        obtain ⟨_, hlen0, hcell0⟩ := World.cells?_some hcs0
        obtain ⟨t, rfl, hin, hb⟩ := ih m' (by omega) cs' _ htr
        have ha := spot_none (w := w) (a := a) (v := cs0[0]'(by omega)) (by have := hcell0 0 (by omega); rw [List.getElem?_eq_getElem (by omega)] at this; simpa using this)
        have hadd : ∀ j, (a.add (i * 4)).add j = ⟨a.block, a.off + i * 4 + j, none⟩ := fun j => by
          have := add_add a.block a.off (i * 4) j
          rw [← ha] at this
          exact this
        have c0 := hcell 0 (by omega)
        have c1 := hcell 1 (by omega)
        have c2 := hcell 2 (by omega)
        have c3 := hcell 3 (by omega)
        rw [hadd] at c0 c1 c2 c3
        simp at c0 c1 c2 c3
        refine ⟨t, ⟨a.block, a.off, ha, World.block_lt_of_cell? w ⟨a.block, a.off + i * 4, none⟩ c0, c0, c1, c2, c3⟩, hin, fun e he => ?_⟩
        rw [List.getElem?_map, List.getElem?_eq_getElem (by omega)] at he
        have : (elems[i]).1 = e := by simpa using he
        rw [← this]
        exact hb
      obtain ⟨p, hpl, hp⟩ := list_of len key
      refine ⟨((k, u, s), (some a, cap), p), by simp [hpl], ⟨⟨wf64 w0, wf64 w1, w2, by simp only; omega, hcm⟩, ?_⟩, ?_⟩
      · rcases Nat.eq_zero_or_pos len with h | h
        · exact Or.inl (List.eq_nil_of_length_eq_zero (hpl.trans h))
        · obtain ⟨⟨b, o, rfl, hb, _⟩, _, _⟩ := hp 0 (p[0]'(by rw [hpl]; exact h)) (List.getElem?_eq_getElem (by rw [hpl]; exact h))
          refine Or.inr ⟨b, o, rfl, hb, fun i y hy => ?_⟩
          obtain ⟨⟨b', o', e, _, hh⟩, hin, _⟩ := hp i y hy
          simp at e
          obtain ⟨rfl, rfl⟩ := e
          exact ⟨hh, hin⟩
      · have hs := wt_le p (elems.map (·.1)) (fun i y e hy he => (hp i y hy).2.2 e he) (by simp; omega)
        have es : s.data.toList.length = s.size := by rw [Array.length_toList]; rfl
        simp only [wt, Rows.uptoBulk, Rows.uptoBulkAll, List.map_cons, List.map_nil] at hs ⊢
        omega

set_option maxRecDepth 100000 in
theorem open_term {H : Type} {enc : TypeId × Value → H} {W : World} {r : Reach} {b0 : Nat} {v : Value} {d : DataW H} {p : List MemPlace} (hv : Value.okWide Try.prog W r b0 24 v)
    (h : DataW.Trod enc Try.prog W 0 (fun _ => true) true 24 v d p) : ∃ n, ∃ t : Tm (n + 1), v = val (n + 1) t ∧ In W.heap.size W (n + 1) t ∧ wt (n + 1) t ≤ Rows.uptoBulk d := by
  obtain ⟨cs, rfl, _⟩ := okWide_struct Try.underlying24 hv
  obtain ⟨f, hf⟩ := h
  obtain ⟨t, e, hin, hb⟩ := tree_of enc W (fun _ => true) f f (by omega) _ _ hf
  refine ⟨f, t, ?_, hin, hb⟩
  have : cs = #[.int .i64 t.1.1, .int .i64 t.1.2.1, .string t.1.2.2, .slice t.2.1.1 t.2.2.length t.2.1.2] := by
    simp [Value.cells] at e
    exact Array.toList_inj.1 e
  rw [this]
  rfl
end Go.Proofs.Ytpehdgbdinjbaaa
namespace Go.Proofs.Ytpehdgbdinjbaaa
open Go.ChangeShapes Go.WideShapes Go.ChangeAt Go.RowKit

set_option maxRecDepth 100000 in
theorem open_terms {H : Type} {enc : TypeId × Value → H} {W : World} {r : Reach} {b0 : Nat} {v : Value} {d : DataW H} {p : List MemPlace} (hv : Value.okWide Try.prog W r b0 22 v)
    (h : DataW.Trod enc Try.prog W 0 (fun _ => true) true 22 v d p) : ∃ n, ∃ q : List (Tm (n + 1)), ∃ a c, v = .slice a q.length c ∧ Lies W.heap.size W (n + 1) q a ∧ q.length ≤ c ∧ c ≤ maxLen ∧ (q.map fun y => wt (n + 1) y).sum ≤ Rows.uptoBulk d := by
  obtain ⟨a, len, cap, rfl⟩ := okWide_slice Try.underlying22 hv
  obtain ⟨f, hf⟩ := h
  have hf' : DataW.trod enc Try.prog W 0 (fun _ => true) true f 22 [.slice a len cap] = some (d, p) := hf
  rcases DataW.trod_slice Try.underlying22 hf' with ⟨e, e2⟩ | ⟨a, len, cap, elems, rest, m, rfl, e, e2, _, hlc, hcm, hel, hat, _, _⟩
  · simp at e e2
    obtain ⟨rfl, rfl, rfl⟩ := e
    exact ⟨0, [], none, 0, rfl, Or.inl rfl, Nat.le_refl _, Nat.zero_le _, Nat.zero_le _⟩
  · simp at e e2
    obtain ⟨rfl, rfl, rfl⟩ := e
    obtain ⟨rfl, rfl⟩ := e2
    simp only [cellsTerm] at hat
    have key : ∀ i, i < len → ∃ t : Tm (m + 1), (∃ b o, a = ⟨b, o, none⟩ ∧ b < W.heap.size ∧ Held W b (o + i * 4) (m + 1) t) ∧ In W.heap.size W (m + 1) t ∧ ∀ e, (elems.map (·.1))[i]? = some e → wt (m + 1) t ≤ Rows.uptoBulk e := by
      intro i hi
      have hi' := hat i hi
      have hi0 := hat 0 (by omega)
      rw [List.getElem?_eq_getElem (by omega)] at hi' hi0
      obtain ⟨cs', hcs, htr⟩ := Option.bind_eq_some_iff.1 hi'
      obtain ⟨cs0, hcs0, htr0⟩ := Option.bind_eq_some_iff.1 hi0
      obtain ⟨_, hlen, hcell⟩ := World.cells?_some hcs
      obtain ⟨_, hlen0, hcell0⟩ := World.cells?_some hcs0
      obtain ⟨t, rfl, hin, hb⟩ := tree_of enc W (fun _ => true) m m (by omega) cs' _ htr
      have ha := spot_none (w := W) (a := a) (v := cs0[0]'(by omega)) (by have := hcell0 0 (by omega); rw [List.getElem?_eq_getElem (by omega)] at this; simpa using this)
      have hadd : ∀ j, (a.add (i * 4)).add j = ⟨a.block, a.off + i * 4 + j, none⟩ := fun j => by
        have := add_add a.block a.off (i * 4) j
        rw [← ha] at this
        exact this
      have c0 := hcell 0 (by omega)
      have c1 := hcell 1 (by omega)
      have c2 := hcell 2 (by omega)
      have c3 := hcell 3 (by omega)
      rw [hadd] at c0 c1 c2 c3
      simp at c0 c1 c2 c3
      refine ⟨t, ⟨a.block, a.off, ha, World.block_lt_of_cell? W ⟨a.block, a.off + i * 4, none⟩ c0, c0, c1, c2, c3⟩, hin, fun e he => ?_⟩
      rw [List.getElem?_map, List.getElem?_eq_getElem (by omega)] at he
      have : (elems[i]).1 = e := by simpa using he
      rw [← this]
      exact hb
    obtain ⟨q, hpl, hp⟩ := list_of len key
    refine ⟨m, q, some a, cap, by rw [hpl], ?_, by omega, hcm, ?_⟩
    · rcases Nat.eq_zero_or_pos len with h | h
      · exact Or.inl (List.eq_nil_of_length_eq_zero (hpl.trans h))
      · obtain ⟨⟨b, o, rfl, hb, _⟩, _, _⟩ := hp 0 (q[0]'(by rw [hpl]; exact h)) (List.getElem?_eq_getElem (by rw [hpl]; exact h))
        refine Or.inr ⟨b, o, rfl, hb, fun i y hy => ?_⟩
        obtain ⟨⟨b', o', e, _, hh⟩, hin, _⟩ := hp i y hy
        simp at e
        obtain ⟨rfl, rfl⟩ := e
        exact ⟨hh, hin⟩
    · have hs := wt_le q (elems.map (·.1)) (fun i y e hy he => (hp i y hy).2.2 e he) (by simp; omega)
      simp only [Rows.uptoBulk]
      omega
theorem sum_mem {n : Nat} (q : List (Tm n)) (y : Tm n) (h : y ∈ q) : wt n y ≤ (q.map fun y => wt n y).sum := by
  induction q with
  | nil => cases h
  | cons z q ih =>
    simp only [List.map_cons, List.sum_cons]
    rcases List.mem_cons.1 h with rfl | h
    · omega
    · have := ih h
      omega
end Go.Proofs.Ytpehdgbdinjbaaa
