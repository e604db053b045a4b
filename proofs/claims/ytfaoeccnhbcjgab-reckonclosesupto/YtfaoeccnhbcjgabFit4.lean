/- What is proved here: match.bindings' fits, of right terms that lie in memory and four right terms that are owned: it returns whether the plain function fit finds something, leaves that in the owned row, and turns no other memory that was there. No condition but those. -/
import Derived.Test.YtfaoeccnhbcjgabFit3
namespace Go.Proofs.Ytfaoeccnhbcjgab
open Go.RowKit

theorem fitAll_any (n m : Nat) (ih : FFit n) (p : List (Tm n)) (q : List (Tm m)) (a a' : Option Addr) (pc qc : Nat) (b : List An) (base g c B : Nat) (w : World)
    (hp : p = [] ∨ ∃ b o, a = some ⟨b, o, none⟩ ∧ b < B ∧ ∀ (i : Nat) (y : Tm n), p[i]? = some y → Held w b (o + i * 4) n y ∧ In B w n y)
    (hq : q = [] ∨ ∃ b o, a' = some ⟨b, o, none⟩ ∧ b < B ∧ ∀ (i : Nat) (y : Tm m), q[i]? = some y → Held w b (o + i * 4) m y ∧ In B w m y)
    (hpl : p.length ≤ 9223372036854775807) (hql : q.length ≤ 9223372036854775807) (hrp : ∀ y ∈ p, RightA ⟨n, y⟩) (hrq : ∀ y ∈ q, RightA ⟨m, y⟩) (hb : Bnd B w b) (hB : B ≤ base) (H : Has base g c b w) :
    Calls Try.prog 73 #[.slice (some ⟨g, 0, none⟩) 4 c, .slice a p.length pc, .slice a' q.length qc] w (FitPost base g c (if p.length = q.length then fitL (fun x y b => fit n x m y b) p q b else none) w) := by
  by_cases hl : p.length = q.length
  · rw [if_pos hl]
    rcases hp with hp | ⟨pb, po, rfl, hpb, hp⟩
    · subst hp
      have hq0 : q = [] := List.eq_nil_of_length_eq_zero hl.symm
      subst hq0
      exact fitAll_nil a a' pc qc g c base b w H
    · rcases hq with hq | ⟨qb, qo, rfl, hqb, hq⟩
      · subst hq
        have hp0 : p = [] := List.eq_nil_of_length_eq_zero hl
        subst hp0
        exact fitAll_nil _ a' pc qc g c base b w H
      · have h := fitAll_eq n m ih p q p.length rfl hl.symm pb po qb qo pc qc b base g c B w (by omega) hpb hqb hp hq hrp hrq hb hB H
        rw [← hl]
        exact h
  · rw [if_neg hl]
    exact fitAll_ne p.length q.length a a' pc qc g c base w hpl hql (by simp; omega)

theorem FitPost.from {base g c : Nat} {o : Option (List An)} {w w1 : World} (h : w.grownBy w1 (some g)) {e : Ending} {w2 : World} (k : FitPost base g c o w1 e w2) : FitPost base g c o w e w2 :=
  ⟨k.1, grown_trans h k.2.1, k.2.2⟩

set_option maxHeartbeats 1000000 in
theorem fits_walk (k u k' u' : Int) (s s' : ByteArray) (a a' : Option Addr) (l l' pc qc : Nat) (base g c : Nat) (b : List An) (o1 o2 : Option (List An)) (sm : Bool) (w : World) (HH : Hid (Has base g c b w))
    (HV : Hid (k = 5 → ∀ w1, Below w.heap.size w w1 → Calls Try.prog 72 #[.slice (some ⟨g, 0, none⟩) 4 c, .int .i64 u, .agg #[.int .i64 k', .int .i64 u', .string s', .slice a' l' qc]] w1 (FitPost base g c o1 w1)))
    (HA : Hid (∀ w1, Below w.heap.size w w1 → Calls Try.prog 73 #[.slice (some ⟨g, 0, none⟩) 4 c, .slice a l pc, .slice a' l' qc] w1 (FitPost base g c o2 w1)))
    (HO : Hid (∀ w1, Below w.heap.size w w1 → Calls Try.prog 8 #[.agg #[.int .i64 k, .int .i64 u, .string s, .slice a l pc], .agg #[.int .i64 k', .int .i64 u', .string s', .slice a' l' qc]] w1 fun e w' => ∃ r, e = .returned (.int .i64 r) ∧ Hid ((r == 0) = sm) ∧ Below w1.heap.size w1 w')) :
    Calls Try.prog 55 #[.slice (some ⟨g, 0, none⟩) 4 c, .agg #[.int .i64 k, .int .i64 u, .string s, .slice a l pc], .agg #[.int .i64 k', .int .i64 u', .string s', .slice a' l' qc]] w
      (FitPost base g c (if k = 6 then some b else if k = 5 then o1 else if k = 4 then (if k' = 4 then o2 else none) else if sm then some b else none) w) := by
  have hbx : ∀ o1 o2, Below w.heap.size w ((w.alloc o1).alloc o2) := fun o1 o2 => ((Below.refl _ _).alloc (Nat.le_refl _) _).alloc (by simp) _
  have HBX := hide hbx
  clear hbx
  by_cases h6 : k = 6
  · rw [if_pos h6]
    subst h6
    go_enter Try.func55, Try.ntmps55
    go_wp2_with fail
    go_ret
    exact ⟨rfl, grown_of_below (HBX.out _ _) _, fun b' e => by obtain rfl := Option.some.inj e; exact HH.out.below (HBX.out _ _)⟩
  rw [if_neg h6]
  have e6 : (k == 6) = false := by simpa using h6
  by_cases h5 : k = 5
  · rw [if_pos h5]
    have HV' := hide (HV.out h5)
    have e5 : (k == 5) = true := by simpa using h5
    clear h5 h6 HV
    go_enter Try.func55, Try.ntmps55
    go_wp2_with fail
    refine (HV'.out _ (HBX.out _ _)).mono ?_
    rintro e w1 h1
    have H1 := hide (FitPost.from (grown_of_below (HBX.out _ _) _) h1)
    obtain ⟨rfl, _, _⟩ := h1
    go_wp2_with fail
    go_ret
    exact H1.out
  rw [if_neg h5]
  have e5 : (k == 5) = false := by simpa using h5
  by_cases h4 : k = 4
  · rw [if_pos h4]
    have e4 : (k == 4) = true := by simpa using h4
    clear h5 h6 HV
    by_cases h4' : k' = 4
    · rw [if_pos h4']
      have e4' : (k' == 4) = true := by simpa using h4'
      clear h4 h4'
      go_enter Try.func55, Try.ntmps55
      go_wp2_with fail
      refine (HA.out _ (HBX.out _ _)).mono ?_
      rintro e w1 h1
      have H1 := hide (FitPost.from (grown_of_below (HBX.out _ _) _) h1)
      obtain ⟨rfl, _, _⟩ := h1
      go_wp2_with fail
      all_goals go_ret
      all_goals exact H1.out
    · rw [if_neg h4']
      have e4' : (k' == 4) = false := by simpa using h4'
      clear h4 h4'
      go_enter Try.func55, Try.ntmps55
      go_wp2_with fail
      go_ret
      exact ⟨rfl, grown_of_below (HBX.out _ _) _, fun b' e => by cases e⟩
  rw [if_neg h4]
  have e4 : (k == 4) = false := by simpa using h4
  clear h4 h5 h6 HV HA
  obtain ⟨o3, ho3⟩ : ∃ o3, o3 = if sm then some b else none := ⟨_, rfl⟩
  rw [← ho3]
  have H3 := hide ho3
  clear ho3
  go_enter Try.func55, Try.ntmps55
  go_wp2_with fail
  refine (HO.out _ (HBX.out _ _)).mono ?_
  rintro e w1 ⟨r, rfl, HR, hb1⟩
  have HB1 : Hid (Below w.heap.size w w1) := (HBX.out _ _).trans (hb1.mono (HBX.out _ _).size)
  have H4 := hide H3.out
  rw [Hid, ← HR.out] at H4
  clear hb1 HR H3
  cases h0 : r == 0
  · go_wp2_with fail
    go_ret
    have h5 := H4
    rw [h0] at h5
    simp only [Bool.false_eq_true, if_false] at h5
    subst h5
    exact ⟨rfl, grown_of_below HB1.out _, fun b' e => by cases e⟩
  · go_wp2_with fail
    go_ret
    have h5 := H4
    rw [h0] at h5
    simp only [if_true] at h5
    subst h5
    exact ⟨rfl, grown_of_below HB1.out _, fun b' e => by obtain rfl := Option.some.inj e; exact HH.out.below HB1.out⟩

theorem fit_if (n : Nat) (p : Tm (n + 1)) (m : Nat) (t : Tm (m + 1)) (b : List An) :
    fit (n + 1) p (m + 1) t b = if p.1.1 = 6 then some b else if p.1.1 = 5 then fitV b p.1.2.1.toNat ⟨m + 1, t⟩ else if p.1.1 = 4 then (if t.1.1 = 4 then (if p.2.2.length = t.2.2.length then fitL (fun x y b => fit n x m y b) p.2.2 t.2.2 b else none) else none) else if same (n + 1) p (m + 1) t then some b else none := by
  simp only [fit]
  by_cases h1 : t.1.1 = 4 <;> by_cases h2 : p.2.2.length = t.2.2.length <;> simp [h1, h2]

theorem var_at (n : Nat) (p : Tm (n + 1)) (h : RightA ⟨n + 1, p⟩) (h5 : p.1.1 = 5) : ∃ k : Nat, k < 4 ∧ p.1.2.1 = k := by
  have hg := h (hdOf n p) (by simp [nodes, hdOf])
  have e : (hdOf n p).1.1 = 5 := h5
  have e2 : (hdOf n p).1.2.1 = p.1.2.1 := rfl
  simp [good, e, inB] at hg
  rw [e2] at hg
  exact ⟨p.1.2.1.toNat, by omega, by omega⟩

theorem fits_any (n : Nat) : FFit n := by
  induction n with
  | zero => intro p m t b base g c B w hp; exact hp.elim
  | succ n ih =>
    intro p m t b base g c B w hp ht rp rt hb hB H
    cases m with
    | zero => exact ht.elim
    | succ m =>
    have hg1 : B ≤ w.heap.size := by have := H.lt; omega
    have hp2 := hp
    have ht2 := ht
    obtain ⟨⟨_, _, _, hpl, hpc⟩, hpp⟩ := hp2
    obtain ⟨⟨_, _, _, hql, hqc⟩, hqq⟩ := ht2
    unfold maxLen at hpc hqc
    rw [fit_if]
    refine fits_walk p.1.1 p.1.2.1 t.1.1 t.1.2.1 p.1.2.2 t.1.2.2 p.2.1.1 t.2.1.1 p.2.2.length t.2.2.length p.2.1.2 t.2.1.2 base g c b _ _ _ w H ?_ ?_ ?_
    · intro h5 w1 h1
      obtain ⟨k, hk, e⟩ := var_at n p rp h5
      rw [e]
      exact fvar_any b base g c B w1 k hk m t (hb.below (h1.mono hg1)) (ht.below (h1.mono hg1)) rt hB (H.below h1)
    · intro w1 h1
      refine fitAll_any n m ih p.2.2 t.2.2 p.2.1.1 t.2.1.1 p.2.1.2 t.2.1.2 b base g c B w1 ?_ ?_ (by omega) (by omega) (fun y hy => parts_right n p y rp hy) (fun y hy => parts_right m t y rt hy) (hb.below (h1.mono hg1)) hB (H.below h1)
      · rcases hpp with hp | ⟨b, o, e, hb, hp⟩
        · exact Or.inl hp
        · exact Or.inr ⟨b, o, e, hb, fun i y hy => ⟨(hp i y hy).1.below (h1.mono hg1) hb, (hp i y hy).2.below (h1.mono hg1)⟩⟩
      · rcases hqq with hp | ⟨b, o, e, hb, hp⟩
        · exact Or.inl hp
        · exact Or.inr ⟨b, o, e, hb, fun i y hy => ⟨(hp i y hy).1.below (h1.mono hg1) hb, (hp i y hy).2.below (h1.mono hg1)⟩⟩
    · intro w1 h1
      exact order_is ⟨n + 1, p⟩ ⟨m + 1, t⟩ B w1 (hp.below (h1.mono hg1)) (ht.below (h1.mono hg1)) (Nat.le_trans hg1 h1.size) rp rt
end Go.Proofs.Ytfaoeccnhbcjgab
