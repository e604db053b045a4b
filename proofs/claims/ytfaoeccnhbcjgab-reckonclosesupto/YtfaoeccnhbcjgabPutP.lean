/- What is proved here: plain facts on what fits: who was bound stays so; with what is bound put in, the pattern fits just so, is right, and, where it is closed, is what fits. No condition. -/
import Derived.Test.YtfaoeccnhbcjgabSameP
import Derived.Test.YtfaoeccnhbcjgabMFit3
namespace Go.Proofs.Ytfaoeccnhbcjgab
open Go.RowKit

def Ext (b c : List An) : Prop := c.length = b.length ∧ ∀ (i : Nat) (y : An), b[i]? = some y → kindA y ≠ 6 → c[i]? = some y
theorem Ext.refl (b : List An) : Ext b b := ⟨rfl, fun _ _ h _ => h⟩
theorem Ext.trans {b c d : List An} (h : Ext b c) (k : Ext c d) : Ext b d := ⟨k.1.trans h.1, fun i y hy hk => k.2 i y (h.2 i y hy hk) hk⟩
theorem fitL_ext {α β : Type} (f : α → β → List An → Option (List An)) : (p : List α) → (q : List β) → (∀ x ∈ p, ∀ y b c, f x y b = some c → Ext b c) → ∀ b c, fitL f p q b = some c → Ext b c
  | [], _, _, b, c, h => by simp [fitL] at h; rw [← h]; exact Ext.refl _
  | _ :: _, [], _, b, c, h => by simp [fitL] at h; rw [← h]; exact Ext.refl _
  | x :: p, y :: q, hf, b, c, h => by
    simp only [fitL] at h
    obtain ⟨d, h1, h2⟩ := Option.bind_eq_some_iff.1 h
    exact (hf x (by simp) y b d h1).trans (fitL_ext f p q (fun x' hx => hf x' (List.mem_cons_of_mem _ hx)) d c h2)
theorem fitV_ext {b c : List An} {i : Nat} {t : An} (h : fitV b i t = some c) : Ext b c := by
  unfold fitV at h
  split at h
  · rename_i y hy
    split at h
    · rename_i hk
      obtain rfl := Option.some.inj h
      refine ⟨by simp, fun j z hz hkz => ?_⟩
      by_cases hij : i = j
      · subst hij
        rw [hy] at hz
        obtain rfl := Option.some.inj hz
        exact absurd hk hkz
      · rw [List.getElem?_set_ne hij]; exact hz
    · split at h
      · obtain rfl := Option.some.inj h; exact Ext.refl _
      · cases h
  · cases h
theorem fit_ext : (n : Nat) → (p : Tm n) → (m : Nat) → (t : Tm m) → (b c : List An) → fit n p m t b = some c → Ext b c
  | 0, _, _, _, _, _, h => by simp [fit] at h
  | n + 1, _, 0, _, _, _, h => by simp [fit] at h
  | n + 1, p, m + 1, t, b, c, h => by
    simp only [fit] at h
    split at h
    · obtain rfl := Option.some.inj h; exact Ext.refl _
    split at h
    · exact fitV_ext h
    split at h
    · split at h
      · exact fitL_ext _ _ _ (fun x _ y b c hc => fit_ext n x m y b c hc) b c h
      · cases h
    · split at h
      · obtain rfl := Option.some.inj h; exact Ext.refl _
      · cases h

theorem closed_parts {n : Nat} {x : Tm (n + 1)} (h : closedT (n + 1) x = true) : x.1.1 ≠ 5 ∧ x.1.1 ≠ 6 ∧ ∀ y ∈ x.2.2, closedT n y = true := by
  simp only [closedT, Bool.and_eq_true, Bool.not_eq_true', List.all_eq_true] at h
  exact ⟨by simpa using h.1.1, by simpa using h.1.2, h.2⟩
theorem fitL_id {α β : Type} (f : α → β → List An → Option (List An)) (e : List An) : (p : List α) → (q : List β) → (∀ (i : Nat) (x : α) (y : β), p[i]? = some x → q[i]? = some y → f x y e = some e) → fitL f p q e = some e
  | [], _, _ => by simp [fitL]
  | _ :: _, [], _ => by simp [fitL]
  | x :: p, y :: q, h => by
    simp only [fitL, h 0 x y (by simp) (by simp), Option.bind_some]
    exact fitL_id f e p q fun i x' y' hx hy => h (i + 1) x' y' (by simpa using hx) (by simpa using hy)
/-- What is the same, and closed, fits just so. -/
theorem fit_same : (n : Nat) → (x : Tm n) → (m : Nat) → (t : Tm m) → same n x m t = true → closedT n x = true → ∀ e, fit n x m t e = some e
  | 0, _, _, _, h, _, _ => by simp [same] at h
  | _ + 1, _, 0, _, h, _, _ => by simp [same] at h
  | n + 1, x, m + 1, t, h, hc, e => by
    obtain ⟨h1, h2⟩ := same_parts h
    obtain ⟨c5, c6, cp⟩ := closed_parts hc
    simp only [fit, if_neg c6, if_neg c5]
    by_cases h4 : x.1.1 = 4
    · rw [if_pos h4, if_pos ⟨by rw [← h1]; exact h4, sameL_length _ _ _ h2⟩]
      exact fitL_id _ e _ _ fun i y z hy hz => fit_same n y m z (sameL_at _ _ _ h2 i y z hy hz) (cp y (List.mem_of_getElem? hy)) e
    · rw [if_neg h4, if_pos h]

/-- X is the pattern p with what l binds put in. -/
def PutR (D : Nat) (l : List (Tm D)) : (n : Nat) → Tm n → Tm (D + n) → Prop
  | 0, _, _ => False
  | n + 1, p, X => if p.1.1 = 5 then ∃ z, l[p.1.2.1.toNat]? = some z ∧ same (D + n + 1) X D z = true
    else X.1 = p.1 ∧ X.2.2.length = p.2.2.length ∧ ∀ (i : Nat) (y : Tm n) (e : Tm (D + n)), p.2.2[i]? = some y → X.2.2[i]? = some e → PutR D l n y e

/-- No variable in it. -/
def noV : (n : Nat) → Tm n → Bool
  | 0, _ => true
  | n + 1, x => !(x.1.1 == 5) && x.2.2.all fun y => noV n y
theorem closed_noV : (n : Nat) → (x : Tm n) → closedT n x = true → noV n x = true
  | 0, _, _ => rfl
  | n + 1, x, h => by
    obtain ⟨c5, _, cp⟩ := closed_parts h
    simp only [noV, Bool.and_eq_true, List.all_eq_true]
    exact ⟨by simpa using c5, fun y hy => closed_noV n y (cp y hy)⟩

/-- l tells the same terms as d. -/
def Tells4 (D : Nat) (l : List (Tm D)) (d : List An) : Prop := ∀ (i : Nat) (z : An), d[i]? = some z → ∃ y, l[i]? = some y ∧ same D y z.1 z.2 = true ∧ RightA ⟨D, y⟩

theorem fitL_put (D : Nat) (l : List (Tm D)) (d : List An) (n m : Nat) (e : List An) (ih : ∀ (p : Tm n) (t : Tm m) (b c : List An), fit n p m t b = some c → Ext c d → closedT m t = true → RightA ⟨m, t⟩ → RightA ⟨n, p⟩ → ∀ X, PutR D l n p X → fit (D + n) X m t e = some e ∧ noV (D + n) X = true ∧ formedB (D + n) X = true) :
    (ps : List (Tm n)) → (ts : List (Tm m)) → (Xs : List (Tm (D + n))) → (b c : List An) → fitL (fun x y b => fit n x m y b) ps ts b = some c → Ext c d → (∀ y ∈ ts, closedT m y = true) → (∀ y ∈ ts, RightA ⟨m, y⟩) → (∀ y ∈ ps, RightA ⟨n, y⟩) → ps.length = ts.length → Xs.length = ps.length →
      (∀ (i : Nat) (y : Tm n) (x : Tm (D + n)), ps[i]? = some y → Xs[i]? = some x → PutR D l n y x) →
      fitL (fun x y b => fit (D + n) x m y b) Xs ts e = some e ∧ (Xs.all fun y => noV (D + n) y) = true ∧ (Xs.all fun y => formedB (D + n) y) = true
  | [], [], Xs, b, c, _, _, _, _, _, _, hl, _ => by
    obtain rfl : Xs = [] := List.eq_nil_of_length_eq_zero hl
    simp [fitL]
  | [], _ :: _, _, _, _, _, _, _, _, _, h, _, _ => by simp at h
  | _ :: _, [], _, _, _, _, _, _, _, _, h, _, _ => by simp at h
  | p :: ps, t :: ts, [], _, _, _, _, _, _, _, _, h, _ => by simp at h
  | p :: ps, t :: ts, X :: Xs, b, c, hf, hx, hc, hr, hp, h1, h2, hput => by
    simp only [fitL] at hf
    obtain ⟨b1, hb1, hb2⟩ := Option.bind_eq_some_iff.1 hf
    have hx1 : Ext b1 c := fitL_ext _ _ _ (fun x _ y b c hc => fit_ext n x m y b c hc) b1 c hb2
    obtain ⟨k1, k2, k3⟩ := ih p t b b1 hb1 (hx1.trans hx) (hc t (by simp)) (hr t (by simp)) (hp p (by simp)) X (hput 0 p X (by simp) (by simp))
    obtain ⟨r1, r2, r3⟩ := fitL_put D l d n m e ih ps ts Xs b1 c hb2 hx (fun y hy => hc y (List.mem_cons_of_mem _ hy)) (fun y hy => hr y (List.mem_cons_of_mem _ hy)) (fun y hy => hp y (List.mem_cons_of_mem _ hy)) (by simpa using h1) (by simpa using h2) (fun i y x hy hx => hput (i + 1) y x (by simpa using hy) (by simpa using hx))
    simp only [fitL, k1, Option.bind_some, List.all_cons, k2, k3, r2, r3, Bool.and_self, and_self, and_true]
    exact r1

theorem fit_put (D : Nat) (l : List (Tm D)) (d : List An) (hd : Tells4 D l d) (e : List An) : (n : Nat) → (p : Tm n) → (m : Nat) → (t : Tm m) → (b c : List An) → fit n p m t b = some c → Ext c d → closedT m t = true → RightA ⟨m, t⟩ → RightA ⟨n, p⟩ →
    ∀ X, PutR D l n p X → fit (D + n) X m t e = some e ∧ noV (D + n) X = true ∧ formedB (D + n) X = true
  | 0, _, _, _, _, _, h, _, _, _, _, _, _ => by simp [fit] at h
  | _ + 1, _, 0, _, _, _, h, _, _, _, _, _, _ => by simp [fit] at h
  | n + 1, p, m + 1, t, b, c, h, hx, hc, rt, rp, X, hput => by
    simp only [fit] at h
    simp only [PutR] at hput
    have gp := rp (hdOf n p) (by simp [nodes, hdOf])
    by_cases h5 : p.1.1 = 5
    · rw [if_pos h5] at hput
      have h6 : ¬ p.1.1 = 6 := by omega
      rw [if_neg h6, if_pos h5] at h
      obtain ⟨z, hz, hs⟩ := hput
      have key : ∃ y, c[p.1.2.1.toNat]? = some y ∧ kindA y ≠ 6 ∧ same y.1 y.2 (m + 1) t = true := by
        have hk : kindA (⟨m + 1, t⟩ : An) ≠ 6 := (closed_parts hc).2.1
        unfold fitV at h
        split at h
        · rename_i y hy
          split at h
          · obtain rfl := Option.some.inj h
            refine ⟨⟨m + 1, t⟩, ?_, hk, same_refl _ _ rt⟩
            rw [List.getElem?_set_self (List.getElem?_eq_some_iff.1 hy).1]
          · rename_i hk6
            split at h
            · rename_i hsm
              obtain rfl := Option.some.inj h
              exact ⟨y, hy, hk6, hsm⟩
            · cases h
        · cases h
      obtain ⟨y, hy, hk, hst⟩ := key
      obtain ⟨z', hz', hzs, hzr⟩ := hd _ y (hx.2 _ y hy hk)
      rw [hz] at hz'
      obtain rfl := Option.some.inj hz'
      have hXt : same (D + n + 1) X (m + 1) t = true := same_trans _ _ _ _ _ _ hs (same_trans _ _ _ _ _ _ hzs hst)
      have hXc : closedT (D + n + 1) X = true := by rw [same_closed _ _ _ _ hXt]; exact hc
      refine ⟨fit_same _ X _ t hXt hXc e, closed_noV _ X hXc, ?_⟩
      have := same_formed _ _ _ _ hXt
      rw [show formedB (D + (n + 1)) X = formedB (D + n + 1) X from rfl, this]
      exact right_formed.1 rt
    · rw [if_neg h5] at hput
      obtain ⟨e1, e2, e3⟩ := hput
      have gX : good (hdOf (D + n) X) = true := by
        have : good (hdOf (D + n) X) = good (hdOf n p) := by unfold hdOf; rw [e1, e2]; exact good_hd
        rw [this]; exact gp
      by_cases h6 : p.1.1 = 6
      · have hp0 : p.2.2 = [] := List.eq_nil_of_length_eq_zero ((good_parts (hdOf n p) gp).2.2.2.2 (by show p.1.1 ≠ 4; omega))
        have hX0 : X.2.2 = [] := List.eq_nil_of_length_eq_zero (by rw [e2, hp0]; rfl)
        have k6 : X.1.1 = 6 := by rw [e1]; exact h6
        refine ⟨?_, ?_, ?_⟩
        · show fit (D + n + 1) X (m + 1) t e = some e
          simp only [fit, if_pos k6]
        · show noV (D + n + 1) X = true
          simp [noV, k6, hX0]
        · show formedB (D + n + 1) X = true
          simp [formedB, gX, hX0]
      rw [if_neg h6, if_neg h5] at h
      have k5 : ¬ X.1.1 = 5 := by rw [e1]; exact h5
      have k6 : ¬ X.1.1 = 6 := by rw [e1]; exact h6
      by_cases h4 : p.1.1 = 4
      · rw [if_pos h4] at h
        have k4 : X.1.1 = 4 := by rw [e1]; exact h4
        split at h
        · rename_i htl
          obtain ⟨r1, r2, r3⟩ := fitL_put D l d n m e (fun p t b c hf hx hc rt rp X hX => fit_put D l d hd e n p m t b c hf hx hc rt rp X hX) p.2.2 t.2.2 X.2.2 b c h hx (closed_parts hc).2.2 (fun y hy => parts_right m t y rt hy) (fun y hy => parts_right n p y rp hy) htl.2 e2 e3
          refine ⟨?_, ?_, ?_⟩
          · show fit (D + n + 1) X (m + 1) t e = some e
            simp only [fit, if_neg k6, if_neg k5, if_pos k4]
            rw [if_pos ⟨htl.1, by rw [e2]; exact htl.2⟩]
            exact r1
          · show noV (D + n + 1) X = true
            simp only [noV, r2, Bool.and_true]
            simpa using k5
          · show formedB (D + n + 1) X = true
            simp only [formedB, gX, r3, Bool.or_true, Bool.and_self]
        · cases h
      · rw [if_neg h4] at h
        have k4 : ¬ X.1.1 = 4 := by rw [e1]; exact h4
        have hp0 : p.2.2 = [] := List.eq_nil_of_length_eq_zero ((good_parts (hdOf n p) gp).2.2.2.2 h4)
        have hX0 : X.2.2 = [] := List.eq_nil_of_length_eq_zero (by rw [e2, hp0]; rfl)
        split at h
        · rename_i hs
          obtain ⟨s1, s2⟩ := same_parts hs
          have hXt : same (D + n + 1) X (m + 1) t = true := same_mk (e1.trans s1) (by
            rw [hp0] at s2
            rw [hX0]
            cases ht : t.2.2 with
            | nil => rfl
            | cons a r => rw [ht] at s2; simp [sameL] at s2)
          refine ⟨?_, ?_, ?_⟩
          · show fit (D + n + 1) X (m + 1) t e = some e
            simp only [fit, if_neg k6, if_neg k5, if_neg k4, if_pos hXt]
          · show noV (D + n + 1) X = true
            simp only [noV, hX0, List.all_nil, Bool.and_true]
            simpa using k5
          · show formedB (D + n + 1) X = true
            simp only [formedB, gX, hX0, List.all_nil, Bool.or_true, Bool.and_self]
        · cases h
end Go.Proofs.Ytfaoeccnhbcjgab
