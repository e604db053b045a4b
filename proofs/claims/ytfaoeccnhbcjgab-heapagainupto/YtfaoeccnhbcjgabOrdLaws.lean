/- What is proved here: plain facts: the order of right terms is turned round when its two terms are, is 0 of the same terms alone, and goes on in a row. No condition but that the terms are right. -/
import Derived.Test.YtfaoeccnhbcjgabRChkAny
import Derived.Test.YtfaoeccnhbcjgabSame
namespace Go.Proofs.Ytfaoeccnhbcjgab
open Go.RowKit

/-- How three comparisons stand to each other: first and second, second and third, first and third. -/
def C3 (f g h : Int) : Prop := (f ≤ 0 → g ≤ 0 → h ≤ 0 ∧ (h = 0 → f = 0 ∧ g = 0)) ∧ (0 ≤ f → 0 ≤ g → 0 ≤ h ∧ (h = 0 → f = 0 ∧ g = 0))
theorem C3_lex {f g h f' g' h' : Int} (H : C3 f g h) (H' : f = 0 → g = 0 → h = 0 → C3 f' g' h') : C3 (if f = 0 then f' else f) (if g = 0 then g' else g) (if h = 0 then h' else h) := by
  unfold C3 at *
  by_cases hf : f = 0
  · by_cases hg : g = 0
    · have hh : h = 0 := by omega
      have := H' hf hg hh
      rw [if_pos hf, if_pos hg, if_pos hh]
      exact this
    · have hh : ¬ h = 0 := by omega
      rw [if_pos hf, if_neg hg, if_neg hh]
      omega
  · by_cases hg : g = 0
    · have hh : ¬ h = 0 := by omega
      rw [if_neg hf, if_pos hg, if_neg hh]
      omega
    · by_cases hh : h = 0
      · rw [if_neg hf, if_neg hg, if_pos hh]
        omega
      · rw [if_neg hf, if_neg hg, if_neg hh]
        exact H
theorem cmpI_val (x y : Int) : (x < y ∧ cmpI x y = -1) ∨ (x = y ∧ cmpI x y = 0) ∨ (y < x ∧ cmpI x y = 1) := by
  unfold cmpI
  by_cases h : x < y
  · rw [if_pos h]; exact Or.inl ⟨h, rfl⟩
  · rw [if_neg h]
    by_cases h' : y < x
    · rw [if_pos h']; exact Or.inr (Or.inr ⟨h', rfl⟩)
    · rw [if_neg h']; exact Or.inr (Or.inl ⟨by omega, rfl⟩)
theorem cmpI_C3 (x y z : Int) : C3 (cmpI x y) (cmpI y z) (cmpI x z) := by
  have h1 := cmpI_val x y
  have h2 := cmpI_val y z
  have h3 := cmpI_val x z
  unfold C3
  omega
theorem cmpI_anti (x y : Int) : cmpI x y = - cmpI y x := by
  have h1 := cmpI_val x y
  have h2 := cmpI_val y x
  omega

theorem bl_asymm : (x y : List UInt8) → Op.bytesLess x y = true → Op.bytesLess y x = false
  | _, [], h => by simp [Op.bytesLess] at h
  | [], _ :: _, _ => by simp [Op.bytesLess]
  | a :: x, b :: y, h => by
    simp only [Op.bytesLess, Bool.or_eq_true, decide_eq_true_eq, Bool.and_eq_true, beq_iff_eq] at h
    simp only [Op.bytesLess, Bool.or_eq_false_iff, decide_eq_false_iff_not, Bool.and_eq_false_iff, beq_eq_false_iff_ne]
    rcases h with h | ⟨rfl, h⟩
    · rw [UInt8.lt_iff_toNat_lt] at h
      refine ⟨by rw [UInt8.lt_iff_toNat_lt]; omega, Or.inl fun e => by subst e; omega⟩
    · exact ⟨by rw [UInt8.lt_iff_toNat_lt]; omega, Or.inr (bl_asymm x y h)⟩
theorem bl_tri : (x y : List UInt8) → Op.bytesLess x y = false → Op.bytesLess y x = false → x = y
  | [], [], _, _ => rfl
  | [], _ :: _, h, _ => by simp [Op.bytesLess] at h
  | _ :: _, [], _, h => by simp [Op.bytesLess] at h
  | a :: x, b :: y, h, h' => by
    simp only [Op.bytesLess, Bool.or_eq_false_iff, decide_eq_false_iff_not, Bool.and_eq_false_iff, beq_eq_false_iff_ne] at h h'
    obtain ⟨h1, h2⟩ := h
    obtain ⟨h3, h4⟩ := h'
    have e : a = b := by
      rw [UInt8.lt_iff_toNat_lt] at h1 h3
      exact UInt8.toNat_inj.1 (by omega)
    subst e
    rw [bl_tri x y (h2.resolve_left (fun n => n rfl)) (h4.resolve_left (fun n => n rfl))]
theorem bl_trans : (x y z : List UInt8) → Op.bytesLess x y = true → Op.bytesLess y z = true → Op.bytesLess x z = true
  | _, [], _, h, _ => by simp [Op.bytesLess] at h
  | _, _ :: _, [], _, h => by simp [Op.bytesLess] at h
  | [], _ :: _, _ :: _, _, _ => by simp [Op.bytesLess]
  | a :: x, b :: y, c :: z, h, h' => by
    simp only [Op.bytesLess, Bool.or_eq_true, decide_eq_true_eq, Bool.and_eq_true, beq_iff_eq] at h h' ⊢
    rcases h with h | ⟨rfl, h⟩
    · rcases h' with h' | ⟨rfl, h'⟩
      · left; rw [UInt8.lt_iff_toNat_lt] at *; omega
      · exact Or.inl h
    · rcases h' with h' | ⟨rfl, h'⟩
      · exact Or.inl h'
      · exact Or.inr ⟨rfl, bl_trans x y z h h'⟩
theorem bl_irrefl (l : List UInt8) : Op.bytesLess l l = false := by
  induction l with
  | nil => rfl
  | cons a l ih => simp [Op.bytesLess, ih]
theorem cmpS_val (x y : ByteArray) : (Op.bytesLess x.toList y.toList = true ∧ cmpS x y = -1) ∨ (x.toList = y.toList ∧ cmpS x y = 0) ∨ (Op.bytesLess y.toList x.toList = true ∧ cmpS x y = 1) := by
  unfold cmpS
  cases h : Op.bytesLess x.toList y.toList
  · by_cases e : x.toList = y.toList
    · rw [e]; simp
    · have h' : Op.bytesLess y.toList x.toList = true := by
        cases h2 : Op.bytesLess y.toList x.toList
        · exact (e (bl_tri _ _ h h2)).elim
        · rfl
      have e' : (x.toList == y.toList) = false := by simpa using e
      rw [e']
      simp [h']
  · simp
theorem cmpS_anti (x y : ByteArray) : cmpS x y = - cmpS y x := by
  rcases cmpS_val x y with ⟨h1, e1⟩ | ⟨h1, e1⟩ | ⟨h1, e1⟩
  all_goals rcases cmpS_val y x with ⟨h2, e2⟩ | ⟨h2, e2⟩ | ⟨h2, e2⟩
  all_goals first
    | omega
    | (exfalso; first
        | (have := bl_asymm _ _ h1; rw [h2] at this; cases this)
        | (rw [h2, bl_irrefl] at h1; cases h1)
        | (rw [h1, bl_irrefl] at h2; cases h2))
theorem cmpS_C3 (x y z : ByteArray) : C3 (cmpS x y) (cmpS y z) (cmpS x z) := by
  unfold C3
  rcases cmpS_val x y with ⟨h1, e1⟩ | ⟨h1, e1⟩ | ⟨h1, e1⟩
  all_goals rcases cmpS_val y z with ⟨h2, e2⟩ | ⟨h2, e2⟩ | ⟨h2, e2⟩
  all_goals rcases cmpS_val x z with ⟨h3, e3⟩ | ⟨h3, e3⟩ | ⟨h3, e3⟩
  all_goals first
    | omega
    | (exfalso
       first
         | (have t := bl_trans _ _ _ h1 h2; first | (rw [h3, bl_irrefl] at t; cases t) | (rw [bl_asymm _ _ t] at h3; cases h3))
         | (have t := bl_trans _ _ _ h2 h1; first | (rw [h3, bl_irrefl] at t; cases t) | (rw [bl_asymm _ _ t] at h3; cases h3))
         | (rw [h1] at h3; first | (rw [bl_asymm _ _ h2] at h3; cases h3) | (rw [h3, bl_irrefl] at h2; cases h2) | (rw [h2, bl_irrefl] at h3; cases h3))
         | (rw [← h2] at h3; first | (rw [bl_asymm _ _ h1] at h3; cases h3) | (rw [h3, bl_irrefl] at h1; cases h1) | (rw [h1, bl_irrefl] at h3; cases h3)))

theorem ordL_anti {α β : Type} (f : α → β → Int) (g : β → α → Int) (h : ∀ a b, f a b = - g b a) : (p : List α) → (q : List β) → ordL f p q = - ordL g q p
  | [], [] => rfl
  | [], _ :: _ => rfl
  | _ :: _, [] => rfl
  | a :: p, b :: q => by
    simp only [ordL]
    rw [ordL_anti f g h p q, h a b]
    by_cases e : g b a = 0
    · rw [if_pos (by omega), if_pos e]
    · rw [if_neg (by omega), if_neg e]
theorem ord_anti : (n : Nat) → (x : Tm n) → (m : Nat) → (y : Tm m) → ord n x m y = - ord m y n x
  | 0, _, 0, _ => rfl
  | 0, _, _ + 1, _ => rfl
  | _ + 1, _, 0, _ => rfl
  | n + 1, x, m + 1, y => by
    have hl := ordL_anti (fun a b => ord n a m b) (fun b a => ord m b n a) (fun a b => ord_anti n a m b) x.2.2 y.2.2
    simp only [ord, hl]
    rw [cmpI_anti x.1.1, cmpI_anti x.1.2.1, cmpS_anti x.1.2.2, cmpI_anti (x.2.2.length : Int)]
    by_cases e : x.1.1 = y.1.1
    · rw [if_pos e, if_pos e.symm, e]
      by_cases e1 : y.1.1 = 1 ∨ y.1.1 = 3 ∨ y.1.1 = 5
      · rw [if_pos e1, if_pos e1]
      rw [if_neg e1, if_neg e1]
      by_cases e2 : y.1.1 = 2
      · rw [if_pos e2, if_pos e2]
      rw [if_neg e2, if_neg e2]
      by_cases e4 : y.1.1 = 4
      · rw [if_pos e4, if_pos e4]
        by_cases e5 : x.2.2.length = y.2.2.length
        · rw [if_pos e5, if_pos e5.symm]
        · rw [if_neg e5, if_neg (fun h => e5 h.symm)]
      · rw [if_neg e4, if_neg e4]; rfl
    · rw [if_neg e, if_neg (fun h => e h.symm)]

theorem ordL_C3 {α β γ : Type} (f : α → β → Int) (g : β → γ → Int) (h : α → γ → Int) : (p : List α) → (q : List β) → (r : List γ) → p.length = q.length → q.length = r.length →
    (∀ a ∈ p, ∀ b ∈ q, ∀ c ∈ r, C3 (f a b) (g b c) (h a c)) → C3 (ordL f p q) (ordL g q r) (ordL h p r)
  | [], [], [], _, _, _ => by simp [ordL, C3]
  | [], _ :: _, _, e, _, _ => by simp at e
  | _ :: _, [], _, e, _, _ => by simp at e
  | [], [], _ :: _, _, e, _ => by simp at e
  | _ :: _, _ :: _, [], _, e, _ => by simp at e
  | a :: p, b :: q, c :: r, e1, e2, H => by
    simp only [ordL]
    exact C3_lex (H a (by simp) b (by simp) c (by simp)) (fun _ _ _ => ordL_C3 f g h p q r (by simpa using e1) (by simpa using e2) (fun a' ha b' hb c' hc => H a' (by simp [ha]) b' (by simp [hb]) c' (by simp [hc])))

/-- The order within one kind. -/
def inner (k : Int) (n : Nat) (x : Tm (n + 1)) (m : Nat) (y : Tm (m + 1)) : Int :=
  if k = 1 ∨ k = 3 ∨ k = 5 then cmpI x.1.2.1 y.1.2.1 else if k = 2 then cmpS x.1.2.2 y.1.2.2
  else if k = 4 then (if cmpI x.2.2.length y.2.2.length = 0 then ordL (fun a b => ord n a m b) x.2.2 y.2.2 else cmpI x.2.2.length y.2.2.length) else 0
theorem ord_lex (n : Nat) (x : Tm (n + 1)) (m : Nat) (y : Tm (m + 1)) : ord (n + 1) x (m + 1) y = if cmpI x.1.1 y.1.1 = 0 then inner x.1.1 n x m y else cmpI x.1.1 y.1.1 := by
  have h := cmpI_val x.1.1 y.1.1
  have hl := cmpI_val x.2.2.length y.2.2.length
  have e : (if x.2.2.length = y.2.2.length then ordL (fun a b => ord n a m b) x.2.2 y.2.2 else cmpI x.2.2.length y.2.2.length) = (if cmpI x.2.2.length y.2.2.length = 0 then ordL (fun a b => ord n a m b) x.2.2 y.2.2 else cmpI x.2.2.length y.2.2.length) := by
    by_cases e : x.2.2.length = y.2.2.length
    · rw [if_pos e, if_pos (by omega)]
    · rw [if_neg e, if_neg (by omega)]
  simp only [ord, inner, e]
  by_cases e : x.1.1 = y.1.1
  · have hz : cmpI x.1.1 y.1.1 = 0 := by omega
    rw [if_pos e, if_pos hz]
  · have hz : ¬ cmpI x.1.1 y.1.1 = 0 := by omega
    rw [if_neg e, if_neg hz]

theorem zero_bad {x : Tm 0} (h : ∀ a ∈ nodes 0 x, good a = true) : False := by
  have := h ((0, 0, .empty), (none, 0, 0)) (by simp [nodes])
  rcases good_kind _ this with g | g | g | g | g | ⟨g, _⟩ <;> simp at g

theorem ord_C3 : (n : Nat) → (x : Tm n) → (m : Nat) → (y : Tm m) → (l : Nat) → (z : Tm l) → (∀ a ∈ nodes n x, good a = true) → (∀ a ∈ nodes m y, good a = true) → (∀ a ∈ nodes l z, good a = true) →
    C3 (ord n x m y) (ord m y l z) (ord n x l z)
  | 0, _, _, _, _, _, h, _, _ => (zero_bad h).elim
  | _ + 1, _, 0, _, _, _, _, h, _ => (zero_bad h).elim
  | _ + 1, _, _ + 1, _, 0, _, _, _, h => (zero_bad h).elim
  | n + 1, x, m + 1, y, l + 1, z, hx, hy, hz => by
    rw [ord_lex, ord_lex, ord_lex]
    refine C3_lex (cmpI_C3 _ _ _) (fun h1 h2 _ => ?_)
    have e1 : x.1.1 = y.1.1 := by have := cmpI_val x.1.1 y.1.1; omega
    rw [← e1]
    generalize x.1.1 = k
    unfold inner
    by_cases k1 : k = 1 ∨ k = 3 ∨ k = 5
    · rw [if_pos k1, if_pos k1, if_pos k1]; exact cmpI_C3 _ _ _
    rw [if_neg k1, if_neg k1, if_neg k1]
    by_cases k2 : k = 2
    · rw [if_pos k2, if_pos k2, if_pos k2]; exact cmpS_C3 _ _ _
    rw [if_neg k2, if_neg k2, if_neg k2]
    by_cases k4 : k = 4
    · rw [if_pos k4, if_pos k4, if_pos k4]
      refine C3_lex (cmpI_C3 _ _ _) (fun h1 h2 _ => ordL_C3 _ _ _ _ _ _ ?_ ?_ ?_)
      · have := cmpI_val x.2.2.length y.2.2.length; omega
      · have := cmpI_val y.2.2.length z.2.2.length; omega
      · exact fun a ha b hb c hc => ord_C3 n a m b l c (fun d hd => hx d (nodes_mem ha hd)) (fun d hd => hy d (nodes_mem hb hd)) (fun d hd => hz d (nodes_mem hc hd))
    · rw [if_neg k4, if_neg k4, if_neg k4]; simp [C3]

theorem ordL_range {α β : Type} (f : α → β → Int) (h : ∀ a b, -1 ≤ f a b ∧ f a b ≤ 1) : (p : List α) → (q : List β) → -1 ≤ ordL f p q ∧ ordL f p q ≤ 1
  | [], _ => by simp [ordL]
  | _ :: _, [] => by simp [ordL]
  | a :: p, b :: q => by
    simp only [ordL]
    by_cases e : f a b = 0
    · rw [if_pos e]; exact ordL_range f h p q
    · rw [if_neg e]; exact h a b
theorem ord_range : (n : Nat) → (x : Tm n) → (m : Nat) → (y : Tm m) → -1 ≤ ord n x m y ∧ ord n x m y ≤ 1
  | 0, _, _, _ => by simp [ord]
  | _ + 1, _, 0, _ => by simp [ord]
  | n + 1, x, m + 1, y => by
    have hl := ordL_range (fun a b => ord n a m b) (fun a b => ord_range n a m b) x.2.2 y.2.2
    have h1 := cmpI_val x.1.1 y.1.1
    have h2 := cmpI_val x.1.2.1 y.1.2.1
    have h3 := cmpS_val x.1.2.2 y.1.2.2
    have h4 := cmpI_val x.2.2.length y.2.2.length
    have h3' : -1 ≤ cmpS x.1.2.2 y.1.2.2 ∧ cmpS x.1.2.2 y.1.2.2 ≤ 1 := by rcases h3 with ⟨_, h⟩ | ⟨_, h⟩ | ⟨_, h⟩ <;> omega
    simp only [ord]
    generalize ordL (fun a b => ord n a m b) x.2.2 y.2.2 = r at *
    clear h3
    repeat' split
    all_goals omega

theorem ordL_same {α β : Type} (f : α → β → Int) (g : α → β → Bool) : (p : List α) → (q : List β) → p.length = q.length → (∀ a ∈ p, ∀ b ∈ q, (f a b = 0 ↔ g a b = true)) → (ordL f p q = 0 ↔ sameL g p q = true)
  | [], [], _, _ => by simp [ordL, sameL]
  | [], _ :: _, e, _ => by simp at e
  | _ :: _, [], e, _ => by simp at e
  | a :: p, b :: q, e, H => by
    have h0 := H a (by simp) b (by simp)
    have h1 := ordL_same f g p q (by simpa using e) (fun a' ha b' hb => H a' (by simp [ha]) b' (by simp [hb]))
    simp only [ordL, sameL, Bool.and_eq_true]
    by_cases e0 : f a b = 0
    · rw [if_pos e0, h1]
      exact ⟨fun h => ⟨h0.1 e0, h⟩, fun h => h.2⟩
    · rw [if_neg e0]
      exact ⟨fun h => (e0 h).elim, fun h => (e0 (h0.2 h.1)).elim⟩

theorem good_parts (x : Nd) (h : good x = true) : (x.1.1 ≠ 2 → x.1.2.2.toList = []) ∧ (x.1.1 = 2 → x.1.2.1 = 0) ∧ (x.1.1 = 4 → x.1.2.1 = 0) ∧ (x.1.1 = 6 → x.1.2.1 = 0) ∧ (x.1.1 ≠ 4 → x.2.2.1 = 0) := by
  have hk := good_kind x h
  unfold good at h
  rcases hk with g | g | g | g | g | ⟨g, g0⟩
  all_goals (rw [g] at h ⊢; simp at h ⊢; simp [h])

theorem ord_same : (n : Nat) → (x : Tm n) → (m : Nat) → (y : Tm m) → (∀ a ∈ nodes n x, good a = true) → (∀ a ∈ nodes m y, good a = true) → (ord n x m y = 0 ↔ same n x m y = true)
  | 0, _, _, _, h, _ => (zero_bad h).elim
  | _ + 1, _, 0, _, _, h => (zero_bad h).elim
  | n + 1, x, m + 1, y, hx, hy => by
    have gx := good_parts _ (hx (x.1, (x.2.1.1, x.2.2.length, x.2.1.2)) (by simp [nodes]))
    have gy := good_parts _ (hy (y.1, (y.2.1.1, y.2.2.length, y.2.1.2)) (by simp [nodes]))
    have kx := good_kind _ (hx (x.1, (x.2.1.1, x.2.2.length, x.2.1.2)) (by simp [nodes]))
    have hl := fun e => ordL_same (fun a b => ord n a m b) (fun a b => same n a m b) x.2.2 y.2.2 e (fun a ha b hb => ord_same n a m b (fun d hd => hx d (nodes_mem ha hd)) (fun d hd => hy d (nodes_mem hb hd)))
    simp only at gx gy kx
    simp only [ord, same]
    have hS := cmpS_val x.1.2.2 y.1.2.2
    have hI := cmpI_val x.1.2.1 y.1.2.1
    have hK := cmpI_val x.1.1 y.1.1
    have hL := cmpI_val x.2.2.length y.2.2.length
    obtain ⟨⟨k, u, s⟩, ⟨a, c⟩, p⟩ := x
    obtain ⟨⟨k', u', s'⟩, ⟨a', c'⟩, q⟩ := y
    simp only at *
    clear hx hy
    by_cases e : k = k'
    · subst e
      rw [if_pos rfl]
      have nilp : k ≠ 4 → p = [] ∧ q = [] := fun h => ⟨List.eq_nil_of_length_eq_zero (gx.2.2.2.2 h), List.eq_nil_of_length_eq_zero (gy.2.2.2.2 h)⟩
      have nils : k ≠ 2 → s.toList = [] ∧ s'.toList = [] := fun h => ⟨gx.1 h, gy.1 h⟩
      rcases kx with g | g | g | g | g | ⟨g, g0⟩
      · subst g
        obtain ⟨rfl, rfl⟩ := nilp (by decide)
        obtain ⟨e1, e2⟩ := nils (by decide)
        rw [if_pos (by decide), e1, e2]
        simp [sameL]
        omega
      · subst g
        obtain ⟨rfl, rfl⟩ := nilp (by decide)
        have u0 : u = 0 := gx.2.1 rfl
        have u1 : u' = 0 := gy.2.1 rfl
        subst u0 u1
        rw [if_neg (by decide), if_pos rfl]
        simp [sameL]
        rcases hS with ⟨h, h'⟩ | ⟨h, h'⟩ | ⟨h, h'⟩
        · refine ⟨fun e => by omega, fun e => ?_⟩
          rw [e, bl_irrefl] at h
          cases h
        · exact ⟨fun _ => h, fun _ => h'⟩
        · refine ⟨fun e => by omega, fun e => ?_⟩
          rw [e, bl_irrefl] at h
          cases h
      · subst g
        obtain ⟨rfl, rfl⟩ := nilp (by decide)
        obtain ⟨e1, e2⟩ := nils (by decide)
        rw [if_pos (by decide), e1, e2]
        simp [sameL]
        omega
      · subst g
        obtain ⟨e1, e2⟩ := nils (by decide)
        have u0 : u = 0 := gx.2.2.1 rfl
        have u1 : u' = 0 := gy.2.2.1 rfl
        subst u0 u1
        rw [if_neg (by decide), if_neg (by decide), if_pos rfl, e1, e2]
        by_cases el : p.length = q.length
        · rw [if_pos el, hl el]
          simp
        · rw [if_neg el, sameL_ne _ _ _ el]
          simp
          omega
      · subst g
        obtain ⟨rfl, rfl⟩ := nilp (by decide)
        obtain ⟨e1, e2⟩ := nils (by decide)
        rw [if_pos (by decide), e1, e2]
        simp [sameL]
        omega
      · subst g
        obtain ⟨rfl, rfl⟩ := nilp (by decide)
        obtain ⟨e1, e2⟩ := nils (by decide)
        have u1 : u' = 0 := gy.2.2.2.1 rfl
        subst g0 u1
        rw [if_neg (by decide), if_neg (by decide), if_neg (by decide), e1, e2]
        simp [sameL]
    · rw [if_neg e]
      have : (k == k') = false := by simpa using e
      rw [this]
      simp
      omega
end Go.Proofs.Ytfaoeccnhbcjgab
