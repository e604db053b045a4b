/- What is proved here: plain facts on how many words a copy has: a term just laid is copied whole, once; what was copied is not copied again; what is just copied is copied whole again, word by word. No condition but that words stand for terms. -/
import Derived.Test.YtfaoeccnhbcjgabHp23
import Derived.Test.YtfaoeccnhbcjgabSameP
namespace Go.Proofs.Ytfaoeccnhbcjgab
open Go.RowKit Go.Maps

theorem stands_lift {ws : List Wd} {nm : List ByteArray} : (N n : Nat) → n ≤ N → (x : Tm n) → (v : Wd) → Stands ws nm n x v → Stands ws nm N (lift N n x) v
  | _, 0, _, _, _, h => h.elim
  | 0, n + 1, h, _, _, _ => by omega
  | N + 1, n + 1, h, x, v, k => by
    obtain ⟨a, b, c⟩ := k
    refine ⟨a, fun e => ?_, c⟩
    obtain ⟨p, e1, e2, e3, e4⟩ := b e
    refine ⟨p, e1, by simpa [lift] using e2, by simpa [lift] using e3, fun i y hy => ?_⟩
    simp only [lift, List.getElem?_map] at hy
    obtain ⟨z, hz, rfl⟩ := Option.map_eq_some_iff.1 hy
    obtain ⟨u, e5, e6⟩ := e4 i z hz
    exact ⟨u, e5, stands_lift N n (by omega) z u e6⟩

theorem cpL_congr {f g : Wd → List Wd × Went → Wd × List Wd × Went} : (l : List Wd) → (S : List Wd × Went) → (∀ v ∈ l, ∀ S, f v S = g v S) → cpL f l S = cpL g l S
  | [], _, _ => rfl
  | v :: l, S, h => by
    have h1 := h v (by simp) S
    have h2 := cpL_congr l (g v S).2 fun u hu => h u (List.mem_cons_of_mem _ hu)
    simp only [cpL, h1, h2]
theorem StandL.mem {ws : List Wd} {nm : List ByteArray} {n : Nat} {l : List Wd} {p : List (Tm n)} (h : StandL ws nm n l p) {v : Wd} (hv : v ∈ l) : ∃ y ∈ p, Stands ws nm n y v := by
  obtain ⟨i, hi⟩ := List.getElem?_of_mem hv
  have hl : i < p.length := by rw [← h.1]; exact (List.getElem?_eq_some_iff.1 hi).1
  exact ⟨p[i], List.getElem_mem _, h.2 i v p[i] hi (List.getElem?_eq_getElem hl)⟩
theorem cpF_deep {ws : List Wd} {nm : List ByteArray} : (n N : Nat) → n ≤ N → (x : Tm n) → (v : Wd) → (S : List Wd × Went) → Stands ws nm n x v → cpF ws N v S = cpF ws n v S
  | 0, _, _, _, _, _, h => h.elim
  | n + 1, N, h, x, v, S, k => by
    obtain ⟨M, rfl⟩ : ∃ M, N = M + 1 := ⟨N - 1, by omega⟩
    by_cases h4 : x.1.1 = 4
    · obtain ⟨p, rfl, hp, hl, hs⟩ := tuple_parts k h4
      cases hk : look S.2 p with
      | some q => rw [cpF_old hk, cpF_old hk]
      | none =>
        have e : cpL (cpF ws M) (partsOf ws p x.2.2.length) S = cpL (cpF ws n) (partsOf ws p x.2.2.length) S := cpL_congr _ _ fun v hv S => by
          obtain ⟨y, _, hy⟩ := hs.mem hv
          exact cpF_deep n M (by omega) y v S hy
        rw [cpF_new hk hp, cpF_new hk hp, e]
    · rw [cpF_leaf (leaf_not4 k h4), cpF_leaf (leaf_not4 k h4)]

def Fresh (g : Went) (a b : Nat) : Prop := ∀ p, a ≤ p → p < b → look g p = none
def Only (g g' : Went) (a b : Nat) : Prop := ∀ p, (p < a ∨ b ≤ p) → look g' p = look g p
theorem parts_pre {us A C : List Wd} {h : Wd} (k : (A ++ h :: C) <+: us) : partsOf us A.length C.length = C := by
  obtain ⟨r, rfl⟩ := k
  unfold partsOf
  rw [show A ++ h :: C ++ r = (A ++ [h]) ++ (C ++ r) by simp]
  rw [List.drop_left' (by simp), List.take_left' rfl]
theorem layL_cp (us : List Wd) (n : Nat) (ih : ∀ (x : Tm n) (ws : List Wd) (nm : List ByteArray) (S : List Wd × Went), (layF n x ws nm).2.1 <+: us → Fresh S.2 ws.length (layF n x ws nm).2.1.length →
      ((cpF us n (layF n x ws nm).1 S).2.1.length : Int) = S.1.length + sz n x ∧ Only S.2 (cpF us n (layF n x ws nm).1 S).2.2 ws.length (layF n x ws nm).2.1.length) :
    (l : List (Tm n)) → (ws : List Wd) → (nm : List ByteArray) → (S : List Wd × Went) → (layL (layF n) l ws nm).2.1 <+: us → Fresh S.2 ws.length (layL (layF n) l ws nm).2.1.length →
      ((cpL (cpF us n) (layL (layF n) l ws nm).1 S).2.1.length : Int) + l.length = S.1.length + (l.map fun y => 1 + sz n y).sum ∧ Only S.2 (cpL (cpF us n) (layL (layF n) l ws nm).1 S).2.2 ws.length (layL (layF n) l ws nm).2.1.length
  | [], ws, nm, S, _, _ => by
    refine ⟨by simp [cpL, layL], fun p _ => rfl⟩
  | y :: l, ws, nm, S, hp, hf => by
    have p1 := (layF_pre n y ws nm).1
    have p2 := (layL_pre (layF_pre n) l (layF n y ws nm).2.1 (layF n y ws nm).2.2).1
    have l1 := p1.length_le
    have l2 := p2.length_le
    simp only [layL] at hp hf ⊢
    obtain ⟨a1, a2⟩ := ih y ws nm S (p2.trans hp) fun p h1 h2 => hf p h1 (by omega)
    obtain ⟨b1, b2⟩ := layL_cp us n ih l (layF n y ws nm).2.1 (layF n y ws nm).2.2 (cpF us n (layF n y ws nm).1 S).2 hp fun p h1 h2 => by
      rw [a2 p (Or.inr h1)]
      exact hf p (by omega) h2
    simp only [cpL, List.map_cons, List.sum_cons, List.length_cons]
    refine ⟨by omega, fun p hh => ?_⟩
    rw [b2 p (by omega), a2 p (by omega)]
theorem lay_cp (us : List Wd) : (n : Nat) → (x : Tm n) → (ws : List Wd) → (nm : List ByteArray) → (S : List Wd × Went) → (layF n x ws nm).2.1 <+: us → Fresh S.2 ws.length (layF n x ws nm).2.1.length →
      ((cpF us n (layF n x ws nm).1 S).2.1.length : Int) = S.1.length + sz n x ∧ Only S.2 (cpF us n (layF n x ws nm).1 S).2.2 ws.length (layF n x ws nm).2.1.length
  | 0, _, _, _, S, _, _ => by
    refine ⟨by simp [cpF, sz], fun p _ => rfl⟩
  | n + 1, x, ws, nm, S, hp, hf => by
    by_cases h2 : x.1.1 = 2
    · have h4 : ¬ x.1.1 = 4 := by omega
      simp only [layF, if_pos h2]
      rw [cpF_leaf (by simp)]
      exact ⟨by simp [sz, h4], fun p _ => rfl⟩
    · by_cases h4 : x.1.1 = 4
      · simp only [layF, if_neg h2, if_pos h4] at hp hf ⊢
        have hl := layL_length (layF n) x.2.2 ws nm
        have lw := (layL_pre (layF_pre n) x.2.2 ws nm).1.length_le
        have ht : ((layL (layF n) x.2.2 ws nm).2.1 ++ (0, (x.2.2.length : Int)) :: (layL (layF n) x.2.2 ws nm).1).length = (layL (layF n) x.2.2 ws nm).2.1.length + 1 + x.2.2.length := by
          simp [hl]; omega
        rw [ht] at hf ⊢
        have hk : look S.2 (layL (layF n) x.2.2 ws nm).2.1.length = none := hf _ lw (by omega)
        have hpp := parts_pre hp
        rw [hl] at hpp
        have hat : us[(layL (layF n) x.2.2 ws nm).2.1.length]? = some (0, (x.2.2.length : Int)) := pre_at hp (by rw [List.getElem?_append_right (Nat.le_refl _), Nat.sub_self]; rfl)
        obtain ⟨a1, a2⟩ := layL_cp us n (fun x ws nm S => lay_cp us n x ws nm S) x.2.2 ws nm S ((List.prefix_append _ _).trans hp) fun p h1 h2 => hf p h1 (by omega)
        rw [cpF_new hk hat, hpp]
        have hcl := cpL_length (cpF us n) (layL (layF n) x.2.2 ws nm).1 S
        refine ⟨?_, fun p hh => ?_⟩
        · simp only [List.length_append, List.length_cons, hcl, hl, sz, if_pos h4]
          omega
        · have hne : p ≠ (layL (layF n) x.2.2 ws nm).2.1.length := by omega
          simp only
          rw [look_other _ _ hne, a2 p (by omega)]
      · simp only [layF, if_neg h2, if_neg h4]
        rw [cpF_leaf (by simpa using h4)]
        exact ⟨by simp [sz, h4], fun p _ => rfl⟩

/-- What went goes on to have gone. -/
theorem cpL_keeps {f : Wd → List Wd × Went → Wd × List Wd × Went} (p q : Nat) : (l : List Wd) → (∀ v ∈ l, ∀ S, look S.2 p = some q → look (f v S).2.2 p = some q) → (S : List Wd × Went) → look S.2 p = some q → look (cpL f l S).2.2 p = some q
  | [], _, _, h => h
  | v :: l, hf, S, h => cpL_keeps p q l (fun u hu => hf u (List.mem_cons_of_mem _ hu)) _ (hf v (by simp) S h)
theorem cpF_keeps (ws : List Wd) (p q : Nat) : (n : Nat) → (v : Wd) → (S : List Wd × Went) → look S.2 p = some q → look (cpF ws n v S).2.2 p = some q
  | 0, _, _, h => h
  | n + 1, v, S, h => by
    simp only [cpF]
    split
    · split
      · exact h
      · rename_i hk
        split
        · have hne : p ≠ v.2.toNat := by rintro rfl; rw [hk] at h; cases h
          simp only
          rw [look_other _ _ hne]
          exact cpL_keeps p q _ (fun u _ S hS => cpF_keeps ws p q n u S hS) S h
        · exact h
    · exact h
/-- What was copied is not copied again. -/
theorem cpF_idem {ws : List Wd} {nm : List ByteArray} {n : Nat} {x : Tm n} {v : Wd} (h : Stands ws nm n x v) (S S2 : List Wd × Went) (hk : ∀ p q, look (cpF ws n v S).2.2 p = some q → look S2.2 p = some q) : (cpF ws n v S2).2 = S2 := by
  cases n with
  | zero => exact h.elim
  | succ n =>
    by_cases h4 : x.1.1 = 4
    · obtain ⟨p, rfl, hp, hl, hs⟩ := tuple_parts h h4
      obtain ⟨q, hq⟩ : ∃ q, look (cpF ws (n + 1) (4, (p : Int)) S).2.2 p = some q := by
        cases hk : look S.2 p with
        | some q => rw [cpF_old hk]; exact ⟨q, hk⟩
        | none => rw [cpF_new hk hp]; exact ⟨_, look_same _ _ _⟩
      rw [cpF_old (hk p q hq)]
    · rw [cpF_leaf (leaf_not4 h h4)]
theorem cpL_same {f : Wd → List Wd × Went → Wd × List Wd × Went} {v : Wd} {S : List Wd × Went} (h : (f v S).2 = S) : (k : Nat) → (cpL f (List.replicate k v) S).2 = S
  | 0 => rfl
  | k + 1 => by
    rw [List.replicate_succ]
    simp only [cpL]
    rw [h]
    exact cpL_same h k

/-- What is just copied is copied whole again. -/
def idW (g : Went) : Went := g.map fun e => (e.2, e.2)
def Low (S : List Wd × Went) : Prop := ∀ e ∈ S.2, e.2 < S.1.length
theorem look_id (g : Went) (q : Nat) : (∃ e ∈ g, e.2 = q) → look (idW g) q = some q := by
  induction g with
  | nil => rintro ⟨e, he, _⟩; cases he
  | cons a g ih =>
    rintro ⟨e, he, rfl⟩
    by_cases hq : a.2 = e.2
    · have : idW (a :: g) = (a.2, a.2) :: idW g := rfl
      rw [this, hq, look_same]
    · have : idW (a :: g) = (a.2, a.2) :: idW g := rfl
      rw [this, look_other _ _ (fun h => hq h.symm)]
      rcases List.mem_cons.1 he with rfl | he
      · exact absurd rfl hq
      · exact ih ⟨e, he, rfl⟩
theorem look_none (g : Went) (q : Nat) (h : ∀ e ∈ g, e.2 ≠ q) : look (idW g) q = none := by
  induction g with
  | nil => rfl
  | cons a g ih =>
    have : idW (a :: g) = (a.2, a.2) :: idW g := rfl
    rw [this, look_other _ _ (fun e => h a (by simp) e.symm)]
    exact ih fun e he => h e (List.mem_cons_of_mem _ he)
theorem look_mem {g : Went} {p q : Nat} (h : look g p = some q) : ∃ e ∈ g, e.2 = q := by
  unfold look at h
  obtain ⟨e, he, rfl⟩ := Option.map_eq_some_iff.1 h
  exact ⟨e, List.mem_of_find?_eq_some he, rfl⟩

theorem cpF_pre {ws : List Wd} {nm : List ByteArray} : (n : Nat) → (x : Tm n) → (v : Wd) → (S : List Wd × Went) → Stands ws nm n x v → S.1 <+: (cpF ws n v S).2.1
  | 0, _, _, _, h => h.elim
  | n + 1, x, v, S, h => by
    by_cases h4 : x.1.1 = 4
    · obtain ⟨p, rfl, hp, hl, hs⟩ := tuple_parts h h4
      cases hk : look S.2 p with
      | some q => rw [cpF_old hk]; exact List.prefix_refl _
      | none =>
        rw [cpF_new hk hp]
        have key : ∀ (l : List Wd) (p : List (Tm n)) (S : List Wd × Went), StandL ws nm n l p → S.1 <+: (cpL (cpF ws n) l S).2.1 := by
          intro l
          induction l with
          | nil => intro p S _; exact List.prefix_refl _
          | cons v l il =>
            intro p S h
            cases p with
            | nil => have := h.1; simp at this
            | cons y p => exact (cpF_pre n y v S (h.2 0 v y rfl rfl)).trans (il p _ ⟨by have := h.1; simpa using this, fun i v' y' hv hy => h.2 (i + 1) v' y' (by simpa using hv) (by simpa using hy)⟩)
        exact (key _ _ S hs).trans (List.prefix_append _ _)
    · rw [cpF_leaf (leaf_not4 h h4)]
      exact List.prefix_refl _
def Again (us : List Wd) (n : Nat) (u : Wd) (S S1 : List Wd × Went) : Prop := cpF us n u (S.1, idW S.2) = (u, S1.1, idW S1.2)
theorem cpL_again {ws us : List Wd} {nm : List ByteArray} {n : Nat} (ih : ∀ (x : Tm n) (v : Wd) (S : List Wd × Went), Stands ws nm n x v → Low S → (cpF ws n v S).2.1 <+: us → Low (cpF ws n v S).2 ∧ S.1 <+: (cpF ws n v S).2.1 ∧ Again us n (cpF ws n v S).1 S (cpF ws n v S).2) (hpre : ∀ (x : Tm n) (v : Wd) (S : List Wd × Went), Stands ws nm n x v → S.1 <+: (cpF ws n v S).2.1) :
    (l : List Wd) → (p : List (Tm n)) → (S : List Wd × Went) → StandL ws nm n l p → Low S → (cpL (cpF ws n) l S).2.1 <+: us →
      Low (cpL (cpF ws n) l S).2 ∧ S.1 <+: (cpL (cpF ws n) l S).2.1 ∧ cpL (cpF us n) (cpL (cpF ws n) l S).1 (S.1, idW S.2) = ((cpL (cpF ws n) l S).1, (cpL (cpF ws n) l S).2.1, idW (cpL (cpF ws n) l S).2.2)
  | [], _, S, _, hS, _ => ⟨hS, List.prefix_refl _, rfl⟩
  | _ :: _, [], _, h, _, _ => by have := h.1; simp at this
  | v :: l, y :: p, S, h, hS, hu => by
    have hst : StandL ws nm n l p := ⟨by have := h.1; simpa using this, fun i v' y' hv hy => h.2 (i + 1) v' y' (by simpa using hv) (by simpa using hy)⟩
    have hpl : ∀ (l : List Wd) (p : List (Tm n)) (S : List Wd × Went), StandL ws nm n l p → S.1 <+: (cpL (cpF ws n) l S).2.1 := by
      intro l
      induction l with
      | nil => intro p S _; exact List.prefix_refl _
      | cons v l il =>
        intro p S h
        cases p with
        | nil => have := h.1; simp at this
        | cons y p => exact (hpre y v S (h.2 0 v y rfl rfl)).trans (il p _ ⟨by have := h.1; simpa using this, fun i v' y' hv hy => h.2 (i + 1) v' y' (by simpa using hv) (by simpa using hy)⟩)
    simp only [cpL] at hu ⊢
    obtain ⟨a1, a2, a3⟩ := ih y v S (h.2 0 v y rfl rfl) hS ((hpl l p _ hst).trans hu)
    obtain ⟨b1, b2, b3⟩ := cpL_again ih hpre l p (cpF ws n v S).2 hst a1 hu
    refine ⟨b1, a2.trans b2, ?_⟩
    unfold Again at a3
    rw [a3]
    simp only
    rw [b3]
theorem cpF_again {ws us : List Wd} {nm : List ByteArray} : (n : Nat) → (x : Tm n) → (v : Wd) → (S : List Wd × Went) → Stands ws nm n x v → Low S → (cpF ws n v S).2.1 <+: us → Low (cpF ws n v S).2 ∧ S.1 <+: (cpF ws n v S).2.1 ∧ Again us n (cpF ws n v S).1 S (cpF ws n v S).2
  | 0, _, _, _, h, _, _ => h.elim
  | n + 1, x, v, S, h, hS, hu => by
    by_cases h4 : x.1.1 = 4
    · obtain ⟨p, rfl, hp, hl, hs⟩ := tuple_parts h h4
      cases hk : look S.2 p with
      | some q =>
        rw [cpF_old hk]
        refine ⟨hS, List.prefix_refl _, ?_⟩
        unfold Again
        rw [cpF_old (S := (S.1, idW S.2)) (look_id _ _ (look_mem hk))]
      | none =>
        have hpre : ∀ (x : Tm n) (v : Wd) (S : List Wd × Went), Stands ws nm n x v → S.1 <+: (cpF ws n v S).2.1 := fun x v S hst => cpF_pre n x v S hst
        rw [cpF_new hk hp] at hu ⊢
        simp only at hu ⊢
        obtain ⟨a1, a2, a3⟩ := cpL_again (fun x v S => cpF_again n x v S) hpre (partsOf ws p x.2.2.length) x.2.2 S hs hS ((List.prefix_append _ _).trans hu)
        have hcl := cpL_length (cpF ws n) (partsOf ws p x.2.2.length) S
        rw [partsOf_length hl] at hcl
        have hfr : look (idW S.2) (cpL (cpF ws n) (partsOf ws p x.2.2.length) S).2.1.length = none := look_none _ _ fun e he => by
          have h1 := hS e he
          have h2 := a2.length_le
          omega
        have hat : us[(cpL (cpF ws n) (partsOf ws p x.2.2.length) S).2.1.length]? = some (0, (x.2.2.length : Int)) := pre_at hu (by rw [List.getElem?_append_right (Nat.le_refl _), Nat.sub_self]; rfl)
        have hpp := parts_pre hu
        rw [hcl] at hpp
        refine ⟨?_, a2.trans (List.prefix_append _ _), ?_⟩
        · intro e he
          simp only [List.length_append, List.length_cons]
          rcases List.mem_cons.1 he with rfl | he
          · simp only; omega
          · have := a1 e he; omega
        · unfold Again
          rw [cpF_new (S := (S.1, idW S.2)) hfr hat, hpp, a3]
          rfl
    · have hv := leaf_not4 h h4
      rw [cpF_leaf hv]
      refine ⟨hS, List.prefix_refl _, ?_⟩
      unfold Again
      rw [cpF_leaf hv]
/-- Collected twice is collected once. -/
theorem again_all {ws : List Wd} {nm : List ByteArray} {n : Nat} {vs : List Wd} {p : List (Tm n)} (h : StandL ws nm n vs p) :
    (cpL (cpF (cpL (cpF ws n) vs ([], [])).2.1 n) (cpL (cpF ws n) vs ([], [])).1 ([], [])).2.1 = (cpL (cpF ws n) vs ([], [])).2.1 := by
  have := (cpL_again (us := (cpL (cpF ws n) vs ([], [])).2.1) (fun x v S => cpF_again n x v S) (fun x v S hst => cpF_pre n x v S hst) vs p ([], []) h (fun e he => by cases he) (List.prefix_refl _)).2.2
  have e : ((([], []) : List Wd × Went).1, idW (([], []) : List Wd × Went).2) = (([], []) : List Wd × Went) := rfl
  rw [e] at this
  rw [this]
end Go.Proofs.Ytfaoeccnhbcjgab
