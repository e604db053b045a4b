/- What is proved here: plain facts and contracts that the claimed theorem stands on, several texts in one: plain facts on how many words a copy has: a term just laid is copied whole, once; what was copied is not copied again; what is just copied is copied whole again, word by word. No condition but that words stand for terms. Live and Collect of a heap, of words that stand for right closed terms: how many words the copy has; the copy in the heap's place, and the words' copies in a row apart. No condition but sizes. plain facts on words that share nothing (plc: the places that a word leads to): what is copied of them is what laying their terms makes; what is laid shares nothing. No condition. how a process lies in memory (its name, its heap, the words of its state and of its messages), and what Used, read and State tell. No condition but that it lies there. what a process' read and State tell: the term that a word stands for, in new memory. No condition but that the process lies in memory. -/
import Derived.Test.YtbmjfnicfpdjfaaG24
import Derived.Test.YtbmjfnicfpdjfaaG06
import Derived.Test.YtbmjfnicfpdjfaaG11
namespace Go.Proofs.Ytbmjfnicfpdjfaa
open Go.RowKit Go.Maps

theorem stands_lift {ws : List Wd} {nm : List ByteArray} : (N n : Nat) → n ≤ N → (x : Tm n) → (v : Wd) → Stands ws nm n x v → Stands ws nm N (lift N n x) v
  | _, 0, _, _, _, h => h.elim
  | 0, n + 1, h, _, _, _ => by omega
  | N + 1, n + 1, h, x, v, k => by
    obtain ⟨a, b, c⟩ := k
    refine ⟨a, fun e => ?_, c⟩
    obtain ⟨p, e1, e2, e3, e4⟩ := b e
    refine ⟨p, e1, by simpa [lift] using e2, by simpa [lift] using e3, fun i y hy => ?_⟩
    simp only [lift, List.getElem?_map] at hy
    obtain ⟨z, hz, rfl⟩ := Option.map_eq_some_iff.1 hy
    obtain ⟨u, e5, e6⟩ := e4 i z hz
    exact ⟨u, e5, stands_lift N n (by omega) z u e6⟩

theorem cpL_congr {f g : Wd → List Wd × Went → Wd × List Wd × Went} : (l : List Wd) → (S : List Wd × Went) → (∀ v ∈ l, ∀ S, f v S = g v S) → cpL f l S = cpL g l S
  | [], _, _ => rfl
  | v :: l, S, h => by
    have h1 := h v (by simp) S
    have h2 := cpL_congr l (g v S).2 fun u hu => h u (List.mem_cons_of_mem _ hu)
    simp only [cpL, h1, h2]
theorem StandL.mem {ws : List Wd} {nm : List ByteArray} {n : Nat} {l : List Wd} {p : List (Tm n)} (h : StandL ws nm n l p) {v : Wd} (hv : v ∈ l) : ∃ y ∈ p, Stands ws nm n y v := by
  obtain ⟨i, hi⟩ := List.getElem?_of_mem hv
  have hl : i < p.length := by rw [← h.1]; exact (List.getElem?_eq_some_iff.1 hi).1
  exact ⟨p[i], List.getElem_mem _, h.2 i v p[i] hi (List.getElem?_eq_getElem hl)⟩
theorem cpF_deep {ws : List Wd} {nm : List ByteArray} : (n N : Nat) → n ≤ N → (x : Tm n) → (v : Wd) → (S : List Wd × Went) → Stands ws nm n x v → cpF ws N v S = cpF ws n v S
  | 0, _, _, _, _, _, h => h.elim
  | n + 1, N, h, x, v, S, k => by
    obtain ⟨M, rfl⟩ : ∃ M, N = M + 1 := ⟨N - 1, by omega⟩
    by_cases h4 : x.1.1 = 4
    · obtain ⟨p, rfl, hp, hl, hs⟩ := tuple_parts k h4
      cases hk : look S.2 p with
      | some q => rw [cpF_old hk, cpF_old hk]
      | none =>
        have e : cpL (cpF ws M) (partsOf ws p x.2.2.length) S = cpL (cpF ws n) (partsOf ws p x.2.2.length) S := cpL_congr _ _ fun v hv S => by
          obtain ⟨y, _, hy⟩ := hs.mem hv
          exact cpF_deep n M (by omega) y v S hy
        rw [cpF_new hk hp, cpF_new hk hp, e]
    · rw [cpF_leaf (leaf_not4 k h4), cpF_leaf (leaf_not4 k h4)]

def Fresh (g : Went) (a b : Nat) : Prop := ∀ p, a ≤ p → p < b → look g p = none
def Only (g g' : Went) (a b : Nat) : Prop := ∀ p, (p < a ∨ b ≤ p) → look g' p = look g p
theorem parts_pre {us A C : List Wd} {h : Wd} (k : (A ++ h :: C) <+: us) : partsOf us A.length C.length = C := by
  obtain ⟨r, rfl⟩ := k
  unfold partsOf
  rw [show A ++ h :: C ++ r = (A ++ [h]) ++ (C ++ r) by simp]
  rw [List.drop_left' (by simp), List.take_left' rfl]
theorem layL_cp (us : List Wd) (n : Nat) (ih : ∀ (x : Tm n) (ws : List Wd) (nm : List ByteArray) (S : List Wd × Went), (layF n x ws nm).2.1 <+: us → Fresh S.2 ws.length (layF n x ws nm).2.1.length →
      ((cpF us n (layF n x ws nm).1 S).2.1.length : Int) = S.1.length + sz n x ∧ Only S.2 (cpF us n (layF n x ws nm).1 S).2.2 ws.length (layF n x ws nm).2.1.length) :
    (l : List (Tm n)) → (ws : List Wd) → (nm : List ByteArray) → (S : List Wd × Went) → (layL (layF n) l ws nm).2.1 <+: us → Fresh S.2 ws.length (layL (layF n) l ws nm).2.1.length →
      ((cpL (cpF us n) (layL (layF n) l ws nm).1 S).2.1.length : Int) + l.length = S.1.length + (l.map fun y => 1 + sz n y).sum ∧ Only S.2 (cpL (cpF us n) (layL (layF n) l ws nm).1 S).2.2 ws.length (layL (layF n) l ws nm).2.1.length
  | [], ws, nm, S, _, _ => by
    refine ⟨by simp [cpL, layL], fun p _ => rfl⟩
  | y :: l, ws, nm, S, hp, hf => by
    have p1 := (layF_pre n y ws nm).1
    have p2 := (layL_pre (layF_pre n) l (layF n y ws nm).2.1 (layF n y ws nm).2.2).1
    have l1 := p1.length_le
    have l2 := p2.length_le
    simp only [layL] at hp hf ⊢
    obtain ⟨a1, a2⟩ := ih y ws nm S (p2.trans hp) fun p h1 h2 => hf p h1 (by omega)
    obtain ⟨b1, b2⟩ := layL_cp us n ih l (layF n y ws nm).2.1 (layF n y ws nm).2.2 (cpF us n (layF n y ws nm).1 S).2 hp fun p h1 h2 => by
      rw [a2 p (Or.inr h1)]
      exact hf p (by omega) h2
    simp only [cpL, List.map_cons, List.sum_cons, List.length_cons]
    refine ⟨by omega, fun p hh => ?_⟩
    rw [b2 p (by omega), a2 p (by omega)]
theorem lay_cp (us : List Wd) : (n : Nat) → (x : Tm n) → (ws : List Wd) → (nm : List ByteArray) → (S : List Wd × Went) → (layF n x ws nm).2.1 <+: us → Fresh S.2 ws.length (layF n x ws nm).2.1.length →
      ((cpF us n (layF n x ws nm).1 S).2.1.length : Int) = S.1.length + sz n x ∧ Only S.2 (cpF us n (layF n x ws nm).1 S).2.2 ws.length (layF n x ws nm).2.1.length
  | 0, _, _, _, S, _, _ => by
    refine ⟨by simp [cpF, sz], fun p _ => rfl⟩
  | n + 1, x, ws, nm, S, hp, hf => by
    by_cases h2 : x.1.1 = 2
    · have h4 : ¬ x.1.1 = 4 := by omega
      simp only [layF, if_pos h2]
      rw [cpF_leaf (by simp)]
      exact ⟨by simp [sz, h4], fun p _ => rfl⟩
    · by_cases h4 : x.1.1 = 4
      · simp only [layF, if_neg h2, if_pos h4] at hp hf ⊢
        have hl := layL_length (layF n) x.2.2 ws nm
        have lw := (layL_pre (layF_pre n) x.2.2 ws nm).1.length_le
        have ht : ((layL (layF n) x.2.2 ws nm).2.1 ++ (0, (x.2.2.length : Int)) :: (layL (layF n) x.2.2 ws nm).1).length = (layL (layF n) x.2.2 ws nm).2.1.length + 1 + x.2.2.length := by
          simp [hl]; omega
        rw [ht] at hf ⊢
        have hk : look S.2 (layL (layF n) x.2.2 ws nm).2.1.length = none := hf _ lw (by omega)
        have hpp := parts_pre hp
        rw [hl] at hpp
        have hat : us[(layL (layF n) x.2.2 ws nm).2.1.length]? = some (0, (x.2.2.length : Int)) := pre_at hp (by rw [List.getElem?_append_right (Nat.le_refl _), Nat.sub_self]; rfl)
        obtain ⟨a1, a2⟩ := layL_cp us n (fun x ws nm S => lay_cp us n x ws nm S) x.2.2 ws nm S ((List.prefix_append _ _).trans hp) fun p h1 h2 => hf p h1 (by omega)
        rw [cpF_new hk hat, hpp]
        have hcl := cpL_length (cpF us n) (layL (layF n) x.2.2 ws nm).1 S
        refine ⟨?_, fun p hh => ?_⟩
        · simp only [List.length_append, List.length_cons, hcl, hl, sz, if_pos h4]
          omega
        · have hne : p ≠ (layL (layF n) x.2.2 ws nm).2.1.length := by omega
          simp only
          rw [look_other _ _ hne, a2 p (by omega)]
      · simp only [layF, if_neg h2, if_neg h4]
        rw [cpF_leaf (by simpa using h4)]
        exact ⟨by simp [sz, h4], fun p _ => rfl⟩

/-- What went goes on to have gone. -/
theorem cpL_keeps {f : Wd → List Wd × Went → Wd × List Wd × Went} (p q : Nat) : (l : List Wd) → (∀ v ∈ l, ∀ S, look S.2 p = some q → look (f v S).2.2 p = some q) → (S : List Wd × Went) → look S.2 p = some q → look (cpL f l S).2.2 p = some q
  | [], _, _, h => h
  | v :: l, hf, S, h => cpL_keeps p q l (fun u hu => hf u (List.mem_cons_of_mem _ hu)) _ (hf v (by simp) S h)
theorem cpF_keeps (ws : List Wd) (p q : Nat) : (n : Nat) → (v : Wd) → (S : List Wd × Went) → look S.2 p = some q → look (cpF ws n v S).2.2 p = some q
  | 0, _, _, h => h
  | n + 1, v, S, h => by
    simp only [cpF]
    split
    · split
      · exact h
      · rename_i hk
        split
        · have hne : p ≠ v.2.toNat := by rintro rfl; rw [hk] at h; cases h
          simp only
          rw [look_other _ _ hne]
          exact cpL_keeps p q _ (fun u _ S hS => cpF_keeps ws p q n u S hS) S h
        · exact h
    · exact h
/-- What was copied is not copied again. -/
theorem cpF_idem {ws : List Wd} {nm : List ByteArray} {n : Nat} {x : Tm n} {v : Wd} (h : Stands ws nm n x v) (S S2 : List Wd × Went) (hk : ∀ p q, look (cpF ws n v S).2.2 p = some q → look S2.2 p = some q) : (cpF ws n v S2).2 = S2 := by
  cases n with
  | zero => exact h.elim
  | succ n =>
    by_cases h4 : x.1.1 = 4
    · obtain ⟨p, rfl, hp, hl, hs⟩ := tuple_parts h h4
      obtain ⟨q, hq⟩ : ∃ q, look (cpF ws (n + 1) (4, (p : Int)) S).2.2 p = some q := by
        cases hk : look S.2 p with
        | some q => rw [cpF_old hk]; exact ⟨q, hk⟩
        | none => rw [cpF_new hk hp]; exact ⟨_, look_same _ _ _⟩
      rw [cpF_old (hk p q hq)]
    · rw [cpF_leaf (leaf_not4 h h4)]
theorem cpL_same {f : Wd → List Wd × Went → Wd × List Wd × Went} {v : Wd} {S : List Wd × Went} (h : (f v S).2 = S) : (k : Nat) → (cpL f (List.replicate k v) S).2 = S
  | 0 => rfl
  | k + 1 => by
    rw [List.replicate_succ]
    simp only [cpL]
    rw [h]
    exact cpL_same h k

/-- What is just copied is copied whole again. -/
def idW (g : Went) : Went := g.map fun e => (e.2, e.2)
def Low (S : List Wd × Went) : Prop := ∀ e ∈ S.2, e.2 < S.1.length
theorem look_id (g : Went) (q : Nat) : (∃ e ∈ g, e.2 = q) → look (idW g) q = some q := by
  induction g with
  | nil => rintro ⟨e, he, _⟩; cases he
  | cons a g ih =>
    rintro ⟨e, he, rfl⟩
    by_cases hq : a.2 = e.2
    · have : idW (a :: g) = (a.2, a.2) :: idW g := rfl
      rw [this, hq, look_same]
    · have : idW (a :: g) = (a.2, a.2) :: idW g := rfl
      rw [this, look_other _ _ (fun h => hq h.symm)]
      rcases List.mem_cons.1 he with rfl | he
      · exact absurd rfl hq
      · exact ih ⟨e, he, rfl⟩
theorem hlook_none (g : Went) (q : Nat) (h : ∀ e ∈ g, e.2 ≠ q) : look (idW g) q = none := by
  induction g with
  | nil => rfl
  | cons a g ih =>
    have : idW (a :: g) = (a.2, a.2) :: idW g := rfl
    rw [this, look_other _ _ (fun e => h a (by simp) e.symm)]
    exact ih fun e he => h e (List.mem_cons_of_mem _ he)
theorem look_mem {g : Went} {p q : Nat} (h : look g p = some q) : ∃ e ∈ g, e.2 = q := by
  unfold look at h
  obtain ⟨e, he, rfl⟩ := Option.map_eq_some_iff.1 h
  exact ⟨e, List.mem_of_find?_eq_some he, rfl⟩

theorem cpF_pre {ws : List Wd} {nm : List ByteArray} : (n : Nat) → (x : Tm n) → (v : Wd) → (S : List Wd × Went) → Stands ws nm n x v → S.1 <+: (cpF ws n v S).2.1
  | 0, _, _, _, h => h.elim
  | n + 1, x, v, S, h => by
    by_cases h4 : x.1.1 = 4
    · obtain ⟨p, rfl, hp, hl, hs⟩ := tuple_parts h h4
      cases hk : look S.2 p with
      | some q => rw [cpF_old hk]; exact List.prefix_refl _
      | none =>
        rw [cpF_new hk hp]
        have key : ∀ (l : List Wd) (p : List (Tm n)) (S : List Wd × Went), StandL ws nm n l p → S.1 <+: (cpL (cpF ws n) l S).2.1 := by
          intro l
          induction l with
          | nil => intro p S _; exact List.prefix_refl _
          | cons v l il =>
            intro p S h
            cases p with
            | nil => have := h.1; simp at this
            | cons y p => exact (cpF_pre n y v S (h.2 0 v y rfl rfl)).trans (il p _ ⟨by have := h.1; simpa using this, fun i v' y' hv hy => h.2 (i + 1) v' y' (by simpa using hv) (by simpa using hy)⟩)
        exact (key _ _ S hs).trans (List.prefix_append _ _)
    · rw [cpF_leaf (leaf_not4 h h4)]
      exact List.prefix_refl _
def Again (us : List Wd) (n : Nat) (u : Wd) (S S1 : List Wd × Went) : Prop := cpF us n u (S.1, idW S.2) = (u, S1.1, idW S1.2)
theorem cpL_again {ws us : List Wd} {nm : List ByteArray} {n : Nat} (ih : ∀ (x : Tm n) (v : Wd) (S : List Wd × Went), Stands ws nm n x v → Low S → (cpF ws n v S).2.1 <+: us → Low (cpF ws n v S).2 ∧ S.1 <+: (cpF ws n v S).2.1 ∧ Again us n (cpF ws n v S).1 S (cpF ws n v S).2) (hpre : ∀ (x : Tm n) (v : Wd) (S : List Wd × Went), Stands ws nm n x v → S.1 <+: (cpF ws n v S).2.1) :
    (l : List Wd) → (p : List (Tm n)) → (S : List Wd × Went) → StandL ws nm n l p → Low S → (cpL (cpF ws n) l S).2.1 <+: us →
      Low (cpL (cpF ws n) l S).2 ∧ S.1 <+: (cpL (cpF ws n) l S).2.1 ∧ cpL (cpF us n) (cpL (cpF ws n) l S).1 (S.1, idW S.2) = ((cpL (cpF ws n) l S).1, (cpL (cpF ws n) l S).2.1, idW (cpL (cpF ws n) l S).2.2)
  | [], _, S, _, hS, _ => ⟨hS, List.prefix_refl _, rfl⟩
  | _ :: _, [], _, h, _, _ => by have := h.1; simp at this
  | v :: l, y :: p, S, h, hS, hu => by
    have hst : StandL ws nm n l p := ⟨by have := h.1; simpa using this, fun i v' y' hv hy => h.2 (i + 1) v' y' (by simpa using hv) (by simpa using hy)⟩
    have hpl : ∀ (l : List Wd) (p : List (Tm n)) (S : List Wd × Went), StandL ws nm n l p → S.1 <+: (cpL (cpF ws n) l S).2.1 := by
      intro l
      induction l with
      | nil => intro p S _; exact List.prefix_refl _
      | cons v l il =>
        intro p S h
        cases p with
        | nil => have := h.1; simp at this
        | cons y p => exact (hpre y v S (h.2 0 v y rfl rfl)).trans (il p _ ⟨by have := h.1; simpa using this, fun i v' y' hv hy => h.2 (i + 1) v' y' (by simpa using hv) (by simpa using hy)⟩)
    simp only [cpL] at hu ⊢
    obtain ⟨a1, a2, a3⟩ := ih y v S (h.2 0 v y rfl rfl) hS ((hpl l p _ hst).trans hu)
    obtain ⟨b1, b2, b3⟩ := cpL_again ih hpre l p (cpF ws n v S).2 hst a1 hu
    refine ⟨b1, a2.trans b2, ?_⟩
    unfold Again at a3
    rw [a3]
    simp only
    rw [b3]
theorem cpF_again {ws us : List Wd} {nm : List ByteArray} : (n : Nat) → (x : Tm n) → (v : Wd) → (S : List Wd × Went) → Stands ws nm n x v → Low S → (cpF ws n v S).2.1 <+: us → Low (cpF ws n v S).2 ∧ S.1 <+: (cpF ws n v S).2.1 ∧ Again us n (cpF ws n v S).1 S (cpF ws n v S).2
  | 0, _, _, _, h, _, _ => h.elim
  | n + 1, x, v, S, h, hS, hu => by
    by_cases h4 : x.1.1 = 4
    · obtain ⟨p, rfl, hp, hl, hs⟩ := tuple_parts h h4
      cases hk : look S.2 p with
      | some q =>
        rw [cpF_old hk]
        refine ⟨hS, List.prefix_refl _, ?_⟩
        unfold Again
        rw [cpF_old (S := (S.1, idW S.2)) (look_id _ _ (look_mem hk))]
      | none =>
        have hpre : ∀ (x : Tm n) (v : Wd) (S : List Wd × Went), Stands ws nm n x v → S.1 <+: (cpF ws n v S).2.1 := fun x v S hst => cpF_pre n x v S hst
        rw [cpF_new hk hp] at hu ⊢
        simp only at hu ⊢
        obtain ⟨a1, a2, a3⟩ := cpL_again (fun x v S => cpF_again n x v S) hpre (partsOf ws p x.2.2.length) x.2.2 S hs hS ((List.prefix_append _ _).trans hu)
        have hcl := cpL_length (cpF ws n) (partsOf ws p x.2.2.length) S
        rw [partsOf_length hl] at hcl
        have hfr : look (idW S.2) (cpL (cpF ws n) (partsOf ws p x.2.2.length) S).2.1.length = none := hlook_none _ _ fun e he => by
          have h1 := hS e he
          have h2 := a2.length_le
          omega
        have hat : us[(cpL (cpF ws n) (partsOf ws p x.2.2.length) S).2.1.length]? = some (0, (x.2.2.length : Int)) := pre_at hu (by rw [List.getElem?_append_right (Nat.le_refl _), Nat.sub_self]; rfl)
        have hpp := parts_pre hu
        rw [hcl] at hpp
        refine ⟨?_, a2.trans (List.prefix_append _ _), ?_⟩
        · intro e he
          simp only [List.length_append, List.length_cons]
          rcases List.mem_cons.1 he with rfl | he
          · simp only; omega
          · have := a1 e he; omega
        · unfold Again
          rw [cpF_new (S := (S.1, idW S.2)) hfr hat, hpp, a3]
          rfl
    · have hv := leaf_not4 h h4
      rw [cpF_leaf hv]
      refine ⟨hS, List.prefix_refl _, ?_⟩
      unfold Again
      rw [cpF_leaf hv]
/-- Collected twice is collected once. -/
theorem again_all {ws : List Wd} {nm : List ByteArray} {n : Nat} {vs : List Wd} {p : List (Tm n)} (h : StandL ws nm n vs p) :
    (cpL (cpF (cpL (cpF ws n) vs ([], [])).2.1 n) (cpL (cpF ws n) vs ([], [])).1 ([], [])).2.1 = (cpL (cpF ws n) vs ([], [])).2.1 := by
  have := (cpL_again (us := (cpL (cpF ws n) vs ([], [])).2.1) (fun x v S => cpF_again n x v S) (fun x v S hst => cpF_pre n x v S hst) vs p ([], []) h (fun e he => by cases he) (List.prefix_refl _)).2.2
  have e : ((([], []) : List Wd × Went).1, idW (([], []) : List Wd × Went).2) = (([], []) : List Wd × Went) := rfl
  rw [e] at this
  rw [this]
end Go.Proofs.Ytbmjfnicfpdjfaa
namespace Go.Proofs.Ytbmjfnicfpdjfaa
open Go.RowKit Go.Maps

theorem words_later {w w1 : World} {vs : List Wd} {a : Option Addr} (h : WordsIn w vs a) (hb : Below w.heap.size w w1) : WordsIn w1 vs a := by
  rcases h with h | ⟨b, o, e, hl, h⟩
  · exact Or.inl h
  · exact Or.inr ⟨b, o, e, Nat.lt_of_lt_of_le hl hb.size, fun i v hv => ⟨(below_cells hb b _ hl).trans (h i v hv).1, (below_cells hb b _ hl).trans (h i v hv).2⟩⟩
theorem words_lt {w : World} {vs : List Wd} {a : Option Addr} (h : WordsIn w vs a) (hne : vs ≠ []) : ∀ b o, a = some ⟨b, o, none⟩ → b < w.heap.size := by
  rcases h with h | ⟨b, o, e, hl, h⟩
  · exact absurd h hne
  · intro b' o' e'
    rw [e] at e'
    injection e' with e'
    injection e' with e1 _
    omega
/-- What roots must be. -/
def Roots (ws : List Wd) (nm : List ByteArray) (n : Nat) (vs : List Wd) (p : List (Tm n)) : Prop :=
  StandL ws nm n vs p ∧ (∀ y ∈ p, RightA ⟨n, y⟩) ∧ (∀ y ∈ p, closedT n y = true) ∧ (p.map fun y => 1 + sz n y).sum ≤ 90000 ∧ (p.flatMap fun y => nodes n y).length ≤ 90000 ∧ vs.length ≤ 1000
def rootsR (ws : List Wd) (n : Nat) (vs : List Wd) : List Wd × List Wd × Went := cpL (cpF ws n) vs ([], [])
theorem Roots.all {ws : List Wd} {nm : List ByteArray} {n : Nat} {vs : List Wd} {p : List (Tm n)} (h : Roots ws nm n vs p) (hw : ws.length ≤ 1000) (hn : nm.length ≤ 50000) : vs.all (standsB ws nm) = true ∧ ∀ v ∈ vs, I64 v.2 := by
  have key : ∀ v ∈ vs, standsB ws nm v = true ∧ I64 v.2 := fun v hv => by
    obtain ⟨y, hy, hs⟩ := h.1.mem hv
    exact stands_B hs (h.2.1 y hy) (h.2.2.1 y hy) (by omega) (by omega)
  exact ⟨List.all_eq_true.2 fun v hv => (key v hv).1, fun v hv => (key v hv).2⟩

/-- What Collect leaves: the heap, apart from the row g of the answer. -/
def CollOut (base : Nat) (hp : HLoc) (room : Int) (R : List Wd × List Wd × Went) (nm : List ByteArray) (M : Nat → Prop) (g : Nat) (w w' : World) : Prop :=
  HpAt base hp room R.2.1 nm (fun b => (M b ∨ w.heap.size ≤ b) ∧ b ≠ g) w' ∧ Keep M w w' ∧ WordsIn w' R.1 (some ⟨g, 0, none⟩) ∧ w.heap.size ≤ g ∧ g < w'.heap.size ∧ ∃ len, w'.ownsRow g 60 2 (.slice (some ⟨g, 0, none⟩) len len) len (wCells R.1)
theorem words_row {w : World} {g base len : Nat} {vs : List Wd} (h : w.ownsRow base 60 2 (.slice (some ⟨g, 0, none⟩) len len) len (wCells vs)) : WordsIn w vs (some ⟨g, 0, none⟩) ∧ g < w.heap.size := by
  refine ⟨Or.inr ⟨g, 0, rfl, (h.lt g rfl).2, fun i v hv => ?_⟩, (h.lt g rfl).2⟩
  have := word_cells h i v hv
  rw [Nat.zero_add]
  exact this
theorem coll_out {base : Nat} {hp : HLoc} {room : Int} {ws : List Wd} {nm : List ByteArray} {M : Nat → Prop} {R : List Wd × List Wd × Went} {len g : Nat} {tv : Value} {w w1 w2 : World} (h : HpAt base hp room ws nm M w) (hb : Below w.heap.size w w1) (hr : ReachOut R len g tv w1 w2) (hbw : base ≤ w.heap.size) : CollOut base hp room R nm M g w (w2.setCell ⟨hp.b, hp.o + 1, none⟩ tv) := by
  have hl := collect_out h hb hr hbw
  obtain ⟨r1, r2, r3, r4, r5⟩ := hr
  have hs := hb.size
  have hb2 := hb.trans (r1.mono hs)
  obtain ⟨tv0, lv, mv, h1, h2, h3, h4, h5, h6, h7⟩ := h.later hb2
  have k := keep_set w2 hp.b (hp.o + 1) tv
  have r6 : ∀ b, tv.ownBlock = some b → w1.heap.size ≤ b := fun b e => (r2.lt b e).1
  have hhp : hp.b < w.heap.size := h4.2
  refine ⟨⟨tv, lv, mv, h1.set1 tv, row_kept (own_base r2 (by omega)) k (fun b e e' => ?_), h3.kept k (fun b e e' => ?_) (fun b e e' => ?_), ⟨Or.inl h4.1, by omega⟩, fun b e => ⟨Or.inr (by have := r6 b e; omega), fun e' => r5 (by rw [e, e'])⟩, fun b e => ⟨Or.inl (h6 b e).1, by have := (h6 b e).2; omega⟩, fun b e => ⟨Or.inl (h7 b e).1, by have := (h7 b e).2; omega⟩⟩, hl.2, ?_, by omega, ?_, ?_⟩
  · subst e'
    have := r6 _ e
    omega
  · subst e'
    exact row_box h3.1 h1 (by decide) e
  · subst e'
    exact map_box h3 h1 e
  · have r3' := row_kept r3 k (fun b e e' => by
      subst e'
      simp only [Value.ownBlock] at e
      have := Option.some.inj e
      omega)
    exact (words_row r3').1
  · have := (words_row r3).2
    simpa [World.setCell] using this
  · exact ⟨len, row_kept r3 k (fun b e e' => by
      subst e'
      simp only [Value.ownBlock] at e
      have := Option.some.inj e
      omega)⟩

theorem hcollect_any (n : Nat) (p : List (Tm n)) (vs : List Wd) (a : Option Addr) (pc base : Nat) (hp : HLoc) (room : Int) (ws : List Wd) (nm : List ByteArray) (M : Nat → Prop) (w : World) (h : HpAt base hp room ws nm M w) (hr : Roots ws nm n vs p) (hin : WordsIn w vs a) (hlt : ∀ b o, a = some ⟨b, o, none⟩ → b < w.heap.size) (hbw : base ≤ w.heap.size) (hw : ws.length ≤ 1000) (hn : nm.length ≤ 50000) :
    Calls Try.prog 32 #[.pointer (some ⟨hp.b, hp.o, none⟩), .slice a vs.length pc] w fun e w' => ∃ g, e = .returned (.tuple #[.slice (some ⟨g, 0, none⟩) vs.length vs.length, .int .i64 0]) ∧ Hid (CollOut base hp room (rootsR ws n vs) nm M g w w') := by
  obtain ⟨hall, hi64⟩ := hr.all hw hn
  obtain ⟨tv, lv, mv, h1, h2, h3, h4, h5, h6, h7⟩ := id h
  obtain ⟨⟨c0, c1, c2, c3⟩, hf⟩ := h1.cells
  obtain ⟨ta, tc, rfl⟩ : ∃ ta tc, tv = .slice ta ws.length tc := by
    rcases h2.2 with ⟨e, e0⟩ | ⟨g, c, cur, e, _⟩
    · exact ⟨none, 0, by rw [e, e0]⟩
    · exact ⟨_, c, e⟩
  refine (collect_walk (rootsR ws n vs) hp ta ws.length tc a vs.length pc w h1.lt c1 (hf _) ?_ ?_).mono ?_
  · have hk := allStand_any base hp room ws nm M vs a vs.length pc w h (by omega) rfl (by have := hr.2.2.2.2.2; omega) hin hi64
    rw [hall] at hk
    exact hk
  · intro w1 hb
    refine reached_any ws nm n vs p base (.slice ta ws.length tc) a pc w1 (own_below h2 hb) hr.1 hr.2.1 (by omega) (by have := hr.2.2.2.2.2; omega) hr.2.2.2.1 hr.2.2.2.2.1 (words_later hin hb) ?_
    intro b o e
    exact Nat.lt_of_lt_of_le (hlt b o e) hb.size
  · rintro e w' ⟨g, tv, w1, w2, rfl, rfl, H⟩
    exact ⟨g, rfl, coll_out h H.out.1 H.out.2 hbw⟩
end Go.Proofs.Ytbmjfnicfpdjfaa
namespace Go.Proofs.Ytbmjfnicfpdjfaa

/-- The places that a word leads to, so deep. -/
def plc (ws : List Wd) : Nat → Wd → List Nat
  | 0, _ => []
  | n + 1, v => if v.1 = 4 then
      match ws[v.2.toNat]? with
      | some h => v.2.toNat :: (partsOf ws v.2.toNat h.2.toNat).flatMap (plc ws n)
      | none => []
    else []
theorem plc_leaf {ws : List Wd} {n : Nat} {v : Wd} (h : v.1 ≠ 4) : plc ws n v = [] := by
  cases n with
  | zero => rfl
  | succ n => simp [plc, h]
theorem plc_tup {ws : List Wd} {n p m : Nat} (h : ws[p]? = some (0, (m : Int))) : plc ws (n + 1) (4, (p : Int)) = p :: (partsOf ws p m).flatMap (plc ws n) := by
  simp [plc, h]
theorem nmPut_old {nm : List ByteArray} {s : ByteArray} (h : s ∈ nm) : nmPut nm s = nm := by
  unfold nmPut
  rw [if_pos ((nm_any nm s).2 h)]
theorem cpL_tree {ws : List Wd} {nm : List ByteArray} {n : Nat} (ih : ∀ (x : Tm n) (v : Wd) (S : List Wd × Went), Stands ws nm n x v → (plc ws n v).Nodup → (∀ p ∈ plc ws n v, look S.2 p = none) → ((cpF ws n v S).1 = (layF n x S.1 nm).1 ∧ (cpF ws n v S).2.1 = (layF n x S.1 nm).2.1 ∧ (layF n x S.1 nm).2.2 = nm) ∧ ∀ p, look (cpF ws n v S).2.2 p = none ↔ look S.2 p = none ∧ p ∉ plc ws n v) :
    (us : List Wd) → (ys : List (Tm n)) → StandL ws nm n us ys → (S : List Wd × Went) → (us.flatMap (plc ws n)).Nodup → (∀ p ∈ us.flatMap (plc ws n), look S.2 p = none) →
    ((cpL (cpF ws n) us S).1 = (layL (layF n) ys S.1 nm).1 ∧ (cpL (cpF ws n) us S).2.1 = (layL (layF n) ys S.1 nm).2.1 ∧ (layL (layF n) ys S.1 nm).2.2 = nm) ∧ ∀ p, look (cpL (cpF ws n) us S).2.2 p = none ↔ look S.2 p = none ∧ p ∉ us.flatMap (plc ws n)
  | us, ys, hs, S, hn, hl => by
    induction us generalizing ys S with
    | nil =>
      obtain rfl : ys = [] := by have := hs.1; cases ys with | nil => rfl | cons a l => simp at this
      simp [cpL, layL]
    | cons v us ihu =>
      cases ys with
      | nil => have := hs.1; simp at this
      | cons y ys =>
        have h0 : Stands ws nm n y v := hs.2 0 v y (by simp) (by simp)
        have ht : StandL ws nm n us ys := ⟨by have := hs.1; simpa using this, fun i a b ha hb => hs.2 (i + 1) a b (by simpa using ha) (by simpa using hb)⟩
        rw [List.flatMap_cons] at hn hl
        obtain ⟨n1, n2, n3⟩ := List.nodup_append.1 hn
        obtain ⟨⟨a1, a2, a3⟩, a4⟩ := ih y v S h0 n1 (fun p hp => hl p (List.mem_append_left _ hp))
        have hl2 : ∀ p ∈ us.flatMap (plc ws n), look (cpF ws n v S).2.2 p = none := fun p hp => (a4 p).2 ⟨hl p (List.mem_append_right _ hp), fun h => n3 p h p hp rfl⟩
        obtain ⟨⟨b1, b2, b3⟩, b4⟩ := ihu ys ht (cpF ws n v S).2 n2 hl2
        simp only [cpL, layL]
        rw [a3, ← a2]
        refine ⟨⟨by rw [a1, b1], b2, b3⟩, fun p => ?_⟩
        rw [b4 p, a4 p, List.flatMap_cons, List.mem_append, not_or, and_assoc]
/-- What is copied of a word that shares nothing is what laying its term makes. -/
theorem cp_tree {ws : List Wd} {nm : List ByteArray} (hnd : nm.Nodup) : (n : Nat) → (x : Tm n) → (v : Wd) → (S : List Wd × Went) → Stands ws nm n x v → (plc ws n v).Nodup → (∀ p ∈ plc ws n v, look S.2 p = none) →
    ((cpF ws n v S).1 = (layF n x S.1 nm).1 ∧ (cpF ws n v S).2.1 = (layF n x S.1 nm).2.1 ∧ (layF n x S.1 nm).2.2 = nm) ∧ ∀ p, look (cpF ws n v S).2.2 p = none ↔ look S.2 p = none ∧ p ∉ plc ws n v
  | 0, _, _, _, h, _, _ => h.elim
  | n + 1, x, v, S, h, hn, hl => by
    by_cases h4 : x.1.1 = 4
    · obtain ⟨p, rfl, hp, hlen, hst⟩ := tuple_parts h h4
      rw [plc_tup hp] at hn hl ⊢
      have hlk := hl p (by simp)
      rw [cpF_new hlk hp]
      have hnp := List.nodup_cons.1 hn
      obtain ⟨⟨b1, b2, b3⟩, b4⟩ := cpL_tree (fun x v S => cp_tree hnd n x v S) (partsOf ws p x.2.2.length) x.2.2 hst S hnp.2 (fun q hq => hl q (List.mem_cons_of_mem _ hq))
      have e : layF (n + 1) x S.1 nm = ((4, ((layL (layF n) x.2.2 S.1 nm).2.1.length : Int)), (layL (layF n) x.2.2 S.1 nm).2.1 ++ (0, (x.2.2.length : Int)) :: (layL (layF n) x.2.2 S.1 nm).1, (layL (layF n) x.2.2 S.1 nm).2.2) := by
        simp only [layF]
        rw [if_neg (by omega), if_pos h4]
      rw [e]
      refine ⟨⟨by rw [b2], by rw [b1, b2], b3⟩, fun q => ?_⟩
      by_cases hq : q = p
      · subst hq
        rw [look_same]
        simp
      · rw [look_other _ _ hq, b4 q]
        simp [hq]
    · have hv4 := leaf_not4 h h4
      rw [cpF_leaf hv4, plc_leaf hv4]
      refine ⟨⟨?_, ?_, ?_⟩, fun q => by simp⟩
      · simp only [layF]
        by_cases h2 : x.1.1 = 2
        · rw [if_pos h2]
          obtain ⟨i, rfl, hi⟩ := h.1 h2
          rw [nmPut_old (List.mem_of_getElem? hi), nmIdx_at hnd hi]
        · rw [if_neg h2, if_neg h4]
          exact h.2.2 h2 h4
      · simp only [layF]
        split
        · rfl
        · rfl
      · simp only [layF]
        split
        · rename_i h2
          obtain ⟨i, rfl, hi⟩ := h.1 h2
          exact nmPut_old (List.mem_of_getElem? hi)
        · rfl
theorem parts_pre2 {ws ws' : List Wd} (h : ws <+: ws') {p m : Nat} (hl : p + 1 + m ≤ ws.length) : partsOf ws' p m = partsOf ws p m := by
  obtain ⟨t, rfl⟩ := h
  unfold partsOf
  rw [List.drop_append_of_le_length (by omega), List.take_append_of_le_length (by rw [List.length_drop]; omega)]
theorem pre_at2 {ws ws' : List Wd} (h : ws <+: ws') {p : Nat} {v : Wd} (hp : ws[p]? = some v) : ws'[p]? = some v := by
  obtain ⟨t, rfl⟩ := h
  rw [List.getElem?_append_left (List.getElem?_eq_some_iff.1 hp).1]
  exact hp
theorem flat_congr {α β : Type} {f g : α → List β} : {l : List α} → (∀ a ∈ l, f a = g a) → l.flatMap f = l.flatMap g
  | [], _ => rfl
  | a :: l, h => by rw [List.flatMap_cons, List.flatMap_cons, h a (by simp), flat_congr (l := l) fun b hb => h b (by simp [hb])]
theorem plc_mono {ws ws' : List Wd} {nm : List ByteArray} (hp : ws <+: ws') : (n : Nat) → (x : Tm n) → (v : Wd) → Stands ws nm n x v → plc ws' n v = plc ws n v
  | 0, _, _, h => h.elim
  | n + 1, x, v, h => by
    by_cases h4 : x.1.1 = 4
    · obtain ⟨p, rfl, hq, hlen, hst⟩ := tuple_parts h h4
      rw [plc_tup hq, plc_tup (pre_at2 hp hq), parts_pre2 hp hlen]
      congr 1
      refine flat_congr fun u hu => ?_
      obtain ⟨y, _, hy⟩ := hst.mem hu
      exact plc_mono hp n y u hy
    · rw [plc_leaf (leaf_not4 h h4), plc_leaf (leaf_not4 h h4)]
theorem plc_lt {ws : List Wd} {nm : List ByteArray} : (n : Nat) → (x : Tm n) → (v : Wd) → Stands ws nm n x v → ∀ p ∈ plc ws n v, p < ws.length
  | 0, _, _, h, _, _ => h.elim
  | n + 1, x, v, h, q, hq => by
    by_cases h4 : x.1.1 = 4
    · obtain ⟨p, rfl, hp, hlen, hst⟩ := tuple_parts h h4
      rw [plc_tup hp, List.mem_cons, List.mem_flatMap] at hq
      rcases hq with rfl | ⟨u, hu, hq⟩
      · omega
      · obtain ⟨y, _, hy⟩ := hst.mem hu
        exact plc_lt n y u hy q hq
    · rw [plc_leaf (leaf_not4 h h4)] at hq
      cases hq
theorem layL_plc {n : Nat} (ih : ∀ (x : Tm n) (ws : List Wd) (nm : List ByteArray), RightA ⟨n, x⟩ → (plc (layF n x ws nm).2.1 n (layF n x ws nm).1).Nodup ∧ ∀ p ∈ plc (layF n x ws nm).2.1 n (layF n x ws nm).1, ws.length ≤ p) :
    (l : List (Tm n)) → (ws : List Wd) → (nm : List ByteArray) → (∀ y ∈ l, RightA ⟨n, y⟩) → ((layL (layF n) l ws nm).1.flatMap (plc (layL (layF n) l ws nm).2.1 n)).Nodup ∧ ∀ p ∈ (layL (layF n) l ws nm).1.flatMap (plc (layL (layF n) l ws nm).2.1 n), ws.length ≤ p
  | [], _, _, _ => by simp [layL]
  | y :: l, ws, nm, hr => by
    have h1 := ih y ws nm (hr y (by simp))
    have hs := layF_stands n y ws nm (hr y (by simp))
    have h2 := layL_plc ih l (layF n y ws nm).2.1 (layF n y ws nm).2.2 (fun z hz => hr z (by simp [hz]))
    have hp := (layL_pre (fun x ws nm => layF_pre n x ws nm) l (layF n y ws nm).2.1 (layF n y ws nm).2.2).1
    have hm := plc_mono hp n y _ hs
    have hlt := plc_lt n y _ hs
    have hpre := (layF_pre n y ws nm).1.length_le
    simp only [layL, List.flatMap_cons]
    rw [hm]
    refine ⟨List.nodup_append.2 ⟨h1.1, h2.1, fun a ha b hb e => ?_⟩, fun p hp => ?_⟩
    · have := hlt a ha
      have := h2.2 b hb
      omega
    · rcases List.mem_append.1 hp with hp | hp
      · exact h1.2 p hp
      · have := h2.2 p hp
        omega
/-- What is laid shares nothing, and lies behind all that was. -/
theorem lay_plc : (n : Nat) → (x : Tm n) → (ws : List Wd) → (nm : List ByteArray) → RightA ⟨n, x⟩ → (plc (layF n x ws nm).2.1 n (layF n x ws nm).1).Nodup ∧ ∀ p ∈ plc (layF n x ws nm).2.1 n (layF n x ws nm).1, ws.length ≤ p
  | 0, _, _, _, h => (zero_bad h).elim
  | n + 1, x, ws, nm, h => by
    by_cases h4 : x.1.1 = 4
    · have e : layF (n + 1) x ws nm = ((4, ((layL (layF n) x.2.2 ws nm).2.1.length : Int)), (layL (layF n) x.2.2 ws nm).2.1 ++ (0, (x.2.2.length : Int)) :: (layL (layF n) x.2.2 ws nm).1, (layL (layF n) x.2.2 ws nm).2.2) := by
        simp only [layF]
        rw [if_neg (by omega), if_pos h4]
      have hr : ∀ y ∈ x.2.2, RightA ⟨n, y⟩ := fun y hy => parts_right n x y h hy
      have k := layL_plc (fun x ws nm hx => lay_plc n x ws nm hx) x.2.2 ws nm hr
      have hpre := (layL_pre (fun x ws nm => layF_pre n x ws nm) x.2.2 ws nm).1.length_le
      have hst := layL_stands (fun x ws nm hx => layF_stands n x ws nm hx) x.2.2 ws nm hr
      have hln := layL_length (layF n) x.2.2 ws nm
      rw [e]
      generalize (layL (layF n) x.2.2 ws nm).2.1 = A at *
      generalize (layL (layF n) x.2.2 ws nm).1 = C at *
      generalize (layL (layF n) x.2.2 ws nm).2.2 = N at *
      have hat : (A ++ (0, (x.2.2.length : Int)) :: C)[A.length]? = some (0, (x.2.2.length : Int)) := by simp
      have hpp : partsOf (A ++ (0, (x.2.2.length : Int)) :: C) A.length x.2.2.length = C := by rw [← hln]; exact parts_pre (List.prefix_refl _)
      have hmo : C.flatMap (plc (A ++ (0, (x.2.2.length : Int)) :: C) n) = C.flatMap (plc A n) := flat_congr fun u hu => by
        obtain ⟨i, hi⟩ := List.getElem?_of_mem hu
        have hil := (List.getElem?_eq_some_iff.1 hi).1
        obtain ⟨u', hu', hs⟩ := hst i (x.2.2[i]'(by omega)) (List.getElem?_eq_getElem _)
        rw [hi] at hu'
        injection hu' with hu'
        subst hu'
        exact plc_mono (List.prefix_append _ _) n _ u hs
      have hltC : ∀ p ∈ C.flatMap (plc A n), p < A.length := fun p hp => by
        obtain ⟨u, hu, hp⟩ := List.mem_flatMap.1 hp
        obtain ⟨i, hi⟩ := List.getElem?_of_mem hu
        have hil := (List.getElem?_eq_some_iff.1 hi).1
        obtain ⟨u', hu', hs⟩ := hst i (x.2.2[i]'(by omega)) (List.getElem?_eq_getElem _)
        rw [hi] at hu'
        injection hu' with hu'
        subst hu'
        exact plc_lt n _ u hs p hp
      simp only
      rw [plc_tup hat, hpp, hmo]
      refine ⟨List.nodup_cons.2 ⟨fun hp => by have := hltC _ hp; omega, k.1⟩, fun p hp => ?_⟩
      rcases List.mem_cons.1 hp with rfl | hp
      · exact hpre
      · exact k.2 p hp
    · have hs := layF_stands (n + 1) x ws nm h
      rw [plc_leaf (leaf_not4 hs h4)]
      simp
theorem layL_sum (n : Nat) : (l : List (Tm n)) → (ws : List Wd) → (nm : List ByteArray) → ((layL (layF n) l ws nm).2.1.length : Int) = ws.length + (l.map (sz n)).sum
  | [], _, _ => by simp [layL]
  | y :: l, ws, nm => by
    have h1 := (layF_sizes n y ws nm).1
    have h2 := layL_sum n l (layF n y ws nm).2.1 (layF n y ws nm).2.2
    simp only [layL, List.map_cons, List.sum_cons]
    omega
/-- What Collect leaves of words that share nothing: their terms, laid one behind the other. -/
theorem roots_tree {ws : List Wd} {nm : List ByteArray} (hnd : nm.Nodup) {n : Nat} {vs : List Wd} {p : List (Tm n)} (h : StandL ws nm n vs p) (hn : (vs.flatMap (plc ws n)).Nodup) :
    (rootsR ws n vs).1 = (layL (layF n) p [] nm).1 ∧ (rootsR ws n vs).2.1 = (layL (layF n) p [] nm).2.1 ∧ (layL (layF n) p [] nm).2.2 = nm :=
  (cpL_tree (fun x v S => cp_tree hnd n x v S) vs p h ([], []) hn (fun _ _ => rfl)).1
end Go.Proofs.Ytbmjfnicfpdjfaa
namespace Go.Proofs.Ytbmjfnicfpdjfaa
open Go.RowKit

/-- Where a process' heap lies. -/
def PL (pb : Nat) (name : ByteArray) (sv : Wd) (mv : Value) : HLoc := ⟨pb, 1, [.string name], [.int .i64 sv.1, .int .i64 sv.2, mv], 73⟩
/-- A row of words that a slice tells, in a block of its own. -/
def MailAt (Mh : Nat → Prop) (ma : Option Addr) (vs : List Wd) (mc : Nat) (w : World) : Prop :=
  (ma = none ∧ vs = [] ∧ mc = 0) ∨ ∃ g mo cur, ma = some ⟨g, mo, none⟩ ∧ ¬ Mh g ∧ w.heap[g]? = some (.cells cur 60 (0, 0)) ∧ vs.length ≤ mc ∧ mc ≤ maxLen ∧ mo + mc * 2 ≤ cur.size ∧ (cur.toList.drop mo).take (vs.length * 2) = wCells vs
/-- What a process has: the words of its state and of its messages, what these stand for, and how much room they take. -/
def PHas (N : Nat) (ws : List Wd) (nm : List ByteArray) (room : Int) (us : List Wd) (ts : List (Tm N)) : Prop :=
  StandL ws nm N us ts ∧ (us.flatMap (plc ws N)).Nodup ∧ (∀ y ∈ ts, chk N y = 0 ∧ closedT N y = true) ∧ (ts.map (sz N)).sum ≤ (ws.length : Int) ∧ (ws.length : Int) ≤ room ∧ 0 ≤ room ∧ room ≤ 1000 ∧ nm.Nodup
/-- A process, in memory; M: its blocks. -/
structure PrAt (base pb : Nat) (name : ByteArray) (room : Int) (N : Nat) (s : Tm N) (ms : List (Tm N)) (xs : List (Wd × Tm N)) (nk : Nat) (M : Nat → Prop) (w : World) (ws : List Wd) (nm : List ByteArray) (sv : Wd) (vs : List Wd) (ma : Option Addr) (mc : Nat) (Mh : Nat → Prop) : Prop where
  heap : HpAt base (PL pb name sv (.slice ma vs.length mc)) room ws nm Mh w
  mail : MailAt Mh ma vs mc w
  has : PHas N ws nm room (sv :: vs ++ xs.map (·.1)) (s :: ms ++ xs.map (·.2))
  len : vs.length = ms.length
  names : nm.length ≤ nk
  inM : ∀ b, Mh b → M b
  mailM : ∀ a, ma = some a → M a.block
def Pr (base pb : Nat) (name : ByteArray) (room : Int) (N : Nat) (s : Tm N) (ms : List (Tm N)) (nk : Nat) (M : Nat → Prop) (w : World) : Prop := ∃ ws nm sv vs ma mc Mh, PrAt base pb name room N s ms [] nk M w ws nm sv vs ma mc Mh

theorem HpAt.box {base : Nat} {hp : HLoc} {room : Int} {ws : List Wd} {nm : List ByteArray} {M : Nat → Prop} {w : World} (h : HpAt base hp room ws nm M w) : ∃ tv lv mv, HB hp room tv lv mv w ∧ ∃ ta tc, tv = .slice ta ws.length tc := by
  obtain ⟨tv, lv, mv, h1, h2, _⟩ := h
  refine ⟨tv, lv, mv, h1, ?_⟩
  rcases h2.2 with ⟨e, e0⟩ | ⟨g, c, cur, e, _⟩
  · exact ⟨none, 0, by rw [e, e0]⟩
  · exact ⟨_, c, e⟩
theorem PL.cells {pb : Nat} {name : ByteArray} {sv : Wd} {mv : Value} {room : Int} {tv lv mp : Value} {w : World} (h : HB (PL pb name sv mv) room tv lv mp w) :
    w.cell? ⟨pb, 0, none⟩ = some (.string name) ∧ w.cell? ⟨pb, 5, none⟩ = some (.int .i64 sv.1) ∧ w.cell? ⟨pb, 5 + 1, none⟩ = some (.int .i64 sv.2) ∧ w.cell? ⟨pb, 7, none⟩ = some mv ∧ (∀ j, w.frozen? ⟨pb, j, none⟩ = false) ∧ pb < w.heap.size := by
  have h2 : w.heap[pb]? = some (.cells #[.string name, .int .i64 room, tv, lv, mp, .int .i64 sv.1, .int .i64 sv.2, mv] 73) := h.2
  refine ⟨?_, ?_, ?_, ?_, fun j => ?_, (Array.getElem?_eq_some_iff.1 h2).1⟩
  all_goals simp [World.cell?, World.frozen?, h2]

theorem pused_any (pb : Nat) (w : World) (L : Nat) (HU : Hid (∀ w1, w1 = w → Calls Try.prog 33 #[.pointer (some ⟨pb, 1, none⟩)] w1 fun e w' => e = .returned (.int .i64 L) ∧ w' = w1)) :
    Calls Try.prog 17 #[.pointer (some ⟨pb, 0, none⟩)] w fun e w' => e = .returned (.int .i64 L) ∧ w' = w := by
  go_enter Try.func17, Try.ntmps17
  go_wp2_with (go_at_call 33; refine (HU.out _ rfl).mono ?_; rintro e w1 ⟨rfl, rfl⟩)
  go_ret
  exact ⟨rfl, rfl⟩
theorem prUsed {base pb : Nat} {name : ByteArray} {room : Int} {N : Nat} {s : Tm N} {ms : List (Tm N)} {xs : List (Wd × Tm N)} {nk : Nat} {M : Nat → Prop} {w : World} {ws : List Wd} {nm : List ByteArray} {sv : Wd} {vs : List Wd} {ma : Option Addr} {mc : Nat} {Mh : Nat → Prop} (h : PrAt base pb name room N s ms xs nk M w ws nm sv vs ma mc Mh) :
    Calls Try.prog 17 #[.pointer (some ⟨pb, 0, none⟩)] w fun e w' => e = .returned (.int .i64 (ws.length : Nat)) ∧ w' = w := by
  obtain ⟨tv, lv, mv, h1, ta, tc, rfl⟩ := h.heap.box
  exact pused_any pb w ws.length fun w1 e => by
    subst e
    exact used_any (PL pb name sv (.slice ma vs.length mc)) room ta ws.length tc lv mv w1 h1
end Go.Proofs.Ytbmjfnicfpdjfaa
namespace Go.Proofs.Ytbmjfnicfpdjfaa
open Go.RowKit

def ReadOut (N : Nat) (x : Tm N) (w : World) (e : Ending) (w' : World) : Prop := ∃ y : Tm N, e = .returned (val N y) ∧ Hid (Below w.heap.size w w' ∧ In w'.heap.size w' N y ∧ Off (fun q => w.heap.size ≤ q) N y ∧ same N y N x = true)
set_option maxHeartbeats 1000000 in
theorem read_walk (pb N : Nat) (x : Tm (N + 1)) (v : Wd) (w : World) (HG : Hid (∀ w1, Below w.heap.size w w1 → Calls Try.prog 49 #[.pointer (some ⟨pb, 1, none⟩), .agg #[.int .i64 v.1, .int .i64 v.2]] w1 fun e w' => ∃ y : Tm (N + 1), e = .returned (.tuple #[.agg #[.int .i64 y.1.1, .int .i64 y.1.2.1, .string y.1.2.2, .slice y.2.1.1 y.2.2.length y.2.1.2], .int .i64 0]) ∧ Hid (Below w1.heap.size w1 w' ∧ In w'.heap.size w' (N + 1) y ∧ Off (fun q => w1.heap.size ≤ q) (N + 1) y ∧ same (N + 1) y (N + 1) x = true))) :
    Calls Try.prog 31 #[.pointer (some ⟨pb, 0, none⟩), .agg #[.int .i64 v.1, .int .i64 v.2]] w (ReadOut (N + 1) x w) := by
  go_enter Try.func31, Try.ntmps31
  go_wp2_with fail
  have HN := hide (two_new w (.cells #[.int .i64 v.1, .int .i64 v.2] 60) (.cells #[.int .i64 0, .int .i64 0, .string ⟨#[]⟩, .slice none 0 0] 25))
  have HNB : Hid (Below w.heap.size w ((w.alloc (.cells #[.int .i64 v.1, .int .i64 v.2] 60)).alloc (.cells #[.int .i64 0, .int .i64 0, .string ⟨#[]⟩, .slice none 0 0] 25)) ∧ ((w.alloc (.cells #[.int .i64 v.1, .int .i64 v.2] 60)).alloc (.cells #[.int .i64 0, .int .i64 0, .string ⟨#[]⟩, .slice none 0 0] 25)).heap.size = w.heap.size + 1 + 1) := ⟨by go_grown, by simp⟩
  generalize hW0 : (w.alloc _).alloc _ = W0
  rw [hW0] at HN HNB
  clear hW0
  have hz0 : W0.heap.size = w.heap.size + 1 + 1 := HNB.out.2
  have HK : Hid (∀ w', Below W0.heap.size W0 w' → w'.cell? ⟨w.heap.size, 0, none⟩ = some (.int .i64 v.1) ∧ w'.cell? ⟨w.heap.size, 1, none⟩ = some (.int .i64 v.2)) := fun w' h => by
    have h1 := (h.block w.heap.size (by omega)).trans HN.out.1
    exact ⟨box_cell h1 0, box_cell h1 1⟩
  obtain ⟨k0, k1⟩ := HK.out W0 (Below.refl _ _)
  have HD0 : Hid (Below W0.heap.size W0 W0.drew) := (Below.refl _ _).drew
  have HD1 : Hid (Below W0.heap.size W0 (W0.alloc (.cells #[.int .i64 0, .int .i64 0, .string ⟨#[]⟩, .slice none 0 0] 25)).drew) := (show Below _ _ _ by go_grown)
  have HNX : Hid ((W0.alloc (.cells #[.int .i64 0, .int .i64 0, .string ⟨#[]⟩, .slice none 0 0] 25)).drew.heap[W0.heap.size]? = some (.cells #[.int .i64 0, .int .i64 0, .string ⟨#[]⟩, .slice none 0 0] 25) ∧ (W0.alloc (.cells #[.int .i64 0, .int .i64 0, .string ⟨#[]⟩, .slice none 0 0] 25)).drew.heap.size = W0.heap.size + 1) := ⟨new_last W0 _ rfl, by simp⟩
  clear hz0
  go_region_held3 (fun w' => w'.cell? ⟨w.heap.size, 0, none⟩ = some (.int .i64 v.1) ∧ w'.cell? ⟨w.heap.size, 1, none⟩ = some (.int .i64 v.2)) (first | (go_keep; done) | with_reducible exact HK.out _ HD0.out | with_reducible exact HK.out _ HD1.out | exact HK.out _ HB1.out | exact HKA.out _ | exact HKS.out _ _ _ _ | exact HKT.out _ _ _ _ _)
    ((first
      | (go_at_call 49; refine (HG.out _ (HNB.out.1.trans (HD0.out.mono HNB.out.1.size))).mono ?_; rintro e w1 ⟨y, rfl, HY⟩; have HB1 := hide (HD0.out.trans (HY.out.1.mono HD0.out.size)); have HKA : Hid (∀ o : Obj, (w1.alloc o).cell? ⟨w.heap.size, 0, none⟩ = some (.int .i64 v.1) ∧ (w1.alloc o).cell? ⟨w.heap.size, 1, none⟩ = some (.int .i64 v.2)) := fun o => HK.out _ (HB1.out.trans (one_alloc.mono HB1.out.size)); have HKT : Hid (∀ (o : Obj) (a b c d : Value), (put4 (w1.alloc o) w1.heap.size 0 a b c d).cell? ⟨w.heap.size, 0, none⟩ = some (.int .i64 v.1) ∧ (put4 (w1.alloc o) w1.heap.size 0 a b c d).cell? ⟨w.heap.size, 1, none⟩ = some (.int .i64 v.2)) := fun o a b c d => by have hs := HB1.out.size; have hz := HNB.out.2; exact ⟨(block_cell (put4_block (by omega) a b c d) 0).trans (HKA.out o).1, (block_cell (put4_block (by omega) a b c d) 1).trans (HKA.out o).2⟩)
      | (go_at_call 49; refine (HG.out _ (HNB.out.1.trans (HD1.out.mono HNB.out.1.size))).mono ?_; rintro e w1 ⟨y, rfl, HY⟩; have HB1 := hide (HD1.out.trans (HY.out.1.mono HD1.out.size)); have HX1 := hide ((HY.out.1.block _ (by have := HNX.out.2; omega)).trans HNX.out.1); have hq0 : w1.cell? ⟨W0.heap.size, 0, none⟩ = some (.int .i64 0) := box_cell HX1.out 0; have hq1 : w1.cell? ⟨W0.heap.size, 1, none⟩ = some (.int .i64 0) := box_cell HX1.out 1; have hq2 : w1.cell? ⟨W0.heap.size, 2, none⟩ = some (.string ⟨#[]⟩) := box_cell HX1.out 2; have hq3 : w1.cell? ⟨W0.heap.size, 3, none⟩ = some (.slice none 0 0) := box_cell HX1.out 3; have hqf := fun j => box_free HX1.out j; have HKS : Hid (∀ a b c d : Value, (put4 w1 W0.heap.size 0 a b c d).cell? ⟨w.heap.size, 0, none⟩ = some (.int .i64 v.1) ∧ (put4 w1 W0.heap.size 0 a b c d).cell? ⟨w.heap.size, 1, none⟩ = some (.int .i64 v.2)) := fun a b c d => ⟨(block_cell (put4_block (by have := HNB.out.2; omega) a b c d) 0).trans (HK.out _ HB1.out).1, (block_cell (put4_block (by have := HNB.out.2; omega) a b c d) 1).trans (HK.out _ HB1.out).2⟩)))
  · have hz := HNB.out.2
    have HR1 : Hid ((w1.alloc (.cells #[.int .i64 y.1.1, .int .i64 y.1.2.1, .string y.1.2.2, .slice y.2.1.1 y.2.2.length y.2.1.2] 25)).heap[w.heap.size + 1]? = some (.cells #[.int .i64 0, .int .i64 0, .string ⟨#[]⟩, .slice none 0 0] 25)) := (one_alloc.block _ (by have := HB1.out.size; omega)).trans ((HB1.out.block _ (by omega)).trans HN.out.2)
    have HQ5 : Hid ((w1.alloc (.cells #[.int .i64 y.1.1, .int .i64 y.1.2.1, .string y.1.2.2, .slice y.2.1.1 y.2.2.length y.2.1.2] 25)).heap[w1.heap.size]? = some (.cells #[.int .i64 y.1.1, .int .i64 y.1.2.1, .string y.1.2.2, .slice y.2.1.1 y.2.2.length y.2.1.2] 25)) := heap_alloc_new _ _
    have HF : Hid (Below w.heap.size w (w1.alloc (.cells #[.int .i64 y.1.1, .int .i64 y.1.2.1, .string y.1.2.2, .slice y.2.1.1 y.2.2.length y.2.1.2] 25)) ∧ In (w1.alloc (.cells #[.int .i64 y.1.1, .int .i64 y.1.2.1, .string y.1.2.2, .slice y.2.1.1 y.2.2.length y.2.1.2] 25)).heap.size (w1.alloc (.cells #[.int .i64 y.1.1, .int .i64 y.1.2.1, .string y.1.2.2, .slice y.2.1.1 y.2.2.length y.2.1.2] 25)) (N + 1) y ∧ Off (fun q => w.heap.size + 2 ≤ q) (N + 1) y) := ⟨(HNB.out.1.trans (HB1.out.mono HNB.out.1.size)).trans (one_alloc.mono (HNB.out.1.trans (HB1.out.mono HNB.out.1.size)).size), (HY.out.2.1.below one_alloc).mono (by simp), HY.out.2.2.1.mono fun q (hq : W0.heap.size ≤ q) => by omega⟩
    have HWW : Hid (∃ w3, w3 = (w1.alloc (.cells #[.int .i64 y.1.1, .int .i64 y.1.2.1, .string y.1.2.2, .slice y.2.1.1 y.2.2.length y.2.1.2] 25))) := ⟨_, rfl⟩
    obtain ⟨w3, hw3⟩ := HWW.out
    rw [← hw3] at HR1 HQ5 HF ⊢
    clear hw3 HWW hz
    have r0 : w3.cell? ⟨w.heap.size + 1, 0, none⟩ = some (.int .i64 0) := box_cell HR1.out 0
    have r1 : w3.cell? ⟨w.heap.size + 1, 1, none⟩ = some (.int .i64 0) := box_cell HR1.out 1
    have r2 : w3.cell? ⟨w.heap.size + 1, 2, none⟩ = some (.string ⟨#[]⟩) := box_cell HR1.out 2
    have r3 : w3.cell? ⟨w.heap.size + 1, 3, none⟩ = some (.slice none 0 0) := box_cell HR1.out 3
    have rf := fun j => box_free HR1.out j
    have p0 : w3.cell? ⟨w1.heap.size, 0, none⟩ = some (.int .i64 y.1.1) := box_cell HQ5.out 0
    have p1 : w3.cell? ⟨w1.heap.size, 1, none⟩ = some (.int .i64 y.1.2.1) := box_cell HQ5.out 1
    have p2 : w3.cell? ⟨w1.heap.size, 2, none⟩ = some (.string y.1.2.2) := box_cell HQ5.out 2
    have p3 : w3.cell? ⟨w1.heap.size, 3, none⟩ = some (.slice y.2.1.1 y.2.2.length y.2.1.2) := box_cell HQ5.out 3
    go_wp2_with fail
    refine bodyPost_ret (v := .agg #[.int .i64 y.1.1, .int .i64 y.1.2.1, .string y.1.2.2, .slice y.2.1.1 y.2.2.length y.2.1.2]) (by simp [results, Try.results31, go_sem, r0, r1, r2, r3]) rfl ?_
    refine ⟨y, rfl, put4_below HF.out.1 (by omega), ?_, HF.out.2.2.mono fun q hq => by omega, HY.out.2.2.2⟩
    have e := In.off (w' := put4 w3 (w.heap.size + 1) 0 (.int .i64 y.1.1) (.int .i64 y.1.2.1) (.string y.1.2.2) (.slice y.2.1.1 y.2.2.length y.2.1.2)) (fun b (hb : w.heap.size + 2 ≤ b) => put4_block (by omega) _ _ _ _) HF.out.2.2 HF.out.2.1
    rw [← put4_size (w := w3) (g := w.heap.size + 1) (o := 0) (.int .i64 y.1.1) (.int .i64 y.1.2.1) (.string y.1.2.2) (.slice y.2.1.1 y.2.2.length y.2.1.2)] at e
    exact e
  · have hz := HNB.out.2
    have hz1 := HNX.out.2
    have HR1 : Hid ((put4 w1 W0.heap.size 0 (.int .i64 y.1.1) (.int .i64 y.1.2.1) (.string y.1.2.2) (.slice y.2.1.1 y.2.2.length y.2.1.2)).heap[w.heap.size + 1]? = some (.cells #[.int .i64 0, .int .i64 0, .string ⟨#[]⟩, .slice none 0 0] 25)) := (put4_block (by omega) _ _ _ _).trans ((HB1.out.block _ (by omega)).trans HN.out.2)
    have HQ5 : Hid ((put4 w1 W0.heap.size 0 (.int .i64 y.1.1) (.int .i64 y.1.2.1) (.string y.1.2.2) (.slice y.2.1.1 y.2.2.length y.2.1.2)).heap[W0.heap.size]? = some (.cells #[.int .i64 y.1.1, .int .i64 y.1.2.1, .string y.1.2.2, .slice y.2.1.1 y.2.2.length y.2.1.2] 25)) := (by
      show _ = _
      simp [put4, World.setCell, Array.getElem?_modify, HX1.out])
    have HF : Hid (Below w.heap.size w (put4 w1 W0.heap.size 0 (.int .i64 y.1.1) (.int .i64 y.1.2.1) (.string y.1.2.2) (.slice y.2.1.1 y.2.2.length y.2.1.2)) ∧ In (put4 w1 W0.heap.size 0 (.int .i64 y.1.1) (.int .i64 y.1.2.1) (.string y.1.2.2) (.slice y.2.1.1 y.2.2.length y.2.1.2)).heap.size (put4 w1 W0.heap.size 0 (.int .i64 y.1.1) (.int .i64 y.1.2.1) (.string y.1.2.2) (.slice y.2.1.1 y.2.2.length y.2.1.2)) (N + 1) y ∧ Off (fun q => w.heap.size + 2 ≤ q) (N + 1) y) := by
      refine ⟨put4_below (HNB.out.1.trans (HB1.out.mono HNB.out.1.size)) (by omega), ?_, HY.out.2.2.1.mono fun q hq => ?_⟩
      · rw [put4_size]
        exact In.off (fun b (hb : (W0.alloc (.cells #[.int .i64 0, .int .i64 0, .string ⟨#[]⟩, .slice none 0 0] 25)).drew.heap.size ≤ b) => put4_block (by omega) _ _ _ _) HY.out.2.2.1 HY.out.2.1
      · have hq' : (W0.alloc (.cells #[.int .i64 0, .int .i64 0, .string ⟨#[]⟩, .slice none 0 0] 25)).drew.heap.size ≤ q := hq
        omega
    have HWW : Hid (∃ w3, w3 = (put4 w1 W0.heap.size 0 (.int .i64 y.1.1) (.int .i64 y.1.2.1) (.string y.1.2.2) (.slice y.2.1.1 y.2.2.length y.2.1.2))) := ⟨_, rfl⟩
    obtain ⟨w3, hw3⟩ := HWW.out
    change Exit.then _ _ Exit.normal _ (put4 w1 W0.heap.size 0 (.int .i64 y.1.1) (.int .i64 y.1.2.1) (.string y.1.2.2) (.slice y.2.1.1 y.2.2.length y.2.1.2))
    rw [← hw3] at HR1 HQ5 HF ⊢
    clear hw3 HWW hz hz1
    have r0 : w3.cell? ⟨w.heap.size + 1, 0, none⟩ = some (.int .i64 0) := box_cell HR1.out 0
    have r1 : w3.cell? ⟨w.heap.size + 1, 1, none⟩ = some (.int .i64 0) := box_cell HR1.out 1
    have r2 : w3.cell? ⟨w.heap.size + 1, 2, none⟩ = some (.string ⟨#[]⟩) := box_cell HR1.out 2
    have r3 : w3.cell? ⟨w.heap.size + 1, 3, none⟩ = some (.slice none 0 0) := box_cell HR1.out 3
    have rf := fun j => box_free HR1.out j
    have p0 : w3.cell? ⟨W0.heap.size, 0, none⟩ = some (.int .i64 y.1.1) := box_cell HQ5.out 0
    have p1 : w3.cell? ⟨W0.heap.size, 1, none⟩ = some (.int .i64 y.1.2.1) := box_cell HQ5.out 1
    have p2 : w3.cell? ⟨W0.heap.size, 2, none⟩ = some (.string y.1.2.2) := box_cell HQ5.out 2
    have p3 : w3.cell? ⟨W0.heap.size, 3, none⟩ = some (.slice y.2.1.1 y.2.2.length y.2.1.2) := box_cell HQ5.out 3
    go_wp2_with fail
    refine bodyPost_ret (v := .agg #[.int .i64 y.1.1, .int .i64 y.1.2.1, .string y.1.2.2, .slice y.2.1.1 y.2.2.length y.2.1.2]) (by simp [results, Try.results31, go_sem, r0, r1, r2, r3]) rfl ?_
    refine ⟨y, rfl, put4_below HF.out.1 (by omega), ?_, HF.out.2.2.mono fun q hq => by omega, HY.out.2.2.2⟩
    have e := In.off (w' := put4 w3 (w.heap.size + 1) 0 (.int .i64 y.1.1) (.int .i64 y.1.2.1) (.string y.1.2.2) (.slice y.2.1.1 y.2.2.length y.2.1.2)) (fun b (hb : w.heap.size + 2 ≤ b) => put4_block (by omega) _ _ _ _) HF.out.2.2 HF.out.2.1
    rw [← put4_size (w := w3) (g := w.heap.size + 1) (o := 0) (.int .i64 y.1.1) (.int .i64 y.1.2.1) (.string y.1.2.2) (.slice y.2.1.1 y.2.2.length y.2.1.2)] at e
    exact e

theorem chk_right {n : Nat} {x : Tm n} (h : chk n x = 0) : RightA ⟨n, x⟩ := right_formed.2 (chk_iff.1 h).1
section
variable {base pb : Nat} {name : ByteArray} {room : Int} {N : Nat} {s : Tm (N + 1)} {ms : List (Tm (N + 1))} {xs : List (Wd × Tm (N + 1))} {nk : Nat} {M : Nat → Prop} {w : World} {ws : List Wd} {nm : List ByteArray} {sv : Wd} {vs : List Wd} {ma : Option Addr} {mc : Nat} {Mh : Nat → Prop}
/-- A process stays while only new memory turns. -/
theorem PrAt.later (h : PrAt base pb name room (N + 1) s ms xs nk M w ws nm sv vs ma mc Mh) {w1 : World} (hb : Below w.heap.size w w1) : PrAt base pb name room (N + 1) s ms xs nk M w1 ws nm sv vs ma mc Mh := by
  refine ⟨(h.heap.later hb).mono fun b hb => hb.1, ?_, h.has, h.len, h.names, h.inM, h.mailM⟩
  rcases h.mail with e | ⟨g, mo, cur, e1, e2, e3, e4⟩
  · exact Or.inl e
  · exact Or.inr ⟨g, mo, cur, e1, e2, (hb.block g (Array.getElem?_eq_some_iff.1 e3).1).trans e3, e4⟩
theorem PrAt.read (h : PrAt base pb name room (N + 1) s ms xs nk M w ws nm sv vs ma mc Mh) (hnk : nk ≤ 50000) {i : Nat} {v : Wd} {x : Tm (N + 1)} (hv : (sv :: vs ++ xs.map (·.1))[i]? = some v) (hx : (s :: ms ++ xs.map (·.2))[i]? = some x) :
    Calls Try.prog 31 #[.pointer (some ⟨pb, 0, none⟩), .agg #[.int .i64 v.1, .int .i64 v.2]] w (ReadOut (N + 1) x w) := by
  obtain ⟨k1, k2, k3, k4, k5, k6, k7, k8⟩ := h.has
  have hc := k3 x (List.mem_of_getElem? hx)
  have hn := h.names
  exact read_walk pb N x v w fun w1 hb => hget_any (N + 1) x v base (PL pb name sv (.slice ma vs.length mc)) room ws nm Mh w1 ((h.later hb).heap) (k1.2 i v x hv hx) (chk_right hc.1) hc.2 (by omega) (by omega)
end
end Go.Proofs.Ytbmjfnicfpdjfaa
