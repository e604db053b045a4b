/- What is proved here: plain facts on copies: whatever a word stands for, its copy stands for among the words copied. No condition but that the word stands for something. -/
import Derived.Test.YtfaoeccnhbcjgabHp20
namespace Go.Proofs.Ytfaoeccnhbcjgab
open Go.RowKit Go.Maps

/-- Whatever v stands for among ws, u stands for among us. -/
def CopyOf (ws us : List Wd) (nm : List ByteArray) (v u : Wd) : Prop := ∀ (n : Nat) (x : Tm n), Stands ws nm n x v → Stands us nm n x u
def InvC (ws : List Wd) (nm : List ByteArray) (S : List Wd × Went) : Prop := ∀ p q : Nat, look S.2 p = some q → CopyOf ws S.1 nm (4, (p : Int)) (4, (q : Int))
theorem CopyOf.mono {ws us us' : List Wd} {nm : List ByteArray} {v u : Wd} (h : CopyOf ws us nm v u) (k : us <+: us') : CopyOf ws us' nm v u := fun n x hs => (h n x hs).mono k (List.prefix_refl _)
theorem copy_leaf {ws us : List Wd} {nm : List ByteArray} {v : Wd} (h : v.1 ≠ 4) : CopyOf ws us nm v v := by
  intro n x hs
  cases n with
  | zero => exact hs.elim
  | succ n =>
    obtain ⟨a, b, c⟩ := hs
    refine ⟨a, fun h4 => ?_, c⟩
    obtain ⟨p, rfl, _⟩ := b h4
    simp at h
/-- Copies, one by one. -/
def CopyL (ws us : List Wd) (nm : List ByteArray) (vs cs : List Wd) : Prop := vs.length = cs.length ∧ ∀ (i : Nat) (v u : Wd), vs[i]? = some v → cs[i]? = some u → CopyOf ws us nm v u

def CopyOut (ws : List Wd) (nm : List ByteArray) (v : Wd) (S : List Wd × Went) (r : Wd × List Wd × Went) : Prop := InvC ws nm r.2 ∧ S.1 <+: r.2.1 ∧ CopyOf ws r.2.1 nm v r.1
theorem cpL_copies {ws : List Wd} {nm : List ByteArray} {n : Nat} (ih : ∀ (x : Tm n) (v : Wd) (S : List Wd × Went), InvC ws nm S → Stands ws nm n x v → CopyOut ws nm v S (cpF ws n v S)) :
    (l : List Wd) → (p : List (Tm n)) → (S : List Wd × Went) → StandL ws nm n l p → InvC ws nm S → InvC ws nm (cpL (cpF ws n) l S).2 ∧ S.1 <+: (cpL (cpF ws n) l S).2.1 ∧ CopyL ws (cpL (cpF ws n) l S).2.1 nm l (cpL (cpF ws n) l S).1
  | [], _, S, _, hS => ⟨hS, List.prefix_refl _, rfl, fun i v u hv _ => by simp at hv⟩
  | _ :: _, [], _, h, _ => by have := h.1; simp at this
  | v :: l, y :: p, S, h, hS => by
    obtain ⟨a1, a2, a3⟩ := ih y v S hS (h.2 0 v y rfl rfl)
    obtain ⟨b1, b2, b3, b4⟩ := cpL_copies ih l p (cpF ws n v S).2 ⟨by have := h.1; simpa using this, fun i v' y' hv hy => h.2 (i + 1) v' y' (by simpa using hv) (by simpa using hy)⟩ a1
    refine ⟨b1, a2.trans b2, by simp [cpL, b3], fun i v' u hv hu => ?_⟩
    cases i with
    | zero =>
      simp [cpL] at hv hu
      subst hv hu
      exact a3.mono b2
    | succ i => exact b4 i v' u (by simpa using hv) (by simpa [cpL] using hu)

theorem copy_new {ws us cs : List Wd} {nm : List ByteArray} {p m : Nat} (hp : ws[p]? = some (0, (m : Int))) (hl : p + 1 + m ≤ ws.length) (h : CopyL ws us nm (partsOf ws p m) cs) : CopyOf ws (us ++ (0, (m : Int)) :: cs) nm (4, (p : Int)) (4, (us.length : Int)) := by
  intro n x hs
  cases n with
  | zero => exact hs.elim
  | succ n =>
    have hcl : cs.length = m := by rw [← h.1, partsOf_length hl]
    obtain ⟨a, b, c⟩ := hs
    by_cases h2 : x.1.1 = 2
    · obtain ⟨i, e, _⟩ := a h2
      simp at e
    · by_cases h4 : x.1.1 = 4
      · obtain ⟨p', e1, e2, e3, e4⟩ := b h4
        have ep : p' = p := by
          injection e1 with _ e1
          omega
        subst ep
        rw [hp] at e2
        have em : x.2.2.length = m := by
          have := Option.some.inj e2
          injection this with _ this
          omega
        refine ⟨fun e => absurd e h2, fun _ => ⟨us.length, rfl, ?_, ?_, fun i y hy => ?_⟩, fun _ e => absurd h4 e⟩
        · rw [List.getElem?_append_right (Nat.le_refl _), Nat.sub_self, em]
          rfl
        · simp only [List.length_append, List.length_cons, hcl, em]
          omega
        · have hi : i < m := by have := (List.getElem?_eq_some_iff.1 hy).1; omega
          obtain ⟨v, e5, e6⟩ := e4 i y hy
          obtain ⟨u, hu⟩ : ∃ u, cs[i]? = some u := ⟨cs[i]'(by omega), List.getElem?_eq_getElem _⟩
          refine ⟨u, ?_, (h.2 i v u (by rw [partsOf_at hi]; exact e5) hu n y e6).mono (List.prefix_append _ _) (List.prefix_refl _)⟩
          rw [List.getElem?_append_right (by omega), show us.length + 1 + i - us.length = i + 1 by omega]
          simpa using hu
      · have := c h2 h4
        injection this with this
        exact absurd this.symm h4

theorem cpF_copies {ws : List Wd} {nm : List ByteArray} : (n : Nat) → (x : Tm n) → (v : Wd) → (S : List Wd × Went) → InvC ws nm S → Stands ws nm n x v → CopyOut ws nm v S (cpF ws n v S)
  | 0, _, _, _, _, h => h.elim
  | n + 1, x, v, S, hS, h => by
    by_cases h4 : x.1.1 = 4
    · obtain ⟨p, rfl, hp, hl, hs⟩ := tuple_parts h h4
      cases hk : look S.2 p with
      | some q =>
        rw [cpF_old hk]
        exact ⟨hS, List.prefix_refl _, hS p q hk⟩
      | none =>
        rw [cpF_new hk hp]
        obtain ⟨a1, a2, a3⟩ := cpL_copies (fun x v S hh => cpF_copies n x v S hh) (partsOf ws p x.2.2.length) x.2.2 S hs hS
        have hn := copy_new hp hl a3
        refine ⟨fun p' q' hq => ?_, a2.trans (List.prefix_append _ _), hn⟩
        by_cases he : p' = p
        · subst he
          rw [look_same] at hq
          obtain rfl := Option.some.inj hq
          exact hn
        · rw [look_other _ _ he] at hq
          exact (a1 p' q' hq).mono (List.prefix_append _ _)
    · have hv := leaf_not4 h h4
      rw [cpF_leaf hv]
      exact ⟨hS, List.prefix_refl _, copy_leaf hv⟩
theorem inv_nil (ws : List Wd) (nm : List ByteArray) : InvC ws nm ([], []) := fun p q h => by simp [look] at h
end Go.Proofs.Ytfaoeccnhbcjgab
