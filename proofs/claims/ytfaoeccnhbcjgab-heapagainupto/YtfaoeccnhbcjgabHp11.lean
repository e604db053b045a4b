/- What is proved here: plain facts on what words stand for: they go on to stand for it when words and names come behind, and what laying a term tells stands for it. No condition but that the term is right. -/
import Derived.Test.YtfaoeccnhbcjgabHp10
namespace Go.Proofs.Ytfaoeccnhbcjgab
open Go.RowKit

theorem pre_at {α : Type} {l l' : List α} (h : l <+: l') {i : Nat} {x : α} (hx : l[i]? = some x) : l'[i]? = some x := by
  obtain ⟨r, rfl⟩ := h
  rw [List.getElem?_append_left (List.getElem?_eq_some_iff.1 hx).1]
  exact hx
theorem Stands.mono {ws ws' : List Wd} {nm nm' : List ByteArray} (h1 : ws <+: ws') (h2 : nm <+: nm') : {n : Nat} → {x : Tm n} → {v : Wd} → Stands ws nm n x v → Stands ws' nm' n x v
  | 0, _, _, h => h
  | n + 1, x, v, h => by
    obtain ⟨a, b, c⟩ := h
    refine ⟨fun e => ?_, fun e => ?_, c⟩
    · obtain ⟨i, e1, e2⟩ := a e
      exact ⟨i, e1, pre_at h2 e2⟩
    · obtain ⟨p, e1, e2, e3, e4⟩ := b e
      refine ⟨p, e1, pre_at h1 e2, Nat.le_trans e3 h1.length_le, fun i y hy => ?_⟩
      obtain ⟨u, e5, e6⟩ := e4 i y hy
      exact ⟨u, pre_at h1 e5, e6.mono h1 h2⟩

theorem nmPut_pre (nm : List ByteArray) (s : ByteArray) : nm <+: nmPut nm s := by
  unfold nmPut
  split
  · exact List.prefix_refl _
  · exact List.prefix_append _ _
theorem layL_pre {n : Nat} (h : ∀ (x : Tm n) (ws : List Wd) (nm : List ByteArray), ws <+: (layF n x ws nm).2.1 ∧ nm <+: (layF n x ws nm).2.2) (l : List (Tm n)) (ws : List Wd) (nm : List ByteArray) : ws <+: (layL (layF n) l ws nm).2.1 ∧ nm <+: (layL (layF n) l ws nm).2.2 := by
  induction l generalizing ws nm with
  | nil => exact ⟨List.prefix_refl _, List.prefix_refl _⟩
  | cons y l ih =>
    obtain ⟨a, b⟩ := h y ws nm
    obtain ⟨c, d⟩ := ih (layF n y ws nm).2.1 (layF n y ws nm).2.2
    exact ⟨a.trans c, b.trans d⟩
theorem layF_pre : (n : Nat) → (x : Tm n) → (ws : List Wd) → (nm : List ByteArray) → ws <+: (layF n x ws nm).2.1 ∧ nm <+: (layF n x ws nm).2.2
  | 0, _, _, _ => ⟨List.prefix_refl _, List.prefix_refl _⟩
  | n + 1, x, ws, nm => by
    by_cases h2 : x.1.1 = 2
    · simp only [layF, if_pos h2]
      exact ⟨List.prefix_refl _, nmPut_pre _ _⟩
    · by_cases h4 : x.1.1 = 4
      · simp only [layF, if_neg h2, if_pos h4]
        obtain ⟨a, b⟩ := layL_pre (layF_pre n) x.2.2 ws nm
        exact ⟨a.trans (List.prefix_append _ _), b⟩
      · simp only [layF, if_neg h2, if_neg h4]
        exact ⟨List.prefix_refl _, List.prefix_refl _⟩

theorem nmPut_at (nm : List ByteArray) (s : ByteArray) : (nmPut nm s)[nmIdx (nmPut nm s) s]? = some s := by
  have hm : s ∈ nmPut nm s := by
    unfold nmPut
    split
    · rename_i h
      exact (nm_any nm s).1 h
    · simp
  have hlt : nmIdx (nmPut nm s) s < (nmPut nm s).length := by
    unfold nmIdx
    rw [List.findIdx_lt_length]
    exact ⟨s, hm, (eqN_iff s s).2 rfl⟩
  have he : (nmPut nm s)[nmIdx (nmPut nm s) s]'hlt = s := (eqN_iff s _).1 (List.findIdx_getElem (w := hlt))
  rw [List.getElem?_eq_getElem hlt, he]
theorem layL_stands {n : Nat} (h : ∀ (x : Tm n) (ws : List Wd) (nm : List ByteArray), RightA ⟨n, x⟩ → Stands (layF n x ws nm).2.1 (layF n x ws nm).2.2 n x (layF n x ws nm).1) (l : List (Tm n)) (ws : List Wd) (nm : List ByteArray) (hr : ∀ y ∈ l, RightA ⟨n, y⟩) :
    ∀ (i : Nat) (y : Tm n), l[i]? = some y → ∃ u, (layL (layF n) l ws nm).1[i]? = some u ∧ Stands (layL (layF n) l ws nm).2.1 (layL (layF n) l ws nm).2.2 n y u := by
  induction l generalizing ws nm with
  | nil => intro i y hy; simp at hy
  | cons z l ih =>
    intro i y hy
    cases i with
    | zero =>
      simp at hy
      subst hy
      obtain ⟨a, b⟩ := layL_pre (layF_pre n) l (layF n z ws nm).2.1 (layF n z ws nm).2.2
      exact ⟨(layF n z ws nm).1, rfl, (h z ws nm (hr z (by simp))).mono a b⟩
    | succ i =>
      obtain ⟨u, e1, e2⟩ := ih (layF n z ws nm).2.1 (layF n z ws nm).2.2 (fun y hy => hr y (by simp [hy])) i y (by simpa using hy)
      exact ⟨u, by simpa [layL] using e1, e2⟩
theorem layF_stands : (n : Nat) → (x : Tm n) → (ws : List Wd) → (nm : List ByteArray) → RightA ⟨n, x⟩ → Stands (layF n x ws nm).2.1 (layF n x ws nm).2.2 n x (layF n x ws nm).1
  | 0, _, _, _, h => (zero_bad h).elim
  | n + 1, x, ws, nm, h => by
    by_cases h2 : x.1.1 = 2
    · have h4 : ¬ x.1.1 = 4 := by omega
      simp only [layF, if_pos h2]
      exact ⟨fun _ => ⟨_, rfl, nmPut_at _ _⟩, fun e => absurd e h4, fun e => absurd h2 e⟩
    · by_cases h4 : x.1.1 = 4
      · simp only [layF, if_neg h2, if_pos h4]
        have hl := layL_length (layF n) x.2.2 ws nm
        refine ⟨fun e => absurd e h2, fun _ => ⟨_, rfl, ?_, ?_, fun i y hy => ?_⟩, fun _ e => absurd h4 e⟩
        · rw [List.getElem?_append_right (Nat.le_refl _), Nat.sub_self]
          rfl
        · simp only [List.length_append, List.length_cons, hl]
          omega
        · obtain ⟨u, e1, e2⟩ := layL_stands (layF_stands n) x.2.2 ws nm (fun y hy => parts_right n x y h hy) i y hy
          refine ⟨u, ?_, e2.mono (List.prefix_append _ _) (List.prefix_refl _)⟩
          rw [List.getElem?_append_right (by omega)]
          have : (layL (layF n) x.2.2 ws nm).2.1.length + 1 + i - (layL (layF n) x.2.2 ws nm).2.1.length = i + 1 := by omega
          rw [this]
          simpa using e1
      · simp only [layF, if_neg h2, if_neg h4]
        exact ⟨fun e => absurd e h2, fun e => absurd e h4, fun _ _ => rfl⟩
end Go.Proofs.Ytfaoeccnhbcjgab
