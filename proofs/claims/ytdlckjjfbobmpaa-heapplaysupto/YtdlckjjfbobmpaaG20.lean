/- What is proved here: clerkkeep.HeapShares of a term that lies in memory, and a number, returns true, and turns no memory that was there. Condition: at most 2097152 terms in it. -/
import Derived.Test.YtdlckjjfbobmpaaG19
import Derived.Deep.RegionHeld3
import Derived.Deep.DeepCutAuto
namespace Go.Proofs.Ytdlckjjfbobmpaa
open Go.RowKit Go.Maps

theorem offlow {B : Nat} {w : World} : {n : Nat} → {x : Tm n} → In B w n x → Off (fun b => b < B) n x
  | 0, _, k => k
  | _ + 1, _, k => by
    obtain ⟨_, k1⟩ := k
    rcases k1 with k1 | ⟨b, o, e, hb, k1⟩
    · exact Or.inl k1
    · exact Or.inr ⟨b, o, e, hb, fun i y hy => offlow (k1 i y hy).2⟩
theorem tup_nodes {n k : Nat} {x : Tm n} : (nodes (n + 1) (tupT n (List.replicate k x))).length = 1 + k * (nodes n x).length := by
  have : ((List.replicate k x).flatMap fun y => nodes n y).length = k * (nodes n x).length := by
    induction k with
    | zero => simp
    | succ k ih => rw [List.replicate_succ, List.flatMap_cons, List.length_append, ih, Nat.succ_mul]; omega
  simp only [nodes, tupT, List.length_cons, this]
  omega
theorem roots_copies {ws : List Wd} {nm : List ByteArray} {n : Nat} {vs : List Wd} {p : List (Tm n)} (h : StandL ws nm n vs p) : (rootsR ws n vs).1.length = vs.length ∧ ∀ (i : Nat) (y : Tm n) (c : Wd), p[i]? = some y → (rootsR ws n vs).1[i]? = some c → Stands (rootsR ws n vs).2.1 nm n y c := by
  obtain ⟨_, _, h3, h4⟩ := cpL_copies (fun x v S hh => cpF_copies n x v S hh) vs p ([], []) h (inv_nil ws nm)
  refine ⟨h3.symm, fun i y c hy hc => ?_⟩
  have hi : i < vs.length := by rw [h.1]; exact (List.getElem?_eq_some_iff.1 hy).1
  exact h4 i vs[i] c (List.getElem?_eq_getElem hi) hc n y (h.2 i vs[i] y (List.getElem?_eq_getElem hi) hy)

theorem tup_right {n k : Nat} {x : Tm n} (hr : RightA ⟨n, x⟩) (hk : k ≤ 8) : RightA ⟨n + 1, tupT n (List.replicate k x)⟩ := by
  refine right_mk (N := n) ?_ fun y hy => ?_
  · have : ((List.replicate k x).length : Int) ≤ 8 := by simp; omega
    simp [good, tupT, hdOf]
    omega
  · rw [List.eq_of_mem_replicate hy]
    exact hr
theorem tup_closed {n k : Nat} {x : Tm n} (hc : closedT n x = true) : closedT (n + 1) (tupT n (List.replicate k x)) = true := by
  simp only [closedT, tupT, Bool.and_eq_true, List.all_eq_true]
  refine ⟨by decide, fun y hy => ?_⟩
  rw [List.eq_of_mem_replicate hy]
  exact hc
theorem join_large {n k : Nat} {x : Tm n} {ws : List Wd} (hr : RightA ⟨n, x⟩) (hk : k ≤ 8) (hw : ws.length ≤ 200) : joinE n (List.replicate k x) 1000 ws = chk (n + 1) (tupT n (List.replicate k x)) ∧ (joinE n (List.replicate k x) 1000 ws ≠ 0 → joinE n (List.replicate k x) 1000 ws = 2) := by
  have h1 : decide (1 + ((List.replicate k x).length : Int) ≤ 1000 - ws.length) = true := by simp; omega
  have e : joinE n (List.replicate k x) 1000 ws = chk (n + 1) (tupT n (List.replicate k x)) := by simp only [joinE, h1]; rfl
  refine ⟨e, fun h => ?_⟩
  rw [e] at h ⊢
  rw [← tchk_chk] at h ⊢
  unfold tchk at h ⊢
  rw [if_pos (right_formed.1 (tup_right hr hk))] at h ⊢
  split at h
  · rename_i h2
    rw [if_pos h2]
  · exact absurd rfl h
theorem tup_stands {n k : Nat} {x : Tm n} {ws : List Wd} {nm : List ByteArray} {v : Wd} (h : Stands ws nm n x v) : Stands (ws ++ (0, (k : Int)) :: List.replicate k v) nm (n + 1) (tupT n (List.replicate k x)) (4, (ws.length : Int)) := by
  have hp : ws <+: ws ++ (0, (k : Int)) :: List.replicate k v := List.prefix_append _ _
  refine ⟨fun e => by simp [tupT] at e, fun _ => ⟨ws.length, rfl, ?_, ?_, fun i y hy => ?_⟩, fun _ e => absurd rfl e⟩
  · rw [List.getElem?_append_right (Nat.le_refl _), Nat.sub_self]
    simp [tupT]
  · simp [tupT]; omega
  · have hi : i < k := by have := (List.getElem?_eq_some_iff.1 hy).1; simpa [tupT] using this
    have ey : y = x := List.eq_of_mem_replicate (List.mem_of_getElem? hy)
    refine ⟨v, ?_, by rw [ey]; exact h.mono hp (List.prefix_refl _)⟩
    rw [List.getElem?_append_right (by omega), show ws.length + 1 + i - ws.length = i + 1 by omega]
    simp [hi]
theorem shares_roots {n k : Nat} {x : Tm n} {ws : List Wd} {nm : List ByteArray} {v : Wd} (h : Stands ws nm n x v) (hr : RightA ⟨n, x⟩) (hc : closedT n x = true) (hk : k ≤ 8) (h1 : chk n x = 0) (h2 : chk (n + 1) (tupT n (List.replicate k x)) = 0) :
    Roots (ws ++ (0, (k : Int)) :: List.replicate k v) nm (n + 1) [(4, (ws.length : Int)), v, (4, (ws.length : Int))] [tupT n (List.replicate k x), lift (n + 1) n x, tupT n (List.replicate k x)] ∧
    Roots (ws ++ (0, (k : Int)) :: List.replicate k v) nm (n + 1) [(4, (ws.length : Int)), v] [tupT n (List.replicate k x), lift (n + 1) n x] := by
  have hp : ws <+: ws ++ (0, (k : Int)) :: List.replicate k v := List.prefix_append _ _
  have s1 := tup_stands (k := k) h
  have s2 := stands_lift (n + 1) n (by omega) x v (h.mono hp (List.prefix_refl nm))
  have r1 := tup_right hr hk
  have r2 := lift_right (N := n + 1) (by omega) x hr
  have c1 := tup_closed (k := k) hc
  have c2 : closedT (n + 1) (lift (n + 1) n x) = true := by rw [same_closed _ _ _ _ (lift_same (n + 1) n (by omega) x hr)]; exact hc
  have z1 := (chk_iff.1 h2).2.2
  have z2 : sz (n + 1) (lift (n + 1) n x) ≤ 200 := by rw [same_sz _ _ _ _ (lift_same (n + 1) n (by omega) x hr)]; exact (chk_iff.1 h1).2.2
  have n1 := chk_nlen h2
  have n2 : (nodes (n + 1) (lift (n + 1) n x)).length ≤ 201 := Nat.le_trans (lift_nlen (n + 1) n (by omega) x) (chk_nlen h1)
  refine ⟨⟨⟨rfl, fun i u y hu hy => ?_⟩, fun y hy => ?_, fun y hy => ?_, ?_, ?_, by simp⟩, ⟨⟨rfl, fun i u y hu hy => ?_⟩, fun y hy => ?_, fun y hy => ?_, ?_, ?_, by simp⟩⟩
  · match i, hu, hy with
    | 0, hu, hy => simp at hu hy; subst hu hy; exact s1
    | 1, hu, hy => simp at hu hy; subst hu hy; exact s2
    | 2, hu, hy => simp at hu hy; subst hu hy; exact s1
    | _ + 3, hu, _ => simp at hu
  · simp at hy; rcases hy with rfl | rfl | rfl <;> assumption
  · simp at hy; rcases hy with rfl | rfl | rfl <;> assumption
  · simp only [List.map_cons, List.map_nil, List.sum_cons, List.sum_nil]; omega
  · simp only [List.flatMap_cons, List.flatMap_nil, List.length_append, List.length_nil]; omega
  · match i, hu, hy with
    | 0, hu, hy => simp at hu hy; subst hu hy; exact s1
    | 1, hu, hy => simp at hu hy; subst hu hy; exact s2
    | _ + 2, hu, _ => simp at hu
  · simp at hy; rcases hy with rfl | rfl <;> assumption
  · simp at hy; rcases hy with rfl | rfl <;> assumption
  · simp only [List.map_cons, List.map_nil, List.sum_cons, List.sum_nil]; omega
  · simp only [List.flatMap_cons, List.flatMap_nil, List.length_append, List.length_nil]; omega


def repT (n g k : Nat) (x : Tm n) : Tm (n + 1) := ((4, 0, ⟨#[]⟩), (some ⟨g, 0, none⟩, k), List.replicate k x)
theorem repT_in {n g k base : Nat} {x : Tm (n + 1)} {w : World} (h : Has base g k (List.replicate k ⟨n + 1, x⟩) w) (hx : In w.heap.size w (n + 1) x) (hk : k ≤ 8) : In w.heap.size w (n + 2) (repT (n + 1) g k x) := by
  refine ⟨⟨by simp [repT, I64], by simp [repT, I64], Nat.zero_le _, by simp [repT], by simp only [repT, maxLen]; omega⟩, Or.inr ⟨g, 0, rfl, h.lt.2, fun i y hy => ?_⟩⟩
  have hi : i < k := by have := (List.getElem?_eq_some_iff.1 hy).1; simpa [repT] using this
  have e : y = x := List.eq_of_mem_replicate (List.mem_of_getElem? hy)
  subst e
  have hc := h.cells i ⟨n + 1, y⟩ (by rw [List.getElem?_replicate, if_pos hi])
  rw [Nat.zero_add]
  exact ⟨hc, hx⟩
theorem repT_same {n g k : Nat} {x : Tm n} (hr : RightA ⟨n, x⟩) : same (n + 1) (tupT n (List.replicate k x)) (n + 1) (repT n g k x) = true :=
  same_mk rfl (sameL_self _ _ fun y hy => by rw [List.eq_of_mem_replicate hy]; exact same_refl n x hr)
end Go.Proofs.Ytdlckjjfbobmpaa
