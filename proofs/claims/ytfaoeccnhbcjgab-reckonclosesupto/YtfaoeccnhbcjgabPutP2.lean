/- What is proved here: plain facts on patterns without variables that fit: they are no greater than what fits, and the same where they are closed; and on what is bound then. No condition. -/
import Derived.Test.YtfaoeccnhbcjgabPutP
namespace Go.Proofs.Ytfaoeccnhbcjgab
open Go.RowKit

theorem fitL_each {n m : Nat} : (p : List (Tm n)) → (q : List (Tm m)) → (b c : List An) → fitL (fun x y b => fit n x m y b) p q b = some c → ∀ (i : Nat) (x : Tm n) (y : Tm m), p[i]? = some x → q[i]? = some y → ∃ b1 c1, fit n x m y b1 = some c1
  | [], _, _, _, _, i, x, y, hx, _ => by simp at hx
  | _ :: _, [], _, _, _, i, x, y, _, hy => by simp at hy
  | x :: p, y :: q, b, c, h, i, x', y', hx, hy => by
    simp only [fitL] at h
    obtain ⟨d, h1, h2⟩ := Option.bind_eq_some_iff.1 h
    cases i with
    | zero =>
      simp at hx hy
      subst hx hy
      exact ⟨b, d, h1⟩
    | succ i => exact fitL_each p q d c h2 i x' y' (by simpa using hx) (by simpa using hy)
theorem sum_le {α β : Type} (f : α → Int) (g : β → Int) : (p : List α) → (q : List β) → p.length = q.length → (∀ (i : Nat) (x : α) (y : β), p[i]? = some x → q[i]? = some y → f x ≤ g y) → (p.map f).sum ≤ (q.map g).sum
  | [], [], _, _ => by simp
  | [], _ :: _, h, _ => by simp at h
  | _ :: _, [], h, _ => by simp at h
  | x :: p, y :: q, h, hf => by
    have h0 := hf 0 x y (by simp) (by simp)
    have h1 := sum_le f g p q (by simpa using h) fun i x' y' hx hy => hf (i + 1) x' y' (by simpa using hx) (by simpa using hy)
    simp only [List.map_cons, List.sum_cons]
    omega
theorem fold_le {α β : Type} (f : α → Int) (g : β → Int) : (p : List α) → (q : List β) → (i j : Int) → i ≤ j → p.length = q.length → (∀ (i : Nat) (x : α) (y : β), p[i]? = some x → q[i]? = some y → f x ≤ g y) → p.foldl (fun m y => max m (f y)) i ≤ q.foldl (fun m y => max m (g y)) j
  | [], [], _, _, h, _, _ => h
  | [], _ :: _, _, _, _, h, _ => by simp at h
  | _ :: _, [], _, _, _, h, _ => by simp at h
  | x :: p, y :: q, i, j, hij, h, hf => by
    have h0 := hf 0 x y (by simp) (by simp)
    simp only [List.foldl_cons]
    exact fold_le f g p q _ _ (by omega) (by simpa using h) fun i x' y' hx hy => hf (i + 1) x' y' (by simpa using hx) (by simpa using hy)
theorem mem_sum {α : Type} (f : α → Int) (hf : ∀ x, 0 ≤ f x) : (p : List α) → (y : α) → y ∈ p → f y ≤ (p.map f).sum ∧ 0 ≤ (p.map f).sum
  | [], y, h => by cases h
  | x :: p, y, h => by
    have hx := hf x
    have h0 : 0 ≤ (p.map f).sum := by
      cases p with
      | nil => simp
      | cons z p => exact (mem_sum f hf (z :: p) z (by simp)).2
    simp only [List.map_cons, List.sum_cons]
    rcases List.mem_cons.1 h with rfl | h
    · omega
    · have := mem_sum f hf p y h
      omega
theorem fold_ge {α : Type} (f : α → Int) : (p : List α) → (i : Int) → i ≤ p.foldl (fun m y => max m (f y)) i
  | [], _ => Int.le_refl _
  | x :: p, i => by
    simp only [List.foldl_cons]
    have := fold_ge f p (max i (f x))
    omega
theorem mem_fold {α : Type} (f : α → Int) : (p : List α) → (i : Int) → (y : α) → y ∈ p → f y ≤ p.foldl (fun m y => max m (f y)) i
  | [], _, y, h => by cases h
  | x :: p, i, y, h => by
    simp only [List.foldl_cons]
    rcases List.mem_cons.1 h with rfl | h
    · have := fold_ge f p (max i (f y))
      omega
    · exact mem_fold f p _ y h

theorem fit_le : (n : Nat) → (x : Tm n) → (m : Nat) → (t : Tm m) → (b c : List An) → noV n x = true → fit n x m t b = some c → sz n x ≤ sz m t ∧ dep n x ≤ dep m t
  | 0, _, _, _, _, _, _, h => by simp [fit] at h
  | _ + 1, _, 0, _, _, _, _, h => by simp [fit] at h
  | n + 1, x, m + 1, t, b, c, hv, h => by
    have s0 := (sz_bound (m + 1) t).1
    have d0 := (dep_bound (m + 1) t).1
    simp only [noV, Bool.and_eq_true, List.all_eq_true] at hv
    have h5 : ¬ x.1.1 = 5 := by simpa using hv.1
    by_cases h4 : x.1.1 = 4
    · have h6 : ¬ x.1.1 = 6 := by omega
      simp only [fit, if_neg h6, if_neg h5, if_pos h4] at h
      split at h
      · rename_i htl
        have each := fitL_each _ _ b c h
        have key : ∀ (i : Nat) (y : Tm n) (z : Tm m), x.2.2[i]? = some y → t.2.2[i]? = some z → sz n y ≤ sz m z ∧ dep n y ≤ dep m z := fun i y z hy hz => by
          obtain ⟨b1, c1, h1⟩ := each i y z hy hz
          exact fit_le n y m z b1 c1 (hv.2 y (List.mem_of_getElem? hy)) h1
        have k1 := sum_le (fun y => 1 + sz n y) (fun y => 1 + sz m y) x.2.2 t.2.2 htl.2 fun i y z hy hz => by have := key i y z hy hz; omega
        have k2 := fold_le (fun y => dep n y) (fun y => dep m y) x.2.2 t.2.2 0 0 (Int.le_refl _) htl.2 fun i y z hy hz => (key i y z hy hz).2
        simp only [sz, dep, if_pos h4, if_pos htl.1]
        omega
      · cases h
    · simp only [sz, dep, if_neg h4]
      simp only [sz, dep] at s0 d0
      exact ⟨s0, d0⟩

theorem fit_closed : (n : Nat) → (x : Tm n) → (m : Nat) → (t : Tm m) → (b c : List An) → closedT n x = true → RightA ⟨n, x⟩ → RightA ⟨m, t⟩ → fit n x m t b = some c → same n x m t = true
  | 0, _, _, _, _, _, _, _, _, h => by simp [fit] at h
  | _ + 1, _, 0, _, _, _, _, _, _, h => by simp [fit] at h
  | n + 1, x, m + 1, t, b, c, hc, rx, rt, h => by
    obtain ⟨c5, c6, cp⟩ := closed_parts hc
    simp only [fit, if_neg c6, if_neg c5] at h
    split at h
    · rename_i h4
      split at h
      · rename_i htl
        have each := fitL_each _ _ b c h
        have gx := good_parts (hdOf n x) (rx (hdOf n x) (by simp [nodes, hdOf]))
        have gt := good_parts (hdOf m t) (rt (hdOf m t) (by simp [nodes, hdOf]))
        have hx2 : x.1.2.2.toList = [] := gx.1 (by show x.1.1 ≠ 2; omega)
        have ht2 : t.1.2.2.toList = [] := gt.1 (by show t.1.1 ≠ 2; omega)
        have hx1 : x.1.2.1 = 0 := gx.2.2.1 h4
        have ht1 : t.1.2.1 = 0 := gt.2.2.1 htl.1
        refine same_mk (Prod.ext (h4.trans htl.1.symm) (Prod.ext (hx1.trans ht1.symm) (bytes_eq (by rw [hx2, ht2]; rfl)))) ?_
        have key : ∀ (p : List (Tm n)) (q : List (Tm m)), p.length = q.length → (∀ (i : Nat) (y : Tm n) (z : Tm m), p[i]? = some y → q[i]? = some z → same n y m z = true) → sameL (fun a b => same n a m b) p q = true := by
          intro p
          induction p with
          | nil => intro q hl _; cases q with
            | nil => rfl
            | cons _ _ => simp at hl
          | cons y p ih => intro q hl hk; cases q with
            | nil => simp at hl
            | cons z q =>
              simp only [sameL, Bool.and_eq_true]
              exact ⟨hk 0 y z (by simp) (by simp), ih q (by simpa using hl) fun i y' z' hy hz => hk (i + 1) y' z' (by simpa using hy) (by simpa using hz)⟩
        exact key _ _ htl.2 fun i y z hy hz => by
          obtain ⟨b1, c1, h1⟩ := each i y z hy hz
          exact fit_closed n y m z b1 c1 (cp y (List.mem_of_getElem? hy)) (parts_right n x y rx (List.mem_of_getElem? hy)) (parts_right m t z rt (List.mem_of_getElem? hz)) h1
      · cases h
    · split at h
      · rename_i hs; exact hs
      · cases h

theorem chk_zero {n : Nat} {x : Tm n} : chk n x = 0 ↔ formedB n x = true ∧ dep n x ≤ 12 ∧ sz n x ≤ 200 := by
  rw [← tchk_chk]
  unfold tchk
  constructor
  · intro h
    split at h
    · rename_i hf
      split at h
      · cases h
      · rename_i hd
        exact ⟨hf, by omega, by omega⟩
    · cases h
  · rintro ⟨h1, h2, h3⟩
    rw [if_pos h1, if_neg (by omega)]

/-- What may be bound. -/
def OkA (a : An) : Prop := chk a.1 a.2 = 0 ∧ (kindA a = 6 ∨ closedT a.1 a.2 = true)
theorem parts_ok : Parts OkA := by
  intro n x y h hy
  obtain ⟨h1, h2⟩ := h
  obtain ⟨f1, f2, f3⟩ := chk_zero.1 h1
  have hr : RightA ⟨n + 1, x⟩ := right_formed.2 f1
  have gx := good_parts (hdOf n x) (hr (hdOf n x) (by simp [nodes, hdOf]))
  have h4 : x.1.1 = 4 := by
    by_cases h4 : x.1.1 = 4
    · exact h4
    · have : x.2.2 = [] := List.eq_nil_of_length_eq_zero (gx.2.2.2.2 h4)
      rw [this] at hy
      cases hy
  have hs := mem_sum (fun y => 1 + sz n y) (fun y => by have := (sz_bound n y).1; omega) x.2.2 y hy
  have hd := mem_fold (fun y => dep n y) x.2.2 0 y hy
  simp only [sz, dep, if_pos h4] at f2 f3
  refine ⟨chk_zero.2 ⟨right_formed.1 (parts_right n x y hr hy), by simp only at hd ⊢; omega, by simp only at hs ⊢; omega⟩, Or.inr ?_⟩
  rcases h2 with h2 | h2
  · simp only [kindA] at h2; omega
  · exact (closed_parts h2).2.2 y hy
theorem tells_bnd {D : Nat} {l : List (Tm D)} {c : List An} (h : ∀ y ∈ c, OkA y) (hl : l.length = 4) (hc : c.length = 4) (ht : Tells4 D l c) : bndB D l = true := by
  unfold bndB
  rw [hl]
  simp only [decide_true, Bool.true_and, List.all_eq_true]
  intro y hy
  obtain ⟨i, hi⟩ := List.getElem?_of_mem hy
  have hlt : i < c.length := by have := (List.getElem?_eq_some_iff.1 hi).1; omega
  obtain ⟨y', hy', hs, _⟩ := ht i c[i] (List.getElem?_eq_getElem hlt)
  rw [hi] at hy'
  obtain rfl := Option.some.inj hy'
  obtain ⟨k1, k2⟩ := h c[i] (List.getElem_mem _)
  unfold okB
  rw [same_chk hs, k1, same_kind hs, ← closed_eq, same_closed _ _ _ _ hs]
  rcases k2 with k2 | k2
  · have : kindA (⟨(c[i]).1, (c[i]).2⟩ : An) = 6 := k2
    rw [this]; rfl
  · rw [k2]; simp

/-- All that the statement asks. -/
theorem put_all {D n m : Nat} {l : List (Tm D)} {p : Tm n} {t : Tm m} {b c : List An} (hf : fit n p m t b = some c) (hp : chk n p = 0) (ht : chk m t = 0) (hc : closedT m t = true) (hd : Tells4 D l c) {X : Tm (D + n)} (hX : PutR D l n p X) :
    chk (D + n) X = 0 ∧ (∀ e, fit (D + n) X m t e = some e) ∧ (closedB (D + n) X = true → same (D + n) X m t = true) := by
  obtain ⟨p1, _, _⟩ := chk_zero.1 hp
  obtain ⟨t1, t2, t3⟩ := chk_zero.1 ht
  have key := fun e => fit_put D l c hd e n p m t b c hf (Ext.refl _) hc (right_formed.2 t1) (right_formed.2 p1) X hX
  obtain ⟨k1, k2, k3⟩ := key []
  obtain ⟨l1, l2⟩ := fit_le _ X _ t _ _ k2 k1
  refine ⟨chk_zero.2 ⟨k3, by omega, by omega⟩, fun e => (key e).1, fun hcl => ?_⟩
  rw [← closed_eq] at hcl
  exact fit_closed _ X _ t _ _ hcl (right_formed.2 k3) (right_formed.2 t1) k1
end Go.Proofs.Ytfaoeccnhbcjgab
