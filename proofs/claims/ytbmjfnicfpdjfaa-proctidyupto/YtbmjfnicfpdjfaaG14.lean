/- What is proved here: plain facts and contracts that the claimed theorem stands on, several texts in one: plain facts on patterns without variables that fit: they are no greater than what fits, and the same where they are closed; and on what is bound then. No condition. plain facts on a pattern with what is bound put in: how the row of its parts grows. No condition. a law for a call of put inside a region that draws its order: by its contract. No condition. the statements' own put, of a right pattern and four right terms that lie in memory: it returns the pattern with what is bound put in, in memory that was there ahead of it or is new; it turns no memory that was there. No other condition. slices.Repeat of one term: so many of it, in new memory. Condition: at most eight. slices.Repeat of one term, at most eight times: so many of it, in new memory; the statements' own free(): four wild terms, in new memory. No other condition. the small terms that the statements make for themselves (num, word, two): what they return, and that it lies in new memory. No condition. plain facts for MatchBinds: what match.Fits tells of what is bound; the small pattern, and that it fits. No condition. proc.nothingBound: four terms that bind nothing, in new memory. No condition. -/
import Derived.Test.YtbmjfnicfpdjfaaG13
import Derived.Deep.RegionLaw
import Derived.Deep.AppendLies
import Derived.Test.YtbmjfnicfpdjfaaG06
import Derived.Laws.CopyRow
import Derived.Deep.RegionHeld3
import Derived.Test.YtbmjfnicfpdjfaaG01
import Derived.Handy
import Derived.Test.YtbmjfnicfpdjfaaG08
namespace Go.Proofs.Ytbmjfnicfpdjfaa
open Go.RowKit

theorem fitL_each {n m : Nat} : (p : List (Tm n)) → (q : List (Tm m)) → (b c : List An) → fitL (fun x y b => fit n x m y b) p q b = some c → ∀ (i : Nat) (x : Tm n) (y : Tm m), p[i]? = some x → q[i]? = some y → ∃ b1 c1, fit n x m y b1 = some c1
  | [], _, _, _, _, i, x, y, hx, _ => by simp at hx
  | _ :: _, [], _, _, _, i, x, y, _, hy => by simp at hy
  | x :: p, y :: q, b, c, h, i, x', y', hx, hy => by
    simp only [fitL] at h
    obtain ⟨d, h1, h2⟩ := Option.bind_eq_some_iff.1 h
    cases i with
    | zero =>
      simp at hx hy
      subst hx hy
      exact ⟨b, d, h1⟩
    | succ i => exact fitL_each p q d c h2 i x' y' (by simpa using hx) (by simpa using hy)
theorem sum_le {α β : Type} (f : α → Int) (g : β → Int) : (p : List α) → (q : List β) → p.length = q.length → (∀ (i : Nat) (x : α) (y : β), p[i]? = some x → q[i]? = some y → f x ≤ g y) → (p.map f).sum ≤ (q.map g).sum
  | [], [], _, _ => by simp
  | [], _ :: _, h, _ => by simp at h
  | _ :: _, [], h, _ => by simp at h
  | x :: p, y :: q, h, hf => by
    have h0 := hf 0 x y (by simp) (by simp)
    have h1 := sum_le f g p q (by simpa using h) fun i x' y' hx hy => hf (i + 1) x' y' (by simpa using hx) (by simpa using hy)
    simp only [List.map_cons, List.sum_cons]
    omega
theorem fold_le {α β : Type} (f : α → Int) (g : β → Int) : (p : List α) → (q : List β) → (i j : Int) → i ≤ j → p.length = q.length → (∀ (i : Nat) (x : α) (y : β), p[i]? = some x → q[i]? = some y → f x ≤ g y) → p.foldl (fun m y => max m (f y)) i ≤ q.foldl (fun m y => max m (g y)) j
  | [], [], _, _, h, _, _ => h
  | [], _ :: _, _, _, _, h, _ => by simp at h
  | _ :: _, [], _, _, _, h, _ => by simp at h
  | x :: p, y :: q, i, j, hij, h, hf => by
    have h0 := hf 0 x y (by simp) (by simp)
    simp only [List.foldl_cons]
    exact fold_le f g p q _ _ (by omega) (by simpa using h) fun i x' y' hx hy => hf (i + 1) x' y' (by simpa using hx) (by simpa using hy)
theorem mem_sum {α : Type} (f : α → Int) (hf : ∀ x, 0 ≤ f x) : (p : List α) → (y : α) → y ∈ p → f y ≤ (p.map f).sum ∧ 0 ≤ (p.map f).sum
  | [], y, h => by cases h
  | x :: p, y, h => by
    have hx := hf x
    have h0 : 0 ≤ (p.map f).sum := by
      cases p with
      | nil => simp
      | cons z p => exact (mem_sum f hf (z :: p) z (by simp)).2
    simp only [List.map_cons, List.sum_cons]
    rcases List.mem_cons.1 h with rfl | h
    · omega
    · have := mem_sum f hf p y h
      omega
theorem fold_ge {α : Type} (f : α → Int) : (p : List α) → (i : Int) → i ≤ p.foldl (fun m y => max m (f y)) i
  | [], _ => Int.le_refl _
  | x :: p, i => by
    simp only [List.foldl_cons]
    have := fold_ge f p (max i (f x))
    omega
theorem mem_fold {α : Type} (f : α → Int) : (p : List α) → (i : Int) → (y : α) → y ∈ p → f y ≤ p.foldl (fun m y => max m (f y)) i
  | [], _, y, h => by cases h
  | x :: p, i, y, h => by
    simp only [List.foldl_cons]
    rcases List.mem_cons.1 h with rfl | h
    · have := fold_ge f p (max i (f y))
      omega
    · exact mem_fold f p _ y h

theorem fit_le : (n : Nat) → (x : Tm n) → (m : Nat) → (t : Tm m) → (b c : List An) → noV n x = true → fit n x m t b = some c → sz n x ≤ sz m t ∧ dep n x ≤ dep m t
  | 0, _, _, _, _, _, _, h => by simp [fit] at h
  | _ + 1, _, 0, _, _, _, _, h => by simp [fit] at h
  | n + 1, x, m + 1, t, b, c, hv, h => by
    have s0 := (sz_bound (m + 1) t).1
    have d0 := (dep_bound (m + 1) t).1
    simp only [noV, Bool.and_eq_true, List.all_eq_true] at hv
    have h5 : ¬ x.1.1 = 5 := by simpa using hv.1
    by_cases h4 : x.1.1 = 4
    · have h6 : ¬ x.1.1 = 6 := by omega
      simp only [fit, if_neg h6, if_neg h5, if_pos h4] at h
      split at h
      · rename_i htl
        have each := fitL_each _ _ b c h
        have key : ∀ (i : Nat) (y : Tm n) (z : Tm m), x.2.2[i]? = some y → t.2.2[i]? = some z → sz n y ≤ sz m z ∧ dep n y ≤ dep m z := fun i y z hy hz => by
          obtain ⟨b1, c1, h1⟩ := each i y z hy hz
          exact fit_le n y m z b1 c1 (hv.2 y (List.mem_of_getElem? hy)) h1
        have k1 := sum_le (fun y => 1 + sz n y) (fun y => 1 + sz m y) x.2.2 t.2.2 htl.2 fun i y z hy hz => by have := key i y z hy hz; omega
        have k2 := fold_le (fun y => dep n y) (fun y => dep m y) x.2.2 t.2.2 0 0 (Int.le_refl _) htl.2 fun i y z hy hz => (key i y z hy hz).2
        simp only [sz, dep, if_pos h4, if_pos htl.1]
        omega
      · cases h
    · simp only [sz, dep, if_neg h4]
      simp only [sz, dep] at s0 d0
      exact ⟨s0, d0⟩

theorem fit_closed : (n : Nat) → (x : Tm n) → (m : Nat) → (t : Tm m) → (b c : List An) → closedT n x = true → RightA ⟨n, x⟩ → RightA ⟨m, t⟩ → fit n x m t b = some c → same n x m t = true
  | 0, _, _, _, _, _, _, _, _, h => by simp [fit] at h
  | _ + 1, _, 0, _, _, _, _, _, _, h => by simp [fit] at h
  | n + 1, x, m + 1, t, b, c, hc, rx, rt, h => by
    obtain ⟨c5, c6, cp⟩ := closed_parts hc
    simp only [fit, if_neg c6, if_neg c5] at h
    split at h
    · rename_i h4
      split at h
      · rename_i htl
        have each := fitL_each _ _ b c h
        have gx := good_parts (hdOf n x) (rx (hdOf n x) (by simp [nodes, hdOf]))
        have gt := good_parts (hdOf m t) (rt (hdOf m t) (by simp [nodes, hdOf]))
        have hx2 : x.1.2.2.toList = [] := gx.1 (by show x.1.1 ≠ 2; omega)
        have ht2 : t.1.2.2.toList = [] := gt.1 (by show t.1.1 ≠ 2; omega)
        have hx1 : x.1.2.1 = 0 := gx.2.2.1 h4
        have ht1 : t.1.2.1 = 0 := gt.2.2.1 htl.1
        refine same_mk (Prod.ext (h4.trans htl.1.symm) (Prod.ext (hx1.trans ht1.symm) (bytes_eq (by rw [hx2, ht2]; rfl)))) ?_
        have key : ∀ (p : List (Tm n)) (q : List (Tm m)), p.length = q.length → (∀ (i : Nat) (y : Tm n) (z : Tm m), p[i]? = some y → q[i]? = some z → same n y m z = true) → sameL (fun a b => same n a m b) p q = true := by
          intro p
          induction p with
          | nil => intro q hl _; cases q with
            | nil => rfl
            | cons _ _ => simp at hl
          | cons y p ih => intro q hl hk; cases q with
            | nil => simp at hl
            | cons z q =>
              simp only [sameL, Bool.and_eq_true]
              exact ⟨hk 0 y z (by simp) (by simp), ih q (by simpa using hl) fun i y' z' hy hz => hk (i + 1) y' z' (by simpa using hy) (by simpa using hz)⟩
        exact key _ _ htl.2 fun i y z hy hz => by
          obtain ⟨b1, c1, h1⟩ := each i y z hy hz
          exact fit_closed n y m z b1 c1 (cp y (List.mem_of_getElem? hy)) (parts_right n x y rx (List.mem_of_getElem? hy)) (parts_right m t z rt (List.mem_of_getElem? hz)) h1
      · cases h
    · split at h
      · rename_i hs; exact hs
      · cases h

theorem chk_zero {n : Nat} {x : Tm n} : chk n x = 0 ↔ formedB n x = true ∧ dep n x ≤ 12 ∧ sz n x ≤ 200 := by
  rw [← tchk_chk]
  unfold tchk
  constructor
  · intro h
    split at h
    · rename_i hf
      split at h
      · cases h
      · rename_i hd
        exact ⟨hf, by omega, by omega⟩
    · cases h
  · rintro ⟨h1, h2, h3⟩
    rw [if_pos h1, if_neg (by omega)]

/-- What may be bound. -/
def OkA (a : An) : Prop := chk a.1 a.2 = 0 ∧ (kindA a = 6 ∨ closedT a.1 a.2 = true)
theorem parts_ok : Parts OkA := by
  intro n x y h hy
  obtain ⟨h1, h2⟩ := h
  obtain ⟨f1, f2, f3⟩ := chk_zero.1 h1
  have hr : RightA ⟨n + 1, x⟩ := right_formed.2 f1
  have gx := good_parts (hdOf n x) (hr (hdOf n x) (by simp [nodes, hdOf]))
  have h4 : x.1.1 = 4 := by
    by_cases h4 : x.1.1 = 4
    · exact h4
    · have : x.2.2 = [] := List.eq_nil_of_length_eq_zero (gx.2.2.2.2 h4)
      rw [this] at hy
      cases hy
  have hs := mem_sum (fun y => 1 + sz n y) (fun y => by have := (sz_bound n y).1; omega) x.2.2 y hy
  have hd := mem_fold (fun y => dep n y) x.2.2 0 y hy
  simp only [sz, dep, if_pos h4] at f2 f3
  refine ⟨chk_zero.2 ⟨right_formed.1 (parts_right n x y hr hy), by simp only at hd ⊢; omega, by simp only at hs ⊢; omega⟩, Or.inr ?_⟩
  rcases h2 with h2 | h2
  · simp only [kindA] at h2; omega
  · exact (closed_parts h2).2.2 y hy
theorem tells_bnd {D : Nat} {l : List (Tm D)} {c : List An} (h : ∀ y ∈ c, OkA y) (hl : l.length = 4) (hc : c.length = 4) (ht : Tells4 D l c) : bndB D l = true := by
  unfold bndB
  rw [hl]
  simp only [decide_true, Bool.true_and, List.all_eq_true]
  intro y hy
  obtain ⟨i, hi⟩ := List.getElem?_of_mem hy
  have hlt : i < c.length := by have := (List.getElem?_eq_some_iff.1 hi).1; omega
  obtain ⟨y', hy', hs, _⟩ := ht i c[i] (List.getElem?_eq_getElem hlt)
  rw [hi] at hy'
  obtain rfl := Option.some.inj hy'
  obtain ⟨k1, k2⟩ := h c[i] (List.getElem_mem _)
  unfold okB
  rw [same_chk hs, k1, same_kind hs, ← closed_eq, same_closed _ _ _ _ hs]
  rcases k2 with k2 | k2
  · have : kindA (⟨(c[i]).1, (c[i]).2⟩ : An) = 6 := k2
    rw [this]; rfl
  · rw [k2]; simp

/-- All that the statement asks. -/
theorem put_all {D n m : Nat} {l : List (Tm D)} {p : Tm n} {t : Tm m} {b c : List An} (hf : fit n p m t b = some c) (hp : chk n p = 0) (ht : chk m t = 0) (hc : closedT m t = true) (hd : Tells4 D l c) {X : Tm (D + n)} (hX : PutR D l n p X) :
    chk (D + n) X = 0 ∧ (∀ e, fit (D + n) X m t e = some e) ∧ (closedB (D + n) X = true → same (D + n) X m t = true) := by
  obtain ⟨p1, _, _⟩ := chk_zero.1 hp
  obtain ⟨t1, t2, t3⟩ := chk_zero.1 ht
  have key := fun e => fit_put D l c hd e n p m t b c hf (Ext.refl _) hc (right_formed.2 t1) (right_formed.2 p1) X hX
  obtain ⟨k1, k2, k3⟩ := key []
  obtain ⟨l1, l2⟩ := fit_le _ X _ t _ _ k2 k1
  refine ⟨chk_zero.2 ⟨k3, by omega, by omega⟩, fun e => (key e).1, fun hcl => ?_⟩
  rw [← closed_eq] at hcl
  exact fit_closed _ X _ t _ _ hcl (right_formed.2 k3) (right_formed.2 t1) k1
end Go.Proofs.Ytbmjfnicfpdjfaa
namespace Go.Proofs.Ytbmjfnicfpdjfaa
open Go.RowKit

theorem In.offAll {B : Nat} {w : World} : {n : Nat} → {x : Tm n} → In B w n x → Off (fun b => b < B) n x
  | 0, _, k => k
  | _ + 1, _, k => by
    obtain ⟨_, k1⟩ := k
    rcases k1 with k1 | ⟨b, o, e, hb, k1⟩
    · exact Or.inl k1
    · exact Or.inr ⟨b, o, e, hb, fun i y hy => (k1 i y hy).2.offAll⟩
theorem val_lift (N n : Nat) (x : Tm (n + 1)) : val (N + 1) (lift (N + 1) (n + 1) x) = val (n + 1) x := by simp [val, lift]

theorem alloc_old (w : World) (o : Obj) {b : Nat} (h : b < w.heap.size) : (w.alloc o).heap[b]? = w.heap[b]? := (World.grownBy_alloc w o none).block b h (by simp)
/-- A box of the call's own. -/
def Box4 (q : Nat) (v0 v1 v2 v3 : Value) (w : World) : Prop := w.heap[q]? = some (.cells #[v0, v1, v2, v3] 25)
theorem Box4.cells {q : Nat} {v0 v1 v2 v3 : Value} {w : World} (h : Box4 q v0 v1 v2 v3 w) :
    (w.cell? ⟨q, 0, none⟩ = some v0 ∧ w.cell? ⟨q, 1, none⟩ = some v1 ∧ w.cell? ⟨q, 2, none⟩ = some v2 ∧ w.cell? ⟨q, 3, none⟩ = some v3) ∧ ∀ j, w.frozen? ⟨q, j, none⟩ = false := by
  unfold Box4 at h
  refine ⟨⟨?_, ?_, ?_, ?_⟩, fun j => ?_⟩
  all_goals simp [World.cell?, World.frozen?, h]
theorem Box4.lt {q : Nat} {v0 v1 v2 v3 : Value} {w : World} (h : Box4 q v0 v1 v2 v3 w) : q < w.heap.size := (Array.getElem?_eq_some_iff.1 h).1
theorem Box4.set3 {q : Nat} {v0 v1 v2 v3 : Value} {w : World} (h : Box4 q v0 v1 v2 v3 w) (v : Value) : Box4 q v0 v1 v2 v (w.setCell ⟨q, 3, none⟩ v) := by
  unfold Box4 at *
  simp [World.setCell, Array.getElem?_modify, h]

/-- What a pattern's parts have come to: xs, in the row v; the box q holds it. -/
def PtP (B : Nat) (D : Nat) (l : List (Tm D)) (n : Nat) (p : List (Tm n)) (w : World) (v0 v1 v2 : Value) (k : Nat) (xs : List (Tm (D + n))) (v : Value) (wr : World) : Prop :=
  Below w.heap.size w wr ∧ Box4 (w.heap.size + 2) v0 v1 v2 v wr ∧ xs.length = k ∧ wr.ownsRow (w.heap.size + 3) 25 4 v k (ndCells (xs.map (hdT (D + n)))) ∧
  (∀ y ∈ xs, In wr.heap.size wr (D + n) y ∧ Off (fun b => (b < B ∨ w.heap.size + 2 < b) ∧ v.ownBlock ≠ some b) (D + n) y) ∧
  ∀ (i : Nat) (y : Tm n) (e : Tm (D + n)), p[i]? = some y → xs[i]? = some e → PutR D l n y e

theorem PtP.step {B D : Nat} {l : List (Tm D)} {n : Nat} {p : List (Tm n)} {w : World} {v0 v1 v2 : Value} {k : Nat} {xs : List (Tm (D + n))} {v : Value} {wr w1 w2 : World} {o o1 : Obj} {g c : Nat} (hB : B ≤ w.heap.size)
    (h : PtP B D l n p w v0 v1 v2 k xs v wr) (hb : Below (wr.alloc o).heap.size (wr.alloc o) w1) (X : Tm (D + n)) (hX : In w1.heap.size w1 (D + n) X) (hoX : Off (fun b => b < B ∨ wr.heap.size < b) (D + n) X) (x : Tm n) (hx : p[k]? = some x) (hp : PutR D l n x X)
    (hown : w2.ownsRow (w.heap.size + 3) 25 4 (.slice (some ⟨g, 0, none⟩) (k + 1) c) (k + 1) (ndCells (xs.map (hdT (D + n))) ++ nd4 (hdT (D + n) X))) (hg : (w1.alloc o1).grownBy w2 v.ownBlock) (hat : v.ownBlock = some g ∨ g = w1.heap.size + 1) :
    PtP B D l n p w v0 v1 v2 (k + 1) (xs ++ [X]) (.slice (some ⟨g, 0, none⟩) (k + 1) c) (w2.setCell ⟨w.heap.size + 2, 3, none⟩ (.slice (some ⟨g, 0, none⟩) (k + 1) c)) := by
  obtain ⟨h1, h2, h3, h4, h5, h6⟩ := h
  have hs1 := h1.size
  have hs2 := h2.lt
  have hs3 := hb.size
  have es : (wr.alloc o).heap.size = wr.heap.size + 1 := by simp
  have es1 : (w1.alloc o1).heap.size = w1.heap.size + 1 := by simp
  have hb1 : Below wr.heap.size wr w1 := ((Below.refl _ _).alloc (Nat.le_refl _) o).trans (hb.mono (by omega))
  have hb1s := hb1.size
  have hgs := hg.size
  -- blocks that the append leaves: all of w1's but the row's own
  have hold : ∀ b, b < w1.heap.size → v.ownBlock ≠ some b → w2.heap[b]? = w1.heap[b]? := fun b hb hne => (hg.block b (by omega) (fun e => hne e.symm)).trans (alloc_old w1 o1 hb)
  have hvown : ∀ b, v.ownBlock = some b → w.heap.size + 3 ≤ b ∧ b < wr.heap.size := fun b e => h4.lt b e
  have hg3 : w.heap.size + 3 ≤ g := by
    rcases hat with e | e
    · exact (hvown g e).1
    · omega
  have hq : w2.heap[w.heap.size + 2]? = wr.heap[w.heap.size + 2]? := (hold _ (by omega) (fun e => by have := (hvown _ e).1; omega)).trans (hb1.block _ (by omega))
  have hbox : Box4 (w.heap.size + 2) v0 v1 v2 v w2 := hq.trans h2
  have hset : ∀ b, b ≠ w.heap.size + 2 → (w2.setCell ⟨w.heap.size + 2, 3, none⟩ (.slice (some ⟨g, 0, none⟩) (k + 1) c)).heap[b]? = w2.heap[b]? := fun b hne => by
    have : w.heap.size + 2 ≠ b := fun e => hne e.symm
    simp [World.setCell, Array.getElem?_modify, this]
  have hsz : (w2.setCell ⟨w.heap.size + 2, 3, none⟩ (.slice (some ⟨g, 0, none⟩) (k + 1) c)).heap.size = w2.heap.size := by simp [World.setCell]
  refine ⟨⟨?_, ?_, ?_, ?_, ?_⟩, hbox.set3 _, by simp [h3], ?_, ?_, ?_⟩
  · exact (hg.os.trans (hb1.os)).trans h1.os
  · exact (hg.tape.trans (hb1.tape)).trans h1.tape
  · exact (hg.output.trans (hb1.output)).trans h1.output
  · rw [hsz]; omega
  · intro b hb'
    exact (hset b (by omega)).trans ((hold b (by omega) (fun e => by have := (hvown _ e).1; omega)).trans ((hb1.block b (by omega)).trans (h1.block b hb')))
  · have e : ndCells ((xs ++ [X]).map (hdT (D + n))) = ndCells (xs.map (hdT (D + n))) ++ nd4 (hdT (D + n) X) := by simp [ndCells]
    rw [e]
    refine World.ownsRow.kept hown (row := some (w.heap.size + 2)) ⟨rfl, rfl, rfl, Nat.le_of_eq hsz.symm, fun b _ hne => hset b (fun e => hne (by rw [e]))⟩ (Or.inr ?_)
    simp only [Value.ownBlock]
    intro e
    injection e with e
    omega
  · intro y hy
    rw [hsz]
    rcases List.mem_append.1 hy with hy | hy
    · obtain ⟨k1, k2⟩ := h5 y hy
      have k4 : Off (fun b => ((b < B ∨ w.heap.size + 2 < b) ∧ v.ownBlock ≠ some b) ∧ b < wr.heap.size) (D + n) y := In.offB k2 k1
      refine ⟨?_, k4.mono fun b hb' => ⟨hb'.1.1, ?_⟩⟩
      · refine In.off (w := w1) (fun b hb' => ?_) k4 ((k1.below hb1).mono (by omega))
        exact (hset b (by have := hb'.1.1; omega)).trans (hold b (by have := hb'.2; omega) hb'.1.2)
      · simp only [Value.ownBlock]
        intro e
        injection e with e
        rcases hat with e2 | e2
        · exact hb'.1.2 (by rw [e2, e])
        · have := hb'.2
          omega
    · simp only [List.mem_singleton] at hy
      subst hy
      have k4 : Off (fun b => (b < B ∨ wr.heap.size < b) ∧ b < w1.heap.size) (D + n) y := In.offB hoX hX
      refine ⟨?_, k4.mono fun b hb' => ⟨by rcases hb'.1 with h | h <;> omega, ?_⟩⟩
      · refine In.off (w := w1) (fun b hb' => ?_) k4 (hX.mono (by omega))
        exact (hset b (by have := hb'.1; omega)).trans (hold b hb'.2 (fun e => by have := hvown _ e; have := hb'.1; omega))
      · simp only [Value.ownBlock]
        intro e
        injection e with e
        rcases hat with e2 | e2
        · have := hvown g e2
          have := hb'.1
          omega
        · have := hb'.2
          omega
  · intro i y e hy he
    by_cases hi : i < xs.length
    · rw [List.getElem?_append_left hi] at he
      exact h6 i y e hy he
    · rw [List.getElem?_append_right (by omega)] at he
      have h0 : i - xs.length = 0 := by
        by_cases h0 : i - xs.length = 0
        · exact h0
        · rw [List.getElem?_eq_none (by simp; omega)] at he; cases he
      rw [h0] at he
      have e1 : X = e := by simpa using he
      have e2 : i = k := by omega
      rw [e2, hx] at hy
      obtain rfl := Option.some.inj hy
      rw [← e1]
      exact hp
end Go.Proofs.Ytbmjfnicfpdjfaa
namespace Go.Proofs.Ytbmjfnicfpdjfaa
open Go.RowKit

end Go.Proofs.Ytbmjfnicfpdjfaa
namespace Go.Proofs.Ytbmjfnicfpdjfaa
open Go.RowKit

theorem three_boxes (w : World) (a b c : Obj) : (((w.alloc a).alloc b).alloc c).heap[w.heap.size + 1]? = some b ∧ (((w.alloc a).alloc b).alloc c).heap[w.heap.size + 2]? = some c := by
  have e1 : (w.alloc a).heap.size = w.heap.size + 1 := by simp
  have e2 : ((w.alloc a).alloc b).heap.size = w.heap.size + 2 := by simp
  have h1 := heap_alloc_new (w.alloc a) b
  have h2 := heap_alloc_new ((w.alloc a).alloc b) c
  rw [e1] at h1
  rw [e2] at h2
  exact ⟨(alloc_old _ _ (by omega)).trans h1, h2⟩
theorem own_box1 {w w1 : World} {o o1 : Obj} {base e size : Nat} {v : Value} {n : Nat} {xs : List Value} (h : w.ownsRow base e size v n xs) (hb : Below (w.alloc o).drew.heap.size (w.alloc o).drew w1) : (w1.alloc o1).ownsRow base e size v n xs :=
  (own_below (own_below h (((Below.refl _ _).alloc (Nat.le_refl _) o).trans ((below_undrew hb).mono (by simp)))) (Below.refl _ _)).alloc o1
theorem four_news (w : World) (x : Nd) : ∀ j u, (nd4 x)[j]? = some u → (w.alloc (.cells #[.int .i64 x.1.1, .int .i64 x.1.2.1, .string x.1.2.2, .slice x.2.1 x.2.2.1 x.2.2.2] 25)).cell? ((⟨w.heap.size, 0, none⟩ : Addr).add j) = some u := by
  intro j u hj
  rw [add_none]
  have : j < 4 := (List.getElem?_eq_some_iff.1 hj).1
  have h4 : j = 0 ∨ j = 1 ∨ j = 2 ∨ j = 3 := by omega
  rcases h4 with rfl | rfl | rfl | rfl <;> simp [nd4] at hj <;> subst hj <;> simp [go_sem]
theorem nd4_one (x : Nd) : ∀ u ∈ nd4 x, u.oneCell' = true := by
  intro u hu
  simp [nd4] at hu
  rcases hu with rfl | rfl | rfl | rfl <;> rfl

theorem box_drew {w w' : World} {v0 v1 v2 v3 : Value} {t : TypeId} (hb : Below (w.alloc (.cells #[v0, v1, v2, v3] t)).drew.heap.size (w.alloc (.cells #[v0, v1, v2, v3] t)).drew w') :
    w'.cell? ⟨w.heap.size, 0, none⟩ = some v0 ∧ w'.cell? ⟨w.heap.size, 1, none⟩ = some v1 ∧ w'.cell? ⟨w.heap.size, 2, none⟩ = some v2 ∧ w'.cell? ⟨w.heap.size, 3, none⟩ = some v3 := (boxed (below_undrew hb)).1
theorem put_q3 {w w1 : World} {o : Obj} {q : Nat} {v : Value} (h : w.cell? ⟨q, 3, none⟩ = some v) (hq : q < w.heap.size) (hb : Below (w.alloc o).drew.heap.size (w.alloc o).drew w1) : w1.cell? ⟨q, 3, none⟩ = some v := by
  have hb1 : Below w.heap.size w w1 := ((Below.refl _ _).alloc (Nat.le_refl _) o).trans ((below_undrew hb).mono (by simp))
  exact (below_cells hb1 q 3 hq).trans h
theorem put_f3 {w w1 : World} {o : Obj} {q : Nat} (h : w.frozen? ⟨q, 3, none⟩ = false) (hq : q < w.heap.size) (hb : Below (w.alloc o).drew.heap.size (w.alloc o).drew w1) : w1.frozen? ⟨q, 3, none⟩ = false := by
  have hb1 : Below w.heap.size w w1 := ((Below.refl _ _).alloc (Nat.le_refl _) o).trans ((below_undrew hb).mono (by simp))
  exact (hb1.frozen (p := ⟨q, 3, none⟩) hq).trans h
theorem put_lt {w w1 : World} {o : Obj} {q : Nat} (hq : q < w.heap.size) (hb : Below (w.alloc o).drew.heap.size (w.alloc o).drew w1) : q < w1.heap.size := by
  have := hb.size
  have e : (w.alloc o).drew.heap.size = w.heap.size + 1 := by simp [World.drew]
  omega
theorem put_rb {w0 w w1 w2 : World} {o o1 : Obj} {e size : Nat} {v v0 v1 v2 v3 : Value} {n : Nat} {xs : List Value} (h0 : Box4 (w0.heap.size + 1) v0 v1 v2 v3 w) (h : w.ownsRow (w0.heap.size + 3) e size v n xs) (hsz : w0.heap.size + 3 ≤ w.heap.size) (hb : Below (w.alloc o).drew.heap.size (w.alloc o).drew w1) (hg : (w1.alloc o1).grownBy w2 v.ownBlock) (u : Value) :
    Box4 (w0.heap.size + 1) v0 v1 v2 v3 (w2.setCell ⟨w0.heap.size + 1 + 1, 3, none⟩ u) := by
  have hs := hb.size
  have e0 : (w.alloc o).drew.heap.size = w.heap.size + 1 := by simp [World.drew]
  have hb1 : Below w.heap.size w w1 := ((Below.refl _ _).alloc (Nat.le_refl _) o).trans ((below_undrew hb).mono (by simp))
  have h1 : w2.heap[w0.heap.size + 1]? = w.heap[w0.heap.size + 1]? := ((hg.block _ (by simp; omega) (fun e => by have := (h.lt _ e.symm).1; omega)).trans (alloc_old w1 o1 (by omega))).trans (hb1.block _ (by omega))
  have h2 : (w2.setCell ⟨w0.heap.size + 1 + 1, 3, none⟩ u).heap[w0.heap.size + 1]? = w2.heap[w0.heap.size + 1]? := by
    simp [World.setCell, Array.getElem?_modify]
  exact (h2.trans h1).trans h0
theorem put_val {w : World} {base e size : Nat} {v : Value} {n : Nat} {xs : List Value} (h : w.ownsRow base e size v n xs) : v.oneCell' = true ∧ ∃ a c, v = .slice a n c := by
  rcases h.2 with ⟨rfl, rfl⟩ | ⟨g, cap, cur, rfl, _⟩
  · exact ⟨rfl, none, 0, rfl⟩
  · exact ⟨rfl, _, _, rfl⟩
theorem put_base {w w1 : World} {o o1 : Obj} {m : Nat} (h : m ≤ w.heap.size) (hb : Below (w.alloc o).drew.heap.size (w.alloc o).drew w1) : m ≤ (w1.alloc o1).heap.size := by
  have := hb.size
  have e : (w.alloc o).drew.heap.size = w.heap.size + 1 := by simp [World.drew]
  simp
  omega

theorem put_far {w w1 w2 : World} {o o1 : Obj} {base e size : Nat} {v v0 v1 v2 v3 v4 : Value} {n : Nat} {xs : List Value} {q : Nat} (h : w.ownsRow base e size v n xs) (hq : q < w.heap.size) (hqb : q < base) (hb : Below (w.alloc o).drew.heap.size (w.alloc o).drew w1) (hg : (w1.alloc o1).grownBy w2 v.ownBlock)
    (k : w1.cell? ⟨w.heap.size, 0, none⟩ = some v0 ∧ w1.cell? ⟨w.heap.size, 1, none⟩ = some v1 ∧ w1.cell? ⟨w.heap.size, 2, none⟩ = some v2 ∧ w1.cell? ⟨w.heap.size, 3, none⟩ = some v3) (k4 : w1.cell? ⟨q, 3, none⟩ = some v4) (kf : w1.frozen? ⟨q, 3, none⟩ = false) :
    (w2.cell? ⟨w.heap.size, 0, none⟩ = some v0 ∧ w2.cell? ⟨w.heap.size, 1, none⟩ = some v1 ∧ w2.cell? ⟨w.heap.size, 2, none⟩ = some v2 ∧ w2.cell? ⟨w.heap.size, 3, none⟩ = some v3) ∧ w2.cell? ⟨q, 3, none⟩ = some v4 ∧ w2.frozen? ⟨q, 3, none⟩ = false := by
  have hs := hb.size
  have e0 : (w.alloc o).drew.heap.size = w.heap.size + 1 := by simp [World.drew]
  have hold : ∀ b, b < w1.heap.size → v.ownBlock ≠ some b → w2.heap[b]? = w1.heap[b]? := fun b hb hne => (hg.block b (by simp; omega) (fun e => hne e.symm)).trans (alloc_old w1 o1 hb)
  have h1 := hold w.heap.size (by omega) (fun e => by have := (h.lt _ e).2; omega)
  have h2 := hold q (by omega) (fun e => by have := (h.lt _ e).1; omega)
  obtain ⟨k0, k1, k2, k3⟩ := k
  exact ⟨⟨(block_cell h1 _).trans k0, (block_cell h1 _).trans k1, (block_cell h1 _).trans k2, (block_cell h1 _).trans k3⟩, (block_cell h2 _).trans k4, (World.frozen?_of_block (a := ⟨q, 3, none⟩) h2).trans kf⟩

theorem held_at {w : World} {base g c L B : Nat} {N : Nat} {l : List (Tm N)} (h : w.ownsRow base 25 4 (.slice (some ⟨g, 0, none⟩) L c) L (ndCells (l.map (hdT N)))) (k : Nat) (x : Tm N) (hx : l[k]? = some x) (hin : In B w N x) : Held w g (0 + k * 4) N x := by
  cases N with
  | zero => exact hin.elim
  | succ N => exact hd_held h k x hx
theorem put_row {B D : Nat} {l : List (Tm D)} {n : Nat} {p : Tm (n + 1)} {w w1 w' : World} {v : Value} {xs : List (Tm (D + n))} (hB : B ≤ w.heap.size) (hp : I64 p.1.1 ∧ I64 p.1.2.1 ∧ p.1.2.2.size ≤ maxLen) (h5 : ¬ p.1.1 = 5)
    (h : PtP B D l n p.2.2 w (.int .i64 p.1.1) (.int .i64 p.1.2.1) (.string p.1.2.2) p.2.2.length xs v w1) (hg : w1.grownBy w' (some (w.heap.size + 1))) :
    ∃ X : Tm (D + n + 1), .agg #[.int .i64 p.1.1, .int .i64 p.1.2.1, .string p.1.2.2, v] = val (D + n + 1) X ∧ Below w.heap.size w w' ∧ In w'.heap.size w' (D + n + 1) X ∧ Off (fun b => b < B ∨ w.heap.size ≤ b) (D + n + 1) X ∧ PutR D l (n + 1) p X := by
  obtain ⟨h1, h2, h3, h4, h6, h7⟩ := h
  have hs := h1.size
  have hgs := hg.size
  have hq := h2.lt
  have hblk : ∀ b, b < w1.heap.size → b ≠ w.heap.size + 1 → w'.heap[b]? = w1.heap[b]? := fun b hb hne => hg.block b hb (fun e => hne (Option.some.inj e))
  have hbl : Below w.heap.size w w' := ⟨hg.os.trans h1.os, hg.tape.trans h1.tape, hg.output.trans h1.output, by omega, fun b hb => (hblk b (by omega) (by omega)).trans (h1.block b hb)⟩
  have hin : ∀ y ∈ xs, In w'.heap.size w' (D + n) y ∧ Off (fun b => b < B ∨ w.heap.size ≤ b) (D + n) y := fun y hy => by
    obtain ⟨k1, k2⟩ := h6 y hy
    have k3 := In.offB k2 k1
    exact ⟨In.off (fun b hb => hblk b hb.2 (by have := hb.1.1; omega)) k3 (k1.mono hgs), k2.mono fun b hb => by have := hb.1; omega⟩
  have hput : ∀ a c, PutR D l (n + 1) p (p.1, (a, c), xs) := fun a c => by
    simp only [PutR]
    rw [if_neg h5]
    exact ⟨trivial, h3, h7⟩
  have h4' := World.ownsRow.kept h4 hg (Or.inr fun e => by have := (h4.lt _ e).1; omega)
  rcases h4'.2 with ⟨rfl, h0⟩ | ⟨g, cap, cur, hv, hgb, hh, hc, hm, _⟩
  · have hx0 : xs = [] := List.eq_nil_of_length_eq_zero (by omega)
    refine ⟨(p.1, (none, 0), xs), ?_, hbl, ⟨⟨hp.1, hp.2.1, hp.2.2, ?_, Nat.zero_le _⟩, Or.inl hx0⟩, Or.inl hx0, hput _ _⟩
    · simp [val, hx0]
    · simp [hx0]
  · subst hv
    refine ⟨(p.1, (some ⟨g, 0, none⟩, cap), xs), ?_, hbl, ⟨⟨hp.1, hp.2.1, hp.2.2, by simp only [h3]; exact hc, hm⟩, ?_⟩, ?_, hput _ _⟩
    · simp [val, h3]
    · refine Or.inr ⟨g, 0, rfl, (Array.getElem?_eq_some_iff.1 hh).1, fun i y hy => ⟨?_, (hin y (List.mem_of_getElem? hy)).1⟩⟩
      exact held_at h4' i y hy (hin y (List.mem_of_getElem? hy)).1
    · exact Or.inr ⟨g, 0, rfl, Or.inr (by omega), fun i y hy => (hin y (List.mem_of_getElem? hy)).2⟩

end Go.Proofs.Ytbmjfnicfpdjfaa
namespace Go.Proofs.Ytbmjfnicfpdjfaa
open Go.RowKit

theorem run_copy_sz {P : Program} (w : World) (dT sT ty elem : TypeId) (size g o dLen dCap : Nat) (a : Addr) (sLen sCap : Nat) (cur : Array Value) (t : TypeId) (cs : List Value) (n : Nat)
    (hu : P.underlying dT = some (.slice elem)) (hs : (P.info? elem).map (·.size) = some size)
    (hg : w.heap[g]? = some (.cells cur t (0, 0))) (hn : Nat.min sLen dLen = n) (hl : cs.length = n * size)
    (hsrc : ∀ j v, cs[j]? = some v → w.cell? (a.add j) = some v) (hfit : o + cs.length ≤ cur.size) (h1 : ∀ v ∈ cs, v.oneCell' = true) :
    (Builtin.copy_ #[dT, sT] ty #[.slice (some ⟨g, o, none⟩) dLen dCap, .slice (some a) sLen sCap]).run P w =
      .ok (goInt n) (w.setRow g (cur.toList.take o ++ cs ++ cur.toList.drop (o + cs.length)).toArray) := by
  have hld := run_loadCells_list (P := P) w a cs hsrc
  have hst := run_storeCells_at P g o t cs 0 cur w hg (by simpa using hfit) h1
  cases hq : P.info? elem with
  | none => simp [hq] at hs
  | some i =>
    have hi : i.size = size := by simpa [hq] using hs
    rw [hl] at hld
    simp [Builtin.copy_, run_underlying hu, Builtin.lenOf, Builtin.firstCells, sizeOf, typeInfo, hq, hi, hn, hld, hst]

theorem Has.row {base g k : Nat} {l : List An} {w : World} (h : Has base g k l w) (hl : l.length = k) : w.heap[g]? = some (.cells (anCells l).toArray 25 (0, 0)) := by
  obtain ⟨h1, h2⟩ := h
  rcases h2 with ⟨h2, _⟩ | ⟨g', cap, cur, hv, hg, hh, hc, hm, hz, he⟩
  · simp at h2
  · injection hv with e1 e2 e3
    injection e1 with e1
    injection e1 with e1 _
    subst e1 e3
    rw [hh, ← he, List.take_of_length_le (by rw [Array.length_toList, hz, hl]; exact Nat.le_refl _)]
theorem Has.of_row {base g k : Nat} {l : List An} {w : World} (h : w.heap[g]? = some (.cells (anCells l).toArray 25 (0, 0))) (hl : l.length = k) (hg : base ≤ g) (hk : k ≤ maxLen) : Has base g k l w := by
  refine ⟨anCells_length l, Or.inr ⟨g, k, (anCells l).toArray, rfl, hg, h, by omega, hk, by simp [anCells_length, hl], ?_⟩⟩
  rw [List.take_of_length_le (by simp [anCells_length])]
theorem ndCells_take : (l : List Nd) → (i : Nat) → (ndCells l).take (i * 4) = ndCells (l.take i)
  | [], i => by simp [ndCells]
  | x :: l, 0 => by simp [ndCells]
  | x :: l, i + 1 => by
    have e : ndCells (x :: l) = nd4 x ++ ndCells l := rfl
    have hx : (nd4 x).length = 4 := rfl
    rw [e, List.take_append, hx, List.take_of_length_le (by rw [hx]; omega), show (i + 1) * 4 - 4 = i * 4 by omega, ndCells_take l i]
    rfl
theorem ndCells_drop : (l : List Nd) → (i : Nat) → (ndCells l).drop (i * 4) = ndCells (l.drop i)
  | [], i => by simp [ndCells]
  | x :: l, 0 => by simp [ndCells]
  | x :: l, i + 1 => by
    have e : ndCells (x :: l) = nd4 x ++ ndCells l := rfl
    have hx : (nd4 x).length = 4 := rfl
    rw [e, List.drop_append, hx, List.drop_eq_nil_of_le (by rw [hx]; omega), List.nil_append, show (i + 1) * 4 - 4 = i * 4 by omega, ndCells_drop l i]
    rfl
theorem sizeTerm : (Try.prog.info? 25).map (·.size) = some 4 := by
  obtain ⟨it, h1, h2, h3, h4⟩ := info_parts infoTerm
  rw [h1]; simp [h3]

/-- A copy into a row that is owned, of terms that lie there. -/
theorem run_copy_has {base g k : Nat} {l : List An} {w : World} (h : Has base g k l w) (hl : l.length = k) (hk : k ≤ maxLen) (ty : TypeId) (i n : Nat) (xs : List An) (ad : Addr) (dLen dCap sLen sCap : Nat) (hn : Nat.min sLen dLen = n) (hx : xs.length = n) (hi : i + n ≤ k)
    (hsrc : ∀ j v, (anCells xs)[j]? = some v → w.cell? (ad.add j) = some v) :
    ∃ w', (Builtin.copy_ #[23, 23] ty #[.slice (some ⟨g, i * 4, none⟩) dLen dCap, .slice (some ad) sLen sCap]).run Try.prog w = .ok (goInt n) w' ∧ Has base g k (l.take i ++ xs ++ l.drop (i + n)) w' ∧ w.grownBy w' (some g) := by
  have hr := h.row hl
  refine ⟨_, run_copy_sz w _ _ ty 25 4 g (i * 4) dLen dCap ad sLen sCap (anCells l).toArray 25 (anCells xs) n Try.underlying23 sizeTerm hr hn (by rw [anCells_length, hx]) hsrc (by simp [anCells_length]; omega) (anCells_one _), ?_, ?_⟩
  · have e : (anCells l).take (i * 4) ++ anCells xs ++ (anCells l).drop (i * 4 + (anCells xs).length) = anCells (l.take i ++ xs ++ l.drop (i + n)) := by
      rw [anCells_append, anCells_append, anCells_length, hx, ← Nat.add_mul]
      unfold anCells
      rw [ndCells_take, ndCells_drop, List.map_take, List.map_drop]
    refine Has.of_row ?_ (by simp; omega) h.lt.1 hk
    rw [← e]
    simp [World.setRow, Array.getElem?_modify, hr]
  · exact ⟨rfl, rfl, rfl, by simp [World.setRow], fun b _ hne => by
      have : g ≠ b := fun e => hne (by rw [e])
      simp [World.setRow, Array.getElem?_modify, this]⟩

theorem wp_copy_has {w : World} {o : Oper} {a : Act} {K : Act → World → Prop} {Q : Exit → Act → World → Prop} (d s : Operand) (ho : o.op = .call { callee := .builtin .copy, args := #[d, s], argTypes := #[23, 23] })
    {base g k : Nat} {l : List An} (h : Has base g k l w) (hl : l.length = k) (hk : k ≤ maxLen) (i n : Nat) (xs : List An) (ad : Addr) (dLen dCap sLen sCap : Nat) (hd : a.eval d = .slice (some ⟨g, i * 4, none⟩) dLen dCap) (hs : a.eval s = .slice (some ad) sLen sCap) (hn : Nat.min sLen dLen = n) (hx : xs.length = n) (hi : i + n ≤ k)
    (hsrc : ∀ j v, (anCells xs)[j]? = some v → w.cell? (ad.add j) = some v)
    (hK : ∀ w', Has base g k (l.take i ++ xs ++ l.drop (i + n)) w' → w.grownBy w' (some g) → K (a.put o.dst (goInt n)) w') : o.wp Try.prog a w K Q := by
  obtain ⟨w', hr, h2, h3⟩ := run_copy_has h hl hk o.type i n xs ad dLen dCap sLen sCap hn hx hi hsrc
  unfold Oper.wp execOp
  simp only [ho, resolve, invoke, builtin, Sem.run_bind, Sem.run_pure, Result.andThen_ok, List.map_toArray, List.map_cons, List.map_nil, hd, hs, hr]
  exact hK w' h2 h3
theorem wpList_copy_has {w : World} {ops : Array Oper} {rest : List Oper} {o : Oper} {a : Act} {Q : Exit → Act → World → Prop} (hgd : o.guard = none) (d s : Operand) (ho : o.op = .call { callee := .builtin .copy, args := #[d, s], argTypes := #[23, 23] })
    {base g k : Nat} {l : List An} (h : Has base g k l w) (hl : l.length = k) (hk : k ≤ maxLen) (i n : Nat) (xs : List An) (ad : Addr) (dLen dCap sLen sCap : Nat) (hd : a.eval d = .slice (some ⟨g, i * 4, none⟩) dLen dCap) (hs : a.eval s = .slice (some ad) sLen sCap) (hn : Nat.min sLen dLen = n) (hx : xs.length = n) (hi : i + n ≤ k)
    (hsrc : ∀ j v, (anCells xs)[j]? = some v → w.cell? (ad.add j) = some v)
    (hK : ∀ w', Has base g k (l.take i ++ xs ++ l.drop (i + n)) w' → w.grownBy w' (some g) → wpList Try.prog ops Q rest (a.put o.dst (goInt n)) w') : wpList Try.prog ops Q (o :: rest) a w :=
  wpList_plain hgd fun _ hK' => wp_copy_has d s ho h hl hk i n xs ad dLen dCap sLen sCap hd hs hn hx hi hsrc fun w' h2 h3 => hK' _ _ (hK w' h2 h3)
theorem step_copy_has {w : World} {ops : Array Oper} {o : Oper} {a : Act} {K : Act → World → Prop} {Q : Exit → Act → World → Prop} {E : Prop} (hgd : o.guard = none) (d s : Operand) (ho : o.op = .call { callee := .builtin .copy, args := #[d, s], argTypes := #[23, 23] })
    {base g k : Nat} {l : List An} (h : Has base g k l w) (hl : l.length = k) (hk : k ≤ maxLen) (i n : Nat) (xs : List An) (ad : Addr) (dLen dCap sLen sCap : Nat) (hd : a.eval d = .slice (some ⟨g, i * 4, none⟩) dLen dCap) (hs : a.eval s = .slice (some ad) sLen sCap) (hn : Nat.min sLen dLen = n) (hx : xs.length = n) (hi : i + n ≤ k)
    (hsrc : ∀ j v, (anCells xs)[j]? = some v → w.cell? (ad.add j) = some v)
    (hK : ∀ w', Has base g k (l.take i ++ xs ++ l.drop (i + n)) w' → w.grownBy w' (some g) → K (a.put o.dst (goInt n)) w') :
    if Region.wanted o (yielded ops a.tmps) = true then Oper.wp Try.prog o a w K Q else E := by
  have hw : Region.wanted o (yielded ops a.tmps) = true := by simp [Region.wanted, hgd]
  rw [if_pos hw]
  exact wp_copy_has d s ho h hl hk i n xs ad dLen dCap sLen sCap hd hs hn hx hi hsrc hK

theorem rep_first (k : Nat) (x : An) : (List.replicate k zA).take 0 ++ [x] ++ (List.replicate k zA).drop (0 + 1) = List.replicate 1 x ++ List.replicate (k - 1) zA := by simp [List.drop_replicate]
theorem rep_more (k n m : Nat) (x : An) : (List.replicate n x ++ List.replicate (k - n) zA).take n ++ List.replicate m x ++ (List.replicate n x ++ List.replicate (k - n) zA).drop (n + m) = List.replicate (n + m) x ++ List.replicate (k - (n + m)) zA := by
  rw [List.take_append, List.drop_append]
  simp [List.drop_replicate]
  rw [show k - n - m = k - (n + m) by omega]
end Go.Proofs.Ytbmjfnicfpdjfaa
namespace Go.Proofs.Ytbmjfnicfpdjfaa
open Go.RowKit

theorem rep_start (k : Nat) {w w1 : World} (h : w1.ownsRow w.heap.size 25 4 (.slice (some ⟨w.heap.size, 0, none⟩) k k) k (madeCells (Value.agg #[.int .i64 0, .int .i64 0, .string .empty, .slice none 0 0]).cells (k * 4)).toList) : Has w.heap.size w.heap.size k (List.replicate k zA) w1 := by
  have e : (madeCells (Value.agg #[.int .i64 0, .int .i64 0, .string .empty, .slice none 0 0]).cells (k * 4)).toList = anCells (List.replicate k zA) := made_zero k
  rw [e] at h
  unfold Has
  simpa using h
theorem rep_src {base g k : Nat} {l : List An} {w : World} (h : Has base g k l w) (n : Nat) : ∀ j v, (anCells (l.take n))[j]? = some v → w.cell? ((⟨g, 0, none⟩ : Addr).add j) = some v := by
  intro j v hj
  refine World.ownsRow.cells h rfl j v ?_
  have e : anCells (l.take n) = (anCells l).take (n * 4) := by unfold anCells; rw [ndCells_take, List.map_take]
  rw [e] at hj
  rw [List.getElem?_take] at hj
  split at hj
  · exact hj
  · cases hj

theorem rep_below {w w0 : World} (h : w.grownBy w0 none) : Below w.heap.size w w0 := ⟨h.os, h.tape, h.output, h.size, fun k hk => h.block k hk (by simp)⟩
theorem rep_kept {w w0 : World} {pb po : Nat} {x : An} (h : Below w.heap.size w w0) (hpb : pb < w.heap.size) (hx : ∀ j v, (anCells [x])[j]? = some v → w.cell? ((⟨pb, po, none⟩ : Addr).add j) = some v) : ∀ j v, (anCells [x])[j]? = some v → w0.cell? ((⟨pb, po, none⟩ : Addr).add j) = some v := fun j v hj => by
  have := hx j v hj
  rw [Addr.add_lit] at this ⊢
  exact (below_cells h pb _ hpb).trans this

theorem rep_take (n m k : Nat) (x : An) (h : m ≤ n) : (List.replicate n x ++ List.replicate k zA).take m = List.replicate m x := by
  rw [List.take_append]
  simp [List.take_replicate, Nat.min_eq_left h]
  omega

def anyA : An := ⟨1, ((6, 0, .empty), (none, 0), [])⟩
end Go.Proofs.Ytbmjfnicfpdjfaa
namespace Go.Proofs.Ytbmjfnicfpdjfaa
open Go.RowKit

theorem num_any (n : Int) (w : World) :
    Calls Try.prog 8 #[.int .i64 n] w fun e w' => e = .returned (.agg #[.int .i64 1, .int .i64 n, .string ⟨#[]⟩, .slice none 0 0]) ∧ Below w.heap.size w w' := by
  go_enter Try.func8, Try.ntmps8
  go_wp2_with fail
  exact bodyPost_ret (v := .agg #[.int .i64 1, .int .i64 n, .string ⟨#[]⟩, .slice none 0 0]) (by simp [results, Try.results8, go_sem]) rfl ⟨rfl, (Below.refl _ _).alloc (Nat.le_refl _) _⟩

theorem kword_any (s : ByteArray) (w : World) :
    Calls Try.prog 7 #[.string s] w fun e w' => e = .returned (.agg #[.int .i64 2, .int .i64 0, .string s, .slice none 0 0]) ∧ Below w.heap.size w w' := by
  go_enter Try.func7, Try.ntmps7
  go_wp2_with fail
  exact bodyPost_ret (v := .agg #[.int .i64 2, .int .i64 0, .string s, .slice none 0 0]) (by simp [results, Try.results7, go_sem]) rfl ⟨rfl, (Below.refl _ _).alloc (Nat.le_refl _) _⟩

theorem tuple_any (a : Option Addr) (l c : Nat) (w : World) :
    Calls Try.prog 6 #[.slice a l c] w fun e w' => e = .returned (.agg #[.int .i64 4, .int .i64 0, .string ⟨#[]⟩, .slice a l c]) ∧ Below w.heap.size w w' := by
  go_enter Try.func6, Try.ntmps6
  go_wp2_with fail
  exact bodyPost_ret (v := .agg #[.int .i64 4, .int .i64 0, .string ⟨#[]⟩, .slice a l c]) (by simp [results, Try.results6, go_sem]) rfl ⟨rfl, (Below.refl _ _).alloc (Nat.le_refl _) _⟩

def numT (n : Int) : Tm 1 := ((1, n, ⟨#[]⟩), (none, 0), [])
def wordT (s : ByteArray) : Tm 1 := ((2, 0, s), (none, 0), [])
def twoT (g : Nat) : Tm 2 := ((4, 0, ⟨#[]⟩), (some ⟨g, 0, none⟩, 2), [wordT ⟨#[97]⟩, numT 5])

theorem num_in (n : Int) (h : I64 n) (B : Nat) (w : World) : In B w 1 (numT n) := ⟨⟨by simp [numT, I64], h, Nat.zero_le _, by simp [numT], by simp [numT]⟩, Or.inl rfl⟩
theorem word_in (s : ByteArray) (h : s.size ≤ maxLen) (B : Nat) (w : World) : In B w 1 (wordT s) := ⟨⟨by simp [wordT, I64], by simp [wordT, I64], h, by simp [wordT], by simp [wordT]⟩, Or.inl rfl⟩

theorem two_in (g B : Nat) (w : World) (hg : g < B) (t : TypeId) (fr : Nat × Nat)
    (h : w.heap[g]? = some (.cells #[.int .i64 2, .int .i64 0, .string ⟨#[97]⟩, .slice none 0 0, .int .i64 1, .int .i64 5, .string ⟨#[]⟩, .slice none 0 0] t fr)) : In B w 2 (twoT g) := by
  have hc : ∀ j, w.cell? ⟨g, j, none⟩ = #[Value.int .i64 2, .int .i64 0, .string ⟨#[97]⟩, .slice none 0 0, .int .i64 1, .int .i64 5, .string ⟨#[]⟩, .slice none 0 0][j]? := fun j => by simp [World.cell?, h]
  refine ⟨⟨by simp [twoT, I64], by simp [twoT, I64], Nat.zero_le _, by simp [twoT], by simp [twoT, maxLen]⟩, Or.inr ⟨g, 0, rfl, hg, fun i y hy => ?_⟩⟩
  match i, hy with
  | 0, hy =>
    have : wordT ⟨#[97]⟩ = y := by simpa [twoT] using hy
    subst this
    exact ⟨⟨hc 0, hc 1, hc 2, hc 3⟩, word_in _ (by show (1 : Nat) ≤ 2 ^ 63 - 1; omega) B w⟩
  | 1, hy =>
    have : numT 5 = y := by simpa [twoT] using hy
    subst this
    exact ⟨⟨hc 4, hc 5, hc 6, hc 7⟩, num_in 5 (by simp [I64]) B w⟩
  | i + 2, hy => simp [twoT] at hy

end Go.Proofs.Ytbmjfnicfpdjfaa
namespace Go.Proofs.Ytbmjfnicfpdjfaa
open Go.RowKit

theorem fit_row {b : List An} {w1 w' : World} {a : Option Addr} {c : Nat} {l : List (Tm (top b))} (h : CpRow (top b) (uni b) w1 w' a c l) (hb : ∀ y ∈ b, RightA y) (h4 : b.length = 4) :
    Lies w'.heap.size w' (top b) l a ∧ l.length = 4 ∧ Tells4 (top b) l b ∧ ∀ y ∈ l, RightA ⟨top b, y⟩ := by
  obtain ⟨k1, k2, k3, k4, k5, k6⟩ := h
  have hu : (uni b).length = 4 := by simp [uni, h4]
  have hlies : Lies w'.heap.size w' (top b) l a := by
    rcases k6 with k6 | ⟨q, o, e, hq1, hq2, k6⟩
    · exact Or.inl k6
    · exact Or.inr ⟨q, o, e, hq2, fun i y hy => ⟨(k6 i y hy).1, (k6 i y hy).2.1⟩⟩
  have ht : Tells4 (top b) l b := by
    intro i z hz
    have hi : i < l.length := by have := (List.getElem?_eq_some_iff.1 hz).1; omega
    have hzu : (uni b)[i]? = some (lift (top b) z.1 z.2) := by simp [uni, hz]
    have hs := sameL_at _ _ _ k5 i l[i] _ (List.getElem?_eq_getElem hi) hzu
    have hls := lift_same (top b) z.1 (top_le b z (List.mem_of_getElem? hz)) z.2 (hb z (List.mem_of_getElem? hz))
    have hs2 := same_trans _ _ _ _ _ _ hs hls
    exact ⟨l[i], List.getElem?_eq_getElem hi, hs2, right_formed.2 (by rw [same_formed _ _ _ _ hs2]; exact right_formed.1 (hb z (List.mem_of_getElem? hz)))⟩
  refine ⟨hlies, by omega, ht, fun y hy => ?_⟩
  obtain ⟨i, hi⟩ := List.getElem?_of_mem hy
  have hi2 : i < b.length := by have := (List.getElem?_eq_some_iff.1 hi).1; omega
  obtain ⟨y', hy', _, hr⟩ := ht i b[i] (List.getElem?_eq_getElem hi2)
  rw [hi] at hy'
  obtain rfl := Option.some.inj hy'
  exact hr

theorem sameL_of {α β : Type} (f : α → β → Bool) : (p : List α) → (q : List β) → p.length = q.length → (∀ (i : Nat) (x : α) (y : β), p[i]? = some x → q[i]? = some y → f x y = true) → sameL f p q = true
  | [], [], _, _ => rfl
  | [], _ :: _, h, _ => by simp at h
  | _ :: _, [], h, _ => by simp at h
  | x :: p, y :: q, h, hf => by
    simp only [sameL, Bool.and_eq_true]
    exact ⟨hf 0 x y (by simp) (by simp), sameL_of f p q (by simpa using h) fun i x' y' hx hy => hf (i + 1) x' y' (by simpa using hx) (by simpa using hy)⟩

/-- The wild one, four times; a variable; the small pattern. -/
def anyT : Tm 1 := ((6, 0, .empty), (none, 0), [])
def varT : Tm 1 := ((5, 0, ⟨#[]⟩), (none, 0), [])
def patT (g : Nat) : Tm 2 := ((4, 0, ⟨#[]⟩), (some ⟨g, 0, none⟩, 2), [varT, numT 5])
theorem any_in (B : Nat) (w : World) : In B w 1 anyT := ⟨⟨by simp [anyT, I64], by simp [anyT, I64], Nat.zero_le _, by simp [anyT], by simp [anyT]⟩, Or.inl rfl⟩
theorem var_in (B : Nat) (w : World) : In B w 1 varT := ⟨⟨by simp [varT, I64], by simp [varT, I64], Nat.zero_le _, by simp [varT], by simp [varT]⟩, Or.inl rfl⟩
theorem free_lies {g c base : Nat} {w : World} (h : Has base g c (List.replicate 4 anyA) w) : Lies w.heap.size w 1 (List.replicate 4 anyT) (some ⟨g, 0, none⟩) := by
  refine Or.inr ⟨g, 0, rfl, h.lt.2, fun i y hy => ?_⟩
  have hi : i < 4 := by have := (List.getElem?_eq_some_iff.1 hy).1; simpa using this
  have e : anyT = y := by rw [List.getElem?_replicate, if_pos hi] at hy; exact Option.some.inj hy
  subst e
  have hc := h.cells i anyA (by rw [List.getElem?_replicate, if_pos hi])
  rw [Nat.zero_add]
  exact ⟨hc, any_in _ _⟩
theorem pat_in (g B : Nat) (w : World) (hg : g < B) (t : TypeId) (fr : Nat × Nat)
    (h : w.heap[g]? = some (.cells #[.int .i64 5, .int .i64 0, .string ⟨#[]⟩, .slice none 0 0, .int .i64 1, .int .i64 5, .string ⟨#[]⟩, .slice none 0 0] t fr)) : In B w 2 (patT g) := by
  have hc : ∀ j, w.cell? ⟨g, j, none⟩ = #[Value.int .i64 5, .int .i64 0, .string ⟨#[]⟩, .slice none 0 0, .int .i64 1, .int .i64 5, .string ⟨#[]⟩, .slice none 0 0][j]? := fun j => by simp [World.cell?, h]
  refine ⟨⟨by simp [patT, I64], by simp [patT, I64], Nat.zero_le _, by simp [patT], by simp [patT, maxLen]⟩, Or.inr ⟨g, 0, rfl, hg, fun i y hy => ?_⟩⟩
  match i, hy with
  | 0, hy =>
    have : varT = y := by simpa [patT] using hy
    subst this
    exact ⟨⟨hc 0, hc 1, hc 2, hc 3⟩, var_in B w⟩
  | 1, hy =>
    have : numT 5 = y := by simpa [patT] using hy
    subst this
    exact ⟨⟨hc 4, hc 5, hc 6, hc 7⟩, num_in 5 (by simp [I64]) B w⟩
  | i + 2, hy => simp [patT] at hy

theorem f_var : formedB 1 varT = true := by simp [formedB, varT, good, hdOf, inB]
theorem f_num (n : Int) (h1 : -1099511627776 ≤ n) (h2 : n ≤ 1099511627776) : formedB 1 (numT n) = true := by simp [formedB, numT, good, hdOf, inB, h1, h2]
theorem f_word : formedB 1 (wordT ⟨#[97]⟩) = true := by
  have : nameB ⟨#[97]⟩ = true := by kernel_rfl
  simp [formedB, wordT, good, hdOf, this]
theorem f_any : formedB 1 anyT = true := by
  have : (ByteArray.empty).toList = [] := by rw [ByteArray.toList_eq]; rfl
  simp [formedB, anyT, good, hdOf, this]
theorem f_tup (x : Tm 2) (h1 : x.1 = (4, 0, ⟨#[]⟩)) (h2 : x.2.2.length ≤ 8) (h3 : (x.2.2.all fun y => formedB 1 y) = true) : formedB 2 x = true := by
  have hg : good (hdOf 1 x) = true := by
    have : (x.2.2.length : Int) ≤ 8 := by omega
    simp [good, hdOf, h1, this]
  show (good (hdOf 1 x) && (!(x.1.1 == 4) || x.2.2.all fun y => formedB 1 y)) = true
  rw [hg, h3]
  simp
theorem d1 (x : Tm 1) (h : x.1.1 ≠ 4) : dep 1 x = 0 ∧ sz 1 x = 0 := by simp [dep, sz, h]
theorem chk_pat (g : Nat) : chk 2 (patT g) = 0 := by
  rw [chk_zero]
  have a1 := d1 varT (by simp [varT])
  have a2 := d1 (numT 5) (by simp [numT])
  refine ⟨f_tup _ rfl (by simp [patT]) ?_, ?_, ?_⟩
  · show ([varT, numT 5].all fun y => formedB 1 y) = true
    simp only [List.all_cons, List.all_nil, f_var, f_num 5 (by decide) (by decide), Bool.and_self]
  · show 1 + [varT, numT 5].foldl (fun m y => max m (dep 1 y)) 0 ≤ 12
    simp only [List.foldl_cons, List.foldl_nil, a1.1, a2.1]; decide
  · show 1 + ([varT, numT 5].map fun y => 1 + sz 1 y).sum ≤ 200
    simp only [List.map_cons, List.map_nil, List.sum_cons, List.sum_nil, a1.2, a2.2]; decide
theorem chk_two (g : Nat) : chk 2 (twoT g) = 0 := by
  rw [chk_zero]
  have a1 := d1 (wordT ⟨#[97]⟩) (by simp [wordT])
  have a2 := d1 (numT 5) (by simp [numT])
  refine ⟨f_tup _ rfl (by simp [twoT]) ?_, ?_, ?_⟩
  · show ([wordT ⟨#[97]⟩, numT 5].all fun y => formedB 1 y) = true
    simp only [List.all_cons, List.all_nil, f_word, f_num 5 (by decide) (by decide), Bool.and_self]
  · show 1 + [wordT ⟨#[97]⟩, numT 5].foldl (fun m y => max m (dep 1 y)) 0 ≤ 12
    simp only [List.foldl_cons, List.foldl_nil, a1.1, a2.1]; decide
  · show 1 + ([wordT ⟨#[97]⟩, numT 5].map fun y => 1 + sz 1 y).sum ≤ 200
    simp only [List.map_cons, List.map_nil, List.sum_cons, List.sum_nil, a1.2, a2.2]; decide
theorem chk_any : chk 1 anyT = 0 := by
  rw [chk_zero]
  have a1 := d1 anyT (by simp [anyT])
  exact ⟨f_any, by rw [a1.1]; decide, by rw [a1.2]; decide⟩
theorem clo_two (g : Nat) : closedB 2 (twoT g) = true := by
  rw [← closed_eq]
  have a1 : closedT 1 (wordT ⟨#[97]⟩) = true := by simp [closedT, wordT]
  have a2 : closedT 1 (numT 5) = true := by simp [closedT, numT]
  show (!((4 : Int) == 5) && !((4 : Int) == 6) && [wordT ⟨#[97]⟩, numT 5].all fun y => closedT 1 y) = true
  simp only [List.all_cons, List.all_nil, a1, a2]
  rfl
theorem bnd_free : bndB 1 (List.replicate 4 anyT) = true := by
  have : okB 1 anyT = true := by
    unfold okB
    rw [chk_any]
    rfl
  unfold bndB
  simp only [List.length_replicate, decide_true, Bool.true_and, List.all_eq_true]
  intro y hy
  rw [List.eq_of_mem_replicate hy]
  exact this
def firstL : List An := [⟨1, wordT ⟨#[97]⟩⟩, ⟨1, anyT⟩, ⟨1, anyT⟩, ⟨1, anyT⟩]
theorem fit_small (g h : Nat) : fit 2 (patT g) 2 (twoT h) (anL 1 (List.replicate 4 anyT)) = some firstL := by
  have e : same 1 (numT 5) 1 (numT 5) = true := same_mk rfl rfl
  have e2 : fit 1 varT 1 (wordT ⟨#[97]⟩) (anL 1 (List.replicate 4 anyT)) = some firstL := rfl
  have e3 : fit 1 (numT 5) 1 (numT 5) firstL = some firstL := by
    show (if same 1 (numT 5) 1 (numT 5) = true then some firstL else none) = some firstL
    rw [if_pos e]
  show (fit 1 varT 1 (wordT ⟨#[97]⟩) (anL 1 (List.replicate 4 anyT))).bind (fun c => (fit 1 (numT 5) 1 (numT 5) c).bind (fun c => some c)) = some firstL
  rw [e2]
  show (fit 1 (numT 5) 1 (numT 5) firstL).bind (fun c => some c) = some firstL
  rw [e3]
  rfl
theorem first_right : ∀ y ∈ firstL, RightA y := by
  intro y hy
  simp only [firstL, List.mem_cons, List.not_mem_nil, or_false] at hy
  rcases hy with rfl | rfl | rfl | rfl
  · exact right_formed.2 f_word
  · exact right_formed.2 f_any
  · exact right_formed.2 f_any
  · exact right_formed.2 f_any
end Go.Proofs.Ytbmjfnicfpdjfaa
namespace Go.Proofs.Ytbmjfnicfpdjfaa
open Go.RowKit

set_option maxRecDepth 100000 in
set_option maxHeartbeats 1000000 in
theorem nobound_any (w : World) : Calls Try.prog 62 #[] w fun e w' => e = .returned (.slice (some ⟨w.heap.size, 0, none⟩) 4 4) ∧ Hid (CpRow 1 (List.replicate 4 anyT) w w' (some ⟨w.heap.size, 0, none⟩) 4 (List.replicate 4 anyT)) := by
  obtain ⟨it, hit, htz0, htz1, htz2⟩ := info_parts infoTerm
  go_enter Try.func62, Try.ntmps62
  go_wp2_with (at_make; refine wpList_make_full _ rfl _ _ 23 rfl w.heap.size 25 it _ 4 Try.underlying23 hit htz0 htz1 _ _ _ _ 4 rfl rfl rfl rfl (by rw [htz2]; omega) (by unfold maxLen; omega) (Nat.le_refl _) ?_; intro w0 hown0 hgrow0)
  have HS0 := hide (cp_start 1 (List.replicate 4 anyT) 4 hown0)
  have HB0 : Hid (Below w.heap.size w w0) := ⟨hgrow0.os, hgrow0.tape, hgrow0.output, hgrow0.size, fun k hk => hgrow0.block k hk (by simp)⟩
  clear hown0 hgrow0 hit htz0 htz1 htz2
  go_loopw [6] (fun i wr => ∃ k : Nat, k ≤ 4 ∧ i = .int .i64 k ∧ Hid (Below w.heap.size w wr ∧ CpP 1 (List.replicate 4 anyT) 4 w.heap.size k (List.replicate k anyT) wr)) (fun i _ => 4 - (intOf i).toNat)
  case atStart => exact ⟨0, by omega, rfl, HB0.out, HS0.out⟩
  case round =>
    obtain ⟨k, hk, rfl, HR⟩ := hrel
    clear HS0 HB0
    by_cases hlt : k < 4
    · have hx : (List.replicate 4 anyT)[k]? = some anyT := by rw [List.getElem?_replicate, if_pos hlt]
      have hin : In wr.heap.size wr 1 anyT := any_in _ _
      have hoff : Off (fun q => w.heap.size < q) 1 anyT := by simp [Off, anyT]
      have HST := hide (HR.out.2.step hlt anyT hx (Below.refl _ _) anyT hin hoff (by simp [same, anyT, sameL]))
      have HB2 : Hid (Below w.heap.size w (putNd wr w.heap.size (k * 4) (hdT 1 anyT))) := by
        have h1 := HR.out.1
        exact ⟨h1.os, h1.tape, h1.output, Nat.le_trans h1.size (Nat.le_of_eq (put4_size _ _ _ _).symm), fun q hq => (put4_block (by omega) _ _ _ _).trans (h1.block q hq)⟩
      obtain ⟨z, hz⟩ : ∃ z, ((List.replicate k anyT).map (fun x => (⟨1, x⟩ : An)) ++ List.replicate (4 - k) zA)[k]? = some z := ⟨_, List.getElem?_eq_getElem (by simp; omega)⟩
      obtain ⟨c0, c1, c2, c3⟩ := HR.out.2.2.1.cells k z hz
      have hf := fun j => HR.out.2.2.1.free j
      have hk1 : (0 : Int) ≤ (k : Int) := by omega
      have hk2 : (k : Int) < 4 := by omega
      have hk3 : (k : Int) ≤ 4 := by omega
      clear hx hin hoff hz HR
      go_wp2_with fail
      go_roundw
      case rel =>
        refine ⟨k + 1, by omega, by go_num, HB2.out, ?_⟩
        have e : List.replicate (k + 1) anyT = List.replicate k anyT ++ [anyT] := List.replicate_succ'
        rw [e]
        exact HST.out
      case measure => simp [intOf]; omega
    · obtain rfl : k = 4 := by omega
      have HD := hide (HR.out.2.done rfl (by omega) HR.out.1 (by unfold maxLen; omega))
      go_wp2_with fail
      go_ret
      exact ⟨rfl, HD.out⟩
end Go.Proofs.Ytbmjfnicfpdjfaa
