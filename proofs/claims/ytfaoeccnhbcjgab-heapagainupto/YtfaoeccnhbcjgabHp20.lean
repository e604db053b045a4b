/- What is proved here: heap.copying's one and all of words that stand for right terms, in memory: what cpF and cpL say. No condition but sizes. -/
import Derived.Test.YtfaoeccnhbcjgabHp19
namespace Go.Proofs.Ytfaoeccnhbcjgab
open Go.RowKit Go.Maps

def FOne (ws : List Wd) (nm : List ByteArray) (n : Nat) : Prop := ∀ (x : Tm n) (v : Wd) (base cb b0 : Nat) (fv : Value) (S : List Wd × Went) (M : Nat → Prop) (w : World), CpAt base cb fv S M w → w.ownsRow b0 37 2 fv ws.length (wCells ws) → (∀ b, fv.ownBlock = some b → ¬ M b) → base ≤ w.heap.size → Stands ws nm n x v → RightA ⟨n, x⟩ → ws.length ≤ 100000 → (S.1.length : Int) + sz n x ≤ 90000 → S.2.length + (nodes n x).length ≤ 90000 →
  Calls Try.prog 80 #[.pointer (some ⟨cb, 0, none⟩), wdV v] w fun e w' => e = .returned (wdV (cpF ws n v S).1) ∧ Hid (CLaid base cb fv (cpF ws n v S).2 M w w')

theorem sz_room (n : Nat) (p : List (Tm n)) (k : Nat) (x : Tm n) (hx : p[k]? = some x) : ((p.take k).map fun y => 1 + sz n y).sum + (1 + sz n x) ≤ (p.map fun y => 1 + sz n y).sum := by
  obtain ⟨hl, rfl⟩ := List.getElem?_eq_some_iff.1 hx
  have e : p = p.take k ++ p[k] :: p.drop (k + 1) := by
    rw [← List.drop_eq_getElem_cons hl, List.take_append_drop]
  have h0 : ∀ l : List (Tm n), 0 ≤ (l.map fun y => 1 + sz n y).sum := by
    intro l
    induction l with
    | nil => simp
    | cons y l ih =>
      have := (sz_bound n y).1
      simp only [List.map_cons, List.sum_cons]
      omega
  have h1 := h0 (p.drop (k + 1))
  conv => rhs; rw [e]
  simp only [List.map_append, List.sum_append, List.map_cons, List.sum_cons]
  omega
theorem StandL.take {ws : List Wd} {nm : List ByteArray} {n : Nat} {l : List Wd} {p : List (Tm n)} (h : StandL ws nm n l p) (k : Nat) : StandL ws nm n (l.take k) (p.take k) := by
  refine ⟨by simp [h.1], fun i v y hv hy => ?_⟩
  rw [List.getElem?_take] at hv hy
  split at hv
  · rename_i hi
    rw [if_pos hi] at hy
    exact h.2 i v y hv hy
  · cases hv

theorem copyall_any (ws : List Wd) (nm : List ByteArray) (n : Nat) (ih : FOne ws nm n) (vs : List Wd) (p : List (Tm n)) (base cb b0 : Nat) (fv : Value) (S : List Wd × Went) (M : Nat → Prop) (a : Option Addr) (pc : Nat) (w : World) (h : CpAt base cb fv S M w) (hrow : w.ownsRow b0 37 2 fv ws.length (wCells ws)) (hfm : ∀ b, fv.ownBlock = some b → ¬ M b) (hbw : base ≤ w.heap.size) (hst : StandL ws nm n vs p) (hr : ∀ y ∈ p, RightA ⟨n, y⟩) (hws : ws.length ≤ 100000) (hlen : vs.length ≤ 100000)
    (hz : (S.1.length : Int) + (p.map fun y => 1 + sz n y).sum ≤ 90000) (hn : S.2.length + (p.flatMap fun y => nodes n y).length ≤ 90000) (hin : WordsIn w vs a) (hoff : ∀ b o, a = some ⟨b, o, none⟩ → ¬ M b) :
    Calls Try.prog 66 #[.pointer (some ⟨cb, 0, none⟩), .slice a vs.length pc] w fun e w' => ∃ g, e = .returned (.slice (some ⟨g, 0, none⟩) vs.length vs.length) ∧ Hid (AllOut (cpF ws n) vs base cb fv S M g w w') := by
  refine copyall_loop (cpF ws n) vs base cb fv S M a vs.length pc w rfl hlen h hin hoff ?_
  intro k v hv M' w1 hc hk hM
  have hkl := (List.getElem?_eq_some_iff.1 hv).1
  obtain ⟨y, hy⟩ : ∃ y, p[k]? = some y := ⟨p[k]'(by rw [← hst.1]; exact hkl), List.getElem?_eq_getElem _⟩
  obtain ⟨s1, s2⟩ := cpL_sizes (fun x v S hh => cpF_sizes n x v S hh) (vs.take k) (p.take k) S (hst.take k)
  have r1 := sz_room n p k y hy
  have r2 := lay_room n p k y hy
  have hs := hk.size
  refine ih y v base cb b0 fv _ M' w1 hc (row_kept hrow hk fun b e => hfm b e) ?_ (by omega) (hst.2 k v y hv hy) (hr y (List.mem_of_getElem? hy)) hws (by omega) (by omega)
  intro b e hm
  rcases hM b hm with hm | hm
  · exact hfm b e hm
  · have := (hrow.lt b e).2
    omega

theorem claid_else {base cb : Nat} {fv : Value} {S : List Wd × Went} {M : Nat → Prop} {w w' : World} (h : CpAt base cb fv S M w) (hb : Below w.heap.size w w') : CLaid base cb fv S M w w' :=
  ⟨(h.later hb).mono fun _ h => Or.inl h.1, keep_below hb M⟩

theorem one_tup (ws : List Wd) (nm : List ByteArray) (n : Nat) (ih : FOne ws nm n) (ps : List (Tm n)) (p : Nat) (base cb b0 : Nat) (fv : Value) (S : List Wd × Went) (M : Nat → Prop) (w : World) (h : CpAt base cb fv S M w) (hrow : w.ownsRow b0 37 2 fv ws.length (wCells ws)) (hfm : ∀ b, fv.ownBlock = some b → ¬ M b) (hbw : base ≤ w.heap.size) (hp : ws[p]? = some (0, (ps.length : Int))) (hpl : p + 1 + ps.length ≤ ws.length) (hst : StandL ws nm n (partsOf ws p ps.length) ps) (hr : ∀ y ∈ ps, RightA ⟨n, y⟩) (h8 : ps.length ≤ 8) (hws : ws.length ≤ 100000)
    (hz : (S.1.length : Int) + (ps.map fun y => 1 + sz n y).sum ≤ 90000) (hn : S.2.length + (ps.flatMap fun y => nodes n y).length ≤ 90000) (hl : look S.2 p = none) :
    Calls Try.prog 80 #[.pointer (some ⟨cb, 0, none⟩), wdV (4, (p : Int))] w fun e w' => e = .returned (wdV (4, ((cpL (cpF ws n) (partsOf ws p ps.length) S).2.1.length : Int))) ∧
      Hid (CLaid base cb fv ((cpL (cpF ws n) (partsOf ws p ps.length) S).2.1 ++ (0, (ps.length : Int)) :: (cpL (cpF ws n) (partsOf ws p ps.length) S).1, (p, (cpL (cpF ws n) (partsOf ws p ps.length) S).2.1.length) :: (cpL (cpF ws n) (partsOf ws p ps.length) S).2.2) M w w') := by
  obtain ⟨fg, fc, hfv, _, _⟩ := hrow.form (by omega)
  have hpn := partsOf_length hpl
  obtain ⟨s1, s2⟩ := cpL_sizes (fun x v S hh => cpF_sizes n x v S hh) (partsOf ws p ps.length) ps S hst
  refine one_new base cb fv S M p _ fg ws.length fc ps.length w _ h hfv hl (by omega) ?_
  intro wD hD hDs
  subst hfv
  have hfl := (hrow.lt fg rfl).2
  have hrD : wD.ownsRow b0 37 2 (.slice (some ⟨fg, 0, none⟩) ws.length fc) ws.length (wCells ws) := own_below hrow hD
  refine (parts_any b0 fg ws.length fc p ps.length ws wD hws hrD hp hpl).mono ?_
  rintro e w' ⟨rfl, pa, pc, rfl, _, hwd, o, rfl⟩
  refine ⟨rfl, o, pc, rfl, ?_⟩
  have hin : WordsIn w' (partsOf ws p ps.length) (some ⟨fg, o, none⟩) := words_in hwd (by have := hD.size; omega)
  have hcall := copyall_any ws nm n ih (partsOf ws p ps.length) ps base cb b0 (.slice (some ⟨fg, 0, none⟩) ws.length fc) S _ (some ⟨fg, o, none⟩) pc w' (h.later hD) hrD (fun b e hm => hfm b e hm.1) (by have := hD.size; omega) hst hr hws (by omega) hz hn hin (fun b o' e hm => hfm b (by injection e with e; injection e with e; subst e; rfl) hm.1)
  rw [hpn] at hcall
  refine hcall.mono ?_
  rintro e w2 ⟨g, rfl, HO⟩
  obtain ⟨M', a1, a2, a3, a4, a5, a6⟩ := HO.out
  rw [hpn] at a6
  have hM' : ∀ b, M' b → (M b ∧ b < w.heap.size) ∨ w'.heap.size ≤ b := a3
  have hs2 := a2.size
  refine ⟨g, rfl, fun j => block_cell (a2.block _ (by omega) (fun hm => by omega)) j, ?_, ?_⟩
  · obtain ⟨tv, mb, D, k1, _⟩ := a1
    exact k1.cells.1.1
  refine (addC base cb _ _ M' (cpL (cpF ws n) (partsOf ws p ps.length) S).1 ps.length ps.length (some ⟨g, 0, none⟩) w2 a1 (by have := hD.size; omega) (by omega) (by rw [cpL_length]; exact hpn) (by omega) ?_).mono ?_
  · intro w1 hk
    exact Or.inr ⟨_, rfl, (row_kept a6 hk (fun b e => by simp only [Value.ownBlock] at e; obtain rfl := Option.some.inj e; exact a4)).cells (g := g) rfl⟩
  rintro e w3 ⟨rfl, HL⟩
  obtain ⟨b1, b2⟩ := HL.out
  have hs3 := b2.size
  have hne : ∀ b, w.heap.size ≤ b → b < w.heap.size + 2 → ¬ M' b := fun b x1 x2 hm => by
    rcases hM' b hm with k | k <;> omega
  have hblk : ∀ b, w.heap.size ≤ b → b < w.heap.size + 2 → w3.heap[b]? = w'.heap[b]? := fun b x1 x2 => (b2.block b (by omega) (hne b x1 x2)).trans (a2.block b (by omega) (fun hm => by omega))
  refine ⟨rfl, fun j => block_cell (hblk _ (Nat.le_refl _) (by omega)) j, ?_, ?_⟩
  · obtain ⟨tv, mb, D, k1, _⟩ := b1
    exact k1.cells.1.1
  have bd : Below w3.heap.size w3 w3.drew := (Below.refl _ _).drew
  have b3 := b1.kept (keep_below bd (fun _ => False)) (fun _ _ _ h => h)
  obtain ⟨mb, c1, w4, c2, c3, c4, c5, c6, c7⟩ := one_put b3 p (cpL (cpF ws n) (partsOf ws p ps.length) S).2.1.length (by omega) (by omega) (by simp only; omega)
  have hmb : ∀ b, w.heap.size ≤ b → b < w.heap.size + 2 → b ≠ mb := fun b x1 x2 e => by
    subst e
    rcases c5 with k | k
    · exact hne _ x1 x2 k
    · omega
  have hs4 := c4.size
  have es3 : w3.drew.heap.size = w3.heap.size := rfl
  have hblk4 : ∀ b, w.heap.size ≤ b → b < w.heap.size + 2 → w4.heap[b]? = w'.heap[b]? := fun b x1 x2 => (c4.block b (by omega) (hmb b x1 x2)).trans (hblk b x1 x2)
  refine ⟨mb, w4, c1, c2, fun j => block_cell (hblk4 _ (Nat.le_refl _) (by omega)) j, c7, fun hj => (hblk4 _ (by omega) (by omega)).trans hj, fun v0 v1 => ?_⟩
  have k1 := keep_set w4 (w.heap.size + 1) 0 v0
  have k2 := keep_set (w4.setCell ⟨w.heap.size + 1, 0, none⟩ v0) (w.heap.size + 1) 1 v1
  have k3 := k1.trans k2 (fun b _ h => h)
  refine ⟨(c3.kept k3 ?_).mono ?_, ?_⟩
  · rintro b (hm | hm) _ rfl
    · exact hne _ (by omega) (by omega) hm
    · omega
  · rintro b (hm | hm)
    · rcases hM' b hm with k | k
      · exact Or.inl k.1
      · exact Or.inr (by omega)
    · exact Or.inr (by omega)
  · refine (((((keep_below hD M).trans a2 ?_).trans b2 ?_).trans (keep_below bd (fun _ => False)) ?_).trans c4 ?_).trans k3 ?_
    · exact fun b _ hm => hm.1
    · intro b hb hm
      rcases hM' b hm with k | k
      · exact k.1
      · omega
    · exact fun _ _ h => h.elim
    · rintro b hb rfl
      rcases c5 with k | k
      · rcases hM' _ k with k | k
        · exact k.1
        · omega
      · omega
    · intro b hb h
      omega

theorem one_any (ws : List Wd) (nm : List ByteArray) (n : Nat) : FOne ws nm n := by
  induction n with
  | zero => intro x v base cb b0 fv S M w _ _ _ _ hs; exact hs.elim
  | succ n ih =>
    intro x v base cb b0 fv S M w h hrow hfm hbw hs hr hws hz hn
    have hg := hr (hdOf n x) (by simp [nodes, hdOf])
    have hlen : x.2.2.length ≤ 8 := good_len (hdOf n x) hg
    have k5 : (nodes (n + 1) x).length = 1 + (x.2.2.flatMap fun y => nodes n y).length := by simp [nodes]; omega
    by_cases h4 : x.1.1 = 4
    · obtain ⟨p, rfl, hp, hl, hst⟩ := tuple_parts hs h4
      cases hk : look S.2 p with
      | some q =>
        rw [cpF_old hk]
        refine (one_old base cb fv S M p q w h hk (by omega)).mono ?_
        rintro e w' ⟨rfl, hb⟩
        exact ⟨rfl, claid_else h hb⟩
      | none =>
        rw [cpF_new hk hp]
        have e : sz (n + 1) x = 1 + (x.2.2.map fun y => 1 + sz n y).sum := by simp only [sz, if_pos h4]
        exact one_tup ws nm n ih x.2.2 p base cb b0 fv S M w h hrow hfm hbw hp hl hst (fun y hy => parts_right n x y hr hy) hlen hws (by omega) (by omega) hk
    · have hv := leaf_not4 hs h4
      rw [cpF_leaf hv]
      refine (one_else cb v.1 v.2 w hv).mono ?_
      rintro e w' ⟨rfl, hb⟩
      exact ⟨rfl, claid_else h hb⟩
end Go.Proofs.Ytfaoeccnhbcjgab
