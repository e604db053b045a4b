/- What is proved here: plain facts and contracts that the claimed theorem stands on, several texts in one: heap.copying's one and all of words that stand for right terms, in memory: what cpF and cpL say. No condition but sizes. plain facts on copies: whatever a word stands for, its copy stands for among the words copied. No condition but that the word stands for something. heap.tuples' reached, of words that stand for right terms: the copies. No condition but sizes. Live and Collect of a heap, from what allStand and reached do. No condition but those. plain facts on how many words a copy has: a term just laid is copied whole, once; what was copied is not copied again; what is just copied is copied whole again, word by word. No condition but that words stand for terms. Live and Collect of a heap, of words that stand for right closed terms: how many words the copy has; the copy in the heap's place, and the words' copies in a row apart. No condition but sizes. plain facts on copying what words stand for: each tuple goes once, as many words as the tuples have, what is copied is what can be come to, and looks as it did. No condition. -/
import Derived.Test.YtdlckjjfbobmpaaG13
import Derived.Test.YtdlckjjfbobmpaaG06
namespace Go.Proofs.Ytdlckjjfbobmpaa
open Go.RowKit Go.Maps

def FOne (ws : List Wd) (nm : List ByteArray) (n : Nat) : Prop := ∀ (x : Tm n) (v : Wd) (base cb b0 : Nat) (fv : Value) (S : List Wd × Went) (M : Nat → Prop) (w : World), CpAt base cb fv S M w → w.ownsRow b0 38 2 fv ws.length (wCells ws) → (∀ b, fv.ownBlock = some b → ¬ M b) → base ≤ w.heap.size → Stands ws nm n x v → RightA ⟨n, x⟩ → ws.length ≤ 100000 → (S.1.length : Int) + sz n x ≤ 90000 → S.2.length + (nodes n x).length ≤ 90000 →
  Calls Try.prog 49 #[.pointer (some ⟨cb, 0, none⟩), wdV v] w fun e w' => e = .returned (wdV (cpF ws n v S).1) ∧ Hid (CLaid base cb fv (cpF ws n v S).2 M w w')

theorem sz_room (n : Nat) (p : List (Tm n)) (k : Nat) (x : Tm n) (hx : p[k]? = some x) : ((p.take k).map fun y => 1 + sz n y).sum + (1 + sz n x) ≤ (p.map fun y => 1 + sz n y).sum := by
  obtain ⟨hl, rfl⟩ := List.getElem?_eq_some_iff.1 hx
  have e : p = p.take k ++ p[k] :: p.drop (k + 1) := by
    rw [← List.drop_eq_getElem_cons hl, List.take_append_drop]
  have h0 : ∀ l : List (Tm n), 0 ≤ (l.map fun y => 1 + sz n y).sum := by
    intro l
    induction l with
    | nil => simp
    | cons y l ih =>
      have := (sz_bound n y).1
      simp only [List.map_cons, List.sum_cons]
      omega
  have h1 := h0 (p.drop (k + 1))
  conv => rhs; rw [e]
  simp only [List.map_append, List.sum_append, List.map_cons, List.sum_cons]
  omega
theorem StandL.take {ws : List Wd} {nm : List ByteArray} {n : Nat} {l : List Wd} {p : List (Tm n)} (h : StandL ws nm n l p) (k : Nat) : StandL ws nm n (l.take k) (p.take k) := by
  refine ⟨by simp [h.1], fun i v y hv hy => ?_⟩
  rw [List.getElem?_take] at hv hy
  split at hv
  · rename_i hi
    rw [if_pos hi] at hy
    exact h.2 i v y hv hy
  · cases hv

theorem copyall_any (ws : List Wd) (nm : List ByteArray) (n : Nat) (ih : FOne ws nm n) (vs : List Wd) (p : List (Tm n)) (base cb b0 : Nat) (fv : Value) (S : List Wd × Went) (M : Nat → Prop) (a : Option Addr) (pc : Nat) (w : World) (h : CpAt base cb fv S M w) (hrow : w.ownsRow b0 38 2 fv ws.length (wCells ws)) (hfm : ∀ b, fv.ownBlock = some b → ¬ M b) (hbw : base ≤ w.heap.size) (hst : StandL ws nm n vs p) (hr : ∀ y ∈ p, RightA ⟨n, y⟩) (hws : ws.length ≤ 100000) (hlen : vs.length ≤ 100000)
    (hz : (S.1.length : Int) + (p.map fun y => 1 + sz n y).sum ≤ 90000) (hn : S.2.length + (p.flatMap fun y => nodes n y).length ≤ 90000) (hin : WordsIn w vs a) (hoff : ∀ b o, a = some ⟨b, o, none⟩ → ¬ M b) :
    Calls Try.prog 39 #[.pointer (some ⟨cb, 0, none⟩), .slice a vs.length pc] w fun e w' => ∃ g, e = .returned (.slice (some ⟨g, 0, none⟩) vs.length vs.length) ∧ Hid (AllOut (cpF ws n) vs base cb fv S M g w w') := by
  refine copyall_loop (cpF ws n) vs base cb fv S M a vs.length pc w rfl (by omega) h hin hoff ?_
  intro k v hv M' w1 hc hk hM
  have hkl := (List.getElem?_eq_some_iff.1 hv).1
  obtain ⟨y, hy⟩ : ∃ y, p[k]? = some y := ⟨p[k]'(by rw [← hst.1]; exact hkl), List.getElem?_eq_getElem _⟩
  obtain ⟨s1, s2⟩ := cpL_sizes (fun x v S hh => cpF_sizes n x v S hh) (vs.take k) (p.take k) S (hst.take k)
  have r1 := sz_room n p k y hy
  have r2 := lay_room n p k y hy
  have hs := hk.size
  refine ih y v base cb b0 fv _ M' w1 hc (row_kept hrow hk fun b e => hfm b e) ?_ (by omega) (hst.2 k v y hv hy) (hr y (List.mem_of_getElem? hy)) hws (by omega) (by omega)
  intro b e hm
  rcases hM b hm with hm | hm
  · exact hfm b e hm
  · have := (hrow.lt b e).2
    omega

theorem claid_else {base cb : Nat} {fv : Value} {S : List Wd × Went} {M : Nat → Prop} {w w' : World} (h : CpAt base cb fv S M w) (hb : Below w.heap.size w w') : CLaid base cb fv S M w w' :=
  ⟨(h.later hb).mono fun _ h => Or.inl h.1, keep_below hb M⟩

theorem one_tup (ws : List Wd) (nm : List ByteArray) (n : Nat) (ih : FOne ws nm n) (ps : List (Tm n)) (p : Nat) (base cb b0 : Nat) (fv : Value) (S : List Wd × Went) (M : Nat → Prop) (w : World) (h : CpAt base cb fv S M w) (hrow : w.ownsRow b0 38 2 fv ws.length (wCells ws)) (hfm : ∀ b, fv.ownBlock = some b → ¬ M b) (hbw : base ≤ w.heap.size) (hp : ws[p]? = some (0, (ps.length : Int))) (hpl : p + 1 + ps.length ≤ ws.length) (hst : StandL ws nm n (partsOf ws p ps.length) ps) (hr : ∀ y ∈ ps, RightA ⟨n, y⟩) (h8 : ps.length ≤ 8) (hws : ws.length ≤ 100000)
    (hz : (S.1.length : Int) + (ps.map fun y => 1 + sz n y).sum ≤ 90000) (hn : S.2.length + (ps.flatMap fun y => nodes n y).length ≤ 90000) (hl : look S.2 p = none) :
    Calls Try.prog 49 #[.pointer (some ⟨cb, 0, none⟩), wdV (4, (p : Int))] w fun e w' => e = .returned (wdV (4, ((cpL (cpF ws n) (partsOf ws p ps.length) S).2.1.length : Int))) ∧
      Hid (CLaid base cb fv ((cpL (cpF ws n) (partsOf ws p ps.length) S).2.1 ++ (0, (ps.length : Int)) :: (cpL (cpF ws n) (partsOf ws p ps.length) S).1, (p, (cpL (cpF ws n) (partsOf ws p ps.length) S).2.1.length) :: (cpL (cpF ws n) (partsOf ws p ps.length) S).2.2) M w w') := by
  obtain ⟨fg, fc, hfv, _, _⟩ := hrow.form (by omega)
  have hpn := partsOf_length hpl
  obtain ⟨s1, s2⟩ := cpL_sizes (fun x v S hh => cpF_sizes n x v S hh) (partsOf ws p ps.length) ps S hst
  refine one_new base cb fv S M p _ fg ws.length fc ps.length w _ h hfv hl (by omega) ?_
  intro wD hD hDs
  subst hfv
  have hfl := (hrow.lt fg rfl).2
  have hrD : wD.ownsRow b0 38 2 (.slice (some ⟨fg, 0, none⟩) ws.length fc) ws.length (wCells ws) := own_below hrow hD
  refine (parts_any b0 fg ws.length fc p ps.length ws wD hws hrD hp hpl).mono ?_
  rintro e w' ⟨rfl, pa, pc, rfl, _, hwd, o, rfl⟩
  refine ⟨rfl, o, pc, rfl, ?_⟩
  have hin : WordsIn w' (partsOf ws p ps.length) (some ⟨fg, o, none⟩) := words_in hwd (by have := hD.size; omega)
  have hcall := copyall_any ws nm n ih (partsOf ws p ps.length) ps base cb b0 (.slice (some ⟨fg, 0, none⟩) ws.length fc) S _ (some ⟨fg, o, none⟩) pc w' (h.later hD) hrD (fun b e hm => hfm b e hm.1) (by have := hD.size; omega) hst hr hws (by omega) hz hn hin (fun b o' e hm => hfm b (by injection e with e; injection e with e; subst e; rfl) hm.1)
  rw [hpn] at hcall
  refine hcall.mono ?_
  rintro e w2 ⟨g, rfl, HO⟩
  obtain ⟨M', a1, a2, a3, a4, a5, a6⟩ := HO.out
  rw [hpn] at a6
  have hM' : ∀ b, M' b → (M b ∧ b < w.heap.size) ∨ w'.heap.size ≤ b := a3
  have hs2 := a2.size
  refine ⟨g, rfl, fun j => block_cell (a2.block _ (by omega) (fun hm => by omega)) j, ?_, ?_⟩
  · obtain ⟨tv, mb, D, k1, _⟩ := a1
    exact k1.cells.1.1
  refine (addC base cb _ _ M' (cpL (cpF ws n) (partsOf ws p ps.length) S).1 ps.length ps.length (some ⟨g, 0, none⟩) w2 a1 (by have := hD.size; omega) (by omega) (by rw [cpL_length]; exact hpn) (by omega) ?_).mono ?_
  · intro w1 hk
    exact Or.inr ⟨_, rfl, (row_kept a6 hk (fun b e => by simp only [Value.ownBlock] at e; obtain rfl := Option.some.inj e; exact a4)).cells (g := g) rfl⟩
  rintro e w3 ⟨rfl, HL⟩
  obtain ⟨b1, b2⟩ := HL.out
  have hs3 := b2.size
  have hne : ∀ b, w.heap.size ≤ b → b < w.heap.size + 2 → ¬ M' b := fun b x1 x2 hm => by
    rcases hM' b hm with k | k <;> omega
  have hblk : ∀ b, w.heap.size ≤ b → b < w.heap.size + 2 → w3.heap[b]? = w'.heap[b]? := fun b x1 x2 => (b2.block b (by omega) (hne b x1 x2)).trans (a2.block b (by omega) (fun hm => by omega))
  refine ⟨rfl, fun j => block_cell (hblk _ (Nat.le_refl _) (by omega)) j, ?_, ?_⟩
  · obtain ⟨tv, mb, D, k1, _⟩ := b1
    exact k1.cells.1.1
  have bd : Below w3.heap.size w3 w3.drew := (Below.refl _ _).drew
  have b3 := b1.kept (keep_below bd (fun _ => False)) (fun _ _ _ h => h)
  obtain ⟨mb, c1, w4, c2, c3, c4, c5, c6, c7⟩ := one_put b3 p (cpL (cpF ws n) (partsOf ws p ps.length) S).2.1.length (by omega) (by omega) (by simp only; omega)
  have hmb : ∀ b, w.heap.size ≤ b → b < w.heap.size + 2 → b ≠ mb := fun b x1 x2 e => by
    subst e
    rcases c5 with k | k
    · exact hne _ x1 x2 k
    · omega
  have hs4 := c4.size
  have es3 : w3.drew.heap.size = w3.heap.size := rfl
  have hblk4 : ∀ b, w.heap.size ≤ b → b < w.heap.size + 2 → w4.heap[b]? = w'.heap[b]? := fun b x1 x2 => (c4.block b (by omega) (hmb b x1 x2)).trans (hblk b x1 x2)
  refine ⟨mb, w4, c1, c2, fun j => block_cell (hblk4 _ (Nat.le_refl _) (by omega)) j, c7, fun hj => (hblk4 _ (by omega) (by omega)).trans hj, fun v0 v1 => ?_⟩
  have k1 := keep_set w4 (w.heap.size + 1) 0 v0
  have k2 := keep_set (w4.setCell ⟨w.heap.size + 1, 0, none⟩ v0) (w.heap.size + 1) 1 v1
  have k3 := k1.trans k2 (fun b _ h => h)
  refine ⟨(c3.kept k3 ?_).mono ?_, ?_⟩
  · rintro b (hm | hm) _ rfl
    · exact hne _ (by omega) (by omega) hm
    · omega
  · rintro b (hm | hm)
    · rcases hM' b hm with k | k
      · exact Or.inl k.1
      · exact Or.inr (by omega)
    · exact Or.inr (by omega)
  · refine (((((keep_below hD M).trans a2 ?_).trans b2 ?_).trans (keep_below bd (fun _ => False)) ?_).trans c4 ?_).trans k3 ?_
    · exact fun b _ hm => hm.1
    · intro b hb hm
      rcases hM' b hm with k | k
      · exact k.1
      · omega
    · exact fun _ _ h => h.elim
    · rintro b hb rfl
      rcases c5 with k | k
      · rcases hM' _ k with k | k
        · exact k.1
        · omega
      · omega
    · intro b hb h
      omega

theorem one_any (ws : List Wd) (nm : List ByteArray) (n : Nat) : FOne ws nm n := by
  induction n with
  | zero => intro x v base cb b0 fv S M w _ _ _ _ hs; exact hs.elim
  | succ n ih =>
    intro x v base cb b0 fv S M w h hrow hfm hbw hs hr hws hz hn
    have hg := hr (hdOf n x) (by simp [nodes, hdOf])
    have hlen : x.2.2.length ≤ 8 := good_len (hdOf n x) hg
    have k5 : (nodes (n + 1) x).length = 1 + (x.2.2.flatMap fun y => nodes n y).length := by simp [nodes]; omega
    by_cases h4 : x.1.1 = 4
    · obtain ⟨p, rfl, hp, hl, hst⟩ := tuple_parts hs h4
      cases hk : look S.2 p with
      | some q =>
        rw [cpF_old hk]
        refine (one_old base cb fv S M p q w h hk (by omega)).mono ?_
        rintro e w' ⟨rfl, hb⟩
        exact ⟨rfl, claid_else h hb⟩
      | none =>
        rw [cpF_new hk hp]
        have e : sz (n + 1) x = 1 + (x.2.2.map fun y => 1 + sz n y).sum := by simp only [sz, if_pos h4]
        exact one_tup ws nm n ih x.2.2 p base cb b0 fv S M w h hrow hfm hbw hp hl hst (fun y hy => parts_right n x y hr hy) hlen hws (by omega) (by omega) hk
    · have hv := leaf_not4 hs h4
      rw [cpF_leaf hv]
      refine (one_else cb v.1 v.2 w hv).mono ?_
      rintro e w' ⟨rfl, hb⟩
      exact ⟨rfl, claid_else h hb⟩
end Go.Proofs.Ytdlckjjfbobmpaa
namespace Go.Proofs.Ytdlckjjfbobmpaa
open Go.RowKit Go.Maps

/-- Whatever v stands for among ws, u stands for among us. -/
def CopyOf (ws us : List Wd) (nm : List ByteArray) (v u : Wd) : Prop := ∀ (n : Nat) (x : Tm n), Stands ws nm n x v → Stands us nm n x u
def InvC (ws : List Wd) (nm : List ByteArray) (S : List Wd × Went) : Prop := ∀ p q : Nat, look S.2 p = some q → CopyOf ws S.1 nm (4, (p : Int)) (4, (q : Int))
theorem CopyOf.mono {ws us us' : List Wd} {nm : List ByteArray} {v u : Wd} (h : CopyOf ws us nm v u) (k : us <+: us') : CopyOf ws us' nm v u := fun n x hs => (h n x hs).mono k (List.prefix_refl _)
theorem copy_leaf {ws us : List Wd} {nm : List ByteArray} {v : Wd} (h : v.1 ≠ 4) : CopyOf ws us nm v v := by
  intro n x hs
  cases n with
  | zero => exact hs.elim
  | succ n =>
    obtain ⟨a, b, c⟩ := hs
    refine ⟨a, fun h4 => ?_, c⟩
    obtain ⟨p, rfl, _⟩ := b h4
    simp at h
/-- Copies, one by one. -/
def CopyL (ws us : List Wd) (nm : List ByteArray) (vs cs : List Wd) : Prop := vs.length = cs.length ∧ ∀ (i : Nat) (v u : Wd), vs[i]? = some v → cs[i]? = some u → CopyOf ws us nm v u

def CopyOut (ws : List Wd) (nm : List ByteArray) (v : Wd) (S : List Wd × Went) (r : Wd × List Wd × Went) : Prop := InvC ws nm r.2 ∧ S.1 <+: r.2.1 ∧ CopyOf ws r.2.1 nm v r.1
theorem cpL_copies {ws : List Wd} {nm : List ByteArray} {n : Nat} (ih : ∀ (x : Tm n) (v : Wd) (S : List Wd × Went), InvC ws nm S → Stands ws nm n x v → CopyOut ws nm v S (cpF ws n v S)) :
    (l : List Wd) → (p : List (Tm n)) → (S : List Wd × Went) → StandL ws nm n l p → InvC ws nm S → InvC ws nm (cpL (cpF ws n) l S).2 ∧ S.1 <+: (cpL (cpF ws n) l S).2.1 ∧ CopyL ws (cpL (cpF ws n) l S).2.1 nm l (cpL (cpF ws n) l S).1
  | [], _, S, _, hS => ⟨hS, List.prefix_refl _, rfl, fun i v u hv _ => by simp at hv⟩
  | _ :: _, [], _, h, _ => by have := h.1; simp at this
  | v :: l, y :: p, S, h, hS => by
    obtain ⟨a1, a2, a3⟩ := ih y v S hS (h.2 0 v y rfl rfl)
    obtain ⟨b1, b2, b3, b4⟩ := cpL_copies ih l p (cpF ws n v S).2 ⟨by have := h.1; simpa using this, fun i v' y' hv hy => h.2 (i + 1) v' y' (by simpa using hv) (by simpa using hy)⟩ a1
    refine ⟨b1, a2.trans b2, by simp [cpL, b3], fun i v' u hv hu => ?_⟩
    cases i with
    | zero =>
      simp [cpL] at hv hu
      subst hv hu
      exact a3.mono b2
    | succ i => exact b4 i v' u (by simpa using hv) (by simpa [cpL] using hu)

theorem copy_new {ws us cs : List Wd} {nm : List ByteArray} {p m : Nat} (hp : ws[p]? = some (0, (m : Int))) (hl : p + 1 + m ≤ ws.length) (h : CopyL ws us nm (partsOf ws p m) cs) : CopyOf ws (us ++ (0, (m : Int)) :: cs) nm (4, (p : Int)) (4, (us.length : Int)) := by
  intro n x hs
  cases n with
  | zero => exact hs.elim
  | succ n =>
    have hcl : cs.length = m := by rw [← h.1, partsOf_length hl]
    obtain ⟨a, b, c⟩ := hs
    by_cases h2 : x.1.1 = 2
    · obtain ⟨i, e, _⟩ := a h2
      simp at e
    · by_cases h4 : x.1.1 = 4
      · obtain ⟨p', e1, e2, e3, e4⟩ := b h4
        have ep : p' = p := by
          injection e1 with _ e1
          omega
        subst ep
        rw [hp] at e2
        have em : x.2.2.length = m := by
          have := Option.some.inj e2
          injection this with _ this
          omega
        refine ⟨fun e => absurd e h2, fun _ => ⟨us.length, rfl, ?_, ?_, fun i y hy => ?_⟩, fun _ e => absurd h4 e⟩
        · rw [List.getElem?_append_right (Nat.le_refl _), Nat.sub_self, em]
          rfl
        · simp only [List.length_append, List.length_cons, hcl, em]
          omega
        · have hi : i < m := by have := (List.getElem?_eq_some_iff.1 hy).1; omega
          obtain ⟨v, e5, e6⟩ := e4 i y hy
          obtain ⟨u, hu⟩ : ∃ u, cs[i]? = some u := ⟨cs[i]'(by omega), List.getElem?_eq_getElem _⟩
          refine ⟨u, ?_, (h.2 i v u (by rw [partsOf_at hi]; exact e5) hu n y e6).mono (List.prefix_append _ _) (List.prefix_refl _)⟩
          rw [List.getElem?_append_right (by omega), show us.length + 1 + i - us.length = i + 1 by omega]
          simpa using hu
      · have := c h2 h4
        injection this with this
        exact absurd this.symm h4

theorem cpF_copies {ws : List Wd} {nm : List ByteArray} : (n : Nat) → (x : Tm n) → (v : Wd) → (S : List Wd × Went) → InvC ws nm S → Stands ws nm n x v → CopyOut ws nm v S (cpF ws n v S)
  | 0, _, _, _, _, h => h.elim
  | n + 1, x, v, S, hS, h => by
    by_cases h4 : x.1.1 = 4
    · obtain ⟨p, rfl, hp, hl, hs⟩ := tuple_parts h h4
      cases hk : look S.2 p with
      | some q =>
        rw [cpF_old hk]
        exact ⟨hS, List.prefix_refl _, hS p q hk⟩
      | none =>
        rw [cpF_new hk hp]
        obtain ⟨a1, a2, a3⟩ := cpL_copies (fun x v S hh => cpF_copies n x v S hh) (partsOf ws p x.2.2.length) x.2.2 S hs hS
        have hn := copy_new hp hl a3
        refine ⟨fun p' q' hq => ?_, a2.trans (List.prefix_append _ _), hn⟩
        by_cases he : p' = p
        · subst he
          rw [look_same] at hq
          obtain rfl := Option.some.inj hq
          exact hn
        · rw [look_other _ _ he] at hq
          exact (a1 p' q' hq).mono (List.prefix_append _ _)
    · have hv := leaf_not4 h h4
      rw [cpF_leaf hv]
      exact ⟨hS, List.prefix_refl _, copy_leaf hv⟩
theorem inv_nil (ws : List Wd) (nm : List ByteArray) : InvC ws nm ([], []) := fun p q h => by simp [look] at h
end Go.Proofs.Ytdlckjjfbobmpaa
namespace Go.Proofs.Ytdlckjjfbobmpaa
open Go.RowKit Go.Maps

theorem cp_made (w : World) (fv : Value) : CpAt w.heap.size (w.heap.size + 1) fv ([], []) (fun b => w.heap.size ≤ b) ((w.alloc (.map #[] 0)).alloc (.cells #[fv, .slice none 0 0, .map (some w.heap.size)] 86)) := by
  have hm := World.ownsMap_made w Try.prog 3 (plainElem (H := Unit) Try.prog 3)
  have es : ∀ o, (w.alloc o).heap.size = w.heap.size + 1 := fun o => by simp
  have hb := heap_alloc_new (w.alloc (.map #[] 0)) (.cells #[fv, .slice none 0 0, .map (some w.heap.size)] 86)
  rw [es] at hb
  exact ⟨.slice none 0 0, w.heap.size, .map [], hb, World.ownsRow_nil _ _ _ _, hm.alloc _, went_nil, by omega, fun b e => by simp [Value.ownBlock] at e, Nat.le_refl _⟩

/-- What reached leaves. -/
def ReachOut (R : List Wd × List Wd × Went) (len g : Nat) (tv : Value) (w w' : World) : Prop :=
  Below w.heap.size w w' ∧ w'.ownsRow w.heap.size 38 2 tv R.2.1.length (wCells R.2.1) ∧ w'.ownsRow g 38 2 (.slice (some ⟨g, 0, none⟩) len len) len (wCells R.1) ∧ w.heap.size ≤ g ∧ tv.ownBlock ≠ some g
set_option maxHeartbeats 1000000 in
set_option maxRecDepth 100000 in
theorem reached_walk (R : List Wd × List Wd × Went) (fv : Value) (ta : Option Addr) (L tc : Nat) (a : Option Addr) (len pc : Nat) (w : World) (hfv : fv = .slice ta L tc)
    (HC : Hid (Calls Try.prog 39 #[.pointer (some ⟨w.heap.size + 1, 0, none⟩), .slice a len pc] ((w.alloc (.map #[] 0)).alloc (.cells #[.slice ta L tc, .slice none 0 0, .map (some w.heap.size)] 86)) fun e w' => ∃ g tv, e = .returned (.slice (some ⟨g, 0, none⟩) len len) ∧ w'.cell? ⟨w.heap.size + 1, 1, none⟩ = some tv ∧ Hid (ReachOut R len g tv w w'))) :
    Calls Try.prog 31 #[fv, .slice a len pc] w fun e w' => ∃ g tv, e = .returned (.tuple #[tv, .slice (some ⟨g, 0, none⟩) len len]) ∧ Hid (ReachOut R len g tv w w') := by
  subst hfv
  have hmm := @run_makeMap Try.prog
  go_enter Try.func31, Try.ntmps31
  go_wp2_with fail
  refine HC.out.mono ?_
  rintro e w1 ⟨g, tv, rfl, c1, H⟩
  clear HC hmm
  go_wp2_with fail
  exact bodyPost_ret (v := .tuple #[tv, .slice (some ⟨g, 0, none⟩) len len]) (by simp [results, Try.results31, go_sem]) rfl ⟨g, tv, rfl, H⟩

theorem reached_any (ws : List Wd) (nm : List ByteArray) (n : Nat) (vs : List Wd) (p : List (Tm n)) (b0 : Nat) (fv : Value) (a : Option Addr) (pc : Nat) (w : World) (hrow : w.ownsRow b0 38 2 fv ws.length (wCells ws)) (hst : StandL ws nm n vs p) (hr : ∀ y ∈ p, RightA ⟨n, y⟩) (hws : ws.length ≤ 100000) (hlen : vs.length ≤ 100000)
    (hz : (p.map fun y => 1 + sz n y).sum ≤ 90000) (hn : (p.flatMap fun y => nodes n y).length ≤ 90000) (hin : WordsIn w vs a) (hoff : ∀ b o, a = some ⟨b, o, none⟩ → b < w.heap.size) :
    Calls Try.prog 31 #[fv, .slice a vs.length pc] w fun e w' => ∃ g tv, e = .returned (.tuple #[tv, .slice (some ⟨g, 0, none⟩) vs.length vs.length]) ∧ Hid (ReachOut (cpL (cpF ws n) vs ([], [])) vs.length g tv w w') := by
  obtain ⟨ta, tc, hfv⟩ : ∃ ta tc, fv = .slice ta ws.length tc := by
    rcases hrow.2 with ⟨e, e0⟩ | ⟨g, c, cur, e, _⟩
    · exact ⟨none, 0, by rw [e, e0]⟩
    · exact ⟨_, c, e⟩
  refine reached_walk _ fv ta ws.length tc a vs.length pc w hfv ?_
  have hA : Below w.heap.size w ((w.alloc (.map #[] 0)).alloc (.cells #[fv, .slice none 0 0, .map (some w.heap.size)] 86)) := ((Below.refl _ _).alloc (Nat.le_refl _) _).alloc (by simp) _
  have hc := cp_made w fv
  have hsA : ((w.alloc (.map #[] 0)).alloc (.cells #[fv, .slice none 0 0, .map (some w.heap.size)] 86)).heap.size = w.heap.size + 2 := by simp
  rw [← hfv]
  generalize (w.alloc (.map #[] 0)).alloc (.cells #[fv, .slice none 0 0, .map (some w.heap.size)] 86) = wA at *
  have hinA : WordsIn wA vs a := by
    rcases hin with hin | ⟨b, o, e, hb, hin⟩
    · exact Or.inl hin
    · exact Or.inr ⟨b, o, e, by omega, fun i v hv => ⟨(below_cells hA b _ hb).trans (hin i v hv).1, (below_cells hA b _ hb).trans (hin i v hv).2⟩⟩
  refine (copyall_any ws nm n (one_any ws nm n) vs p w.heap.size (w.heap.size + 1) b0 fv ([], []) _ a pc wA hc (own_below hrow hA) (fun b e hm => by have := (hrow.lt b e).2; omega) (by omega) hst hr hws hlen (by simpa using hz) (by simpa using hn) hinA ?_).mono ?_
  · intro b o e hm
    have := hoff b o e
    omega
  · rintro e w' ⟨g, rfl, H⟩
    obtain ⟨M', k1, k2, k3, k4, k5, k6⟩ := H.out
    obtain ⟨tv, mb, D, j1, j2, j3, j4, j5, j6, j7⟩ := k1
    refine ⟨g, tv, rfl, j1.cells.1.2.1, ⟨?_, ?_, ?_, ?_, ?_⟩, j2, k6, by omega, fun e => k4 (j6 g e)⟩
    · exact k2.os.trans hA.os
    · exact k2.tape.trans hA.tape
    · exact k2.output.trans hA.output
    · have := k2.size; omega
    · intro b hb
      exact (k2.block b (by omega) (by omega)).trans (hA.block b hb)
end Go.Proofs.Ytdlckjjfbobmpaa
namespace Go.Proofs.Ytdlckjjfbobmpaa
open Go.RowKit Go.Maps

set_option maxHeartbeats 1000000 in
set_option maxRecDepth 100000 in
theorem live_walk (R : List Wd × List Wd × Went) (hp : Nat) (ta : Option Addr) (L tc : Nat) (a : Option Addr) (len pc : Nat) (w : World) (hhp : hp < w.heap.size) (c1 : w.cell? ⟨hp, 1, none⟩ = some (.slice ta L tc))
    (HA : Hid (Calls Try.prog 28 #[.pointer (some ⟨hp, 0, none⟩), .slice a len pc] w fun e w' => e = .returned (.bool true) ∧ Below w.heap.size w w'))
    (HC : Hid (∀ w1, Below w.heap.size w w1 → Calls Try.prog 31 #[.slice ta L tc, .slice a len pc] w1 fun e w' => ∃ g tv, e = .returned (.tuple #[tv, .slice (some ⟨g, 0, none⟩) len len]) ∧ Hid (ReachOut R len g tv w1 w'))) :
    Calls Try.prog 16 #[.pointer (some ⟨hp, 0, none⟩), .slice a len pc] w fun e w' => e = .returned (.tuple #[.int .i64 R.2.1.length, .int .i64 0]) ∧ Below w.heap.size w w' := by
  go_enter Try.func16, Try.ntmps16
  go_wp2_with fail
  refine HA.out.mono ?_
  rintro e w1 ⟨rfl, hb⟩
  have HB := hide hb
  replace c1 := (below_cells hb hp 1 hhp).trans c1
  clear hb HA
  go_wp2_with fail
  refine (HC.out w1 HB.out).mono ?_
  rintro e w2 ⟨g, tv, rfl, H⟩
  obtain ⟨ta', tc', rfl⟩ : ∃ ta' tc', tv = .slice ta' R.2.1.length tc' := by
    rcases H.out.2.1.2 with ⟨e, e0⟩ | ⟨g, c, cur, e, _⟩
    · exact ⟨none, 0, by rw [e, e0]⟩
    · exact ⟨_, c, e⟩
  have HB2 : Hid (Below w.heap.size w w2) := HB.out.trans (H.out.1.mono HB.out.size)
  clear HC H
  go_wp2_with fail
  go_ret2
  exact ⟨rfl, HB2.out⟩

/-- What Collect leaves. -/
theorem collect_out {base hp : Nat} {room : Int} {ws : List Wd} {nm : List ByteArray} {M : Nat → Prop} {R : List Wd × List Wd × Went} {len g : Nat} {tv : Value} {w w1 w2 : World} (h : HpAt base hp room ws nm M w) (hb : Below w.heap.size w w1) (hr : ReachOut R len g tv w1 w2) (hbw : base ≤ w.heap.size) : Laid base hp room R.2.1 nm M w (w2.setCell ⟨hp, 1, none⟩ tv) := by
  obtain ⟨r1, r2, r3, r4, r5⟩ := hr
  have hs := hb.size
  have hb2 := hb.trans (r1.mono hs)
  obtain ⟨tv0, lv, mv, h1, h2, h3, h4, h5, h6, h7⟩ := h.later hb2
  have k := keep_set w2 hp 1 tv
  have r6 : ∀ b, tv.ownBlock = some b → w1.heap.size ≤ b := fun b e => (r2.lt b e).1
  refine ⟨⟨tv, lv, mv, h1.set1 tv, row_kept (own_base r2 (by omega)) k (fun b e e' => ?_), h3.kept k (fun b e e' => ?_) (fun b e e' => ?_), Or.inl h4.1, fun b e => Or.inr (by have := r6 b e; omega), fun b e => Or.inl (h6 b e).1, fun b e => Or.inl (h7 b e).1⟩, (keep_below hb2 M).trans k ?_⟩
  · subst e'
    have := r6 b e
    have := h4.2
    omega
  · subst e'
    exact row_box h3.1 h1 (by decide) e
  · subst e'
    exact map_box h3 h1 e
  · rintro b _ rfl
    exact h4.1

set_option maxHeartbeats 1000000 in
set_option maxRecDepth 100000 in
theorem collect_walk (R : List Wd × List Wd × Went) (hp : Nat) (ta : Option Addr) (L tc : Nat) (a : Option Addr) (len pc : Nat) (w : World) (hhp : hp < w.heap.size) (c1 : w.cell? ⟨hp, 1, none⟩ = some (.slice ta L tc)) (f1 : w.frozen? ⟨hp, 1, none⟩ = false)
    (HA : Hid (Calls Try.prog 28 #[.pointer (some ⟨hp, 0, none⟩), .slice a len pc] w fun e w' => e = .returned (.bool true) ∧ Below w.heap.size w w'))
    (HC : Hid (∀ w1, Below w.heap.size w w1 → Calls Try.prog 31 #[.slice ta L tc, .slice a len pc] w1 fun e w' => ∃ g tv, e = .returned (.tuple #[tv, .slice (some ⟨g, 0, none⟩) len len]) ∧ Hid (ReachOut R len g tv w1 w'))) :
    Calls Try.prog 13 #[.pointer (some ⟨hp, 0, none⟩), .slice a len pc] w fun e w' => ∃ g tv w1 w2, e = .returned (.tuple #[.slice (some ⟨g, 0, none⟩) len len, .int .i64 0]) ∧ w' = w2.setCell ⟨hp, 1, none⟩ tv ∧ Hid (Below w.heap.size w w1 ∧ ReachOut R len g tv w1 w2) := by
  go_enter Try.func13, Try.ntmps13
  go_wp2_with fail
  refine HA.out.mono ?_
  rintro e w1 ⟨rfl, hb⟩
  have HB := hide hb
  replace c1 := (below_cells hb hp 1 hhp).trans c1
  replace f1 := (below_free hb hp 1 hhp).trans f1
  have hhp1 : hp < w1.heap.size := Nat.lt_of_lt_of_le hhp hb.size
  clear hb HA
  go_wp2_with fail
  refine (HC.out w1 HB.out).mono ?_
  rintro e w2 ⟨g, tv, rfl, H⟩
  obtain ⟨ta', tc', rfl⟩ : ∃ ta' tc', tv = .slice ta' R.2.1.length tc' := by
    rcases H.out.2.1.2 with ⟨e, e0⟩ | ⟨g, c, cur, e, _⟩
    · exact ⟨none, 0, by rw [e, e0]⟩
    · exact ⟨_, c, e⟩
  replace c1 := (below_cells H.out.1 hp 1 hhp1).trans c1
  replace f1 := (below_free H.out.1 hp 1 hhp1).trans f1
  clear HC
  go_wp2_with fail
  go_ret2
  exact ⟨g, _, w1, w2, rfl, rfl, HB.out, H.out⟩
end Go.Proofs.Ytdlckjjfbobmpaa
namespace Go.Proofs.Ytdlckjjfbobmpaa
open Go.RowKit Go.Maps

theorem stands_lift {ws : List Wd} {nm : List ByteArray} : (N n : Nat) → n ≤ N → (x : Tm n) → (v : Wd) → Stands ws nm n x v → Stands ws nm N (lift N n x) v
  | _, 0, _, _, _, h => h.elim
  | 0, n + 1, h, _, _, _ => by omega
  | N + 1, n + 1, h, x, v, k => by
    obtain ⟨a, b, c⟩ := k
    refine ⟨a, fun e => ?_, c⟩
    obtain ⟨p, e1, e2, e3, e4⟩ := b e
    refine ⟨p, e1, by simpa [lift] using e2, by simpa [lift] using e3, fun i y hy => ?_⟩
    simp only [lift, List.getElem?_map] at hy
    obtain ⟨z, hz, rfl⟩ := Option.map_eq_some_iff.1 hy
    obtain ⟨u, e5, e6⟩ := e4 i z hz
    exact ⟨u, e5, stands_lift N n (by omega) z u e6⟩

theorem cpL_congr {f g : Wd → List Wd × Went → Wd × List Wd × Went} : (l : List Wd) → (S : List Wd × Went) → (∀ v ∈ l, ∀ S, f v S = g v S) → cpL f l S = cpL g l S
  | [], _, _ => rfl
  | v :: l, S, h => by
    have h1 := h v (by simp) S
    have h2 := cpL_congr l (g v S).2 fun u hu => h u (List.mem_cons_of_mem _ hu)
    simp only [cpL, h1, h2]
theorem StandL.mem {ws : List Wd} {nm : List ByteArray} {n : Nat} {l : List Wd} {p : List (Tm n)} (h : StandL ws nm n l p) {v : Wd} (hv : v ∈ l) : ∃ y ∈ p, Stands ws nm n y v := by
  obtain ⟨i, hi⟩ := List.getElem?_of_mem hv
  have hl : i < p.length := by rw [← h.1]; exact (List.getElem?_eq_some_iff.1 hi).1
  exact ⟨p[i], List.getElem_mem _, h.2 i v p[i] hi (List.getElem?_eq_getElem hl)⟩
theorem cpF_deep {ws : List Wd} {nm : List ByteArray} : (n N : Nat) → n ≤ N → (x : Tm n) → (v : Wd) → (S : List Wd × Went) → Stands ws nm n x v → cpF ws N v S = cpF ws n v S
  | 0, _, _, _, _, _, h => h.elim
  | n + 1, N, h, x, v, S, k => by
    obtain ⟨M, rfl⟩ : ∃ M, N = M + 1 := ⟨N - 1, by omega⟩
    by_cases h4 : x.1.1 = 4
    · obtain ⟨p, rfl, hp, hl, hs⟩ := tuple_parts k h4
      cases hk : look S.2 p with
      | some q => rw [cpF_old hk, cpF_old hk]
      | none =>
        have e : cpL (cpF ws M) (partsOf ws p x.2.2.length) S = cpL (cpF ws n) (partsOf ws p x.2.2.length) S := cpL_congr _ _ fun v hv S => by
          obtain ⟨y, _, hy⟩ := hs.mem hv
          exact cpF_deep n M (by omega) y v S hy
        rw [cpF_new hk hp, cpF_new hk hp, e]
    · rw [cpF_leaf (leaf_not4 k h4), cpF_leaf (leaf_not4 k h4)]

def Fresh (g : Went) (a b : Nat) : Prop := ∀ p, a ≤ p → p < b → look g p = none
def Only (g g' : Went) (a b : Nat) : Prop := ∀ p, (p < a ∨ b ≤ p) → look g' p = look g p
theorem parts_pre {us A C : List Wd} {h : Wd} (k : (A ++ h :: C) <+: us) : partsOf us A.length C.length = C := by
  obtain ⟨r, rfl⟩ := k
  unfold partsOf
  rw [show A ++ h :: C ++ r = (A ++ [h]) ++ (C ++ r) by simp]
  rw [List.drop_left' (by simp), List.take_left' rfl]
theorem layL_cp (us : List Wd) (n : Nat) (ih : ∀ (x : Tm n) (ws : List Wd) (nm : List ByteArray) (S : List Wd × Went), (layF n x ws nm).2.1 <+: us → Fresh S.2 ws.length (layF n x ws nm).2.1.length →
      ((cpF us n (layF n x ws nm).1 S).2.1.length : Int) = S.1.length + sz n x ∧ Only S.2 (cpF us n (layF n x ws nm).1 S).2.2 ws.length (layF n x ws nm).2.1.length) :
    (l : List (Tm n)) → (ws : List Wd) → (nm : List ByteArray) → (S : List Wd × Went) → (layL (layF n) l ws nm).2.1 <+: us → Fresh S.2 ws.length (layL (layF n) l ws nm).2.1.length →
      ((cpL (cpF us n) (layL (layF n) l ws nm).1 S).2.1.length : Int) + l.length = S.1.length + (l.map fun y => 1 + sz n y).sum ∧ Only S.2 (cpL (cpF us n) (layL (layF n) l ws nm).1 S).2.2 ws.length (layL (layF n) l ws nm).2.1.length
  | [], ws, nm, S, _, _ => by
    refine ⟨by simp [cpL, layL], fun p _ => rfl⟩
  | y :: l, ws, nm, S, hp, hf => by
    have p1 := (layF_pre n y ws nm).1
    have p2 := (layL_pre (layF_pre n) l (layF n y ws nm).2.1 (layF n y ws nm).2.2).1
    have l1 := p1.length_le
    have l2 := p2.length_le
    simp only [layL] at hp hf ⊢
    obtain ⟨a1, a2⟩ := ih y ws nm S (p2.trans hp) fun p h1 h2 => hf p h1 (by omega)
    obtain ⟨b1, b2⟩ := layL_cp us n ih l (layF n y ws nm).2.1 (layF n y ws nm).2.2 (cpF us n (layF n y ws nm).1 S).2 hp fun p h1 h2 => by
      rw [a2 p (Or.inr h1)]
      exact hf p (by omega) h2
    simp only [cpL, List.map_cons, List.sum_cons, List.length_cons]
    refine ⟨by omega, fun p hh => ?_⟩
    rw [b2 p (by omega), a2 p (by omega)]
theorem lay_cp (us : List Wd) : (n : Nat) → (x : Tm n) → (ws : List Wd) → (nm : List ByteArray) → (S : List Wd × Went) → (layF n x ws nm).2.1 <+: us → Fresh S.2 ws.length (layF n x ws nm).2.1.length →
      ((cpF us n (layF n x ws nm).1 S).2.1.length : Int) = S.1.length + sz n x ∧ Only S.2 (cpF us n (layF n x ws nm).1 S).2.2 ws.length (layF n x ws nm).2.1.length
  | 0, _, _, _, S, _, _ => by
    refine ⟨by simp [cpF, sz], fun p _ => rfl⟩
  | n + 1, x, ws, nm, S, hp, hf => by
    by_cases h2 : x.1.1 = 2
    · have h4 : ¬ x.1.1 = 4 := by omega
      simp only [layF, if_pos h2]
      rw [cpF_leaf (by simp)]
      exact ⟨by simp [sz, h4], fun p _ => rfl⟩
    · by_cases h4 : x.1.1 = 4
      · simp only [layF, if_neg h2, if_pos h4] at hp hf ⊢
        have hl := layL_length (layF n) x.2.2 ws nm
        have lw := (layL_pre (layF_pre n) x.2.2 ws nm).1.length_le
        have ht : ((layL (layF n) x.2.2 ws nm).2.1 ++ (0, (x.2.2.length : Int)) :: (layL (layF n) x.2.2 ws nm).1).length = (layL (layF n) x.2.2 ws nm).2.1.length + 1 + x.2.2.length := by
          simp [hl]; omega
        rw [ht] at hf ⊢
        have hk : look S.2 (layL (layF n) x.2.2 ws nm).2.1.length = none := hf _ lw (by omega)
        have hpp := parts_pre hp
        rw [hl] at hpp
        have hat : us[(layL (layF n) x.2.2 ws nm).2.1.length]? = some (0, (x.2.2.length : Int)) := pre_at hp (by rw [List.getElem?_append_right (Nat.le_refl _), Nat.sub_self]; rfl)
        obtain ⟨a1, a2⟩ := layL_cp us n (fun x ws nm S => lay_cp us n x ws nm S) x.2.2 ws nm S ((List.prefix_append _ _).trans hp) fun p h1 h2 => hf p h1 (by omega)
        rw [cpF_new hk hat, hpp]
        have hcl := cpL_length (cpF us n) (layL (layF n) x.2.2 ws nm).1 S
        refine ⟨?_, fun p hh => ?_⟩
        · simp only [List.length_append, List.length_cons, hcl, hl, sz, if_pos h4]
          omega
        · have hne : p ≠ (layL (layF n) x.2.2 ws nm).2.1.length := by omega
          simp only
          rw [look_other _ _ hne, a2 p (by omega)]
      · simp only [layF, if_neg h2, if_neg h4]
        rw [cpF_leaf (by simpa using h4)]
        exact ⟨by simp [sz, h4], fun p _ => rfl⟩

/-- What went goes on to have gone. -/
theorem cpL_keeps {f : Wd → List Wd × Went → Wd × List Wd × Went} (p q : Nat) : (l : List Wd) → (∀ v ∈ l, ∀ S, look S.2 p = some q → look (f v S).2.2 p = some q) → (S : List Wd × Went) → look S.2 p = some q → look (cpL f l S).2.2 p = some q
  | [], _, _, h => h
  | v :: l, hf, S, h => cpL_keeps p q l (fun u hu => hf u (List.mem_cons_of_mem _ hu)) _ (hf v (by simp) S h)
theorem cpF_keeps (ws : List Wd) (p q : Nat) : (n : Nat) → (v : Wd) → (S : List Wd × Went) → look S.2 p = some q → look (cpF ws n v S).2.2 p = some q
  | 0, _, _, h => h
  | n + 1, v, S, h => by
    simp only [cpF]
    split
    · split
      · exact h
      · rename_i hk
        split
        · have hne : p ≠ v.2.toNat := by rintro rfl; rw [hk] at h; cases h
          simp only
          rw [look_other _ _ hne]
          exact cpL_keeps p q _ (fun u _ S hS => cpF_keeps ws p q n u S hS) S h
        · exact h
    · exact h
/-- What was copied is not copied again. -/
theorem cpF_idem {ws : List Wd} {nm : List ByteArray} {n : Nat} {x : Tm n} {v : Wd} (h : Stands ws nm n x v) (S S2 : List Wd × Went) (hk : ∀ p q, look (cpF ws n v S).2.2 p = some q → look S2.2 p = some q) : (cpF ws n v S2).2 = S2 := by
  cases n with
  | zero => exact h.elim
  | succ n =>
    by_cases h4 : x.1.1 = 4
    · obtain ⟨p, rfl, hp, hl, hs⟩ := tuple_parts h h4
      obtain ⟨q, hq⟩ : ∃ q, look (cpF ws (n + 1) (4, (p : Int)) S).2.2 p = some q := by
        cases hk : look S.2 p with
        | some q => rw [cpF_old hk]; exact ⟨q, hk⟩
        | none => rw [cpF_new hk hp]; exact ⟨_, look_same _ _ _⟩
      rw [cpF_old (hk p q hq)]
    · rw [cpF_leaf (leaf_not4 h h4)]
theorem cpL_same {f : Wd → List Wd × Went → Wd × List Wd × Went} {v : Wd} {S : List Wd × Went} (h : (f v S).2 = S) : (k : Nat) → (cpL f (List.replicate k v) S).2 = S
  | 0 => rfl
  | k + 1 => by
    rw [List.replicate_succ]
    simp only [cpL]
    rw [h]
    exact cpL_same h k

/-- What is just copied is copied whole again. -/
def idW (g : Went) : Went := g.map fun e => (e.2, e.2)
def Low (S : List Wd × Went) : Prop := ∀ e ∈ S.2, e.2 < S.1.length
theorem look_id (g : Went) (q : Nat) : (∃ e ∈ g, e.2 = q) → look (idW g) q = some q := by
  induction g with
  | nil => rintro ⟨e, he, _⟩; cases he
  | cons a g ih =>
    rintro ⟨e, he, rfl⟩
    by_cases hq : a.2 = e.2
    · have : idW (a :: g) = (a.2, a.2) :: idW g := rfl
      rw [this, hq, look_same]
    · have : idW (a :: g) = (a.2, a.2) :: idW g := rfl
      rw [this, look_other _ _ (fun h => hq h.symm)]
      rcases List.mem_cons.1 he with rfl | he
      · exact absurd rfl hq
      · exact ih ⟨e, he, rfl⟩
theorem look_none (g : Went) (q : Nat) (h : ∀ e ∈ g, e.2 ≠ q) : look (idW g) q = none := by
  induction g with
  | nil => rfl
  | cons a g ih =>
    have : idW (a :: g) = (a.2, a.2) :: idW g := rfl
    rw [this, look_other _ _ (fun e => h a (by simp) e.symm)]
    exact ih fun e he => h e (List.mem_cons_of_mem _ he)
theorem look_mem {g : Went} {p q : Nat} (h : look g p = some q) : ∃ e ∈ g, e.2 = q := by
  unfold look at h
  obtain ⟨e, he, rfl⟩ := Option.map_eq_some_iff.1 h
  exact ⟨e, List.mem_of_find?_eq_some he, rfl⟩

theorem cpF_pre {ws : List Wd} {nm : List ByteArray} : (n : Nat) → (x : Tm n) → (v : Wd) → (S : List Wd × Went) → Stands ws nm n x v → S.1 <+: (cpF ws n v S).2.1
  | 0, _, _, _, h => h.elim
  | n + 1, x, v, S, h => by
    by_cases h4 : x.1.1 = 4
    · obtain ⟨p, rfl, hp, hl, hs⟩ := tuple_parts h h4
      cases hk : look S.2 p with
      | some q => rw [cpF_old hk]; exact List.prefix_refl _
      | none =>
        rw [cpF_new hk hp]
        have key : ∀ (l : List Wd) (p : List (Tm n)) (S : List Wd × Went), StandL ws nm n l p → S.1 <+: (cpL (cpF ws n) l S).2.1 := by
          intro l
          induction l with
          | nil => intro p S _; exact List.prefix_refl _
          | cons v l il =>
            intro p S h
            cases p with
            | nil => have := h.1; simp at this
            | cons y p => exact (cpF_pre n y v S (h.2 0 v y rfl rfl)).trans (il p _ ⟨by have := h.1; simpa using this, fun i v' y' hv hy => h.2 (i + 1) v' y' (by simpa using hv) (by simpa using hy)⟩)
        exact (key _ _ S hs).trans (List.prefix_append _ _)
    · rw [cpF_leaf (leaf_not4 h h4)]
      exact List.prefix_refl _
def Again (us : List Wd) (n : Nat) (u : Wd) (S S1 : List Wd × Went) : Prop := cpF us n u (S.1, idW S.2) = (u, S1.1, idW S1.2)
theorem cpL_again {ws us : List Wd} {nm : List ByteArray} {n : Nat} (ih : ∀ (x : Tm n) (v : Wd) (S : List Wd × Went), Stands ws nm n x v → Low S → (cpF ws n v S).2.1 <+: us → Low (cpF ws n v S).2 ∧ S.1 <+: (cpF ws n v S).2.1 ∧ Again us n (cpF ws n v S).1 S (cpF ws n v S).2) (hpre : ∀ (x : Tm n) (v : Wd) (S : List Wd × Went), Stands ws nm n x v → S.1 <+: (cpF ws n v S).2.1) :
    (l : List Wd) → (p : List (Tm n)) → (S : List Wd × Went) → StandL ws nm n l p → Low S → (cpL (cpF ws n) l S).2.1 <+: us →
      Low (cpL (cpF ws n) l S).2 ∧ S.1 <+: (cpL (cpF ws n) l S).2.1 ∧ cpL (cpF us n) (cpL (cpF ws n) l S).1 (S.1, idW S.2) = ((cpL (cpF ws n) l S).1, (cpL (cpF ws n) l S).2.1, idW (cpL (cpF ws n) l S).2.2)
  | [], _, S, _, hS, _ => ⟨hS, List.prefix_refl _, rfl⟩
  | _ :: _, [], _, h, _, _ => by have := h.1; simp at this
  | v :: l, y :: p, S, h, hS, hu => by
    have hst : StandL ws nm n l p := ⟨by have := h.1; simpa using this, fun i v' y' hv hy => h.2 (i + 1) v' y' (by simpa using hv) (by simpa using hy)⟩
    have hpl : ∀ (l : List Wd) (p : List (Tm n)) (S : List Wd × Went), StandL ws nm n l p → S.1 <+: (cpL (cpF ws n) l S).2.1 := by
      intro l
      induction l with
      | nil => intro p S _; exact List.prefix_refl _
      | cons v l il =>
        intro p S h
        cases p with
        | nil => have := h.1; simp at this
        | cons y p => exact (hpre y v S (h.2 0 v y rfl rfl)).trans (il p _ ⟨by have := h.1; simpa using this, fun i v' y' hv hy => h.2 (i + 1) v' y' (by simpa using hv) (by simpa using hy)⟩)
    simp only [cpL] at hu ⊢
    obtain ⟨a1, a2, a3⟩ := ih y v S (h.2 0 v y rfl rfl) hS ((hpl l p _ hst).trans hu)
    obtain ⟨b1, b2, b3⟩ := cpL_again ih hpre l p (cpF ws n v S).2 hst a1 hu
    refine ⟨b1, a2.trans b2, ?_⟩
    unfold Again at a3
    rw [a3]
    simp only
    rw [b3]
theorem cpF_again {ws us : List Wd} {nm : List ByteArray} : (n : Nat) → (x : Tm n) → (v : Wd) → (S : List Wd × Went) → Stands ws nm n x v → Low S → (cpF ws n v S).2.1 <+: us → Low (cpF ws n v S).2 ∧ S.1 <+: (cpF ws n v S).2.1 ∧ Again us n (cpF ws n v S).1 S (cpF ws n v S).2
  | 0, _, _, _, h, _, _ => h.elim
  | n + 1, x, v, S, h, hS, hu => by
    by_cases h4 : x.1.1 = 4
    · obtain ⟨p, rfl, hp, hl, hs⟩ := tuple_parts h h4
      cases hk : look S.2 p with
      | some q =>
        rw [cpF_old hk]
        refine ⟨hS, List.prefix_refl _, ?_⟩
        unfold Again
        rw [cpF_old (S := (S.1, idW S.2)) (look_id _ _ (look_mem hk))]
      | none =>
        have hpre : ∀ (x : Tm n) (v : Wd) (S : List Wd × Went), Stands ws nm n x v → S.1 <+: (cpF ws n v S).2.1 := fun x v S hst => cpF_pre n x v S hst
        rw [cpF_new hk hp] at hu ⊢
        simp only at hu ⊢
        obtain ⟨a1, a2, a3⟩ := cpL_again (fun x v S => cpF_again n x v S) hpre (partsOf ws p x.2.2.length) x.2.2 S hs hS ((List.prefix_append _ _).trans hu)
        have hcl := cpL_length (cpF ws n) (partsOf ws p x.2.2.length) S
        rw [partsOf_length hl] at hcl
        have hfr : look (idW S.2) (cpL (cpF ws n) (partsOf ws p x.2.2.length) S).2.1.length = none := look_none _ _ fun e he => by
          have h1 := hS e he
          have h2 := a2.length_le
          omega
        have hat : us[(cpL (cpF ws n) (partsOf ws p x.2.2.length) S).2.1.length]? = some (0, (x.2.2.length : Int)) := pre_at hu (by rw [List.getElem?_append_right (Nat.le_refl _), Nat.sub_self]; rfl)
        have hpp := parts_pre hu
        rw [hcl] at hpp
        refine ⟨?_, a2.trans (List.prefix_append _ _), ?_⟩
        · intro e he
          simp only [List.length_append, List.length_cons]
          rcases List.mem_cons.1 he with rfl | he
          · simp only; omega
          · have := a1 e he; omega
        · unfold Again
          rw [cpF_new (S := (S.1, idW S.2)) hfr hat, hpp, a3]
          rfl
    · have hv := leaf_not4 h h4
      rw [cpF_leaf hv]
      refine ⟨hS, List.prefix_refl _, ?_⟩
      unfold Again
      rw [cpF_leaf hv]
/-- Collected twice is collected once. -/
theorem again_all {ws : List Wd} {nm : List ByteArray} {n : Nat} {vs : List Wd} {p : List (Tm n)} (h : StandL ws nm n vs p) :
    (cpL (cpF (cpL (cpF ws n) vs ([], [])).2.1 n) (cpL (cpF ws n) vs ([], [])).1 ([], [])).2.1 = (cpL (cpF ws n) vs ([], [])).2.1 := by
  have := (cpL_again (us := (cpL (cpF ws n) vs ([], [])).2.1) (fun x v S => cpF_again n x v S) (fun x v S hst => cpF_pre n x v S hst) vs p ([], []) h (fun e he => by cases he) (List.prefix_refl _)).2.2
  have e : ((([], []) : List Wd × Went).1, idW (([], []) : List Wd × Went).2) = (([], []) : List Wd × Went) := rfl
  rw [e] at this
  rw [this]
end Go.Proofs.Ytdlckjjfbobmpaa
namespace Go.Proofs.Ytdlckjjfbobmpaa
open Go.RowKit Go.Maps

theorem words_later {w w1 : World} {vs : List Wd} {a : Option Addr} (h : WordsIn w vs a) (hb : Below w.heap.size w w1) : WordsIn w1 vs a := by
  rcases h with h | ⟨b, o, e, hl, h⟩
  · exact Or.inl h
  · exact Or.inr ⟨b, o, e, Nat.lt_of_lt_of_le hl hb.size, fun i v hv => ⟨(below_cells hb b _ hl).trans (h i v hv).1, (below_cells hb b _ hl).trans (h i v hv).2⟩⟩
theorem words_lt {w : World} {vs : List Wd} {a : Option Addr} (h : WordsIn w vs a) (hne : vs ≠ []) : ∀ b o, a = some ⟨b, o, none⟩ → b < w.heap.size := by
  rcases h with h | ⟨b, o, e, hl, h⟩
  · exact absurd h hne
  · intro b' o' e'
    rw [e] at e'
    injection e' with e'
    injection e' with e1 _
    omega
/-- What roots must be. -/
def Roots (ws : List Wd) (nm : List ByteArray) (n : Nat) (vs : List Wd) (p : List (Tm n)) : Prop :=
  StandL ws nm n vs p ∧ (∀ y ∈ p, RightA ⟨n, y⟩) ∧ (∀ y ∈ p, closedT n y = true) ∧ (p.map fun y => 1 + sz n y).sum ≤ 90000 ∧ (p.flatMap fun y => nodes n y).length ≤ 90000 ∧ vs.length ≤ 1000
def rootsR (ws : List Wd) (n : Nat) (vs : List Wd) : List Wd × List Wd × Went := cpL (cpF ws n) vs ([], [])
theorem Roots.all {ws : List Wd} {nm : List ByteArray} {n : Nat} {vs : List Wd} {p : List (Tm n)} (h : Roots ws nm n vs p) (hw : ws.length ≤ 1000) (hn : nm.length ≤ 50000) : vs.all (standsB ws nm) = true ∧ ∀ v ∈ vs, I64 v.2 := by
  have key : ∀ v ∈ vs, standsB ws nm v = true ∧ I64 v.2 := fun v hv => by
    obtain ⟨y, hy, hs⟩ := h.1.mem hv
    exact stands_B hs (h.2.1 y hy) (h.2.2.1 y hy) (by omega) (by omega)
  exact ⟨List.all_eq_true.2 fun v hv => (key v hv).1, fun v hv => (key v hv).2⟩

theorem hlive_any (n : Nat) (p : List (Tm n)) (vs : List Wd) (a : Option Addr) (pc base hp : Nat) (room : Int) (ws : List Wd) (nm : List ByteArray) (M : Nat → Prop) (w : World) (h : HpAt base hp room ws nm M w) (hr : Roots ws nm n vs p) (hin : WordsIn w vs a) (hne : vs ≠ []) (hw : ws.length ≤ 1000) (hn : nm.length ≤ 50000) :
    Calls Try.prog 16 #[.pointer (some ⟨hp, 0, none⟩), .slice a vs.length pc] w fun e w' => e = .returned (.tuple #[.int .i64 (rootsR ws n vs).2.1.length, .int .i64 0]) ∧ Below w.heap.size w w' := by
  obtain ⟨hall, hi64⟩ := hr.all hw hn
  obtain ⟨tv, lv, mv, h1, h2, h3, h4, h5, h6, h7⟩ := id h
  obtain ⟨⟨c0, c1, c2, c3⟩, hf⟩ := h1.cells
  obtain ⟨ta, tc, rfl⟩ : ∃ ta tc, tv = .slice ta ws.length tc := by
    rcases h2.2 with ⟨e, e0⟩ | ⟨g, c, cur, e, _⟩
    · exact ⟨none, 0, by rw [e, e0]⟩
    · exact ⟨_, c, e⟩
  refine live_walk (rootsR ws n vs) hp ta ws.length tc a vs.length pc w h1.lt c1 ?_ ?_
  · have hk := allStand_any base hp room ws nm M vs a vs.length pc w h (by omega) rfl (by have := hr.2.2.2.2.2; omega) hin hi64
    rw [hall] at hk
    exact hk
  · intro w1 hb
    refine reached_any ws nm n vs p base (.slice ta ws.length tc) a pc w1 (own_below h2 hb) hr.1 hr.2.1 (by omega) (by have := hr.2.2.2.2.2; omega) hr.2.2.2.1 hr.2.2.2.2.1 (words_later hin hb) ?_
    intro b o e
    exact Nat.lt_of_lt_of_le (words_lt hin hne b o e) hb.size

/-- What Collect leaves: the heap, apart from the row g of the answer. -/
def CollOut (base hp : Nat) (room : Int) (R : List Wd × List Wd × Went) (nm : List ByteArray) (M : Nat → Prop) (g : Nat) (w w' : World) : Prop :=
  HpAt base hp room R.2.1 nm (fun b => (M b ∨ w.heap.size ≤ b) ∧ b ≠ g) w' ∧ Keep M w w' ∧ WordsIn w' R.1 (some ⟨g, 0, none⟩) ∧ w.heap.size ≤ g ∧ g < w'.heap.size
theorem words_row {w : World} {g base len : Nat} {vs : List Wd} (h : w.ownsRow base 38 2 (.slice (some ⟨g, 0, none⟩) len len) len (wCells vs)) : WordsIn w vs (some ⟨g, 0, none⟩) ∧ g < w.heap.size := by
  refine ⟨Or.inr ⟨g, 0, rfl, (h.lt g rfl).2, fun i v hv => ?_⟩, (h.lt g rfl).2⟩
  have := word_cells h i v hv
  rw [Nat.zero_add]
  exact this
theorem coll_out {base hp : Nat} {room : Int} {ws : List Wd} {nm : List ByteArray} {M : Nat → Prop} {R : List Wd × List Wd × Went} {len g : Nat} {tv : Value} {w w1 w2 : World} (h : HpAt base hp room ws nm M w) (hb : Below w.heap.size w w1) (hr : ReachOut R len g tv w1 w2) (hbw : base ≤ w.heap.size) : CollOut base hp room R nm M g w (w2.setCell ⟨hp, 1, none⟩ tv) := by
  have hl := collect_out h hb hr hbw
  obtain ⟨r1, r2, r3, r4, r5⟩ := hr
  have hs := hb.size
  have hb2 := hb.trans (r1.mono hs)
  obtain ⟨tv0, lv, mv, h1, h2, h3, h4, h5, h6, h7⟩ := h.later hb2
  have k := keep_set w2 hp 1 tv
  have r6 : ∀ b, tv.ownBlock = some b → w1.heap.size ≤ b := fun b e => (r2.lt b e).1
  have hhp : hp < w.heap.size := h4.2
  refine ⟨⟨tv, lv, mv, h1.set1 tv, row_kept (own_base r2 (by omega)) k (fun b e e' => ?_), h3.kept k (fun b e e' => ?_) (fun b e e' => ?_), ⟨Or.inl h4.1, by omega⟩, fun b e => ⟨Or.inr (by have := r6 b e; omega), fun e' => r5 (by rw [e, e'])⟩, fun b e => ⟨Or.inl (h6 b e).1, by have := (h6 b e).2; omega⟩, fun b e => ⟨Or.inl (h7 b e).1, by have := (h7 b e).2; omega⟩⟩, hl.2, ?_, by omega, ?_⟩
  · subst e'
    have := r6 b e
    omega
  · subst e'
    exact row_box h3.1 h1 (by decide) e
  · subst e'
    exact map_box h3 h1 e
  · have r3' := row_kept r3 k (fun b e e' => by
      subst e'
      simp only [Value.ownBlock] at e
      have := Option.some.inj e
      omega)
    exact (words_row r3').1
  · have := (words_row r3).2
    simpa [World.setCell] using this

theorem hcollect_any (n : Nat) (p : List (Tm n)) (vs : List Wd) (a : Option Addr) (pc base hp : Nat) (room : Int) (ws : List Wd) (nm : List ByteArray) (M : Nat → Prop) (w : World) (h : HpAt base hp room ws nm M w) (hr : Roots ws nm n vs p) (hin : WordsIn w vs a) (hlt : ∀ b o, a = some ⟨b, o, none⟩ → b < w.heap.size) (hbw : base ≤ w.heap.size) (hw : ws.length ≤ 1000) (hn : nm.length ≤ 50000) :
    Calls Try.prog 13 #[.pointer (some ⟨hp, 0, none⟩), .slice a vs.length pc] w fun e w' => ∃ g, e = .returned (.tuple #[.slice (some ⟨g, 0, none⟩) vs.length vs.length, .int .i64 0]) ∧ Hid (CollOut base hp room (rootsR ws n vs) nm M g w w') := by
  obtain ⟨hall, hi64⟩ := hr.all hw hn
  obtain ⟨tv, lv, mv, h1, h2, h3, h4, h5, h6, h7⟩ := id h
  obtain ⟨⟨c0, c1, c2, c3⟩, hf⟩ := h1.cells
  obtain ⟨ta, tc, rfl⟩ : ∃ ta tc, tv = .slice ta ws.length tc := by
    rcases h2.2 with ⟨e, e0⟩ | ⟨g, c, cur, e, _⟩
    · exact ⟨none, 0, by rw [e, e0]⟩
    · exact ⟨_, c, e⟩
  refine (collect_walk (rootsR ws n vs) hp ta ws.length tc a vs.length pc w h1.lt c1 (hf 1) ?_ ?_).mono ?_
  · have hk := allStand_any base hp room ws nm M vs a vs.length pc w h (by omega) rfl (by have := hr.2.2.2.2.2; omega) hin hi64
    rw [hall] at hk
    exact hk
  · intro w1 hb
    refine reached_any ws nm n vs p base (.slice ta ws.length tc) a pc w1 (own_below h2 hb) hr.1 hr.2.1 (by omega) (by have := hr.2.2.2.2.2; omega) hr.2.2.2.1 hr.2.2.2.2.1 (words_later hin hb) ?_
    intro b o e
    exact Nat.lt_of_lt_of_le (hlt b o e) hb.size
  · rintro e w' ⟨g, tv, w1, w2, rfl, rfl, H⟩
    exact ⟨g, rfl, coll_out h H.out.1 H.out.2 hbw⟩
end Go.Proofs.Ytdlckjjfbobmpaa
namespace Go.Proofs.Ytdlckjjfbobmpaa

/-- The parts of the tuple at a place; how many words it has. -/
def prt (ws : List Wd) (p : Nat) : List Wd := match ws[p]? with | some h => partsOf ws p h.2.toNat | none => []
def wtP (ws : List Wd) (p : Nat) : Nat := match ws[p]? with | some h => 1 + h.2.toNat | none => 0
def cpW (g : Went) (v : Wd) : Wd := if v.1 = 4 then (4, (((look g v.2.toNat).getD 0 : Nat) : Int)) else v
theorem prt_at {ws : List Wd} {p m : Nat} (h : ws[p]? = some (0, (m : Int))) : prt ws p = partsOf ws p m := by simp [prt, h]
theorem wtP_at {ws : List Wd} {p m : Nat} (h : ws[p]? = some (0, (m : Int))) : wtP ws p = 1 + m := by simp [wtP, h]
theorem look_in {g : Went} {p q : Nat} (h : look g p = some q) : (p, q) ∈ g := by
  unfold look at h
  cases hf : g.find? fun e => e.1 == p with
  | none => rw [hf] at h; cases h
  | some e =>
    rw [hf] at h
    have h1 := List.find?_some hf
    have h2 := List.mem_of_find?_eq_some hf
    obtain ⟨a, b⟩ := e
    simp at h h1
    subst h h1
    exact h2
theorem look_no {g : Went} {p : Nat} : look g p = none ↔ p ∉ g.map (·.1) := by
  unfold look
  rw [Option.map_eq_none_iff, List.find?_eq_none]
  simp only [List.mem_map, not_exists, not_and]
  constructor
  · intro h e he hp
    exact h e he (by simpa using hp)
  · intro h e he hp
    exact h e he (by simpa using hp)
theorem in_look {g : Went} (hn : (g.map (·.1)).Nodup) {p q : Nat} (h : (p, q) ∈ g) : look g p = some q := by
  induction g with
  | nil => cases h
  | cons e g ih =>
    obtain ⟨a, b⟩ := e
    rw [List.map_cons, List.nodup_cons] at hn
    rcases List.mem_cons.1 h with h | h
    · injection h with h1 h2
      subst h1 h2
      exact look_same g p q
    · have hne : p ≠ a := fun e => hn.1 (by rw [← e]; exact List.mem_map.2 ⟨_, h, rfl⟩)
      rw [look_other g b hne]
      exact ih hn.2 h
/-- What a word stands for has one size. -/
theorem stands_sz {ws : List Wd} {nm : List ByteArray} : (n : Nat) → (x : Tm n) → (m : Nat) → (y : Tm m) → (v : Wd) → Stands ws nm n x v → Stands ws nm m y v → sz n x = sz m y
  | 0, _, _, _, _, h, _ => h.elim
  | _ + 1, _, 0, _, _, _, h => h.elim
  | n + 1, x, m + 1, y, v, hx, hy => by
    by_cases h4 : x.1.1 = 4
    · obtain ⟨p, rfl, hp, hl, hs⟩ := tuple_parts hx h4
      have hy4 : y.1.1 = 4 := Classical.byContradiction fun h => leaf_not4 hy h rfl
      obtain ⟨p', e, hp', hl', hs'⟩ := tuple_parts hy hy4
      have e : p = p' := by
        have := (Prod.mk.inj e).2
        omega
      subst e
      rw [hp] at hp'
      have hlen : x.2.2.length = y.2.2.length := by
        have := (Prod.mk.inj (Option.some.inj hp')).2
        omega
      simp only [sz, if_pos h4, if_pos hy4]
      have key : ∀ (us : List Wd) (a : List (Tm n)) (b : List (Tm m)), StandL ws nm n us a → StandL ws nm m us b → (a.map fun y => 1 + sz n y) = (b.map fun y => 1 + sz m y) := by
        intro us
        induction us with
        | nil =>
          intro a b ha hb
          have h1 := ha.1
          have h2 := hb.1
          cases a with
          | nil =>
            cases b with
            | nil => rfl
            | cons _ _ => simp at h2
          | cons _ _ => simp at h1
        | cons u us ih =>
          intro a b ha hb
          have h1 := ha.1
          have h2 := hb.1
          cases a with
          | nil => simp at h1
          | cons a0 a =>
            cases b with
            | nil => simp at h2
            | cons b0 b =>
              have e0 := stands_sz n a0 m b0 u (ha.2 0 u a0 rfl rfl) (hb.2 0 u b0 rfl rfl)
              have e1 := ih a b ⟨by simpa using h1, fun i v y hv hy => ha.2 (i + 1) v y (by simpa using hv) (by simpa using hy)⟩ ⟨by simpa using h2, fun i v y hv hy => hb.2 (i + 1) v y (by simpa using hv) (by simpa using hy)⟩
              rw [List.map_cons, List.map_cons, e0, e1]
      rw [← hlen] at hs'
      rw [key _ _ _ hs hs']
    · have hv := leaf_not4 hx h4
      have hy4 : y.1.1 ≠ 4 := fun h => by
        obtain ⟨p, rfl, _⟩ := tuple_parts hy h
        exact hv rfl
      simp [sz, h4, hy4]
/-- What holds of copying. -/
structure CInv (ws : List Wd) (S : List Wd × Went) : Prop where
  nodup : (S.2.map (·.1)).Nodup
  lt : ∀ e ∈ S.2, e.1 < ws.length
  len : S.1.length = (S.2.map fun e => wtP ws e.1).sum
  shut : ∀ e ∈ S.2, ∀ u ∈ prt ws e.1, u.1 = 4 → (look S.2 u.2.toNat).isSome = true
  went : ∀ e ∈ S.2, ∃ m : Nat, ws[e.1]? = some (0, (m : Int)) ∧ S.1[e.2]? = some (0, (m : Int)) ∧ e.2 + 1 + m ≤ S.1.length ∧ partsOf S.1 e.2 m = (prt ws e.1).map (cpW S.2)
  once : (S.2.map (·.2)).Nodup
theorem CInv.nil (ws : List Wd) : CInv ws ([], []) := ⟨List.nodup_nil, fun e h => (by cases h), rfl, fun e h => (by cases h), fun e h => (by cases h), List.nodup_nil⟩
/-- Whatever is shut under parts holds all that is copied. -/
def Shut (ws : List Wd) (P : Nat → Prop) : Prop := ∀ p, P p → ∀ u ∈ prt ws p, u.1 = 4 → P u.2.toNat
theorem cpL_least {ws : List Wd} {P : Nat → Prop} {n : Nat} (ih : ∀ (v : Wd) (S : List Wd × Went), (v.1 = 4 → P v.2.toNat) → (∀ e ∈ S.2, P e.1) → ∀ e ∈ (cpF ws n v S).2.2, P e.1) :
    (us : List Wd) → (S : List Wd × Went) → (∀ v ∈ us, v.1 = 4 → P v.2.toNat) → (∀ e ∈ S.2, P e.1) → ∀ e ∈ (cpL (cpF ws n) us S).2.2, P e.1
  | [], _, _, h => h
  | v :: us, S, hv, h => by
    simp only [cpL]
    exact cpL_least ih us _ (fun u hu => hv u (List.mem_cons_of_mem _ hu)) (ih v S (hv v (by simp)) h)
theorem cpF_least {ws : List Wd} {P : Nat → Prop} (hP : Shut ws P) : (n : Nat) → (v : Wd) → (S : List Wd × Went) → (v.1 = 4 → P v.2.toNat) → (∀ e ∈ S.2, P e.1) → ∀ e ∈ (cpF ws n v S).2.2, P e.1
  | 0, _, _, _, h => h
  | n + 1, v, S, hv, h => by
    unfold cpF
    split
    · rename_i h4
      split
      · exact h
      · split
        · rename_i q hq h0 hh
          intro e he
          rcases List.mem_cons.1 he with he | he
          · subst he
            exact hv h4
          · refine cpL_least (fun v S => cpF_least hP n v S) _ S (fun u hu h4' => hP _ (hv h4) u ?_ h4') h e he
            simp only [prt, hh]
            exact hu
        · exact h
    · exact h
end Go.Proofs.Ytdlckjjfbobmpaa
