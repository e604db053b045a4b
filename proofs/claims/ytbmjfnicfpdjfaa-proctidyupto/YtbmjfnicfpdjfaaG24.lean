/- What is proved here: plain facts and contracts that the claimed theorem stands on, several texts in one: heap.copying's one: of a word that is no tuple, and of a tuple that went already. No condition but sizes. heap.copying's all, from what one does at each word: the copies' row, in new memory. No condition but sizes, and that the words lie outside of the copying's own blocks. add, at a copying; a copying's map that has one more. No condition but sizes. heap.copying's one, of a tuple that didn't go yet, from what all does at its parts. No condition but sizes. heap.copying's one and all of words that stand for right terms: what cpF and cpL say. No condition but sizes. heap.copying's one and all of words that stand for right terms, in memory: what cpF and cpL say. No condition but sizes. plain facts on copies: whatever a word stands for, its copy stands for among the words copied. No condition but that the word stands for something. heap.tuples' reached, of words that stand for right terms: the copies. No condition but sizes. Live and Collect of a heap, from what allStand and reached do. No condition but those. -/
import Derived.Test.YtbmjfnicfpdjfaaG23
namespace Go.Proofs.Ytbmjfnicfpdjfaa
open Go.RowKit Go.Maps

/-- A copying's box: what it copies from, what it copies to, where tuples went. -/
def CB (cb : Nat) (fv tv mv : Value) (w : World) : Prop := w.heap[cb]? = some (.cells #[fv, tv, mv] 128)
theorem CB.lt {cb : Nat} {fv tv mv : Value} {w : World} (h : CB cb fv tv mv w) : cb < w.heap.size := (Array.getElem?_eq_some_iff.1 h).1
theorem CB.cells {cb : Nat} {fv tv mv : Value} {w : World} (h : CB cb fv tv mv w) : (w.cell? ⟨cb, 0, none⟩ = some fv ∧ w.cell? ⟨cb, 1, none⟩ = some tv ∧ w.cell? ⟨cb, 2, none⟩ = some mv) ∧ ∀ j, w.frozen? ⟨cb, j, none⟩ = false := by
  unfold CB at h
  refine ⟨⟨?_, ?_, ?_⟩, fun j => ?_⟩
  all_goals simp [World.cell?, World.frozen?, h]
theorem CB.set1 {cb : Nat} {fv tv mv : Value} {w : World} (h : CB cb fv tv mv w) (v : Value) : CB cb fv v mv (w.setCell ⟨cb, 1, none⟩ v) := by
  unfold CB at *
  simp [World.setCell, Array.getElem?_modify, h]
theorem CB.kept {cb : Nat} {fv tv mv : Value} {w w' : World} (h : CB cb fv tv mv w) (k : w'.heap[cb]? = w.heap[cb]?) : CB cb fv tv mv w' := k.trans h

/-- A copying in memory, whose blocks are among those of which M holds. -/
def CpAt (base cb : Nat) (fv : Value) (S : List Wd × Went) (M : Nat → Prop) (w : World) : Prop :=
  ∃ tv mb D, CB cb fv tv (.map (some mb)) w ∧ w.ownsRow base 60 2 tv S.1.length (wCells S.1) ∧ w.ownsMap Try.prog 3 (plainElem Try.prog 3) mb S.2.length D ∧ WentOf D S.2 ∧ M cb ∧ (∀ b, tv.ownBlock = some b → M b) ∧ M mb
theorem CpAt.kept {base cb : Nat} {fv : Value} {S : List Wd × Went} {M T : Nat → Prop} {w w' : World} (h : CpAt base cb fv S M w) (k : Keep T w w') (hd : ∀ b, M b → b < w.heap.size → ¬ T b) : CpAt base cb fv S M w' := by
  obtain ⟨tv, mb, D, h1, h2, h3, h4, h5, h6, h7⟩ := h
  refine ⟨tv, mb, D, h1.kept (k.block cb h1.lt (hd cb h5 h1.lt)), row_kept h2 k fun b e => hd b (h6 b e) (h2.lt b e).2, ?_, h4, h5, h6, h7⟩
  have hl := h3.lt
  obtain ⟨es, clock, hh, hr⟩ := h3
  exact ⟨es, clock, (k.block mb hl (hd mb h7 hl)).trans hh, hr⟩
theorem CpAt.inside {base cb : Nat} {fv : Value} {S : List Wd × Went} {M : Nat → Prop} {w : World} (h : CpAt base cb fv S M w) : CpAt base cb fv S (fun b => M b ∧ b < w.heap.size) w := by
  obtain ⟨tv, mb, D, h1, h2, h3, h4, h5, h6, h7⟩ := h
  exact ⟨tv, mb, D, h1, h2, h3, h4, ⟨h5, h1.lt⟩, fun b e => ⟨h6 b e, (h2.lt b e).2⟩, h7, h3.lt⟩
theorem CpAt.later {base cb : Nat} {fv : Value} {S : List Wd × Went} {M : Nat → Prop} {w wA : World} (h : CpAt base cb fv S M w) (hb : Below w.heap.size w wA) : CpAt base cb fv S (fun b => M b ∧ b < w.heap.size) wA :=
  h.inside.kept (keep_below hb (fun _ => False)) fun _ _ _ h => h
theorem CpAt.mono {base cb : Nat} {fv : Value} {S : List Wd × Went} {M T : Nat → Prop} {w : World} (h : CpAt base cb fv S M w) (k : ∀ b, M b → T b) : CpAt base cb fv S T w := by
  obtain ⟨tv, mb, D, h1, h2, h3, h4, h5, h6, h7⟩ := h
  exact ⟨tv, mb, D, h1, h2, h3, h4, k _ h5, fun b e => k b (h6 b e), k _ h7⟩

set_option maxHeartbeats 1000000 in
set_option maxRecDepth 100000 in
theorem one_else (cb : Nat) (k u : Int) (w : World) (h4 : ¬ k = 4) :
    Calls Try.prog 84 #[.pointer (some ⟨cb, 0, none⟩), .agg #[.int .i64 k, .int .i64 u]] w fun e w' => e = .returned (.agg #[.int .i64 k, .int .i64 u]) ∧ Below w.heap.size w w' := by
  have b4 : (k != 4) = true := by simpa using h4
  go_enter Try.func84, Try.ntmps84
  go_wp2_with fail
  exact bodyPost_ret (v := .agg #[.int .i64 k, .int .i64 u]) (by simp [results, Try.results84, go_sem]) rfl ⟨rfl, by go_grown⟩

theorem went_at {D : DataW Unit} {g : Went} (h : WentOf D g) {p q : Nat} {c : Int} (hl : look g p = some q) (hc : D.atKey (.int .i64 p) (.lit (.int .i64 0)) = .lit (.int .i64 c)) : c = q := by
  have := (h p).2 q hl
  rw [this] at hc
  simp at hc
  exact hc.symm

set_option maxHeartbeats 1000000 in
set_option maxRecDepth 100000 in
theorem one_old (base cb : Nat) (fv : Value) (S : List Wd × Went) (M : Nat → Prop) (p q : Nat) (w : World) (h : Hid (CpAt base cb fv S M w)) (hl : Hid (look S.2 p = some q)) (hp : p ≤ 100000) :
    Calls Try.prog 84 #[.pointer (some ⟨cb, 0, none⟩), .agg #[.int .i64 4, .int .i64 p]] w fun e w' => e = .returned (.agg #[.int .i64 4, .int .i64 q]) ∧ Below w.heap.size w w' := by
  go_enter Try.func84, Try.ntmps84
  go_wp2_with fail
  generalize hwA : (w.alloc (Obj.cells #[Value.int IntKind.i64 4, Value.int IntKind.i64 p] 60)).alloc (Obj.cells #[.int .i64 0, .int .i64 0] 60) = wA
  have HA : Hid (Below w.heap.size w wA.drew ∧ wA.drew.heap.size = w.heap.size + 2) := by
    subst hwA
    exact ⟨(((Below.refl _ _).alloc (Nat.le_refl _) _).alloc (by simp) _).drew, by simp [World.drew]⟩
  have e1 : wA.cell? ⟨w.heap.size, 1, none⟩ = some (.int .i64 p) := by subst hwA; simp [go_sem]
  have HR : Hid (JBox (w.heap.size + 1) wA.drew) := by
    subst hwA
    have := heap_alloc_new (w.alloc (Obj.cells #[Value.int IntKind.i64 4, Value.int IntKind.i64 p] 60)) (Obj.cells #[.int .i64 0, .int .i64 0] 60)
    have es : ∀ o, (w.alloc o).heap.size = w.heap.size + 1 := fun o => by simp
    rw [es] at this
    exact this
  obtain ⟨mb, c2, hlk⟩ : ∃ mb, wA.cell? ⟨cb, 2, none⟩ = some (.map (some mb)) ∧ (Instr.lookup 126 (.map (some mb)) (.int .i64 p) true).run Try.prog wA.drew = .ok (.tuple #[.int .i64 q, .bool true]) wA.drew := by
    obtain ⟨tv, mb, D, h1, h2, h3, h4, _⟩ := h.out.later HA.out.1
    obtain ⟨v, ps, hrun, hv⟩ := h3.look_ok intLaw Try.underlying126 (zeroInt _) (plainElem_int Try.underlying3 (WalkArith.wf_i64 (by omega))) (keyOf_int_mk Try.underlying3 (WalkArith.wf_i64 (n := (p : Int)) (by omega)))
    obtain ⟨c, rfl, hc, _⟩ := plainElem_int_inv Try.underlying3 hv
    have e := went_at h4 hl.out (congrArg Prod.fst hc)
    have hh : Maps.has D (.int .i64 p) = true := (h4 p).1.2 (by rw [hl.out]; rfl)
    rw [hh, e] at hrun
    exact ⟨mb, h1.cells.1.2.2, hrun⟩
  clear hwA h
  go_region_held3 (fun w' => w'.cell? ⟨w.heap.size, 1, none⟩ = some (.int .i64 p) ∧ w'.cell? ⟨cb, 2, none⟩ = some (.map (some mb))) (go_keep) (fail)
  obtain ⟨⟨r0, r1⟩, f0, f1⟩ := HR.out.facts
  have HF : Hid (∀ v0 v1, Below w.heap.size w ((wA.drew.setCell ⟨w.heap.size + 1, 0, none⟩ v0).setCell ⟨w.heap.size + 1, 1, none⟩ v1)) := by
    intro v0 v1
    have k1 := keep_set wA.drew (w.heap.size + 1) 0 v0
    have k2 := keep_set (wA.drew.setCell ⟨w.heap.size + 1, 0, none⟩ v0) (w.heap.size + 1) 1 v1
    have k3 := (keep_below HA.out.1 (fun b => b = w.heap.size + 1)).trans (k1.trans k2 (fun b _ h => h)) (fun b _ h => h)
    exact ⟨k3.os, k3.tape, k3.output, k3.size, fun b hb => k3.block b hb (by omega)⟩
  clear hlk HR HA
  generalize wA.drew = wD at *
  go_wp2_with fail
  exact bodyPost_ret (v := .agg #[.int .i64 4, .int .i64 q]) (by simp [results, Try.results84, go_sem, r0, r1]) rfl ⟨rfl, HF.out _ _⟩
end Go.Proofs.Ytbmjfnicfpdjfaa
namespace Go.Proofs.Ytbmjfnicfpdjfaa
open Go.RowKit Go.Maps

/-- What a call that copied something leaves. -/
def CLaid (base cb : Nat) (fv : Value) (S : List Wd × Went) (M : Nat → Prop) (w w' : World) : Prop := CpAt base cb fv S (fun b => M b ∨ w.heap.size ≤ b) w' ∧ Keep M w w'
/-- The words of a row, k of which are copied. -/
def AllC (f : Wd → List Wd × Went → Wd × List Wd × Went) (vs : List Wd) (len base cb : Nat) (fv : Value) (S : List Wd × Went) (M : Nat → Prop) (g : Nat) (w wB : World) (k : Nat) (wr : World) : Prop :=
  wr.ownsRow g 60 2 (.slice (some ⟨g, 0, none⟩) len len) len (wCells ((cpL f (vs.take k) S).1 ++ List.replicate (len - k) (0, 0))) ∧
  CpAt base cb fv (cpL f (vs.take k) S).2 (fun b => (M b ∧ b < w.heap.size) ∨ wB.heap.size ≤ b) wr ∧
  Keep (fun b => (M b ∧ b < w.heap.size) ∨ b = g) wB wr
theorem all_made {f : Wd → List Wd × Went → Wd × List Wd × Went} {vs : List Wd} {len base cb : Nat} {fv : Value} {S : List Wd × Went} {M : Nat → Prop} {w w0 : World} (h : CpAt base cb fv S M w)
    (ho : w0.ownsRow w.heap.size 60 2 (.slice (some ⟨w.heap.size, 0, none⟩) len len) len (madeCells (Value.agg #[.int .i64 0, .int .i64 0]).cells (len * 2)).toList) (hg : w.grownBy w0 none) :
    AllC f vs len base cb fv S M w.heap.size w w0 0 w0 ∧ Below w.heap.size w w0 ∧ w.heap.size < w0.heap.size := by
  have hb : Below w.heap.size w w0 := ⟨hg.os, hg.tape, hg.output, hg.size, fun b hb => hg.block b hb (by simp)⟩
  refine ⟨⟨?_, ?_, Keep.refl _ _⟩, hb, (ho.lt _ rfl).2⟩
  · simp only [List.take_zero, cpL, List.nil_append, Nat.sub_zero]
    have e2 := made_zero2 len
    have e3 : (Value.agg #[.int .i64 0, .int .i64 0]).cells = #[.int .i64 0, .int .i64 0] := rfl
    rw [e3, e2] at ho
    exact ho
  · simp only [List.take_zero, cpL]
    exact (h.later hb).mono fun b h => Or.inl h
theorem AllC.step {f : Wd → List Wd × Went → Wd × List Wd × Went} {vs : List Wd} {len base cb : Nat} {fv : Value} {S : List Wd × Went} {M : Nat → Prop} {g : Nat} {w wB : World} {k : Nat} {wr w1 w2 : World} (H : AllC f vs len base cb fv S M g w wB k wr) (hg : w.heap.size ≤ g) (hgB : g < wB.heap.size) (hk : k < len) (hpl : vs.length = len) {v : Wd} (hv : vs[k]? = some v) (hb : Below wr.heap.size wr w1)
    (hL : CLaid base cb fv (f v (cpL f (vs.take k) S).2).2 (fun b => ((M b ∧ b < w.heap.size) ∨ wB.heap.size ≤ b) ∧ b < wr.heap.size) w1 w2) :
    AllC f vs len base cb fv S M g w wB (k + 1) ((w2.setCell ⟨g, k * 2, none⟩ (.int .i64 (f v (cpL f (vs.take k) S).2).1.1)).setCell ⟨g, k * 2 + 1, none⟩ (.int .i64 (f v (cpL f (vs.take k) S).2).1.2)) ∧
    (w2.cell? ⟨g, k * 2, none⟩ = some (.int .i64 0) ∧ w2.cell? ⟨g, k * 2 + 1, none⟩ = some (.int .i64 0)) ∧ w2.frozen? ⟨g, k * 2, none⟩ = false ∧ w2.frozen? ⟨g, k * 2 + 1, none⟩ = false := by
  obtain ⟨H1, H2, H3⟩ := H
  obtain ⟨L1, L2⟩ := hL
  have hgr : g < wr.heap.size := (H1.lt g rfl).2
  have hs1 := hb.size
  have hs3 := H3.size
  have e0 : cpL f (vs.take (k + 1)) S = ((cpL f (vs.take k) S).1 ++ [(f v (cpL f (vs.take k) S).2).1], (f v (cpL f (vs.take k) S).2).2) := by
    rw [List.take_add_one, hv]
    exact cpL_snoc _ _ _ _
  have hl : (cpL f (vs.take k) S).1.length = k := by rw [cpL_length, List.length_take]; omega
  have r2 : w2.ownsRow g 60 2 (.slice (some ⟨g, 0, none⟩) len len) len (wCells ((cpL f (vs.take k) S).1 ++ List.replicate (len - k) (0, 0))) := by
    refine row_kept (own_below H1 hb) L2 fun b e => ?_
    simp only [Value.ownBlock] at e
    obtain rfl := Option.some.inj e
    omega
  generalize cpL f (vs.take k) S = R at *
  generalize f v R.2 = Y at *
  have hz : (R.1 ++ List.replicate (len - k) (0, 0))[k]? = some ((0, 0) : Wd) := by
    rw [List.getElem?_append_right (by omega), hl, Nat.sub_self, List.getElem?_replicate]
    simp; omega
  have k1 := keep_set w2 g (k * 2) (.int .i64 Y.1.1)
  have k2 := keep_set (w2.setCell ⟨g, k * 2, none⟩ (.int .i64 Y.1.1)) g (k * 2 + 1) (.int .i64 Y.1.2)
  have k3 := k1.trans k2 (fun b _ h => h)
  refine ⟨⟨?_, ?_, ?_⟩, word_cells r2 k (0, 0) hz, own_cell2 r2 _, own_cell2 r2 _⟩
  · rw [e0]
    have hh := cell_set (cell_set r2 (k * 2) (.int .i64 Y.1.1)) (k * 2 + 1) (.int .i64 Y.1.2)
    rw [wCells_set _ k Y.1 (by simp; omega)] at hh
    have es : (R.1 ++ List.replicate (len - k) ((0, 0) : Wd)).set k Y.1 = (R.1 ++ [Y.1]) ++ List.replicate (len - (k + 1)) (0, 0) := by
      rw [List.set_append_right _ _ (by omega)]
      have : len - k = (len - (k + 1)) + 1 := by omega
      rw [this, List.replicate_succ]
      simp [hl]
    rw [es] at hh
    exact hh
  · rw [e0]
    refine (L1.kept k3 ?_).mono ?_
    · rintro b (⟨h, _⟩ | h) _ e <;> omega
    · rintro b (⟨h, _⟩ | h)
      · exact h
      · exact Or.inr (by omega)
  · have h1 : Keep (fun b => (M b ∧ b < w.heap.size) ∨ b = g) wB w1 := H3.trans (keep_below hb (fun _ => False)) (fun _ _ h => h.elim)
    have h2 : Keep (fun b => (M b ∧ b < w.heap.size) ∨ b = g) wB w2 := h1.trans L2 (fun b hb' h => by
      rcases h.1 with h | h
      · exact Or.inl h
      · omega)
    exact h2.trans k3 (fun b _ h => Or.inr h)

/-- What all leaves. -/
def AllOut (f : Wd → List Wd × Went → Wd × List Wd × Went) (vs : List Wd) (base cb : Nat) (fv : Value) (S : List Wd × Went) (M : Nat → Prop) (g : Nat) (w w' : World) : Prop :=
  ∃ M', CpAt base cb fv (cpL f vs S).2 M' w' ∧ Keep M w w' ∧ (∀ b, M' b → M b ∨ w.heap.size ≤ b) ∧ ¬ M' g ∧ w.heap.size ≤ g ∧ w'.ownsRow g 60 2 (.slice (some ⟨g, 0, none⟩) vs.length vs.length) vs.length (wCells (cpL f vs S).1)
theorem AllC.done {f : Wd → List Wd × Went → Wd × List Wd × Went} {vs : List Wd} {len base cb : Nat} {fv : Value} {S : List Wd × Went} {M : Nat → Prop} {g : Nat} {w wB wr : World} (H : AllC f vs len base cb fv S M g w wB len wr) (hpl : vs.length = len) (hg : w.heap.size ≤ g) (hgB : g < wB.heap.size) (hB : Below w.heap.size w wB) : AllOut f vs base cb fv S M g w wr := by
  obtain ⟨H1, H2, H3⟩ := H
  rw [List.take_of_length_le (by omega)] at H1 H2
  rw [Nat.sub_self, List.replicate_zero, List.append_nil] at H1
  subst hpl
  refine ⟨_, H2, (keep_below hB M).trans H3 ?_, ?_, ?_, hg, H1⟩
  · rintro b hb (h | h)
    · exact h.1
    · omega
  · rintro b (h | h)
    · exact Or.inl h.1
    · exact Or.inr (by have := hB.size; omega)
  · rintro (h | h) <;> omega

set_option maxHeartbeats 1000000 in
set_option maxRecDepth 100000 in
theorem copyall_loop (f : Wd → List Wd × Went → Wd × List Wd × Went) (vs : List Wd) (base cb : Nat) (fv : Value) (S : List Wd × Went) (M : Nat → Prop) (a : Option Addr) (len pc : Nat) (w : World) (hvl : Hid (vs.length = len)) (hlen : len ≤ 100000) (h : Hid (CpAt base cb fv S M w)) (hin : Hid (WordsIn w vs a)) (hoff : Hid (∀ b o, a = some ⟨b, o, none⟩ → ¬ M b))
    (ih : Hid (∀ (k : Nat) (v : Wd), vs[k]? = some v → ∀ (M' : Nat → Prop) (w1 : World), CpAt base cb fv (cpL f (vs.take k) S).2 M' w1 → Keep M w w1 → (∀ b, M' b → M b ∨ w.heap.size ≤ b) →
      Calls Try.prog 84 #[.pointer (some ⟨cb, 0, none⟩), .agg #[.int .i64 v.1, .int .i64 v.2]] w1 fun e w2 => e = .returned (.agg #[.int .i64 (f v (cpL f (vs.take k) S).2).1.1, .int .i64 (f v (cpL f (vs.take k) S).2).1.2]) ∧ Hid (CLaid base cb fv (f v (cpL f (vs.take k) S).2).2 M' w1 w2))) :
    Calls Try.prog 67 #[.pointer (some ⟨cb, 0, none⟩), .slice a len pc] w fun e w' => ∃ g, e = .returned (.slice (some ⟨g, 0, none⟩) len len) ∧ Hid (AllOut f vs base cb fv S M g w w') := by
  obtain ⟨it, hit, htz0, htz1, htz2⟩ := info_parts infoWord
  go_enter Try.func67, Try.ntmps67
  go_wp2_with (at_make; refine wpList_make_full _ rfl _ _ 64 rfl w.heap.size 60 it _ 2 Try.underlying64 hit htz0 htz1 _ _ _ _ len rfl rfl rfl rfl (by rw [htz2]; omega) (by unfold maxLen; omega) (Nat.le_refl _) ?_; intro w0 hown0 hgrow0; have HM := hide (all_made (f := f) (vs := vs) h.out hown0 hgrow0); clear hown0 hgrow0)
  clear hit htz0 htz1 htz2
  have HLP : Hid (AllC f vs len base cb fv S M w.heap.size w w0 0 w0) := HM.out.1
  have hgB : w.heap.size < w0.heap.size := HM.out.2.2
  go_loopw [13] (fun i wr => ∃ k : Nat, k ≤ len ∧ i = .int .i64 k ∧ Hid (AllC f vs len base cb fv S M w.heap.size w w0 k wr)) (fun i _ => len - (intOf i).toNat)
  case atStart => exact ⟨0, by omega, rfl, HLP.out⟩
  case round =>
    clear HLP
    obtain ⟨k, hk, rfl, HL⟩ := hrel
    by_cases hlt : k < len
    · obtain ⟨v, hv⟩ : ∃ v, vs[k]? = some v := ⟨vs[k]'(by rw [hvl.out]; exact hlt), List.getElem?_eq_getElem _⟩
      obtain ⟨b, o, rfl, hb, hvs⟩ : ∃ b o, a = some ⟨b, o, none⟩ ∧ b < w.heap.size ∧ ∀ (i : Nat) (v : Wd), vs[i]? = some v → w.cell? ⟨b, o + i * 2, none⟩ = some (.int .i64 v.1) ∧ w.cell? ⟨b, o + i * 2 + 1, none⟩ = some (.int .i64 v.2) := by
        rcases hin.out with e | e
        · rw [e] at hv; simp at hv
        · exact e
      obtain ⟨v0, v1⟩ := hvs k v hv
      have hblk : wr.heap[b]? = w.heap[b]? := (HL.out.2.2.block b (by omega) (by rintro (h | h); exact hoff.out b o rfl h.1; omega)).trans (HM.out.2.1.block b hb)
      replace v0 := (block_cell hblk (o + k * 2)).trans v0
      replace v1 := (block_cell hblk (o + k * 2 + 1)).trans v1
      have hgr : w.heap.size < wr.heap.size := (HL.out.1.lt _ rfl).2
      have hw0 := HL.out.2.2.size
      have hkw : Keep M w wr := (keep_below HM.out.2.1 M).trans HL.out.2.2 (by rintro b hb (h | h); exact h.1; omega)
      obtain ⟨V, HC⟩ : ∃ V : Wd, Hid (∀ w1, Below wr.heap.size wr w1 → Calls Try.prog 84 #[.pointer (some ⟨cb, 0, none⟩), .agg #[.int .i64 v.1, .int .i64 v.2]] w1 fun e w2 => e = .returned (.agg #[.int .i64 V.1, .int .i64 V.2]) ∧
          Hid (AllC f vs len base cb fv S M w.heap.size w w0 (k + 1) ((w2.setCell ⟨w.heap.size, k * 2, none⟩ (.int .i64 V.1)).setCell ⟨w.heap.size, k * 2 + 1, none⟩ (.int .i64 V.2)) ∧
            (w2.cell? ⟨w.heap.size, k * 2, none⟩ = some (.int .i64 0) ∧ w2.cell? ⟨w.heap.size, k * 2 + 1, none⟩ = some (.int .i64 0)) ∧ w2.frozen? ⟨w.heap.size, k * 2, none⟩ = false ∧ w2.frozen? ⟨w.heap.size, k * 2 + 1, none⟩ = false)) := by
        refine ⟨(f v (cpL f (vs.take k) S).2).1, fun w1 h1 => ?_⟩
        refine (ih.out k v hv _ w1 (HL.out.2.1.later h1) (hkw.trans (keep_below h1 M) (fun _ _ h => h)) ?_).mono ?_
        · rintro b ⟨h | h, _⟩
          · exact Or.inl h.1
          · exact Or.inr (by omega)
        · rintro e w2 ⟨rfl, HLD⟩
          exact ⟨rfl, HL.out.step (Nat.le_refl _) hgB hlt hvl.out hv h1 HLD.out⟩
      clear ih HL hin hvs hv hoff hblk hkw
      have hk1 : (0 : Int) ≤ (k : Int) := by omega
      have hk2 : (k : Int) < (len : Int) := by omega
      have hbr : b < wr.heap.size := by omega
      go_wp2_with fail
      refine (HC.out _ ((Below.refl _ _).alloc (Nat.le_refl _) _)).mono ?_
      rintro e w2 ⟨rfl, HS⟩
      obtain ⟨⟨d0, d1⟩, f0, f1⟩ := HS.out.2
      clear HC v0 v1
      go_wp2_with fail
      go_roundw
      case rel => exact ⟨k + 1, by omega, by go_num, HS.out.1⟩
      case measure => simp [intOf]; omega
    · obtain rfl : k = len := by omega
      have HE := hide (HL.out.done hvl.out (Nat.le_refl _) hgB HM.out.2.1)
      clear HL ih
      go_wp2_with fail
      go_ret
      exact ⟨_, rfl, HE.out⟩
end Go.Proofs.Ytbmjfnicfpdjfaa
namespace Go.Proofs.Ytbmjfnicfpdjfaa
open Go.RowKit Go.Maps

theorem row_boxC {w : World} {base : Nat} {e : TypeId} {s n : Nat} {v : Value} {xs : List Value} {cb : Nat} {fv tv mv : Value} (h : w.ownsRow base e s v n xs) (hB : CB cb fv tv mv w) (hne : e ≠ 128) : v.ownBlock ≠ some cb := fun e => by
  rcases h.2 with ⟨rfl, _⟩ | ⟨g', cap, cur, rfl, _, hh, _⟩
  · simp [Value.ownBlock] at e
  · simp [Value.ownBlock] at e
    subst e
    have h2 : w.heap[g']? = _ := hB
    rw [hh] at h2
    injection h2 with h2
    injection h2 with h2 h3
    exact hne h3
theorem row_mapC {w : World} {base : Nat} {e : TypeId} {s n L mb : Nat} {v : Value} {xs : List Value} {D : DataW Unit} (h : w.ownsRow base e s v n xs) (hM : w.ownsMap Try.prog 3 (plainElem Try.prog 3) mb L D) : v.ownBlock ≠ some mb := fun e1 => by
  rcases h.2 with ⟨rfl, _⟩ | ⟨g, cap, cur, rfl, _, hh, _⟩
  · simp [Value.ownBlock] at e1
  · simp only [Value.ownBlock] at e1
    obtain rfl := Option.some.inj e1
    obtain ⟨es, clock, hh', _⟩ := hM
    rw [hh] at hh'
    cases hh'
theorem map_boxC {w : World} {L mb cb : Nat} {D : DataW Unit} {fv tv mv : Value} (hM : w.ownsMap Try.prog 3 (plainElem Try.prog 3) mb L D) (hB : CB cb fv tv mv w) : mb ≠ cb := by
  rintro rfl
  obtain ⟨es, clock, hh', _⟩ := hM
  have h2 : w.heap[mb]? = _ := hB
  rw [hh'] at h2
  cases h2

/-- add, at a copying. -/
theorem addC (base cb : Nat) (fv : Value) (S : List Wd × Went) (M : Nat → Prop) (ps : List Wd) (m pc : Nat) (pa : Option Addr) (w : World) (h : CpAt base cb fv S M w) (hbw : base ≤ w.heap.size) (hL : S.1.length ≤ 100000) (hm : ps.length = m) (hM : m ≤ 1000)
    (HS : ∀ w1, Keep M w w1 → WordsAt w1 ps pa) :
    Calls Try.prog 55 #[.pointer (some ⟨cb, 1, none⟩), .slice pa m pc] w fun e w' => e = .returned (.agg #[.int .i64 4, .int .i64 S.1.length]) ∧ Hid (CLaid base cb fv (S.1 ++ (0, (m : Int)) :: ps, S.2) M w w') := by
  obtain ⟨tv, mb, D, h1, h2, h3, h4, h5, h6, h7⟩ := h
  obtain ⟨⟨c0, c1, c2⟩, hf⟩ := h1.cells
  obtain ⟨ta, tc, htv⟩ : ∃ ta tc, tv = .slice ta S.1.length tc := by
    rcases h2.2 with ⟨e, e0⟩ | ⟨g, c, cur, e, _⟩
    · exact ⟨none, 0, by rw [e, e0]⟩
    · exact ⟨_, c, e⟩
  subst hm
  refine (add_walk base cb 1 tv ta tc S.1.length S.1 ps ps.length pc pa w htv rfl rfl hL hM hbw c1 (hf 1) h1.lt (row_boxC h2 h1 (by decide)) h2 ?_).mono ?_
  · intro w1 k
    refine HS w1 (k.mono ?_)
    rintro b (rfl | e)
    · exact h5
    · exact h6 b e
  · rintro e w' ⟨rfl, tv', H⟩
    obtain ⟨k1, k2, k3, k4⟩ := H.out
    refine ⟨rfl, ⟨tv', mb, D, (h1.set1 tv').kept k2, ?_, ?_, h4, Or.inl h5, ?_, Or.inl h7⟩, k3.mono ?_⟩
    · have e : (S.1 ++ (0, (ps.length : Int)) :: ps).length = S.1.length + 1 + ps.length := by simp; omega
      rw [e]
      exact k1
    · have hl := h3.lt
      have hx1 := map_boxC h3 h1
      have hx2 := row_mapC h2 h3
      obtain ⟨es, clock, hh, hr⟩ := h3
      refine ⟨es, clock, (k3.block mb hl ?_).trans hh, hr⟩
      rintro (e | e)
      · exact hx1 e
      · exact hx2 e
    · intro b e
      rcases k4 b e with e | e
      · exact Or.inl (h6 b e)
      · exact Or.inr e
    · rintro b (rfl | e)
      · exact h5
      · exact h6 b e
end Go.Proofs.Ytbmjfnicfpdjfaa
namespace Go.Proofs.Ytbmjfnicfpdjfaa
open Go.RowKit Go.Maps

theorem one_put {base cb : Nat} {fv : Value} {S : List Wd × Went} {M : Nat → Prop} {w : World} (h : CpAt base cb fv S M w) (p q : Nat) (hp : p ≤ 100000) (hq : q ≤ 100000) (hn : S.2.length ≤ 100000) :
    ∃ mb, w.cell? ⟨cb, 2, none⟩ = some (.map (some mb)) ∧ ∃ w4, (Instr.mapUpdate 126 (.map (some mb)) (.int .i64 p) (.int .i64 q)).run Try.prog w = .ok () w4 ∧ CpAt base cb fv (S.1, (p, q) :: S.2) M w4 ∧ Keep (fun b => b = mb) w w4 ∧ M mb ∧ mb < w.heap.size ∧ w4.cell? ⟨cb, 2, none⟩ = some (.map (some mb)) := by
  obtain ⟨tv, mb, D, h1, h2, h3, h4, h5, h6, h7⟩ := h
  obtain ⟨w4, hrun, hown, hg⟩ := h3.update intLaw Try.underlying126 (by unfold maxLen; omega) (keyOf_int_mk Try.underlying3 (WalkArith.wf_i64 (n := (p : Int)) (by omega))) (plainElem_int Try.underlying3 (WalkArith.wf_i64 (n := (q : Int)) (by omega)))
  have k := keep_grown hg
  have k2 : Keep (fun b => b = mb) w w4 := k.mono fun b e => (Option.some.inj e).symm
  refine ⟨mb, h1.cells.1.2.2, w4, hrun, ⟨tv, mb, _, h1.kept (k2.block cb h1.lt (fun e => map_boxC h3 h1 e.symm)), row_kept h2 k2 ?_, hown, went_put h3 h4 p q, h5, h6, h7⟩, k2, h7, h3.lt, (h1.kept (k2.block cb h1.lt (fun e => map_boxC h3 h1 e.symm))).cells.1.2.2⟩
  intro b e e'
  subst e'
  exact row_mapC h2 h3 e

theorem field_word (w : World) (a b : Int) : (Instr.field 60 (.agg #[.int .i64 a, .int .i64 b]) 1).run Try.prog w = .ok (.int .i64 b) w := by kernel_rfl

set_option maxHeartbeats 1000000 in
set_option maxRecDepth 100000 in
theorem one_new (base cb : Nat) (fv : Value) (S : List Wd × Went) (M : Nat → Prop) (p q fg L fc n : Nat) (w : World) (F : World → Prop) (h : Hid (CpAt base cb fv S M w)) (hfv : fv = .slice (some ⟨fg, 0, none⟩) L fc) (hl : Hid (look S.2 p = none)) (hp : p ≤ 100000)
    (HC : Hid (∀ wD, Below w.heap.size w wD → w.heap.size + 2 ≤ wD.heap.size → Calls Try.prog 83 #[.slice (some ⟨fg, 0, none⟩) L fc, .int .i64 p] wD fun e w' => w' = wD ∧ ∃ o pc, e = .returned (.slice (some ⟨fg, o, none⟩) n pc) ∧
      Hid (Calls Try.prog 67 #[.pointer (some ⟨cb, 0, none⟩), .slice (some ⟨fg, o, none⟩) n pc] wD fun e w2 => ∃ g, e = .returned (.slice (some ⟨g, 0, none⟩) n n) ∧
        Hid ((∀ j, w2.cell? ⟨w.heap.size, j, none⟩ = wD.cell? ⟨w.heap.size, j, none⟩) ∧ w2.cell? ⟨cb, 0, none⟩ = some (.slice (some ⟨fg, 0, none⟩) L fc) ∧
          Calls Try.prog 55 #[.pointer (some ⟨cb, 1, none⟩), .slice (some ⟨g, 0, none⟩) n n] w2 fun e w3 => e = .returned (.agg #[.int .i64 4, .int .i64 q]) ∧
            Hid ((∀ j, w3.cell? ⟨w.heap.size, j, none⟩ = wD.cell? ⟨w.heap.size, j, none⟩) ∧ w3.cell? ⟨cb, 0, none⟩ = some (.slice (some ⟨fg, 0, none⟩) L fc) ∧
              ∃ mb w4, w3.cell? ⟨cb, 2, none⟩ = some (.map (some mb)) ∧ (Instr.mapUpdate 126 (.map (some mb)) (.int .i64 p) (.int .i64 q)).run Try.prog w3.drew = .ok () w4 ∧ (∀ j, w4.cell? ⟨w.heap.size, j, none⟩ = wD.cell? ⟨w.heap.size, j, none⟩) ∧ w4.cell? ⟨cb, 2, none⟩ = some (.map (some mb)) ∧
                (JBox (w.heap.size + 1) wD → JBox (w.heap.size + 1) w4) ∧ ∀ v0 v1, F ((w4.setCell ⟨w.heap.size + 1, 0, none⟩ v0).setCell ⟨w.heap.size + 1, 1, none⟩ v1)))))) :
    Calls Try.prog 84 #[.pointer (some ⟨cb, 0, none⟩), .agg #[.int .i64 4, .int .i64 p]] w fun e w' => e = .returned (.agg #[.int .i64 4, .int .i64 q]) ∧ F w' := by
  subst hfv
  go_enter Try.func84, Try.ntmps84
  go_wp2_with fail
  generalize hwA : (w.alloc (Obj.cells #[Value.int IntKind.i64 4, Value.int IntKind.i64 p] 60)).alloc (Obj.cells #[.int .i64 0, .int .i64 0] 60) = wA
  have HA : Hid (Below w.heap.size w wA.drew ∧ wA.drew.heap.size = w.heap.size + 2) := by
    subst hwA
    exact ⟨(((Below.refl _ _).alloc (Nat.le_refl _) _).alloc (by simp) _).drew, by simp [World.drew]⟩
  have e1 : wA.cell? ⟨w.heap.size, 1, none⟩ = some (.int .i64 p) := by subst hwA; simp [go_sem]
  have HR : Hid (JBox (w.heap.size + 1) wA.drew) := by
    subst hwA
    have := heap_alloc_new (w.alloc (Obj.cells #[Value.int IntKind.i64 4, Value.int IntKind.i64 p] 60)) (Obj.cells #[.int .i64 0, .int .i64 0] 60)
    have es : ∀ o, (w.alloc o).heap.size = w.heap.size + 1 := fun o => by simp
    rw [es] at this
    exact this
  obtain ⟨mb, cz, c0, c2, hlk⟩ : ∃ mb, ∃ cz : Int, wA.cell? ⟨cb, 0, none⟩ = some (.slice (some ⟨fg, 0, none⟩) L fc) ∧ wA.cell? ⟨cb, 2, none⟩ = some (.map (some mb)) ∧ (Instr.lookup 126 (.map (some mb)) (.int .i64 p) true).run Try.prog wA.drew = .ok (.tuple #[.int .i64 cz, .bool false]) wA.drew := by
    obtain ⟨tv, mb, D, h1, h2, h3, h4, _⟩ := h.out.later HA.out.1
    obtain ⟨v, ps, hrun, hv⟩ := h3.look_ok intLaw Try.underlying126 (zeroInt _) (plainElem_int Try.underlying3 (WalkArith.wf_i64 (by omega))) (keyOf_int_mk Try.underlying3 (WalkArith.wf_i64 (n := (p : Int)) (by omega)))
    obtain ⟨c, rfl, hc, _⟩ := plainElem_int_inv Try.underlying3 hv
    have hh : Maps.has D (.int .i64 p) = false := by
      cases hx : Maps.has D (.int .i64 p)
      · rfl
      · have := (h4 p).1.1 hx
        rw [hl.out] at this
        simp at this
    rw [hh] at hrun
    exact ⟨mb, c, h1.cells.1.1, h1.cells.1.2.2, hrun⟩
  clear hwA h
  go_region_held3 (fun w' => w'.cell? ⟨w.heap.size, 1, none⟩ = some (.int .i64 p) ∧ w'.cell? ⟨cb, 2, none⟩ = some (.map (some mb))) (go_keep) (fail)
  have e1' : wA.drew.cell? ⟨w.heap.size, 1, none⟩ = some (.int .i64 p) := e1
  have c0' : wA.drew.cell? ⟨cb, 0, none⟩ = some (.slice (some ⟨fg, 0, none⟩) L fc) := c0
  clear hlk e1 c0 c2
  generalize wA.drew = wD at *
  have HP := hide (HC.out wD.drew HA.out.1.drew (by have := HA.out.2; show w.heap.size + 2 ≤ wD.heap.size; omega))
  clear HC
  have hfld := field_word
  go_wp2_with fail
  go_region_held3 (fun w' => w'.cell? ⟨w.heap.size, 1, none⟩ = some (.int .i64 p) ∧ w'.cell? ⟨cb, 0, none⟩ = some (.slice (some ⟨fg, 0, none⟩) L fc)) (go_keep) ((first
    | (go_at_call 83; refine HP.out.mono ?_; rintro e w2 ⟨rfl, o, pc, rfl, HALL⟩; clear HP)
    | (go_at_call 67; refine HALL.out.mono ?_; rintro e w2 ⟨g, rfl, HADD⟩; have x1 := (HADD.out.1 1).trans e1'; have x2 := HADD.out.2.1; clear HALL)
    | (go_at_call 55; refine HADD.out.2.2.mono ?_; rintro e w3 ⟨rfl, HFIN⟩; have y1 := (HFIN.out.1 1).trans e1'; have y2 := HFIN.out.2.1; clear HADD)))
  obtain ⟨mb2, w4, u2, hup, HV, z2, HJ, HF⟩ : ∃ mb2 w4, w3.cell? ⟨cb, 2, none⟩ = some (.map (some mb2)) ∧ (Instr.mapUpdate 126 (.map (some mb2)) (.int .i64 p) (.int .i64 q)).run Try.prog w3.drew = .ok () w4 ∧ Hid (∀ j, w4.cell? ⟨w.heap.size, j, none⟩ = wD.drew.cell? ⟨w.heap.size, j, none⟩) ∧ w4.cell? ⟨cb, 2, none⟩ = some (.map (some mb2)) ∧ Hid (JBox (w.heap.size + 1) w4) ∧ Hid (∀ v0 v1, F ((w4.setCell ⟨w.heap.size + 1, 0, none⟩ v0).setCell ⟨w.heap.size + 1, 1, none⟩ v1)) := by
    obtain ⟨mb2, w4, k1, k2, k3, k4, k5, k6⟩ := HFIN.out.2.2
    exact ⟨mb2, w4, k1, k2, k3, k4, k5 HR.out, k6⟩
  have z1 := (HV.out 1).trans e1'
  obtain ⟨⟨r0, r1⟩, f0, f1⟩ := HJ.out.facts
  clear HFIN HV HJ HR HA x1 x2 y2 c0' e1' hfld
  go_wp2_with fail
  go_region_held3 (fun w' => w'.cell? ⟨w.heap.size, 1, none⟩ = some (.int .i64 p) ∧ w'.cell? ⟨cb, 2, none⟩ = some (.map (some mb2))) (go_keep) (fail)
  clear hup u2 y1 z1 z2
  go_wp2_with fail
  exact bodyPost_ret (v := .agg #[.int .i64 4, .int .i64 q]) (by simp [results, Try.results84, go_sem, r0, r1]) rfl ⟨rfl, HF.out _ _⟩
end Go.Proofs.Ytbmjfnicfpdjfaa
namespace Go.Proofs.Ytbmjfnicfpdjfaa
open Go.RowKit Go.Maps

/-- The parts of a tuple that begins at p. -/
def partsOf (ws : List Wd) (p n : Nat) : List Wd := (ws.drop (p + 1)).take n
theorem partsOf_at {ws : List Wd} {p n i : Nat} (hi : i < n) : (partsOf ws p n)[i]? = ws[p + 1 + i]? := by
  unfold partsOf
  rw [List.getElem?_take_of_lt hi, List.getElem?_drop]
theorem partsOf_length {ws : List Wd} {p n : Nat} (h : p + 1 + n ≤ ws.length) : (partsOf ws p n).length = n := by
  unfold partsOf
  rw [List.length_take, List.length_drop]
  omega
/-- Words that stand for terms, one by one. -/
def StandL (ws : List Wd) (nm : List ByteArray) (n : Nat) (l : List Wd) (p : List (Tm n)) : Prop := l.length = p.length ∧ ∀ (i : Nat) (v : Wd) (y : Tm n), l[i]? = some v → p[i]? = some y → Stands ws nm n y v
theorem cpF_leaf {ws : List Wd} {n : Nat} {v : Wd} {S : List Wd × Went} (h : v.1 ≠ 4) : cpF ws n v S = (v, S) := by
  cases n with
  | zero => rfl
  | succ n => simp [cpF, h]
theorem cpF_old {ws : List Wd} {n p q : Nat} {S : List Wd × Went} (h : look S.2 p = some q) : cpF ws (n + 1) (4, (p : Int)) S = ((4, (q : Int)), S) := by
  simp [cpF, h]
theorem cpF_new {ws : List Wd} {n p m : Nat} {S : List Wd × Went} (h : look S.2 p = none) (hp : ws[p]? = some (0, (m : Int))) : cpF ws (n + 1) (4, (p : Int)) S =
    ((4, ((cpL (cpF ws n) (partsOf ws p m) S).2.1.length : Int)), (cpL (cpF ws n) (partsOf ws p m) S).2.1 ++ (0, (m : Int)) :: (cpL (cpF ws n) (partsOf ws p m) S).1, (p, (cpL (cpF ws n) (partsOf ws p m) S).2.1.length) :: (cpL (cpF ws n) (partsOf ws p m) S).2.2) := by
  simp [cpF, h, hp, partsOf]

theorem cpL_sizes {ws : List Wd} {nm : List ByteArray} {n : Nat} (ih : ∀ (x : Tm n) (v : Wd) (S : List Wd × Went), Stands ws nm n x v → ((cpF ws n v S).2.1.length : Int) ≤ S.1.length + sz n x ∧ (cpF ws n v S).2.2.length ≤ S.2.length + (nodes n x).length) :
    (l : List Wd) → (p : List (Tm n)) → (S : List Wd × Went) → StandL ws nm n l p → ((cpL (cpF ws n) l S).2.1.length : Int) + p.length ≤ S.1.length + (p.map fun y => 1 + sz n y).sum ∧ (cpL (cpF ws n) l S).2.2.length ≤ S.2.length + (p.flatMap fun y => nodes n y).length
  | [], [], S, _ => by simp [cpL]
  | [], _ :: _, _, h => by have := h.1; simp at this
  | _ :: _, [], _, h => by have := h.1; simp at this
  | v :: l, y :: p, S, h => by
    obtain ⟨a1, a2⟩ := ih y v S (h.2 0 v y rfl rfl)
    obtain ⟨b1, b2⟩ := cpL_sizes ih l p (cpF ws n v S).2 ⟨by have := h.1; simpa using this, fun i v' y' hv hy => h.2 (i + 1) v' y' (by simpa using hv) (by simpa using hy)⟩
    simp only [cpL, List.map_cons, List.sum_cons, List.flatMap_cons, List.length_append, List.length_cons]
    exact ⟨by omega, by omega⟩
theorem tuple_parts {ws : List Wd} {nm : List ByteArray} {n : Nat} {x : Tm (n + 1)} {v : Wd} (h : Stands ws nm (n + 1) x v) (h4 : x.1.1 = 4) : ∃ p : Nat, v = (4, (p : Int)) ∧ ws[p]? = some (0, (x.2.2.length : Int)) ∧ p + 1 + x.2.2.length ≤ ws.length ∧ StandL ws nm n (partsOf ws p x.2.2.length) x.2.2 := by
  obtain ⟨p, e1, e2, e3, e4⟩ := h.2.1 h4
  refine ⟨p, e1, e2, e3, partsOf_length e3, fun i v' y hv hy => ?_⟩
  obtain ⟨u, e5, e6⟩ := e4 i y hy
  rw [partsOf_at (List.getElem?_eq_some_iff.1 hy).1, e5] at hv
  obtain rfl := Option.some.inj hv
  exact e6
theorem leaf_not4 {ws : List Wd} {nm : List ByteArray} {n : Nat} {x : Tm (n + 1)} {v : Wd} (h : Stands ws nm (n + 1) x v) (h4 : x.1.1 ≠ 4) : v.1 ≠ 4 := by
  by_cases h2 : x.1.1 = 2
  · obtain ⟨i, rfl, _⟩ := h.1 h2
    simp
  · rw [h.2.2 h2 h4]
    exact h4
theorem cpF_sizes {ws : List Wd} {nm : List ByteArray} : (n : Nat) → (x : Tm n) → (v : Wd) → (S : List Wd × Went) → Stands ws nm n x v → ((cpF ws n v S).2.1.length : Int) ≤ S.1.length + sz n x ∧ (cpF ws n v S).2.2.length ≤ S.2.length + (nodes n x).length
  | 0, _, _, _, h => h.elim
  | n + 1, x, v, S, h => by
    have hz := (sz_bound (n + 1) x).1
    by_cases h4 : x.1.1 = 4
    · obtain ⟨p, rfl, hp, hl, hs⟩ := tuple_parts h h4
      cases hk : look S.2 p with
      | some q =>
        rw [cpF_old hk]
        exact ⟨by simp only; omega, by simp only; omega⟩
      | none =>
        rw [cpF_new hk hp]
        obtain ⟨a, b⟩ := cpL_sizes (fun x v S hh => cpF_sizes n x v S hh) (partsOf ws p x.2.2.length) x.2.2 S hs
        have e := cpL_length (cpF ws n) (partsOf ws p x.2.2.length) S
        rw [partsOf_length hl] at e
        have k5 : (nodes (n + 1) x).length = 1 + (x.2.2.flatMap fun y => nodes n y).length := by simp [nodes]; omega
        simp only [List.length_append, List.length_cons, e, sz, if_pos h4, k5]
        exact ⟨by omega, by omega⟩
    · rw [cpF_leaf (leaf_not4 h h4)]
      exact ⟨by simp only; omega, by simp only; omega⟩
end Go.Proofs.Ytbmjfnicfpdjfaa
namespace Go.Proofs.Ytbmjfnicfpdjfaa
open Go.RowKit Go.Maps

def FOne (ws : List Wd) (nm : List ByteArray) (n : Nat) : Prop := ∀ (x : Tm n) (v : Wd) (base cb b0 : Nat) (fv : Value) (S : List Wd × Went) (M : Nat → Prop) (w : World), CpAt base cb fv S M w → w.ownsRow b0 60 2 fv ws.length (wCells ws) → (∀ b, fv.ownBlock = some b → ¬ M b) → base ≤ w.heap.size → Stands ws nm n x v → RightA ⟨n, x⟩ → ws.length ≤ 100000 → (S.1.length : Int) + sz n x ≤ 90000 → S.2.length + (nodes n x).length ≤ 90000 →
  Calls Try.prog 84 #[.pointer (some ⟨cb, 0, none⟩), wdV v] w fun e w' => e = .returned (wdV (cpF ws n v S).1) ∧ Hid (CLaid base cb fv (cpF ws n v S).2 M w w')

theorem sz_room (n : Nat) (p : List (Tm n)) (k : Nat) (x : Tm n) (hx : p[k]? = some x) : ((p.take k).map fun y => 1 + sz n y).sum + (1 + sz n x) ≤ (p.map fun y => 1 + sz n y).sum := by
  obtain ⟨hl, rfl⟩ := List.getElem?_eq_some_iff.1 hx
  have e : p = p.take k ++ p[k] :: p.drop (k + 1) := by
    rw [← List.drop_eq_getElem_cons hl, List.take_append_drop]
  have h0 : ∀ l : List (Tm n), 0 ≤ (l.map fun y => 1 + sz n y).sum := by
    intro l
    induction l with
    | nil => simp
    | cons y l ih =>
      have := (sz_bound n y).1
      simp only [List.map_cons, List.sum_cons]
      omega
  have h1 := h0 (p.drop (k + 1))
  conv => rhs; rw [e]
  simp only [List.map_append, List.sum_append, List.map_cons, List.sum_cons]
  omega
theorem StandL.take {ws : List Wd} {nm : List ByteArray} {n : Nat} {l : List Wd} {p : List (Tm n)} (h : StandL ws nm n l p) (k : Nat) : StandL ws nm n (l.take k) (p.take k) := by
  refine ⟨by simp [h.1], fun i v y hv hy => ?_⟩
  rw [List.getElem?_take] at hv hy
  split at hv
  · rename_i hi
    rw [if_pos hi] at hy
    exact h.2 i v y hv hy
  · cases hv

theorem copyall_any (ws : List Wd) (nm : List ByteArray) (n : Nat) (ih : FOne ws nm n) (vs : List Wd) (p : List (Tm n)) (base cb b0 : Nat) (fv : Value) (S : List Wd × Went) (M : Nat → Prop) (a : Option Addr) (pc : Nat) (w : World) (h : CpAt base cb fv S M w) (hrow : w.ownsRow b0 60 2 fv ws.length (wCells ws)) (hfm : ∀ b, fv.ownBlock = some b → ¬ M b) (hbw : base ≤ w.heap.size) (hst : StandL ws nm n vs p) (hr : ∀ y ∈ p, RightA ⟨n, y⟩) (hws : ws.length ≤ 100000) (hlen : vs.length ≤ 100000)
    (hz : (S.1.length : Int) + (p.map fun y => 1 + sz n y).sum ≤ 90000) (hn : S.2.length + (p.flatMap fun y => nodes n y).length ≤ 90000) (hin : WordsIn w vs a) (hoff : ∀ b o, a = some ⟨b, o, none⟩ → ¬ M b) :
    Calls Try.prog 67 #[.pointer (some ⟨cb, 0, none⟩), .slice a vs.length pc] w fun e w' => ∃ g, e = .returned (.slice (some ⟨g, 0, none⟩) vs.length vs.length) ∧ Hid (AllOut (cpF ws n) vs base cb fv S M g w w') := by
  refine copyall_loop (cpF ws n) vs base cb fv S M a vs.length pc w rfl hlen h hin hoff ?_
  intro k v hv M' w1 hc hk hM
  have hkl := (List.getElem?_eq_some_iff.1 hv).1
  obtain ⟨y, hy⟩ : ∃ y, p[k]? = some y := ⟨p[k]'(by rw [← hst.1]; exact hkl), List.getElem?_eq_getElem _⟩
  obtain ⟨s1, s2⟩ := cpL_sizes (fun x v S hh => cpF_sizes n x v S hh) (vs.take k) (p.take k) S (hst.take k)
  have r1 := sz_room n p k y hy
  have r2 := lay_room n p k y hy
  have hs := hk.size
  refine ih y v base cb b0 fv _ M' w1 hc (row_kept hrow hk fun b e => hfm b e) ?_ (by omega) (hst.2 k v y hv hy) (hr y (List.mem_of_getElem? hy)) hws (by omega) (by omega)
  intro b e hm
  rcases hM b hm with hm | hm
  · exact hfm b e hm
  · have := (hrow.lt b e).2
    omega

theorem claid_else {base cb : Nat} {fv : Value} {S : List Wd × Went} {M : Nat → Prop} {w w' : World} (h : CpAt base cb fv S M w) (hb : Below w.heap.size w w') : CLaid base cb fv S M w w' :=
  ⟨(h.later hb).mono fun _ h => Or.inl h.1, keep_below hb M⟩

theorem one_tup (ws : List Wd) (nm : List ByteArray) (n : Nat) (ih : FOne ws nm n) (ps : List (Tm n)) (p : Nat) (base cb b0 : Nat) (fv : Value) (S : List Wd × Went) (M : Nat → Prop) (w : World) (h : CpAt base cb fv S M w) (hrow : w.ownsRow b0 60 2 fv ws.length (wCells ws)) (hfm : ∀ b, fv.ownBlock = some b → ¬ M b) (hbw : base ≤ w.heap.size) (hp : ws[p]? = some (0, (ps.length : Int))) (hpl : p + 1 + ps.length ≤ ws.length) (hst : StandL ws nm n (partsOf ws p ps.length) ps) (hr : ∀ y ∈ ps, RightA ⟨n, y⟩) (h8 : ps.length ≤ 8) (hws : ws.length ≤ 100000)
    (hz : (S.1.length : Int) + (ps.map fun y => 1 + sz n y).sum ≤ 90000) (hn : S.2.length + (ps.flatMap fun y => nodes n y).length ≤ 90000) (hl : look S.2 p = none) :
    Calls Try.prog 84 #[.pointer (some ⟨cb, 0, none⟩), wdV (4, (p : Int))] w fun e w' => e = .returned (wdV (4, ((cpL (cpF ws n) (partsOf ws p ps.length) S).2.1.length : Int))) ∧
      Hid (CLaid base cb fv ((cpL (cpF ws n) (partsOf ws p ps.length) S).2.1 ++ (0, (ps.length : Int)) :: (cpL (cpF ws n) (partsOf ws p ps.length) S).1, (p, (cpL (cpF ws n) (partsOf ws p ps.length) S).2.1.length) :: (cpL (cpF ws n) (partsOf ws p ps.length) S).2.2) M w w') := by
  obtain ⟨fg, fc, hfv, _, _⟩ := hrow.form (by omega)
  have hpn := partsOf_length hpl
  obtain ⟨s1, s2⟩ := cpL_sizes (fun x v S hh => cpF_sizes n x v S hh) (partsOf ws p ps.length) ps S hst
  refine one_new base cb fv S M p _ fg ws.length fc ps.length w _ h hfv hl (by omega) ?_
  intro wD hD hDs
  subst hfv
  have hfl := (hrow.lt fg rfl).2
  have hrD : wD.ownsRow b0 60 2 (.slice (some ⟨fg, 0, none⟩) ws.length fc) ws.length (wCells ws) := own_below hrow hD
  refine (parts_any b0 fg ws.length fc p ps.length ws wD hws hrD hp hpl).mono ?_
  rintro e w' ⟨rfl, pa, pc, rfl, _, hwd, o, rfl⟩
  refine ⟨rfl, o, pc, rfl, ?_⟩
  have hin : WordsIn w' (partsOf ws p ps.length) (some ⟨fg, o, none⟩) := words_in hwd (by have := hD.size; omega)
  have hcall := copyall_any ws nm n ih (partsOf ws p ps.length) ps base cb b0 (.slice (some ⟨fg, 0, none⟩) ws.length fc) S _ (some ⟨fg, o, none⟩) pc w' (h.later hD) hrD (fun b e hm => hfm b e hm.1) (by have := hD.size; omega) hst hr hws (by omega) hz hn hin (fun b o' e hm => hfm b (by injection e with e; injection e with e; subst e; rfl) hm.1)
  rw [hpn] at hcall
  refine hcall.mono ?_
  rintro e w2 ⟨g, rfl, HO⟩
  obtain ⟨M', a1, a2, a3, a4, a5, a6⟩ := HO.out
  rw [hpn] at a6
  have hM' : ∀ b, M' b → (M b ∧ b < w.heap.size) ∨ w'.heap.size ≤ b := a3
  have hs2 := a2.size
  refine ⟨g, rfl, fun j => block_cell (a2.block _ (by omega) (fun hm => by omega)) j, ?_, ?_⟩
  · obtain ⟨tv, mb, D, k1, _⟩ := a1
    exact k1.cells.1.1
  refine (addC base cb _ _ M' (cpL (cpF ws n) (partsOf ws p ps.length) S).1 ps.length ps.length (some ⟨g, 0, none⟩) w2 a1 (by have := hD.size; omega) (by omega) (by rw [cpL_length]; exact hpn) (by omega) ?_).mono ?_
  · intro w1 hk
    exact Or.inr ⟨_, rfl, (row_kept a6 hk (fun b e => by simp only [Value.ownBlock] at e; obtain rfl := Option.some.inj e; exact a4)).cells (g := g) rfl⟩
  rintro e w3 ⟨rfl, HL⟩
  obtain ⟨b1, b2⟩ := HL.out
  have hs3 := b2.size
  have hne : ∀ b, w.heap.size ≤ b → b < w.heap.size + 2 → ¬ M' b := fun b x1 x2 hm => by
    rcases hM' b hm with k | k <;> omega
  have hblk : ∀ b, w.heap.size ≤ b → b < w.heap.size + 2 → w3.heap[b]? = w'.heap[b]? := fun b x1 x2 => (b2.block b (by omega) (hne b x1 x2)).trans (a2.block b (by omega) (fun hm => by omega))
  refine ⟨rfl, fun j => block_cell (hblk _ (Nat.le_refl _) (by omega)) j, ?_, ?_⟩
  · obtain ⟨tv, mb, D, k1, _⟩ := b1
    exact k1.cells.1.1
  have bd : Below w3.heap.size w3 w3.drew := (Below.refl _ _).drew
  have b3 := b1.kept (keep_below bd (fun _ => False)) (fun _ _ _ h => h)
  obtain ⟨mb, c1, w4, c2, c3, c4, c5, c6, c7⟩ := one_put b3 p (cpL (cpF ws n) (partsOf ws p ps.length) S).2.1.length (by omega) (by omega) (by simp only; omega)
  have hmb : ∀ b, w.heap.size ≤ b → b < w.heap.size + 2 → b ≠ mb := fun b x1 x2 e => by
    subst e
    rcases c5 with k | k
    · exact hne _ x1 x2 k
    · omega
  have hs4 := c4.size
  have es3 : w3.drew.heap.size = w3.heap.size := rfl
  have hblk4 : ∀ b, w.heap.size ≤ b → b < w.heap.size + 2 → w4.heap[b]? = w'.heap[b]? := fun b x1 x2 => (c4.block b (by omega) (hmb b x1 x2)).trans (hblk b x1 x2)
  refine ⟨mb, w4, c1, c2, fun j => block_cell (hblk4 _ (Nat.le_refl _) (by omega)) j, c7, fun hj => (hblk4 _ (by omega) (by omega)).trans hj, fun v0 v1 => ?_⟩
  have k1 := keep_set w4 (w.heap.size + 1) 0 v0
  have k2 := keep_set (w4.setCell ⟨w.heap.size + 1, 0, none⟩ v0) (w.heap.size + 1) 1 v1
  have k3 := k1.trans k2 (fun b _ h => h)
  refine ⟨(c3.kept k3 ?_).mono ?_, ?_⟩
  · rintro b (hm | hm) _ rfl
    · exact hne _ (by omega) (by omega) hm
    · omega
  · rintro b (hm | hm)
    · rcases hM' b hm with k | k
      · exact Or.inl k.1
      · exact Or.inr (by omega)
    · exact Or.inr (by omega)
  · refine (((((keep_below hD M).trans a2 ?_).trans b2 ?_).trans (keep_below bd (fun _ => False)) ?_).trans c4 ?_).trans k3 ?_
    · exact fun b _ hm => hm.1
    · intro b hb hm
      rcases hM' b hm with k | k
      · exact k.1
      · omega
    · exact fun _ _ h => h.elim
    · rintro b hb rfl
      rcases c5 with k | k
      · rcases hM' _ k with k | k
        · exact k.1
        · omega
      · omega
    · intro b hb h
      omega

theorem one_any (ws : List Wd) (nm : List ByteArray) (n : Nat) : FOne ws nm n := by
  induction n with
  | zero => intro x v base cb b0 fv S M w _ _ _ _ hs; exact hs.elim
  | succ n ih =>
    intro x v base cb b0 fv S M w h hrow hfm hbw hs hr hws hz hn
    have hg := hr (hdOf n x) (by simp [nodes, hdOf])
    have hlen : x.2.2.length ≤ 8 := good_len (hdOf n x) hg
    have k5 : (nodes (n + 1) x).length = 1 + (x.2.2.flatMap fun y => nodes n y).length := by simp [nodes]; omega
    by_cases h4 : x.1.1 = 4
    · obtain ⟨p, rfl, hp, hl, hst⟩ := tuple_parts hs h4
      cases hk : look S.2 p with
      | some q =>
        rw [cpF_old hk]
        refine (one_old base cb fv S M p q w h hk (by omega)).mono ?_
        rintro e w' ⟨rfl, hb⟩
        exact ⟨rfl, claid_else h hb⟩
      | none =>
        rw [cpF_new hk hp]
        have e : sz (n + 1) x = 1 + (x.2.2.map fun y => 1 + sz n y).sum := by simp only [sz, if_pos h4]
        exact one_tup ws nm n ih x.2.2 p base cb b0 fv S M w h hrow hfm hbw hp hl hst (fun y hy => parts_right n x y hr hy) hlen hws (by omega) (by omega) hk
    · have hv := leaf_not4 hs h4
      rw [cpF_leaf hv]
      refine (one_else cb v.1 v.2 w hv).mono ?_
      rintro e w' ⟨rfl, hb⟩
      exact ⟨rfl, claid_else h hb⟩
end Go.Proofs.Ytbmjfnicfpdjfaa
namespace Go.Proofs.Ytbmjfnicfpdjfaa
open Go.RowKit Go.Maps

/-- Whatever v stands for among ws, u stands for among us. -/
def CopyOf (ws us : List Wd) (nm : List ByteArray) (v u : Wd) : Prop := ∀ (n : Nat) (x : Tm n), Stands ws nm n x v → Stands us nm n x u
def InvC (ws : List Wd) (nm : List ByteArray) (S : List Wd × Went) : Prop := ∀ p q : Nat, look S.2 p = some q → CopyOf ws S.1 nm (4, (p : Int)) (4, (q : Int))
theorem CopyOf.mono {ws us us' : List Wd} {nm : List ByteArray} {v u : Wd} (h : CopyOf ws us nm v u) (k : us <+: us') : CopyOf ws us' nm v u := fun n x hs => (h n x hs).mono k (List.prefix_refl _)
theorem copy_leaf {ws us : List Wd} {nm : List ByteArray} {v : Wd} (h : v.1 ≠ 4) : CopyOf ws us nm v v := by
  intro n x hs
  cases n with
  | zero => exact hs.elim
  | succ n =>
    obtain ⟨a, b, c⟩ := hs
    refine ⟨a, fun h4 => ?_, c⟩
    obtain ⟨p, rfl, _⟩ := b h4
    simp at h
/-- Copies, one by one. -/
def CopyL (ws us : List Wd) (nm : List ByteArray) (vs cs : List Wd) : Prop := vs.length = cs.length ∧ ∀ (i : Nat) (v u : Wd), vs[i]? = some v → cs[i]? = some u → CopyOf ws us nm v u

def CopyOut (ws : List Wd) (nm : List ByteArray) (v : Wd) (S : List Wd × Went) (r : Wd × List Wd × Went) : Prop := InvC ws nm r.2 ∧ S.1 <+: r.2.1 ∧ CopyOf ws r.2.1 nm v r.1
theorem cpL_copies {ws : List Wd} {nm : List ByteArray} {n : Nat} (ih : ∀ (x : Tm n) (v : Wd) (S : List Wd × Went), InvC ws nm S → Stands ws nm n x v → CopyOut ws nm v S (cpF ws n v S)) :
    (l : List Wd) → (p : List (Tm n)) → (S : List Wd × Went) → StandL ws nm n l p → InvC ws nm S → InvC ws nm (cpL (cpF ws n) l S).2 ∧ S.1 <+: (cpL (cpF ws n) l S).2.1 ∧ CopyL ws (cpL (cpF ws n) l S).2.1 nm l (cpL (cpF ws n) l S).1
  | [], _, S, _, hS => ⟨hS, List.prefix_refl _, rfl, fun i v u hv _ => by simp at hv⟩
  | _ :: _, [], _, h, _ => by have := h.1; simp at this
  | v :: l, y :: p, S, h, hS => by
    obtain ⟨a1, a2, a3⟩ := ih y v S hS (h.2 0 v y rfl rfl)
    obtain ⟨b1, b2, b3, b4⟩ := cpL_copies ih l p (cpF ws n v S).2 ⟨by have := h.1; simpa using this, fun i v' y' hv hy => h.2 (i + 1) v' y' (by simpa using hv) (by simpa using hy)⟩ a1
    refine ⟨b1, a2.trans b2, by simp [cpL, b3], fun i v' u hv hu => ?_⟩
    cases i with
    | zero =>
      simp [cpL] at hv hu
      subst hv hu
      exact a3.mono b2
    | succ i => exact b4 i v' u (by simpa using hv) (by simpa [cpL] using hu)

theorem copy_new {ws us cs : List Wd} {nm : List ByteArray} {p m : Nat} (hp : ws[p]? = some (0, (m : Int))) (hl : p + 1 + m ≤ ws.length) (h : CopyL ws us nm (partsOf ws p m) cs) : CopyOf ws (us ++ (0, (m : Int)) :: cs) nm (4, (p : Int)) (4, (us.length : Int)) := by
  intro n x hs
  cases n with
  | zero => exact hs.elim
  | succ n =>
    have hcl : cs.length = m := by rw [← h.1, partsOf_length hl]
    obtain ⟨a, b, c⟩ := hs
    by_cases h2 : x.1.1 = 2
    · obtain ⟨i, e, _⟩ := a h2
      simp at e
    · by_cases h4 : x.1.1 = 4
      · obtain ⟨p', e1, e2, e3, e4⟩ := b h4
        have ep : p' = p := by
          injection e1 with _ e1
          omega
        subst ep
        rw [hp] at e2
        have em : x.2.2.length = m := by
          have := Option.some.inj e2
          injection this with _ this
          omega
        refine ⟨fun e => absurd e h2, fun _ => ⟨us.length, rfl, ?_, ?_, fun i y hy => ?_⟩, fun _ e => absurd h4 e⟩
        · rw [List.getElem?_append_right (Nat.le_refl _), Nat.sub_self, em]
          rfl
        · simp only [List.length_append, List.length_cons, hcl, em]
          omega
        · have hi : i < m := by have := (List.getElem?_eq_some_iff.1 hy).1; omega
          obtain ⟨v, e5, e6⟩ := e4 i y hy
          obtain ⟨u, hu⟩ : ∃ u, cs[i]? = some u := ⟨cs[i]'(by omega), List.getElem?_eq_getElem _⟩
          refine ⟨u, ?_, (h.2 i v u (by rw [partsOf_at hi]; exact e5) hu n y e6).mono (List.prefix_append _ _) (List.prefix_refl _)⟩
          rw [List.getElem?_append_right (by omega), show us.length + 1 + i - us.length = i + 1 by omega]
          simpa using hu
      · have := c h2 h4
        injection this with this
        exact absurd this.symm h4

theorem cpF_copies {ws : List Wd} {nm : List ByteArray} : (n : Nat) → (x : Tm n) → (v : Wd) → (S : List Wd × Went) → InvC ws nm S → Stands ws nm n x v → CopyOut ws nm v S (cpF ws n v S)
  | 0, _, _, _, _, h => h.elim
  | n + 1, x, v, S, hS, h => by
    by_cases h4 : x.1.1 = 4
    · obtain ⟨p, rfl, hp, hl, hs⟩ := tuple_parts h h4
      cases hk : look S.2 p with
      | some q =>
        rw [cpF_old hk]
        exact ⟨hS, List.prefix_refl _, hS p q hk⟩
      | none =>
        rw [cpF_new hk hp]
        obtain ⟨a1, a2, a3⟩ := cpL_copies (fun x v S hh => cpF_copies n x v S hh) (partsOf ws p x.2.2.length) x.2.2 S hs hS
        have hn := copy_new hp hl a3
        refine ⟨fun p' q' hq => ?_, a2.trans (List.prefix_append _ _), hn⟩
        by_cases he : p' = p
        · subst he
          rw [look_same] at hq
          obtain rfl := Option.some.inj hq
          exact hn
        · rw [look_other _ _ he] at hq
          exact (a1 p' q' hq).mono (List.prefix_append _ _)
    · have hv := leaf_not4 h h4
      rw [cpF_leaf hv]
      exact ⟨hS, List.prefix_refl _, copy_leaf hv⟩
theorem inv_nil (ws : List Wd) (nm : List ByteArray) : InvC ws nm ([], []) := fun p q h => by simp [look] at h
end Go.Proofs.Ytbmjfnicfpdjfaa
namespace Go.Proofs.Ytbmjfnicfpdjfaa
open Go.RowKit Go.Maps

theorem cp_made (w : World) (fv : Value) : CpAt w.heap.size (w.heap.size + 1) fv ([], []) (fun b => w.heap.size ≤ b) ((w.alloc (.map #[] 0)).alloc (.cells #[fv, .slice none 0 0, .map (some w.heap.size)] 128)) := by
  have hm := World.ownsMap_made w Try.prog 3 (plainElem (H := Unit) Try.prog 3)
  have es : ∀ o, (w.alloc o).heap.size = w.heap.size + 1 := fun o => by simp
  have hb := heap_alloc_new (w.alloc (.map #[] 0)) (.cells #[fv, .slice none 0 0, .map (some w.heap.size)] 128)
  rw [es] at hb
  exact ⟨.slice none 0 0, w.heap.size, .map [], hb, World.ownsRow_nil _ _ _ _, hm.alloc _, went_nil, by omega, fun b e => by simp [Value.ownBlock] at e, Nat.le_refl _⟩

/-- What reached leaves. -/
def ReachOut (R : List Wd × List Wd × Went) (len g : Nat) (tv : Value) (w w' : World) : Prop :=
  Below w.heap.size w w' ∧ w'.ownsRow w.heap.size 60 2 tv R.2.1.length (wCells R.2.1) ∧ w'.ownsRow g 60 2 (.slice (some ⟨g, 0, none⟩) len len) len (wCells R.1) ∧ w.heap.size ≤ g ∧ tv.ownBlock ≠ some g
set_option maxHeartbeats 1000000 in
set_option maxRecDepth 100000 in
theorem reached_walk (R : List Wd × List Wd × Went) (fv : Value) (ta : Option Addr) (L tc : Nat) (a : Option Addr) (len pc : Nat) (w : World) (hfv : fv = .slice ta L tc)
    (HC : Hid (Calls Try.prog 67 #[.pointer (some ⟨w.heap.size + 1, 0, none⟩), .slice a len pc] ((w.alloc (.map #[] 0)).alloc (.cells #[.slice ta L tc, .slice none 0 0, .map (some w.heap.size)] 128)) fun e w' => ∃ g tv, e = .returned (.slice (some ⟨g, 0, none⟩) len len) ∧ w'.cell? ⟨w.heap.size + 1, 1, none⟩ = some tv ∧ Hid (ReachOut R len g tv w w'))) :
    Calls Try.prog 51 #[fv, .slice a len pc] w fun e w' => ∃ g tv, e = .returned (.tuple #[tv, .slice (some ⟨g, 0, none⟩) len len]) ∧ Hid (ReachOut R len g tv w w') := by
  subst hfv
  have hmm := @run_makeMap Try.prog
  go_enter Try.func51, Try.ntmps51
  go_wp2_with fail
  refine HC.out.mono ?_
  rintro e w1 ⟨g, tv, rfl, c1, H⟩
  clear HC hmm
  go_wp2_with fail
  exact bodyPost_ret (v := .tuple #[tv, .slice (some ⟨g, 0, none⟩) len len]) (by simp [results, Try.results51, go_sem]) rfl ⟨g, tv, rfl, H⟩

theorem reached_any (ws : List Wd) (nm : List ByteArray) (n : Nat) (vs : List Wd) (p : List (Tm n)) (b0 : Nat) (fv : Value) (a : Option Addr) (pc : Nat) (w : World) (hrow : w.ownsRow b0 60 2 fv ws.length (wCells ws)) (hst : StandL ws nm n vs p) (hr : ∀ y ∈ p, RightA ⟨n, y⟩) (hws : ws.length ≤ 100000) (hlen : vs.length ≤ 100000)
    (hz : (p.map fun y => 1 + sz n y).sum ≤ 90000) (hn : (p.flatMap fun y => nodes n y).length ≤ 90000) (hin : WordsIn w vs a) (hoff : ∀ b o, a = some ⟨b, o, none⟩ → b < w.heap.size) :
    Calls Try.prog 51 #[fv, .slice a vs.length pc] w fun e w' => ∃ g tv, e = .returned (.tuple #[tv, .slice (some ⟨g, 0, none⟩) vs.length vs.length]) ∧ Hid (ReachOut (cpL (cpF ws n) vs ([], [])) vs.length g tv w w') := by
  obtain ⟨ta, tc, hfv⟩ : ∃ ta tc, fv = .slice ta ws.length tc := by
    rcases hrow.2 with ⟨e, e0⟩ | ⟨g, c, cur, e, _⟩
    · exact ⟨none, 0, by rw [e, e0]⟩
    · exact ⟨_, c, e⟩
  refine reached_walk _ fv ta ws.length tc a vs.length pc w hfv ?_
  have hA : Below w.heap.size w ((w.alloc (.map #[] 0)).alloc (.cells #[fv, .slice none 0 0, .map (some w.heap.size)] 128)) := ((Below.refl _ _).alloc (Nat.le_refl _) _).alloc (by simp) _
  have hc := cp_made w fv
  have hsA : ((w.alloc (.map #[] 0)).alloc (.cells #[fv, .slice none 0 0, .map (some w.heap.size)] 128)).heap.size = w.heap.size + 2 := by simp
  rw [← hfv]
  generalize (w.alloc (.map #[] 0)).alloc (.cells #[fv, .slice none 0 0, .map (some w.heap.size)] 128) = wA at *
  have hinA : WordsIn wA vs a := by
    rcases hin with hin | ⟨b, o, e, hb, hin⟩
    · exact Or.inl hin
    · exact Or.inr ⟨b, o, e, by omega, fun i v hv => ⟨(below_cells hA b _ hb).trans (hin i v hv).1, (below_cells hA b _ hb).trans (hin i v hv).2⟩⟩
  refine (copyall_any ws nm n (one_any ws nm n) vs p w.heap.size (w.heap.size + 1) b0 fv ([], []) _ a pc wA hc (own_below hrow hA) (fun b e hm => by have := (hrow.lt b e).2; omega) (by omega) hst hr hws hlen (by simpa using hz) (by simpa using hn) hinA ?_).mono ?_
  · intro b o e hm
    have := hoff b o e
    omega
  · rintro e w' ⟨g, rfl, H⟩
    obtain ⟨M', k1, k2, k3, k4, k5, k6⟩ := H.out
    obtain ⟨tv, mb, D, j1, j2, j3, j4, j5, j6, j7⟩ := k1
    refine ⟨g, tv, rfl, j1.cells.1.2.1, ⟨?_, ?_, ?_, ?_, ?_⟩, j2, k6, by omega, fun e => k4 (j6 g e)⟩
    · exact k2.os.trans hA.os
    · exact k2.tape.trans hA.tape
    · exact k2.output.trans hA.output
    · have := k2.size; omega
    · intro b hb
      exact (k2.block b (by omega) (by omega)).trans (hA.block b hb)
end Go.Proofs.Ytbmjfnicfpdjfaa
namespace Go.Proofs.Ytbmjfnicfpdjfaa
open Go.RowKit Go.Maps

/-- What Collect leaves. -/
theorem collect_out {base : Nat} {hp : HLoc} {room : Int} {ws : List Wd} {nm : List ByteArray} {M : Nat → Prop} {R : List Wd × List Wd × Went} {len g : Nat} {tv : Value} {w w1 w2 : World} (h : HpAt base hp room ws nm M w) (hb : Below w.heap.size w w1) (hr : ReachOut R len g tv w1 w2) (hbw : base ≤ w.heap.size) : Laid base hp room R.2.1 nm M w (w2.setCell ⟨hp.b, hp.o + 1, none⟩ tv) := by
  obtain ⟨r1, r2, r3, r4, r5⟩ := hr
  have hs := hb.size
  have hb2 := hb.trans (r1.mono hs)
  obtain ⟨tv0, lv, mv, h1, h2, h3, h4, h5, h6, h7⟩ := h.later hb2
  have k := keep_set w2 hp.b (hp.o + 1) tv
  have r6 : ∀ b, tv.ownBlock = some b → w1.heap.size ≤ b := fun b e => (r2.lt b e).1
  refine ⟨⟨tv, lv, mv, h1.set1 tv, row_kept (own_base r2 (by omega)) k (fun b e e' => ?_), h3.kept k (fun b e e' => ?_) (fun b e e' => ?_), Or.inl h4.1, fun b e => Or.inr (by have := r6 b e; omega), fun b e => Or.inl (h6 b e).1, fun b e => Or.inl (h7 b e).1⟩, (keep_below hb2 M).trans k ?_⟩
  · subst e'
    have := r6 _ e
    have := h4.2
    omega
  · subst e'
    exact row_box h3.1 h1 (by decide) e
  · subst e'
    exact map_box h3 h1 e
  · rintro b _ rfl
    exact h4.1

set_option maxHeartbeats 1000000 in
set_option maxRecDepth 100000 in
theorem collect_walk (R : List Wd × List Wd × Went) (hp : HLoc) (ta : Option Addr) (L tc : Nat) (a : Option Addr) (len pc : Nat) (w : World) (hhp : hp.b < w.heap.size) (c1 : w.cell? ⟨hp.b, hp.o + 1, none⟩ = some (.slice ta L tc)) (f1 : w.frozen? ⟨hp.b, hp.o + 1, none⟩ = false)
    (HA : Hid (Calls Try.prog 50 #[.pointer (some ⟨hp.b, hp.o, none⟩), .slice a len pc] w fun e w' => e = .returned (.bool true) ∧ Below w.heap.size w w'))
    (HC : Hid (∀ w1, Below w.heap.size w w1 → Calls Try.prog 51 #[.slice ta L tc, .slice a len pc] w1 fun e w' => ∃ g tv, e = .returned (.tuple #[tv, .slice (some ⟨g, 0, none⟩) len len]) ∧ Hid (ReachOut R len g tv w1 w'))) :
    Calls Try.prog 32 #[.pointer (some ⟨hp.b, hp.o, none⟩), .slice a len pc] w fun e w' => ∃ g tv w1 w2, e = .returned (.tuple #[.slice (some ⟨g, 0, none⟩) len len, .int .i64 0]) ∧ w' = w2.setCell ⟨hp.b, hp.o + 1, none⟩ tv ∧ Hid (Below w.heap.size w w1 ∧ ReachOut R len g tv w1 w2) := by
  go_enter Try.func32, Try.ntmps32
  go_wp2_with fail
  refine HA.out.mono ?_
  rintro e w1 ⟨rfl, hb⟩
  have HB := hide hb
  replace c1 := (below_cells hb hp.b (hp.o + 1) hhp).trans c1
  replace f1 := (below_free hb hp.b (hp.o + 1) hhp).trans f1
  have hhp1 : hp.b < w1.heap.size := Nat.lt_of_lt_of_le hhp hb.size
  clear hb HA
  go_wp2_with fail
  refine (HC.out w1 HB.out).mono ?_
  rintro e w2 ⟨g, tv, rfl, H⟩
  obtain ⟨ta', tc', rfl⟩ : ∃ ta' tc', tv = .slice ta' R.2.1.length tc' := by
    rcases H.out.2.1.2 with ⟨e, e0⟩ | ⟨g, c, cur, e, _⟩
    · exact ⟨none, 0, by rw [e, e0]⟩
    · exact ⟨_, c, e⟩
  replace c1 := (below_cells H.out.1 hp.b (hp.o + 1) hhp1).trans c1
  replace f1 := (below_free H.out.1 hp.b (hp.o + 1) hhp1).trans f1
  clear HC
  go_wp2_with fail
  go_ret2
  exact ⟨g, _, w1, w2, rfl, rfl, HB.out, H.out⟩
end Go.Proofs.Ytbmjfnicfpdjfaa
