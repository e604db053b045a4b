/- What is proved here: heap.copying's all, from what one does at each word: the copies' row, in new memory. No condition but sizes, and that the words lie outside of the copying's own blocks. -/
import Derived.Test.YtfaoeccnhbcjgabHp15
namespace Go.Proofs.Ytfaoeccnhbcjgab
open Go.RowKit Go.Maps

/-- What a call that copied something leaves. -/
def CLaid (base cb : Nat) (fv : Value) (S : List Wd × Went) (M : Nat → Prop) (w w' : World) : Prop := CpAt base cb fv S (fun b => M b ∨ w.heap.size ≤ b) w' ∧ Keep M w w'
/-- The words of a row, k of which are copied. -/
def AllC (f : Wd → List Wd × Went → Wd × List Wd × Went) (vs : List Wd) (len base cb : Nat) (fv : Value) (S : List Wd × Went) (M : Nat → Prop) (g : Nat) (w wB : World) (k : Nat) (wr : World) : Prop :=
  wr.ownsRow g 37 2 (.slice (some ⟨g, 0, none⟩) len len) len (wCells ((cpL f (vs.take k) S).1 ++ List.replicate (len - k) (0, 0))) ∧
  CpAt base cb fv (cpL f (vs.take k) S).2 (fun b => (M b ∧ b < w.heap.size) ∨ wB.heap.size ≤ b) wr ∧
  Keep (fun b => (M b ∧ b < w.heap.size) ∨ b = g) wB wr
theorem all_made {f : Wd → List Wd × Went → Wd × List Wd × Went} {vs : List Wd} {len base cb : Nat} {fv : Value} {S : List Wd × Went} {M : Nat → Prop} {w w0 : World} (h : CpAt base cb fv S M w)
    (ho : w0.ownsRow w.heap.size 37 2 (.slice (some ⟨w.heap.size, 0, none⟩) len len) len (madeCells (Value.agg #[.int .i64 0, .int .i64 0]).cells (len * 2)).toList) (hg : w.grownBy w0 none) :
    AllC f vs len base cb fv S M w.heap.size w w0 0 w0 ∧ Below w.heap.size w w0 ∧ w.heap.size < w0.heap.size := by
  have hb : Below w.heap.size w w0 := ⟨hg.os, hg.tape, hg.output, hg.size, fun b hb => hg.block b hb (by simp)⟩
  refine ⟨⟨?_, ?_, Keep.refl _ _⟩, hb, (ho.lt _ rfl).2⟩
  · simp only [List.take_zero, cpL, List.nil_append, Nat.sub_zero]
    have e2 := made_zero2 len
    have e3 : (Value.agg #[.int .i64 0, .int .i64 0]).cells = #[.int .i64 0, .int .i64 0] := rfl
    rw [e3, e2] at ho
    exact ho
  · simp only [List.take_zero, cpL]
    exact (h.later hb).mono fun b h => Or.inl h
theorem AllC.step {f : Wd → List Wd × Went → Wd × List Wd × Went} {vs : List Wd} {len base cb : Nat} {fv : Value} {S : List Wd × Went} {M : Nat → Prop} {g : Nat} {w wB : World} {k : Nat} {wr w1 w2 : World} (H : AllC f vs len base cb fv S M g w wB k wr) (hg : w.heap.size ≤ g) (hgB : g < wB.heap.size) (hk : k < len) (hpl : vs.length = len) {v : Wd} (hv : vs[k]? = some v) (hb : Below wr.heap.size wr w1)
    (hL : CLaid base cb fv (f v (cpL f (vs.take k) S).2).2 (fun b => ((M b ∧ b < w.heap.size) ∨ wB.heap.size ≤ b) ∧ b < wr.heap.size) w1 w2) :
    AllC f vs len base cb fv S M g w wB (k + 1) ((w2.setCell ⟨g, k * 2, none⟩ (.int .i64 (f v (cpL f (vs.take k) S).2).1.1)).setCell ⟨g, k * 2 + 1, none⟩ (.int .i64 (f v (cpL f (vs.take k) S).2).1.2)) ∧
    (w2.cell? ⟨g, k * 2, none⟩ = some (.int .i64 0) ∧ w2.cell? ⟨g, k * 2 + 1, none⟩ = some (.int .i64 0)) ∧ w2.frozen? ⟨g, k * 2, none⟩ = false ∧ w2.frozen? ⟨g, k * 2 + 1, none⟩ = false := by
  obtain ⟨H1, H2, H3⟩ := H
  obtain ⟨L1, L2⟩ := hL
  have hgr : g < wr.heap.size := (H1.lt g rfl).2
  have hs1 := hb.size
  have hs3 := H3.size
  have e0 : cpL f (vs.take (k + 1)) S = ((cpL f (vs.take k) S).1 ++ [(f v (cpL f (vs.take k) S).2).1], (f v (cpL f (vs.take k) S).2).2) := by
    rw [List.take_add_one, hv]
    exact cpL_snoc _ _ _ _
  have hl : (cpL f (vs.take k) S).1.length = k := by rw [cpL_length, List.length_take]; omega
  have r2 : w2.ownsRow g 37 2 (.slice (some ⟨g, 0, none⟩) len len) len (wCells ((cpL f (vs.take k) S).1 ++ List.replicate (len - k) (0, 0))) := by
    refine row_kept (own_below H1 hb) L2 fun b e => ?_
    simp only [Value.ownBlock] at e
    obtain rfl := Option.some.inj e
    omega
  generalize cpL f (vs.take k) S = R at *
  generalize f v R.2 = Y at *
  have hz : (R.1 ++ List.replicate (len - k) (0, 0))[k]? = some ((0, 0) : Wd) := by
    rw [List.getElem?_append_right (by omega), hl, Nat.sub_self, List.getElem?_replicate]
    simp; omega
  have k1 := keep_set w2 g (k * 2) (.int .i64 Y.1.1)
  have k2 := keep_set (w2.setCell ⟨g, k * 2, none⟩ (.int .i64 Y.1.1)) g (k * 2 + 1) (.int .i64 Y.1.2)
  have k3 := k1.trans k2 (fun b _ h => h)
  refine ⟨⟨?_, ?_, ?_⟩, word_cells r2 k (0, 0) hz, own_cell2 r2 _, own_cell2 r2 _⟩
  · rw [e0]
    have hh := cell_set (cell_set r2 (k * 2) (.int .i64 Y.1.1)) (k * 2 + 1) (.int .i64 Y.1.2)
    rw [wCells_set _ k Y.1 (by simp; omega)] at hh
    have es : (R.1 ++ List.replicate (len - k) ((0, 0) : Wd)).set k Y.1 = (R.1 ++ [Y.1]) ++ List.replicate (len - (k + 1)) (0, 0) := by
      rw [List.set_append_right _ _ (by omega)]
      have : len - k = (len - (k + 1)) + 1 := by omega
      rw [this, List.replicate_succ]
      simp [hl]
    rw [es] at hh
    exact hh
  · rw [e0]
    refine (L1.kept k3 ?_).mono ?_
    · rintro b (⟨h, _⟩ | h) _ e <;> omega
    · rintro b (⟨h, _⟩ | h)
      · exact h
      · exact Or.inr (by omega)
  · have h1 : Keep (fun b => (M b ∧ b < w.heap.size) ∨ b = g) wB w1 := H3.trans (keep_below hb (fun _ => False)) (fun _ _ h => h.elim)
    have h2 : Keep (fun b => (M b ∧ b < w.heap.size) ∨ b = g) wB w2 := h1.trans L2 (fun b hb' h => by
      rcases h.1 with h | h
      · exact Or.inl h
      · omega)
    exact h2.trans k3 (fun b _ h => Or.inr h)

/-- What all leaves. -/
def AllOut (f : Wd → List Wd × Went → Wd × List Wd × Went) (vs : List Wd) (base cb : Nat) (fv : Value) (S : List Wd × Went) (M : Nat → Prop) (g : Nat) (w w' : World) : Prop :=
  ∃ M', CpAt base cb fv (cpL f vs S).2 M' w' ∧ Keep M w w' ∧ (∀ b, M' b → M b ∨ w.heap.size ≤ b) ∧ ¬ M' g ∧ w.heap.size ≤ g ∧ w'.ownsRow g 37 2 (.slice (some ⟨g, 0, none⟩) vs.length vs.length) vs.length (wCells (cpL f vs S).1)
theorem AllC.done {f : Wd → List Wd × Went → Wd × List Wd × Went} {vs : List Wd} {len base cb : Nat} {fv : Value} {S : List Wd × Went} {M : Nat → Prop} {g : Nat} {w wB wr : World} (H : AllC f vs len base cb fv S M g w wB len wr) (hpl : vs.length = len) (hg : w.heap.size ≤ g) (hgB : g < wB.heap.size) (hB : Below w.heap.size w wB) : AllOut f vs base cb fv S M g w wr := by
  obtain ⟨H1, H2, H3⟩ := H
  rw [List.take_of_length_le (by omega)] at H1 H2
  rw [Nat.sub_self, List.replicate_zero, List.append_nil] at H1
  subst hpl
  refine ⟨_, H2, (keep_below hB M).trans H3 ?_, ?_, ?_, hg, H1⟩
  · rintro b hb (h | h)
    · exact h.1
    · omega
  · rintro b (h | h)
    · exact Or.inl h.1
    · exact Or.inr (by have := hB.size; omega)
  · rintro (h | h) <;> omega

set_option maxHeartbeats 1000000 in
set_option maxRecDepth 100000 in
theorem copyall_loop (f : Wd → List Wd × Went → Wd × List Wd × Went) (vs : List Wd) (base cb : Nat) (fv : Value) (S : List Wd × Went) (M : Nat → Prop) (a : Option Addr) (len pc : Nat) (w : World) (hvl : Hid (vs.length = len)) (hlen : len ≤ 100000) (h : Hid (CpAt base cb fv S M w)) (hin : Hid (WordsIn w vs a)) (hoff : Hid (∀ b o, a = some ⟨b, o, none⟩ → ¬ M b))
    (ih : Hid (∀ (k : Nat) (v : Wd), vs[k]? = some v → ∀ (M' : Nat → Prop) (w1 : World), CpAt base cb fv (cpL f (vs.take k) S).2 M' w1 → Keep M w w1 → (∀ b, M' b → M b ∨ w.heap.size ≤ b) →
      Calls Try.prog 80 #[.pointer (some ⟨cb, 0, none⟩), .agg #[.int .i64 v.1, .int .i64 v.2]] w1 fun e w2 => e = .returned (.agg #[.int .i64 (f v (cpL f (vs.take k) S).2).1.1, .int .i64 (f v (cpL f (vs.take k) S).2).1.2]) ∧ Hid (CLaid base cb fv (f v (cpL f (vs.take k) S).2).2 M' w1 w2))) :
    Calls Try.prog 66 #[.pointer (some ⟨cb, 0, none⟩), .slice a len pc] w fun e w' => ∃ g, e = .returned (.slice (some ⟨g, 0, none⟩) len len) ∧ Hid (AllOut f vs base cb fv S M g w w') := by
  obtain ⟨it, hit, htz0, htz1, htz2⟩ := info_parts infoWord
  go_enter Try.func66, Try.ntmps66
  go_wp2_with (at_make; refine wpList_make_full _ rfl _ _ 42 rfl w.heap.size 37 it _ 2 Try.underlying42 hit htz0 htz1 _ _ _ _ len rfl rfl rfl rfl (by rw [htz2]; omega) (by unfold maxLen; omega) (Nat.le_refl _) ?_; intro w0 hown0 hgrow0; have HM := hide (all_made (f := f) (vs := vs) h.out hown0 hgrow0); clear hown0 hgrow0)
  clear hit htz0 htz1 htz2
  have HLP : Hid (AllC f vs len base cb fv S M w.heap.size w w0 0 w0) := HM.out.1
  have hgB : w.heap.size < w0.heap.size := HM.out.2.2
  go_loopw [13] (fun i wr => ∃ k : Nat, k ≤ len ∧ i = .int .i64 k ∧ Hid (AllC f vs len base cb fv S M w.heap.size w w0 k wr)) (fun i _ => len - (intOf i).toNat)
  case atStart => exact ⟨0, by omega, rfl, HLP.out⟩
  case round =>
    clear HLP
    obtain ⟨k, hk, rfl, HL⟩ := hrel
    by_cases hlt : k < len
    · obtain ⟨v, hv⟩ : ∃ v, vs[k]? = some v := ⟨vs[k]'(by rw [hvl.out]; exact hlt), List.getElem?_eq_getElem _⟩
      obtain ⟨b, o, rfl, hb, hvs⟩ : ∃ b o, a = some ⟨b, o, none⟩ ∧ b < w.heap.size ∧ ∀ (i : Nat) (v : Wd), vs[i]? = some v → w.cell? ⟨b, o + i * 2, none⟩ = some (.int .i64 v.1) ∧ w.cell? ⟨b, o + i * 2 + 1, none⟩ = some (.int .i64 v.2) := by
        rcases hin.out with e | e
        · rw [e] at hv; simp at hv
        · exact e
      obtain ⟨v0, v1⟩ := hvs k v hv
      have hblk : wr.heap[b]? = w.heap[b]? := (HL.out.2.2.block b (by omega) (by rintro (h | h); exact hoff.out b o rfl h.1; omega)).trans (HM.out.2.1.block b hb)
      replace v0 := (block_cell hblk (o + k * 2)).trans v0
      replace v1 := (block_cell hblk (o + k * 2 + 1)).trans v1
      have hgr : w.heap.size < wr.heap.size := (HL.out.1.lt _ rfl).2
      have hw0 := HL.out.2.2.size
      have hkw : Keep M w wr := (keep_below HM.out.2.1 M).trans HL.out.2.2 (by rintro b hb (h | h); exact h.1; omega)
      obtain ⟨V, HC⟩ : ∃ V : Wd, Hid (∀ w1, Below wr.heap.size wr w1 → Calls Try.prog 80 #[.pointer (some ⟨cb, 0, none⟩), .agg #[.int .i64 v.1, .int .i64 v.2]] w1 fun e w2 => e = .returned (.agg #[.int .i64 V.1, .int .i64 V.2]) ∧
          Hid (AllC f vs len base cb fv S M w.heap.size w w0 (k + 1) ((w2.setCell ⟨w.heap.size, k * 2, none⟩ (.int .i64 V.1)).setCell ⟨w.heap.size, k * 2 + 1, none⟩ (.int .i64 V.2)) ∧
            (w2.cell? ⟨w.heap.size, k * 2, none⟩ = some (.int .i64 0) ∧ w2.cell? ⟨w.heap.size, k * 2 + 1, none⟩ = some (.int .i64 0)) ∧ w2.frozen? ⟨w.heap.size, k * 2, none⟩ = false ∧ w2.frozen? ⟨w.heap.size, k * 2 + 1, none⟩ = false)) := by
        refine ⟨(f v (cpL f (vs.take k) S).2).1, fun w1 h1 => ?_⟩
        refine (ih.out k v hv _ w1 (HL.out.2.1.later h1) (hkw.trans (keep_below h1 M) (fun _ _ h => h)) ?_).mono ?_
        · rintro b ⟨h | h, _⟩
          · exact Or.inl h.1
          · exact Or.inr (by omega)
        · rintro e w2 ⟨rfl, HLD⟩
          exact ⟨rfl, HL.out.step (Nat.le_refl _) hgB hlt hvl.out hv h1 HLD.out⟩
      clear ih HL hin hvs hv hoff hblk hkw
      have hk1 : (0 : Int) ≤ (k : Int) := by omega
      have hk2 : (k : Int) < (len : Int) := by omega
      have hbr : b < wr.heap.size := by omega
      go_wp2_with fail
      refine (HC.out _ ((Below.refl _ _).alloc (Nat.le_refl _) _)).mono ?_
      rintro e w2 ⟨rfl, HS⟩
      obtain ⟨⟨d0, d1⟩, f0, f1⟩ := HS.out.2
      clear HC v0 v1
      go_wp2_with fail
      go_roundw
      case rel => exact ⟨k + 1, by omega, by go_num, HS.out.1⟩
      case measure => simp [intOf]; omega
    · obtain rfl : k = len := by omega
      have HE := hide (HL.out.done hvl.out (Nat.le_refl _) hgB HM.out.2.1)
      clear HL ih
      go_wp2_with fail
      go_ret
      exact ⟨_, rfl, HE.out⟩
end Go.Proofs.Ytfaoeccnhbcjgab
