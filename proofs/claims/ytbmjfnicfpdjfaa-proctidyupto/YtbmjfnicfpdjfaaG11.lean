/- What is proved here: plain facts and contracts that the claimed theorem stands on, several texts in one: code.tellBehaviour and code.tellProgram: the term that tells a program lies in new memory, with the program's own terms in it. Condition: it lies in memory, and has at most 7 behaviours, 6 clauses, 8 acts. code.To of a list that lies in memory: its error is what plain functions say, and the term that it returns is the one that tells the list, or the zero term. Condition: the list is of at most 2097152 terms, told as a term. the document's small calls on programs: an atom, a tuple, and whether a term is none. No condition but that it lies in memory. the document's SamePrograms, from what its To returns of both lists: both have the same error, are told the same, and are as long. No condition but those. the small program of the statement is in form, and told as a term it is right. No condition. plain facts on rows that the document's To makes: what they hold while all is in form, and how they grow. No condition. -/
import Derived.Test.YtbmjfnicfpdjfaaG10
namespace Go.Proofs.Ytbmjfnicfpdjfaa
open Go.RowKit

/-- Between two rounds. -/
def bhI (n B : Nat) (h : List (Tm (n + 4))) (p : List (Cl (n + 1))) (w0 : World) (base k : Nat) (v : Value) (wr : World) : Prop :=
  ∃ xs, xs.length = k + 2 ∧ GrowT (n + 4) B base xs v w0 wr ∧ sameL (fun a b => same (n + 4) a (n + 4) b) xs (h ++ (p.take k).map (tellC n)) = true

set_option maxHeartbeats 4000000 in
set_option maxRecDepth 100000 in
theorem tellBehaviour_walk (n : Nat) (s : ByteArray) (hs0 : s.size ≤ maxLen) (p : List (Cl (n + 1))) (len : Nat) (hpl : Hid (p.length = len)) (h8 : len ≤ 6) (h8c : Hid (∀ c ∈ p, c.2.2.length ≤ 8)) (a : Option Addr) (pc : Nat) (B : Nat) (w : World)
    (hp : Hid (Lay B w 13 (cl13 (n + 1)) (ClIn (n + 1) B w) a p)) (hB : B ≤ w.heap.size) (X : Tm (n + 5)) (hX : Hid (X = tellB n (s, (a, pc), p))) :
    Calls Try.prog 58 #[.agg #[.string s, .slice a len pc]] w (Tells B (n + 5) X w) := by
  obtain ⟨it, hit, htz0, htz1, htz2⟩ := info_parts infoTerm
  have HT := hide (⟨hit, htz0, htz1, htz2⟩ : _ ∧ _ ∧ _ ∧ _)
  clear hit htz0 htz1 htz2
  go_enter Try.func58, Try.ntmps58
  go_wp2_with fail
  have HN := hide (two_new w (.cells #[.string s, .slice a len pc] 93) (.cells #[.int .i64 0, .int .i64 0, .string ⟨#[]⟩, .slice none 0 0] 25)).2
  have HN1 := hide (two_new w (.cells #[.string s, .slice a len pc] 93) (.cells #[.int .i64 0, .int .i64 0, .string ⟨#[]⟩, .slice none 0 0] 25)).1
  generalize hW0 : (w.alloc _).alloc _ = W0
  rw [hW0] at HN HN1
  have HB0 : Hid (Below w.heap.size w W0 ∧ W0.heap.size = w.heap.size + 2) := by
    subst hW0
    exact ⟨((Below.refl _ _).alloc (Nat.le_refl _) _).alloc (by simp) _, by simp⟩
  have HA0 : Hid (∀ wr, Below (w.heap.size + 2) W0 wr → Below w.heap.size w wr) := fun wr h => HB0.out.1.trans (h.mono (by omega))
  clear hW0
  have b0 : W0.cell? ⟨w.heap.size, 0, none⟩ = some (.string s) := box_cell HN1.out 0
  have b1 : W0.cell? ⟨w.heap.size, 1, none⟩ = some (.slice a len pc) := box_cell HN1.out 1
  have hq0 : w.heap.size < W0.heap.size := by have := HB0.out.2; omega
  have HK : Hid (∀ w', Below W0.heap.size W0 w' → w'.cell? ⟨w.heap.size, 0, none⟩ = some (.string s) ∧ w'.cell? ⟨w.heap.size, 1, none⟩ = some (.slice a len pc)) := fun w' h => ⟨(below_cells h _ _ hq0).trans b0, (below_cells h _ _ hq0).trans b1⟩
  clear HN1
  go_region_held3 (fun w' => w'.cell? ⟨w.heap.size, 0, none⟩ = some (.string s) ∧ w'.cell? ⟨w.heap.size, 1, none⟩ = some (.slice a len pc)) (first | (go_keep; done) | (refine HK.out _ ?_; go_grown; done))
    ((go_at_call 57; refine (catom_any _ _).mono ?_; rintro e w1 ⟨rfl, rfl⟩))
  have HM0 : Hid (sameL (fun a b => same (n + 4) a (n + 4) b) [atomV wBeh (n + 3), atomV s (n + 3)] ([atomV wBeh (n + 3), atomV s (n + 3)] ++ (p.take 0).map (tellC n)) = true) := by
    show _ = true
    simp [sameL, atomV_same]
  have HG0 : Hid (GrowT (n + 4) B (w.heap.size + 2) [atomV wBeh (n + 3), atomV s (n + 3)] (.slice (some ⟨W0.heap.size + 1 + 1, 0, none⟩) 2 2) W0 (((W0.alloc (.cells #[.int .i64 2, .int .i64 0, .string ⟨#[98, 101, 104]⟩, .slice none 0 0] 25)).alloc (.cells #[.int .i64 2, .int .i64 0, .string s, .slice none 0 0] 25)).alloc (.cells #[.int .i64 2, .int .i64 0, .string ⟨#[98, 101, 104]⟩, .slice none 0 0, .int .i64 2, .int .i64 0, .string s, .slice none 0 0] 25)).drew) := by
    have h := Grow.lit (T := 25) (k := 4) (B := B) (base := w.heap.size + 2) (tm_stays (n + 4)) [atomV wBeh (n + 3), atomV s (n + 3)] (w0 := W0) (w1 := (W0.alloc (.cells #[.int .i64 2, .int .i64 0, .string ⟨#[98, 101, 104]⟩, .slice none 0 0] 25)).alloc (.cells #[.int .i64 2, .int .i64 0, .string s, .slice none 0 0] 25)) (cs := #[.int .i64 2, .int .i64 0, .string ⟨#[98, 101, 104]⟩, .slice none 0 0, .int .i64 2, .int .i64 0, .string s, .slice none 0 0]) rfl (tm4_len _) (by show 2 ≤ maxLen; unfold maxLen; omega) (by have := HB0.out.2; simp; omega) (((Below.refl _ _).alloc (by have := HB0.out.2; omega) _).alloc (by have := HB0.out.2; simp; omega) _) (fun y hy => by
      simp only [List.mem_cons, List.not_mem_nil, or_false] at hy
      rcases hy with rfl | rfl
      · exact ⟨atomV_in _ _ (word_le _ (by decide)) _ _, atomV_off _ _ _⟩
      · exact ⟨atomV_in _ _ hs0 _ _, atomV_off _ _ _⟩)
    have e : ((W0.alloc (.cells #[.int .i64 2, .int .i64 0, .string ⟨#[98, 101, 104]⟩, .slice none 0 0] 25)).alloc (.cells #[.int .i64 2, .int .i64 0, .string s, .slice none 0 0] 25)).heap.size = W0.heap.size + 1 + 1 := by simp
    rw [e] at h
    exact h.later (tm_stays _) (by have := HB0.out.2; simp; omega) (Below.refl _ _).drew
  have HK1 := hide (HK.out _ (show Below W0.heap.size W0 (((W0.alloc (.cells #[.int .i64 2, .int .i64 0, .string ⟨#[98, 101, 104]⟩, .slice none 0 0] 25)).alloc (.cells #[.int .i64 2, .int .i64 0, .string s, .slice none 0 0] 25)).alloc (.cells #[.int .i64 2, .int .i64 0, .string ⟨#[98, 101, 104]⟩, .slice none 0 0, .int .i64 2, .int .i64 0, .string s, .slice none 0 0] 25)).drew by go_grown))
  generalize hWi : (((W0.alloc _).alloc _).alloc _).drew = Wi
  rw [hWi] at HG0 HK1
  have i1 : Wi.cell? ⟨w.heap.size, 1, none⟩ = some (.slice a len pc) := HK1.out.2
  clear hWi HK HK1 b0 b1
  go_wp2_with fail
  go_loopw [3, 14] (fun v i wr => ∃ (k : Nat) (u : Value), k ≤ len ∧ i = .int .i64 k ∧ u = v ∧ Hid (bhI n B ([atomV wBeh (n + 3), atomV s (n + 3)]) p W0 (w.heap.size + 2) k u wr)) (fun _ i _ => len - (intOf i).toNat)
  case atStart => exact ⟨0, _, by omega, rfl, rfl, _, rfl, HG0.out, HM0.out⟩
  case round =>
    clear HG0 HM0
    obtain ⟨k, v, hk, rfl, rfl, HR⟩ := hrel
    obtain ⟨xs, HL, HG, HM⟩ : ∃ xs : List (Tm (n + 4)), Hid (xs.length = k + 2) ∧ Hid (GrowT (n + 4) B (w.heap.size + 2) xs v W0 wr) ∧ Hid (sameL (fun a b => same (n + 4) a (n + 4) b) xs (([atomV wBeh (n + 3), atomV s (n + 3)]) ++ (p.take k).map (tellC n)) = true) := HR.out
    clear HR
    have HBW := hide (HA0.out wr HG.out.1)
    have hbase : w.heap.size + 2 ≤ wr.heap.size := by have := HG.out.1.size; have := HB0.out.2; omega
    by_cases hlt : k < len
    · obtain ⟨y, hy⟩ : ∃ y, p[k]? = some y := ⟨p[k]'(by rw [hpl.out]; exact hlt), List.getElem?_eq_getElem _⟩
      have HS := hide (take_map_snoc (tellC n) p k y hy)
      obtain ⟨pb, po, rfl, hpb, ⟨⟨x0, x1, x2, x3⟩, ⟨x4, x5, x6, x7⟩, x8, x9, x10, x11, x12⟩, hi⟩ := (lay_below (cl_stays (n + 1)) (HBW.out.mono hB) hp.out).cl k y hy
      have hB' : B ≤ wr.heap.size := by omega
      have HY := hide hy
      have HC : Hid (∀ w1, Below wr.heap.size wr w1 → Calls Try.prog 71 #[.agg #[.int .i64 y.1.1.1.1, .int .i64 y.1.1.1.2.1, .string y.1.1.1.2.2, .slice y.1.1.2.1.1 y.1.1.2.2.length y.1.1.2.1.2, .int .i64 y.1.2.1.1.1, .int .i64 y.1.2.1.1.2.1, .string y.1.2.1.1.2.2, .slice y.1.2.1.2.1.1 y.1.2.1.2.2.length y.1.2.1.2.1.2, .slice y.2.1.1 y.2.2.length y.2.1.2, .int .i64 y.1.2.2.1.1, .int .i64 y.1.2.2.1.2.1, .string y.1.2.2.1.2.2, .slice y.1.2.2.2.1.1 y.1.2.2.2.2.length y.1.2.2.2.1.2]] w1 (Tells B (n + 4) (tellC n y) w1)) :=
        fun w1 hw => tellClause_any n y B w1 ((cl_stays (n + 1)).below (hw.mono hB') hi) (h8c.out y (List.mem_of_getElem? HY.out)) (Nat.le_trans hB' hw.size)
      clear hi hy
      generalize tellC n y = Y at *
      have hk1 : (0 : Int) ≤ (k : Int) := by omega
      have hk2 : (k : Int) < (len : Int) := by omega
      have hpw : pb < wr.heap.size := by omega
      obtain ⟨va, vc, hv⟩ := HG.out.slice
      rw [HL.out] at hv
      subst hv
      go_wp2_with fail
      refine (HC.out _ one_alloc).mono ?_
      rintro e w3 ⟨z, rfl, HZ⟩
      have HB3 : Hid (Below wr.heap.size wr w3) := one_alloc.trans (HZ.out.1.mono (by simp))
      have e3 : val (n + 4) z = .agg #[.int .i64 z.1.1, .int .i64 z.1.2.1, .string z.1.2.2, .slice z.2.1.1 z.2.2.length z.2.1.2] := rfl
      rw [e3]
      have HST := fun (o : Obj) (g c : Nat) (w4 : World) hown hgrow hat => hide (HG.out.app HL.out (by omega) hbase HB3.out z HZ.out.2.1 (HZ.out.2.2.1.mono fun b hb => by simp at hb; omega) (o := o) (g := g) (c := c) (w4 := w4) hown hgrow hat)
      have h3s : wr.heap.size ≤ w3.heap.size := HB3.out.size
      clear e3 HC x0 x1 x2 x3 x4 x5 x6 x7 x8 x9 x10 x11 x12
      go_wp2_with (at_builtin; refine wpList_append_lies _ rfl _ _ 23 rfl (w.heap.size + 2) 25 it _ 4 56 Try.underlying23 HT.out.1 HT.out.2.1 HT.out.2.2.1 HT.out.2.2.2 rfl (by decide) (.slice va (k + 2) vc) (k + 2) (xs.flatMap (tm4 (n + 4))) (by simp [Act.eval]) (HG.out.own HL.out HB3.out _) ⟨w3.heap.size, 0, none⟩ 1 1 (tm4 (n + 4) z) (by simp [Act.eval]) rfl (tm4_new w3 (hdT (n + 4) z) rfl) (tm4_one _ _) (by decide) (by unfold maxLen; omega) (by omega) (by simp; omega) (w3.heap.size + 1) (by simp) ?_; intro g4 c4 w4 hown4 hgrow4 hat4 hlt4; have HS4 := HST _ g4 c4 w4 hown4 hgrow4 hat4; clear hown4 hgrow4 hat4)
      go_roundw
      case rel => exact ⟨k + 1, _, by omega, by go_num, rfl, xs ++ [z], by have := HL.out; simp; omega, HS4.out, by rw [HS.out, ← List.append_assoc]; exact sameL_snoc _ _ _ _ _ HM.out HZ.out.2.2.2⟩
      case measure => simp [intOf]; omega
    · obtain rfl : k = len := by omega
      obtain ⟨va, vc, hv⟩ := HG.out.slice
      rw [HL.out] at hv
      subst hv
      have HX1 := hide ((HG.out.1.block (w.heap.size + 1) (by omega)).trans HN.out)
      have d0 : wr.cell? ⟨w.heap.size + 1, 0, none⟩ = some (.int .i64 0) := box_cell HX1.out 0
      have d1 : wr.cell? ⟨w.heap.size + 1, 1, none⟩ = some (.int .i64 0) := box_cell HX1.out 1
      have d2 : wr.cell? ⟨w.heap.size + 1, 2, none⟩ = some (.string ⟨#[]⟩) := box_cell HX1.out 2
      have d3 : wr.cell? ⟨w.heap.size + 1, 3, none⟩ = some (.slice none 0 0) := box_cell HX1.out 3
      have f0 := fun j => box_free HX1.out j
      have hq1 : w.heap.size + 1 < wr.heap.size := by omega
      have HF := fun (W w' : World) hb hw hsz => hide (GrowT.tells (w := w) (ys := ([atomV wBeh (n + 3), atomV s (n + 3)]) ++ p.map (tellC n)) (w' := w') (HG.out.later (tm_stays _) hbase (w1 := W) hb) (by omega) (by have h := HM.out; rw [List.take_of_length_le (by rw [hpl.out]; omega)] at h; exact h) hw hsz)
      clear HX1 HN
      go_wp2_with (go_at_call 59; refine (ctuple_any _ _ _ _).mono ?_; rintro e w5 ⟨rfl, hw5⟩; have HB5 := hide (show Below wr.heap.size wr w5 by rw [hw5]; go_grown); clear hw5; replace d0 := (below_cells HB5.out _ _ hq1).trans d0; replace d1 := (below_cells HB5.out _ _ hq1).trans d1; replace d2 := (below_cells HB5.out _ _ hq1).trans d2; replace d3 := (below_cells HB5.out _ _ hq1).trans d3; replace f0 := fun j => (below_free HB5.out _ j hq1).trans (f0 j))
      refine bodyPost_ret (v := .agg #[.int .i64 4, .int .i64 0, .string ⟨#[]⟩, .slice va (k + 2) vc]) (by simp [results, Try.results58, go_sem, d0, d1, d2, d3]) rfl ?_
      rw [hX.out]
      obtain ⟨a', c', e', H⟩ := (HF w5 (put4 w5 (w.heap.size + 1) 0 (.int .i64 4) (.int .i64 0) (.string ⟨#[]⟩) (.slice va (k + 2) vc)) HB5.out (put4_at (by omega) (by omega) (Below.refl _ _)) (Nat.le_of_eq (put4_size _ _ _ _).symm)).out (put4_below (HBW.out.trans (HB5.out.mono HBW.out.size)) (by omega))
      rw [HL.out] at e' H
      injection e' with e1 e2 e3
      subst e1 e3
      exact H

theorem tellBehaviour_any (n : Nat) (b : Bh (n + 1)) (B : Nat) (w : World) (hi : BhIn (n + 1) B w b) (h6 : b.2.2.length ≤ 6) (h8 : ∀ c ∈ b.2.2, c.2.2.length ≤ 8) (hB : B ≤ w.heap.size) :
    Calls Try.prog 58 #[.agg (bh2 (n + 1) b).toArray] w (Tells B (n + 5) (tellB n b) w) := by
  obtain ⟨s, ⟨a, pc⟩, p⟩ := b
  exact tellBehaviour_walk n s hi.1 p p.length rfl h6 h8 a pc B w hi.2.2 hB _ rfl

/-- Between two rounds. -/
def pgI (n B : Nat) (h : List (Tm (n + 5))) (p : List (Bh (n + 1))) (w0 : World) (base k : Nat) (v : Value) (wr : World) : Prop :=
  ∃ xs, xs.length = k + 1 ∧ GrowT (n + 5) B base xs v w0 wr ∧ sameL (fun a b => same (n + 5) a (n + 5) b) xs (h ++ (p.take k).map (tellB n)) = true

set_option maxHeartbeats 4000000 in
set_option maxRecDepth 100000 in
theorem tellProgram_walk (n : Nat) (p : List (Bh (n + 1))) (len : Nat) (hpl : Hid (p.length = len)) (h8 : len ≤ 7) (h8c : Hid (∀ b ∈ p, b.2.2.length ≤ 6 ∧ ∀ c ∈ b.2.2, c.2.2.length ≤ 8)) (a : Option Addr) (pc : Nat) (B : Nat) (w : World)
    (hp : Hid (PgIn (n + 1) B w a p)) (hB : B ≤ w.heap.size) (X : Tm (n + 6)) (hX : Hid (X = tellP n p)) :
    Calls Try.prog 43 #[.slice a len pc] w (Tells B (n + 6) X w) := by
  obtain ⟨it, hit, htz0, htz1, htz2⟩ := info_parts infoTerm
  have HT := hide (⟨hit, htz0, htz1, htz2⟩ : _ ∧ _ ∧ _ ∧ _)
  clear hit htz0 htz1 htz2
  go_enter Try.func43, Try.ntmps43
  go_wp2_with (go_at_call 57; refine (catom_any _ _).mono ?_; rintro e w1 ⟨rfl, rfl⟩)
  have HN := hide (heap_alloc_new w (.cells #[.int .i64 0, .int .i64 0, .string ⟨#[]⟩, .slice none 0 0] 25))
  have HM0 : Hid (sameL (fun a b => same (n + 5) a (n + 5) b) [atomV wCode (n + 4)] ([atomV wCode (n + 4)] ++ (p.take 0).map (tellB n)) = true) := by
    show _ = true
    simp [sameL, atomV_same]
  generalize hW0 : w.alloc (.cells #[.int .i64 0, .int .i64 0, .string ⟨#[]⟩, .slice none 0 0] 25) = W0
  rw [hW0] at HN
  have HB0 : Hid (Below w.heap.size w W0 ∧ W0.heap.size = w.heap.size + 1) := by
    subst hW0
    exact ⟨(Below.refl _ _).alloc (Nat.le_refl _) _, by simp⟩
  have HA0 : Hid (∀ wr, Below (w.heap.size + 1) W0 wr → Below w.heap.size w wr) := fun wr h => HB0.out.1.trans (h.mono (by omega))
  clear hW0
  have HG0 : Hid (GrowT (n + 5) B (w.heap.size + 1) [atomV wCode (n + 4)] (.slice (some ⟨w.heap.size + 1 + 1, 0, none⟩) 1 1) W0 ((W0.alloc (.cells #[.int .i64 2, .int .i64 0, .string ⟨#[99, 111, 100, 101]⟩, .slice none 0 0] 25)).alloc (.cells #[.int .i64 2, .int .i64 0, .string ⟨#[99, 111, 100, 101]⟩, .slice none 0 0] 25))) := by
    have h := Grow.lit (T := 25) (k := 4) (B := B) (base := w.heap.size + 1) (tm_stays (n + 5)) [atomV wCode (n + 4)] (w0 := W0) (w1 := W0.alloc (.cells #[.int .i64 2, .int .i64 0, .string ⟨#[99, 111, 100, 101]⟩, .slice none 0 0] 25)) (cs := #[.int .i64 2, .int .i64 0, .string ⟨#[99, 111, 100, 101]⟩, .slice none 0 0]) rfl (tm4_len _) (by show 1 ≤ maxLen; unfold maxLen; omega) (by have := HB0.out.2; simp; omega) ((Below.refl _ _).alloc (by have := HB0.out.2; omega) _) (fun y hy => by
      simp only [List.mem_cons, List.not_mem_nil, or_false] at hy
      subst hy
      exact ⟨atomV_in _ _ (word_le _ (by decide)) _ _, atomV_off _ _ _⟩)
    have e : (W0.alloc (.cells #[.int .i64 2, .int .i64 0, .string ⟨#[99, 111, 100, 101]⟩, .slice none 0 0] 25)).heap.size = w.heap.size + 1 + 1 := by have := HB0.out.2; simp; omega
    rw [e] at h
    exact h
  generalize hWi : (W0.alloc _).alloc _ = Wi
  rw [hWi] at HG0
  clear hWi
  go_loopw [3, 10] (fun v i wr => ∃ (k : Nat) (u : Value), k ≤ len ∧ i = .int .i64 k ∧ u = v ∧ Hid (pgI n B ([atomV wCode (n + 4)]) p W0 (w.heap.size + 1) k u wr)) (fun _ i _ => len - (intOf i).toNat)
  case atStart => exact ⟨0, _, by omega, rfl, rfl, _, rfl, HG0.out, HM0.out⟩
  case round =>
    clear HG0 HM0
    obtain ⟨k, v, hk, rfl, rfl, HR⟩ := hrel
    obtain ⟨xs, HL, HG, HM⟩ : ∃ xs : List (Tm (n + 5)), Hid (xs.length = k + 1) ∧ Hid (GrowT (n + 5) B (w.heap.size + 1) xs v W0 wr) ∧ Hid (sameL (fun a b => same (n + 5) a (n + 5) b) xs (([atomV wCode (n + 4)]) ++ (p.take k).map (tellB n)) = true) := HR.out
    clear HR
    have HBW := hide (HA0.out wr HG.out.1)
    have hbase : w.heap.size + 1 ≤ wr.heap.size := by have := HG.out.1.size; have := HB0.out.2; omega
    by_cases hlt : k < len
    · obtain ⟨y, hy⟩ : ∃ y, p[k]? = some y := ⟨p[k]'(by rw [hpl.out]; exact hlt), List.getElem?_eq_getElem _⟩
      have HS := hide (take_map_snoc (tellB n) p k y hy)
      obtain ⟨pb, po, rfl, hpb, ⟨x0, x1⟩, hi⟩ := (PgIn.below (HBW.out.mono hB) hp.out).bh k y hy
      have hB' : B ≤ wr.heap.size := by omega
      have HY := hide hy
      have HC : Hid (∀ w1, Below wr.heap.size wr w1 → Calls Try.prog 58 #[.agg #[.string y.1, .slice y.2.1.1 y.2.2.length y.2.1.2]] w1 (Tells B (n + 5) (tellB n y) w1)) :=
        fun w1 hw => tellBehaviour_any n y B w1 ((bh_stays (n + 1)).below (hw.mono hB') hi) (h8c.out y (List.mem_of_getElem? HY.out)).1 (h8c.out y (List.mem_of_getElem? HY.out)).2 (Nat.le_trans hB' hw.size)
      clear hi hy
      generalize tellB n y = Y at *
      have hk1 : (0 : Int) ≤ (k : Int) := by omega
      have hk2 : (k : Int) < (len : Int) := by omega
      have hpw : pb < wr.heap.size := by omega
      obtain ⟨va, vc, hv⟩ := HG.out.slice
      rw [HL.out] at hv
      subst hv
      go_wp2_with fail
      refine (HC.out _ one_alloc).mono ?_
      rintro e w3 ⟨z, rfl, HZ⟩
      have HB3 : Hid (Below wr.heap.size wr w3) := one_alloc.trans (HZ.out.1.mono (by simp))
      have e3 : val (n + 5) z = .agg #[.int .i64 z.1.1, .int .i64 z.1.2.1, .string z.1.2.2, .slice z.2.1.1 z.2.2.length z.2.1.2] := rfl
      rw [e3]
      have HST := fun (o : Obj) (g c : Nat) (w4 : World) hown hgrow hat => hide (HG.out.app HL.out (by omega) hbase HB3.out z HZ.out.2.1 (HZ.out.2.2.1.mono fun b hb => by simp at hb; omega) (o := o) (g := g) (c := c) (w4 := w4) hown hgrow hat)
      have h3s : wr.heap.size ≤ w3.heap.size := HB3.out.size
      clear e3 HC x0 x1
      go_wp2_with (at_builtin; refine wpList_append_lies _ rfl _ _ 23 rfl (w.heap.size + 1) 25 it _ 4 56 Try.underlying23 HT.out.1 HT.out.2.1 HT.out.2.2.1 HT.out.2.2.2 rfl (by decide) (.slice va (k + 1) vc) (k + 1) (xs.flatMap (tm4 (n + 5))) (by simp [Act.eval]) (HG.out.own HL.out HB3.out _) ⟨w3.heap.size, 0, none⟩ 1 1 (tm4 (n + 5) z) (by simp [Act.eval]) rfl (tm4_new w3 (hdT (n + 5) z) rfl) (tm4_one _ _) (by decide) (by unfold maxLen; omega) (by omega) (by simp; omega) (w3.heap.size + 1) (by simp) ?_; intro g4 c4 w4 hown4 hgrow4 hat4 hlt4; have HS4 := HST _ g4 c4 w4 hown4 hgrow4 hat4; clear hown4 hgrow4 hat4)
      go_roundw
      case rel => exact ⟨k + 1, _, by omega, by go_num, rfl, xs ++ [z], by have := HL.out; simp; omega, HS4.out, by rw [HS.out, ← List.append_assoc]; exact sameL_snoc _ _ _ _ _ HM.out HZ.out.2.2.2⟩
      case measure => simp [intOf]; omega
    · obtain rfl : k = len := by omega
      obtain ⟨va, vc, hv⟩ := HG.out.slice
      rw [HL.out] at hv
      subst hv
      have HX1 := hide ((HG.out.1.block (w.heap.size) (by omega)).trans HN.out)
      have d0 : wr.cell? ⟨w.heap.size, 0, none⟩ = some (.int .i64 0) := box_cell HX1.out 0
      have d1 : wr.cell? ⟨w.heap.size, 1, none⟩ = some (.int .i64 0) := box_cell HX1.out 1
      have d2 : wr.cell? ⟨w.heap.size, 2, none⟩ = some (.string ⟨#[]⟩) := box_cell HX1.out 2
      have d3 : wr.cell? ⟨w.heap.size, 3, none⟩ = some (.slice none 0 0) := box_cell HX1.out 3
      have f0 := fun j => box_free HX1.out j
      have hq1 : w.heap.size < wr.heap.size := by omega
      have HF := fun (W w' : World) hb hw hsz => hide (GrowT.tells (w := w) (ys := ([atomV wCode (n + 4)]) ++ p.map (tellB n)) (w' := w') (HG.out.later (tm_stays _) hbase (w1 := W) hb) (by omega) (by have h := HM.out; rw [List.take_of_length_le (by rw [hpl.out]; omega)] at h; exact h) hw hsz)
      clear HX1 HN
      go_wp2_with (go_at_call 59; refine (ctuple_any _ _ _ _).mono ?_; rintro e w5 ⟨rfl, hw5⟩; have HB5 := hide (show Below wr.heap.size wr w5 by rw [hw5]; go_grown); clear hw5; replace d0 := (below_cells HB5.out _ _ hq1).trans d0; replace d1 := (below_cells HB5.out _ _ hq1).trans d1; replace d2 := (below_cells HB5.out _ _ hq1).trans d2; replace d3 := (below_cells HB5.out _ _ hq1).trans d3; replace f0 := fun j => (below_free HB5.out _ j hq1).trans (f0 j))
      refine bodyPost_ret (v := .agg #[.int .i64 4, .int .i64 0, .string ⟨#[]⟩, .slice va (k + 1) vc]) (by simp [results, Try.results43, go_sem, d0, d1, d2, d3]) rfl ?_
      rw [hX.out]
      obtain ⟨a', c', e', H⟩ := (HF w5 (put4 w5 (w.heap.size) 0 (.int .i64 4) (.int .i64 0) (.string ⟨#[]⟩) (.slice va (k + 1) vc)) HB5.out (put4_at (by omega) (by omega) (Below.refl _ _)) (Nat.le_of_eq (put4_size _ _ _ _).symm)).out (put4_below (HBW.out.trans (HB5.out.mono HBW.out.size)) (by omega))
      rw [HL.out] at e' H
      injection e' with e1 e2 e3
      subst e1 e3
      exact H

theorem tellProgram_any (n : Nat) (p : List (Bh (n + 1))) (a : Option Addr) (pc : Nat) (B : Nat) (w : World) (hi : PgIn (n + 1) B w a p) (h7 : p.length ≤ 7) (h8 : ∀ b ∈ p, b.2.2.length ≤ 6 ∧ ∀ c ∈ b.2.2, c.2.2.length ≤ 8) (hB : B ≤ w.heap.size) :
    Calls Try.prog 43 #[.slice a p.length pc] w (Tells B (n + 6) (tellP n p) w) :=
  tellProgram_walk n p p.length rfl h7 h8 a pc B w hi hB _ rfl
end Go.Proofs.Ytbmjfnicfpdjfaa
namespace Go.Proofs.Ytbmjfnicfpdjfaa
open Go.RowKit

def zT (N : Nat) : Tm (N + 1) := ((0, 0, .empty), (none, 0), [])
def toE (n : Nat) (p : List (Bh (n + 1))) : Int := if pgB (n + 1) p then chk (n + 6) (tellP n p) else 5
def toT (n : Nat) (p : List (Bh (n + 1))) : Tm (n + 6) := if toE n p = 0 then tellP n p else zT (n + 5)
def ToOut (B n : Nat) (p : List (Bh (n + 1))) (w : World) (e : Ending) (w' : World) : Prop :=
  ∃ y : Tm (n + 6), e = .returned (.tuple #[val (n + 6) y, .int .i64 (toE n p)]) ∧ Hid (Below w.heap.size w w' ∧ In w'.heap.size w' (n + 6) y ∧ Off (fun b => b < B ∨ w.heap.size ≤ b) (n + 6) y ∧ same (n + 6) y (n + 6) (toT n p) = true)
theorem zT_in (N B : Nat) (w : World) : In B w (N + 1) (zT N) := ⟨⟨by simp [zT, I64], by simp [zT, I64], Nat.zero_le _, by simp [zT], by simp [zT]⟩, Or.inl rfl⟩
theorem to_none {B n : Nat} {p : List (Bh (n + 1))} {w w' : World} {k : Int} (hb : Below w.heap.size w w') (hk : k = toE n p) (h0 : ¬ k = 0) : ToOut B n p w (.returned (.tuple #[.agg #[.int .i64 0, .int .i64 0, .string .empty, .slice none 0 0], .int .i64 k])) w' := by
  subst hk
  refine ⟨zT (n + 5), rfl, hb, zT_in _ _ _, Or.inl rfl, ?_⟩
  unfold toT
  rw [if_neg h0]
  exact in_self (zT_in _ 0 w)
theorem pg_bounds {n : Nat} {p : List (Bh n)} (h : pgB n p = true) : p.length ≤ 7 ∧ ∀ b ∈ p, b.2.2.length ≤ 6 ∧ ∀ c ∈ b.2.2, c.2.2.length ≤ 8 := by
  simp only [pgB, bhB, clB, Bool.and_eq_true, decide_eq_true_eq, List.all_eq_true] at h
  refine ⟨by omega, fun b hb => ⟨by have := (h.2 b hb).1.2; omega, fun c hc => by have := ((h.2 b hb).2 c hc).1; omega⟩⟩
theorem box4_new (w : World) (v0 v1 v2 v3 : Value) (t : TypeId) {w' : World} (hb : Below (w.alloc (.cells #[v0, v1, v2, v3] t)).heap.size (w.alloc (.cells #[v0, v1, v2, v3] t)) w') : w'.heap[w.heap.size]? = some (.cells #[v0, v1, v2, v3] t) :=
  (hb.block _ (by simp)).trans (heap_alloc_new w _)

set_option maxHeartbeats 2000000 in
set_option maxRecDepth 100000 in
theorem to_any (n : Nat) (p : List (Bh (n + 1))) (a : Option Addr) (pc : Nat) (hl : p.length ≤ pc) (hpc : pc ≤ maxLen) (B : Nat) (w : World) (hp : PgIn (n + 1) B w a p) (hB : B ≤ w.heap.size) (hN : pgB (n + 1) p = true → (nodes (n + 6) (tellP n p)).length ≤ 2097152) :
    Calls Try.prog 24 #[.slice a p.length pc] w (ToOut B n p w) := by
  have HIP : Hid (∀ w1, Below w.heap.size w w1 → Calls Try.prog 42 #[.slice a p.length pc] w1 fun e w' => e = .returned (.bool (pgB (n + 1) p)) ∧ Below w1.heap.size w1 w') :=
    fun w1 h => isProgram_any n p p.length rfl a pc B w1 (hp.below (h.mono hB)) (by unfold maxLen at hpc; omega) (Nat.le_trans hB h.size)
  have HTP : Hid (pgB (n + 1) p = true → ∀ w1, Below w.heap.size w w1 → Calls Try.prog 43 #[.slice a p.length pc] w1 (Tells B (n + 6) (tellP n p) w1)) :=
    fun h w1 h1 => tellProgram_any n p a pc B w1 (hp.below (h1.mono hB)) (pg_bounds h).1 (pg_bounds h).2 (Nat.le_trans hB h1.size)
  have HE : Hid (toE n p = if pgB (n + 1) p then chk (n + 6) (tellP n p) else 5) := rfl
  have HN := hide hN
  have HTT : Hid (toT n p = if toE n p = 0 then tellP n p else zT (n + 5)) := rfl
  clear hp hN hl hpc
  generalize p.length = len at *
  generalize pgB (n + 1) p = r at *
  go_enter Try.func24, Try.ntmps24
  go_wp2_with fail
  refine (HIP.out _ one_alloc).mono ?_
  rintro e w1 ⟨rfl, hb1⟩
  have HX1 := hide (box4_new w _ _ _ _ _ hb1)
  have HB1 : Hid (Below w.heap.size w w1) := one_alloc.trans (hb1.mono (by simp))
  have hq1 : w.heap.size < w1.heap.size := (Array.getElem?_eq_some_iff.1 HX1.out).1
  clear hb1 HIP
  cases r
  · have d0 : w1.cell? ⟨w.heap.size, 0, none⟩ = some (.int .i64 0) := box_cell HX1.out 0
    have d1 : w1.cell? ⟨w.heap.size, 1, none⟩ = some (.int .i64 0) := box_cell HX1.out 1
    have d2 : w1.cell? ⟨w.heap.size, 2, none⟩ = some (.string ⟨#[]⟩) := box_cell HX1.out 2
    have d3 : w1.cell? ⟨w.heap.size, 3, none⟩ = some (.slice none 0 0) := box_cell HX1.out 3
    have f0 := fun j => box_free HX1.out j
    clear HTP HX1
    go_wp2_with fail
    exact bodyPost_ret (v := .tuple #[.agg #[.int .i64 0, .int .i64 0, .string .empty, .slice none 0 0], .int .i64 5]) (by simp [results, Try.results24, go_sem, d0, d1, d2, d3]; rfl) rfl (to_none (put4_below HB1.out (Nat.le_refl _)) (by rw [HE.out]; rfl) (by omega))
  · have HTP1 := hide (HTP.out rfl w1 HB1.out)
    go_wp2_with fail
    refine HTP1.out.mono ?_
    rintro e w2 ⟨y, rfl, HY⟩
    have HB2 : Hid (Below w.heap.size w w2) := HB1.out.trans (HY.out.1.mono HB1.out.size)
    have e3 : val (n + 6) y = .agg #[.int .i64 y.1.1, .int .i64 y.1.2.1, .string y.1.2.2, .slice y.2.1.1 y.2.2.length y.2.1.2] := rfl
    have HC : Hid (∀ w3, Below w2.heap.size w2 w3 → Calls Try.prog 36 #[.agg #[.int .i64 y.1.1, .int .i64 y.1.2.1, .string y.1.2.2, .slice y.2.1.1 y.2.2.length y.2.1.2]] w3 fun e w' => e = .returned (.int .i64 (toE n p)) ∧ Below w3.heap.size w3 w') := fun w3 h3 => by
      have := tcheck_any (n + 6) y w2.heap.size w3 (HY.out.2.1.below h3) h3.size (by rw [same_nlen _ _ _ _ HY.out.2.2.2]; exact HN.out (by simp))
      rw [same_chk HY.out.2.2.2] at this
      rw [HE.out]
      exact this
    have HCP : Hid (toE n p = 0 → ∀ w3, Below w2.heap.size w2 w3 → Calls Try.prog 44 #[.agg #[.int .i64 y.1.1, .int .i64 y.1.2.1, .string y.1.2.2, .slice y.2.1.1 y.2.2.length y.2.1.2]] w3 fun e w' => ∃ z : Tm (n + 6), e = .returned (val (n + 6) z) ∧ Hid (Below w3.heap.size w3 w' ∧ In w'.heap.size w' (n + 6) z ∧ Off (fun q => w3.heap.size ≤ q) (n + 6) z ∧ same (n + 6) z (n + 6) y = true)) := fun h0 w3 h3 =>
      copy_any (n + 6) y w2.heap.size w3 (HY.out.2.1.below h3) h3.size (right_formed.2 (by have h1 : chk (n + 6) (tellP n p) = 0 := (by simpa [HE.out] using h0); rw [same_formed _ _ _ _ HY.out.2.2.2]; exact (chk_iff.1 h1).1))
    have HS := hide HY.out.2.2.2
    have HX2 := hide ((HY.out.1.block _ hq1).trans HX1.out)
    have hq2 : w.heap.size < w2.heap.size := (Array.getElem?_eq_some_iff.1 HX2.out).1
    rw [e3]
    clear HTP HTP1 HX1 HB1 HY e3 HN
    generalize hE : toE n p = E at *
    have HEE := hide hE
    clear hE HE
    go_wp2_with fail
    refine (HC.out _ one_alloc).mono ?_
    rintro e w3 ⟨rfl, hb3⟩
    have HB32 : Hid (Below w2.heap.size w2 w3) := one_alloc.trans (hb3.mono (by simp))
    have HB3 : Hid (Below w.heap.size w w3) := HB2.out.trans (HB32.out.mono HB2.out.size)
    have HXX := hide (box4_new w2 _ _ _ _ _ hb3)
    have HX3 := hide ((HB32.out.block _ hq2).trans HX2.out)
    have hq3 : w.heap.size < w3.heap.size := (Array.getElem?_eq_some_iff.1 HX3.out).1
    have c0 : w3.cell? ⟨w2.heap.size, 0, none⟩ = some (.int .i64 y.1.1) := box_cell HXX.out 0
    have c1 : w3.cell? ⟨w2.heap.size, 1, none⟩ = some (.int .i64 y.1.2.1) := box_cell HXX.out 1
    have c2 : w3.cell? ⟨w2.heap.size, 2, none⟩ = some (.string y.1.2.2) := box_cell HXX.out 2
    have c3 : w3.cell? ⟨w2.heap.size, 3, none⟩ = some (.slice y.2.1.1 y.2.2.length y.2.1.2) := box_cell HXX.out 3
    clear hb3 HC HX2
    by_cases hE0 : E = 0
    · subst hE0
      have HCP3 := hide (HCP.out rfl w3 HB32.out)
      clear HCP
      go_wp2_with fail
      refine HCP3.out.mono ?_
      rintro e w4 ⟨z, rfl, HZ⟩
      have HX4 := hide ((HZ.out.1.block _ hq3).trans HX3.out)
      have HB4 : Hid (Below w.heap.size w w4) := HB3.out.trans (HZ.out.1.mono HB3.out.size)
      have d0 : w4.cell? ⟨w.heap.size, 0, none⟩ = some (.int .i64 0) := box_cell HX4.out 0
      have d1 : w4.cell? ⟨w.heap.size, 1, none⟩ = some (.int .i64 0) := box_cell HX4.out 1
      have d2 : w4.cell? ⟨w.heap.size, 2, none⟩ = some (.string ⟨#[]⟩) := box_cell HX4.out 2
      have d3 : w4.cell? ⟨w.heap.size, 3, none⟩ = some (.slice none 0 0) := box_cell HX4.out 3
      have f0 := fun j => box_free HX4.out j
      have e4 : val (n + 6) z = .agg #[.int .i64 z.1.1, .int .i64 z.1.2.1, .string z.1.2.2, .slice z.2.1.1 z.2.2.length z.2.1.2] := rfl
      rw [e4]
      have HF : Hid (ToOut B n p w (.returned (.tuple #[.agg #[.int .i64 z.1.1, .int .i64 z.1.2.1, .string z.1.2.2, .slice z.2.1.1 z.2.2.length z.2.1.2], .int .i64 0])) (put4 w4 w.heap.size 0 (.int .i64 z.1.1) (.int .i64 z.1.2.1) (.string z.1.2.2) (.slice z.2.1.1 z.2.2.length z.2.1.2))) := by
        refine ⟨z, by rw [HEE.out]; rfl, put4_below HB4.out (Nat.le_refl _), ?_, HZ.out.2.2.1.mono fun b hb => Or.inr (by omega), ?_⟩
        · rw [put4_size]
          exact In.off (fun b hb => put4_block (by omega) _ _ _ _) HZ.out.2.2.1 HZ.out.2.1
        · rw [show toT n p = tellP n p from by simpa using HTT.out]
          exact same_trans _ _ _ _ _ _ HZ.out.2.2.2 HS.out
      clear HX4 HX3 HZ HB4 c0 c1 c2 c3 e4 HTT
      go_wp2_with fail
      exact bodyPost_ret (v := .tuple #[.agg #[.int .i64 z.1.1, .int .i64 z.1.2.1, .string z.1.2.2, .slice z.2.1.1 z.2.2.length z.2.1.2], .int .i64 0]) (by simp [results, Try.results24, go_sem, d0, d1, d2, d3]) rfl HF.out
    · have d0 : w3.cell? ⟨w.heap.size, 0, none⟩ = some (.int .i64 0) := box_cell HX3.out 0
      have d1 : w3.cell? ⟨w.heap.size, 1, none⟩ = some (.int .i64 0) := box_cell HX3.out 1
      have d2 : w3.cell? ⟨w.heap.size, 2, none⟩ = some (.string ⟨#[]⟩) := box_cell HX3.out 2
      have d3 : w3.cell? ⟨w.heap.size, 3, none⟩ = some (.slice none 0 0) := box_cell HX3.out 3
      have f0 := fun j => box_free HX3.out j
      have hE1 : (E != 0) = true := by simpa using hE0
      clear HX3 HCP c0 c1 c2 c3
      go_wp2_with fail
      exact bodyPost_ret (v := .tuple #[.agg #[.int .i64 0, .int .i64 0, .string .empty, .slice none 0 0], .int .i64 E]) (by simp [results, Try.results24, go_sem, d0, d1, d2, d3]; rfl) rfl (to_none (put4_below HB3.out (Nat.le_refl _)) HEE.out.symm hE0)
end Go.Proofs.Ytbmjfnicfpdjfaa
namespace Go.Proofs.Ytbmjfnicfpdjfaa
open Go.RowKit

theorem rtuple_any (a : Option Addr) (l c : Nat) (w : World) :
    Calls Try.prog 6 #[.slice a l c] w fun e w' => e = .returned (.agg #[.int .i64 4, .int .i64 0, .string ⟨#[]⟩, .slice a l c]) ∧ w' = w.alloc (.cells #[.int .i64 4, .int .i64 0, .string ⟨#[]⟩, .slice a l c] 25) := by
  go_enter Try.func6, Try.ntmps6
  go_wp2_with fail
  exact bodyPost_ret (v := .agg #[.int .i64 4, .int .i64 0, .string ⟨#[]⟩, .slice a l c]) (by simp [results, Try.results6, go_sem]) rfl ⟨rfl, rfl⟩
theorem nothing_is (n : Nat) (x : Tm (n + 1)) : same (n + 1) x 1 (zT 0) = nothingT (n + 1) x := by
  have h1 : (x.1.2.2.toList == ByteArray.empty.toList) = x.1.2.2.toList.isEmpty := by
    have : ByteArray.empty.toList = [] := by rw [ByteArray.toList_eq]; rfl
    rw [this]
    cases x.1.2.2.toList <;> rfl
  have h2 : sameL (fun (_ : Tm n) (_ : Tm 0) => false) x.2.2 [] = ((x.2.2.length : Int) == 0) := by
    cases x.2.2 with
    | nil => rfl
    | cons a l => simp [sameL]; omega
  simp only [same, zT, nothingT, hdT, hdOf, h1, h2]
end Go.Proofs.Ytbmjfnicfpdjfaa
namespace Go.Proofs.Ytbmjfnicfpdjfaa
open Go.RowKit

def sameP (n : Nat) (p : List (Bh (n + 1))) (m : Nat) (q : List (Bh (m + 1))) : Bool := toE n p == toE m q && (same (n + 6) (toT n p) (m + 6) (toT m q) && (p.length : Int) == (q.length : Int))
theorem same_congr {n m n' m' : Nat} {x : Tm n} {y : Tm m} {x' : Tm n'} {y' : Tm m'} (h : same n x n' x' = true) (k : same m y m' y' = true) : same n x m y = same n' x' m' y' := by
  cases h1 : same n' x' m' y' with
  | true => exact same_trans _ _ _ _ _ _ h (same_trans _ _ _ _ _ _ h1 (same_symm _ _ _ _ k))
  | false =>
    cases h2 : same n x m y with
    | false => rfl
    | true =>
      have := same_trans _ _ _ _ _ _ (same_symm _ _ _ _ h) (same_trans _ _ _ _ _ _ h2 k)
      rw [h1] at this
      cases this
end Go.Proofs.Ytbmjfnicfpdjfaa
namespace Go.Proofs.Ytbmjfnicfpdjfaa

def wN : ByteArray := ⟨#[110]⟩
def wAddW : ByteArray := ⟨#[97, 100, 100]⟩
def wRelay : ByteArray := ⟨#[114, 101, 108, 97, 121]⟩
def smV (k : Int) (N : Nat) : Tm (N + 1) := leafV 5 k N
def smMsg : Tm 3 := tupV 2 [atomV wN 1, smV 1 1]
def smWhat : Tm 3 := tupV 2 [atomV wN 1, tupV 1 [atomV wAddW 0, smV 1 0, leafV 1 1 0]]
/-- The small program, wherever its parts lie. -/
def smallP : List (Bh 3) := [(wRelay, (none, 0), [((smV 0 2, smMsg, smV 0 2), (none, 0), [(1, (smV 0 2, smWhat), .empty, 0)])])]
theorem small_form : pgB 3 smallP = true := by
  have h1 : nameB wRelay = true := by simp [nameB, wRelay, inB, lowsB, lowB, show (⟨#[114, 101, 108, 97, 121]⟩ : ByteArray).size = 5 from rfl]
  have h2 : (ByteArray.empty).toList = [] := by simp [ByteArray.toList_eq]
  simp [pgB, smallP, bhB, clB, actB, noSp, h1, h2]
theorem small_chk : chk 8 (tellP 2 smallP) = 0 := by
  have n1 : nodes 8 (tellP 2 smallP) = [((4, 0, .empty), (none, 2, 0)), ((2, 0, wCode), (none, 0, 0)), ((4, 0, .empty), (none, 3, 0)), ((2, 0, wBeh), (none, 0, 0)), ((2, 0, wRelay), (none, 0, 0)), ((4, 0, .empty), (none, 5, 0)), ((2, 0, wOn), (none, 0, 0)), ((5, 0, .empty), (none, 0, 0)), ((4, 0, .empty), (none, 2, 0)), ((2, 0, wN), (none, 0, 0)), ((5, 1, .empty), (none, 0, 0)), ((4, 0, .empty), (none, 1, 0)), ((4, 0, .empty), (none, 3, 0)), ((2, 0, wSend), (none, 0, 0)), ((5, 0, .empty), (none, 0, 0)), ((4, 0, .empty), (none, 2, 0)), ((2, 0, wN), (none, 0, 0)), ((4, 0, .empty), (none, 3, 0)), ((2, 0, wAddW), (none, 0, 0)), ((5, 1, .empty), (none, 0, 0)), ((1, 1, .empty), (none, 0, 0)), ((5, 0, .empty), (none, 0, 0))] := rfl
  have d1 : deeps 8 (tellP 2 smallP) 0 = [0, 1, 1, 2, 2, 2, 3, 3, 3, 4, 4, 3, 4, 5, 5, 5, 6, 6, 7, 7, 7, 3] := rfl
  have s1 : (sz 8 (tellP 2 smallP) : Int) ≤ 200 := by decide
  have h2 : (ByteArray.empty).toList = [] := by simp [ByteArray.toList_eq]
  have m1 : nameB wCode = true := by simp [nameB, wCode, inB, lowsB, lowB, show (⟨#[99, 111, 100, 101]⟩ : ByteArray).size = 4 from rfl]
  have m2 : nameB wBeh = true := by simp [nameB, wBeh, inB, lowsB, lowB, show (⟨#[98, 101, 104]⟩ : ByteArray).size = 3 from rfl]
  have m3 : nameB wRelay = true := by simp [nameB, wRelay, inB, lowsB, lowB, show (⟨#[114, 101, 108, 97, 121]⟩ : ByteArray).size = 5 from rfl]
  have m4 : nameB wOn = true := by simp [nameB, wOn, inB, lowsB, lowB, show (⟨#[111, 110]⟩ : ByteArray).size = 2 from rfl]
  have m5 : nameB wN = true := by simp [nameB, wN, inB, lowsB, lowB, show (⟨#[110]⟩ : ByteArray).size = 1 from rfl]
  have m6 : nameB wSend = true := by simp [nameB, wSend, inB, lowsB, lowB, show (⟨#[115, 101, 110, 100]⟩ : ByteArray).size = 4 from rfl]
  have m7 : nameB wAddW = true := by simp [nameB, wAddW, inB, lowsB, lowB, show (⟨#[97, 100, 100]⟩ : ByteArray).size = 3 from rfl]
  unfold chk
  generalize sz 8 (tellP 2 smallP) = S at *
  rw [n1, d1]
  have hS : ¬ 200 < S := by omega
  simp [chkL, good, deeper, inB, h2, m1, m2, m3, m4, m5, m6, m7, hS]
theorem small_toE : toE 2 smallP = 0 := by
  unfold toE
  rw [small_form]
  exact small_chk
end Go.Proofs.Ytbmjfnicfpdjfaa
namespace Go.Proofs.Ytbmjfnicfpdjfaa
open Go.RowKit

def Few (n : Nat) (M : Nat) (p : List (Bh n)) : Prop := p.length ≤ M ∧ ∀ b ∈ p, b.2.2.length ≤ M ∧ ∀ c ∈ b.2.2, c.2.2.length ≤ M
/-- A row of terms behind k rounds: h ahead of what tells the first k things, as long as all is in form. -/
def RowI {α : Type} (N B : Nat) (f : α → Tm N) (h : List (Tm N)) (p : List α) (w0 : World) (base k : Nat) (ok : Bool) (v : Value) (wr : World) : Prop :=
  ∃ xs, xs.length ≤ k + h.length ∧ GrowT N B base xs v w0 wr ∧ (ok = true → sameL (fun a b => same N a N b) xs (h ++ (p.take k).map f) = true)
theorem RowI.slice {α : Type} {N B : Nat} {f : α → Tm N} {h : List (Tm N)} {p : List α} {w0 : World} {base k : Nat} {ok : Bool} {v : Value} {wr : World} (H : RowI N B f h p w0 base k ok v wr) : ∃ a L c, v = .slice a L c ∧ L ≤ k + h.length ∧ ∃ xs, xs.length = L ∧ GrowT N B base xs v w0 wr ∧ (ok = true → sameL (fun a b => same N a N b) xs (h ++ (p.take k).map f) = true) := by
  obtain ⟨xs, h1, h2, h3⟩ := H
  obtain ⟨a, c, e⟩ := h2.slice
  exact ⟨a, xs.length, c, e, h1, xs, rfl, h2, h3⟩
theorem GrowT.ownAt {N B base k : Nat} {xs : List (Tm N)} {v : Value} {w0 wr W : World} (h : GrowT N B base xs v w0 wr) (hk : xs.length = k) (h3 : Below wr.heap.size wr W) : W.ownsRow base 25 4 v k (xs.flatMap (tm4 N)) := by
  subst hk
  exact own_below h.2.1 h3
theorem GrowT.appAt {N B base k : Nat} {xs : List (Tm N)} {v : Value} {w0 wr W w4 : World} {g c : Nat} (h : GrowT N B base xs v w0 wr) (hk : xs.length = k) (hB : B ≤ base) (hb : base ≤ wr.heap.size) (h3 : Below wr.heap.size wr W) (X : Tm N) (hX : In W.heap.size W N X) (hO : Off (fun b => b < B ∨ wr.heap.size ≤ b) N X)
    (hown : w4.ownsRow base 25 4 (.slice (some ⟨g, 0, none⟩) (k + 1) c) (k + 1) (xs.flatMap (tm4 N) ++ tm4 N X)) (hg : W.grownBy w4 v.ownBlock) (hat : v.ownBlock = some g ∨ g = W.heap.size) :
    GrowT N B base (xs ++ [X]) (.slice (some ⟨g, 0, none⟩) (k + 1) c) w0 w4 := by
  subst hk
  exact Grow.step (tm_stays N) h hB hb h3 X hX hO hown hg hat
theorem RowI.mk {α : Type} {N B : Nat} {f : α → Tm N} {h : List (Tm N)} {p : List α} {w0 : World} {base k : Nat} {ok ok' : Bool} {v : Value} {wr : World} {xs : List (Tm N)} {X : Tm N} {y : α} (hy : p[k]? = some y) (hl : xs.length ≤ k + h.length) (hs : ok = true → sameL (fun a b => same N a N b) xs (h ++ (p.take k).map f) = true) (hg : GrowT N B base (xs ++ [X]) v w0 wr) (hok : ok' = true → ok = true ∧ same N X N (f y) = true) : RowI N B f h p w0 base (k + 1) ok' v wr := by
  refine ⟨xs ++ [X], by simp; omega, hg, fun h1 => ?_⟩
  rw [take_map_snoc f p k y hy, ← List.append_assoc]
  exact sameL_snoc _ _ _ _ _ (hs (hok h1).1) (hok h1).2
theorem RowI.skip {α : Type} {N B : Nat} {f : α → Tm N} {h : List (Tm N)} {p : List α} {w0 : World} {base k : Nat} {v : Value} {wr : World} {xs : List (Tm N)} (hl : xs.length ≤ k + h.length) (hg : GrowT N B base xs v w0 wr) : RowI N B f h p w0 base (k + 1) false v wr :=
  ⟨xs, by omega, hg, fun h1 => by cases h1⟩
/-- A block that is not the row's own stays behind an append. -/
theorem grown_at {W w4 : World} {v : Value} (hg : W.grownBy w4 v.ownBlock) {q : Nat} (hq : q < W.heap.size) (hne : v.ownBlock ≠ some q) : w4.heap[q]? = W.heap[q]? := hg.block q hq (fun e => hne e.symm)
theorem GrowT.apart {N B base : Nat} {xs : List (Tm N)} {v : Value} {w0 wr : World} (h : GrowT N B base xs v w0 wr) {q : Nat} (hq : wr.heap.size ≤ q ∨ q < base) : v.ownBlock ≠ some q := fun e => by
  have := h.2.1.lt q e
  omega
theorem rto_row2 {n B : Nat} {ys : ByteArray} {cls : List (Cl (n + 1))} {ok : Bool} {wc : World} (hs : ys.size ≤ maxLen) :
    RowI (n + 4) B (tellC n) [atomV wBeh (n + 3), atomV ys (n + 3)] cls wc wc.heap.size 0 ok (.slice (some ⟨wc.heap.size + 1 + 1, 0, none⟩) 2 2) (((wc.alloc (.cells #[.int .i64 2, .int .i64 0, .string ⟨#[98, 101, 104]⟩, .slice none 0 0] 25)).alloc (.cells #[.int .i64 2, .int .i64 0, .string ys, .slice none 0 0] 25)).alloc (.cells #[.int .i64 2, .int .i64 0, .string ⟨#[98, 101, 104]⟩, .slice none 0 0, .int .i64 2, .int .i64 0, .string ys, .slice none 0 0] 25)).drew := by
  have h := Grow.lit (T := 25) (k := 4) (B := B) (base := wc.heap.size) (tm_stays (n + 4)) [atomV wBeh (n + 3), atomV ys (n + 3)] (w0 := wc) (w1 := (wc.alloc (.cells #[.int .i64 2, .int .i64 0, .string ⟨#[98, 101, 104]⟩, .slice none 0 0] 25)).alloc (.cells #[.int .i64 2, .int .i64 0, .string ys, .slice none 0 0] 25)) (cs := #[.int .i64 2, .int .i64 0, .string ⟨#[98, 101, 104]⟩, .slice none 0 0, .int .i64 2, .int .i64 0, .string ys, .slice none 0 0]) rfl (tm4_len _) (by show 2 ≤ maxLen; unfold maxLen; omega) (by simp; omega) (((Below.refl _ _).alloc (Nat.le_refl _) _).alloc (by simp) _) (fun y hy => by
    simp only [List.mem_cons, List.not_mem_nil, or_false] at hy
    rcases hy with rfl | rfl
    · exact ⟨atomV_in _ _ (word_le _ (by decide)) _ _, atomV_off _ _ _⟩
    · exact ⟨atomV_in _ _ hs _ _, atomV_off _ _ _⟩)
  have e : ((wc.alloc (.cells #[.int .i64 2, .int .i64 0, .string ⟨#[98, 101, 104]⟩, .slice none 0 0] 25)).alloc (.cells #[.int .i64 2, .int .i64 0, .string ys, .slice none 0 0] 25)).heap.size = wc.heap.size + 1 + 1 := by simp
  rw [e] at h
  exact ⟨_, by simp, h.later (tm_stays _) (by simp; omega) (Below.refl _ _).drew, fun _ => by simp [sameL, atomV_same]⟩
/-- A literal of some terms, as a tuple. -/
theorem lit_tup {B N : Nat} (xs : List (Tm N)) {w w1 W : World} {cs : Array Value} {g L : Nat} (h1 : Below w.heap.size w w1) (hg : g = w1.heap.size) (hL : L = xs.length) (h2 : Below (w1.alloc (.cells cs 25)).heap.size (w1.alloc (.cells cs 25)) W) (hcs : cs.toList = xs.flatMap (tm4 N)) (hm : xs.length ≤ 8) (hBw : B ≤ w.heap.size) (hX : ∀ y ∈ xs, In B w N y) :
    In W.heap.size W (N + 1) ((4, 0, .empty), (some ⟨g, 0, none⟩, L), xs) ∧ Off (fun b => b < B ∨ w.heap.size ≤ b) (N + 1) ((4, 0, .empty), (some ⟨g, 0, none⟩, L), xs) ∧ same (N + 1) ((4, 0, .empty), (some ⟨g, 0, none⟩, L), xs) (N + 1) (tupV N xs) = true := by
  subst hg hL
  have h := Grow.lit (T := 25) (k := 4) (B := B) (base := w1.heap.size) (tm_stays N) xs (w0 := w1) hcs (tm4_len N) (by unfold maxLen; omega) (Nat.le_refl _) (Below.refl _ _) (fun y hy => ⟨((hX y hy).below (h1.mono hBw)).mono (Nat.le_trans hBw h1.size), (in_offLow (hX y hy)).mono fun b hb => Or.inl hb⟩)
  have k := GrowT.tup (Grow.later (tm_stays N) h (by simp) h2)
  exact ⟨k.1, k.2.mono fun b hb => by have := h1.size; omega, same_mk rfl (sameL_self _ _ fun y hy => in_self (hX y hy))⟩
theorem new_last (Z : World) (o : Obj) {g : Nat} (hg : g = Z.heap.size) : (Z.alloc o).drew.heap[g]? = some o := by
  subst hg
  exact heap_alloc_new Z o
theorem new_last0 (Z : World) (o : Obj) {g : Nat} (hg : g = Z.heap.size) : (Z.alloc o).heap[g]? = some o := by
  subst hg
  exact heap_alloc_new Z o
/-- An act's box. -/
theorem act_box {w : World} {q : Nat} {c0 c1 c2 c3 c4 c5 c6 c7 c8 c9 c10 : Value} {t : TypeId} (h : w.heap[q]? = some (.cells #[c0, c1, c2, c3, c4, c5, c6, c7, c8, c9, c10] t)) :
    w.cell? ⟨q, 1, none⟩ = some c1 ∧ w.cell? ⟨q, 2, none⟩ = some c2 ∧ w.cell? ⟨q, 3, none⟩ = some c3 ∧ w.cell? ⟨q, 4, none⟩ = some c4 ∧ w.cell? ⟨q, 5, none⟩ = some c5 ∧ w.cell? ⟨q, 6, none⟩ = some c6 ∧ w.cell? ⟨q, 7, none⟩ = some c7 ∧ w.cell? ⟨q, 8, none⟩ = some c8 ∧ w.cell? ⟨q, 9, none⟩ = some c9 ∧ w.cell? ⟨q, 10, none⟩ = some c10 :=
  ⟨box_cell h 1, box_cell h 2, box_cell h 3, box_cell h 4, box_cell h 5, box_cell h 6, box_cell h 7, box_cell h 8, box_cell h 9, box_cell h 10⟩
theorem spawn_B {n : Nat} (t x : Tm n) (s : ByteArray) (v : Int) : actB n (2, (t, x), (s, v)) = (nothingT n t && nameB s && inB v 0 3) := by
  have h : decide (v < 4) = decide (v ≤ 3) := by
    by_cases h : v < 4
    · rw [decide_eq_true h, decide_eq_true (by omega)]
    · rw [decide_eq_false h, decide_eq_false (by omega)]
  show (nothingT n t && nameB s && decide (0 ≤ v) && decide (v < 4)) = (nothingT n t && nameB s && (decide (0 ≤ v) && decide (v ≤ 3)))
  rw [h, Bool.and_assoc]
theorem clause_in {n B base : Nat} {s m x : Tm (n + 1)} {w wr w1 : World} {A : Tm (n + 3)} (hB : B ≤ w.heap.size) (hs : In B w (n + 1) s) (hm : In B w (n + 1) m) (hx : In B w (n + 1) x) (hbw : Below w.heap.size w wr) (hA : In wr.heap.size wr (n + 3) A ∧ Off (fun b => b < B ∨ base ≤ b) (n + 3) A) (h1 : Below wr.heap.size wr w1) :
    ∀ y ∈ [atomV wOn (n + 2), lift (n + 3) (n + 1) s, lift (n + 3) (n + 1) m, A, lift (n + 3) (n + 1) x], In w1.heap.size w1 (n + 3) y ∧ Off (fun b => b < B ∨ base ≤ b) (n + 3) y := by
  have L : ∀ t : Tm (n + 1), In B w (n + 1) t → In w1.heap.size w1 (n + 3) (lift (n + 3) (n + 1) t) ∧ Off (fun b => b < B ∨ base ≤ b) (n + 3) (lift (n + 3) (n + 1) t) := fun t ht => by
    have h2 := lift_in (n + 3) (n + 1) (by omega) t B w ht
    have hb := hbw.trans (h1.mono hbw.size)
    exact ⟨(h2.below (hb.mono hB)).mono (Nat.le_trans hB hb.size), (in_offLow h2).mono fun b hb => Or.inl hb⟩
  intro y hy
  simp only [List.mem_cons, List.not_mem_nil, or_false] at hy
  rcases hy with rfl | rfl | rfl | rfl | rfl
  · exact ⟨atomV_in _ _ (word_le _ (by decide)) _ _, atomV_off _ _ _⟩
  · exact L s hs
  · exact L m hm
  · exact ⟨(hA.1.below h1).mono h1.size, hA.2⟩
  · exact L x hx
theorem clause_same {n B : Nat} {s m x : Tm (n + 1)} {w : World} {A : Tm (n + 3)} {ys : List (Tm (n + 2))} (hs : In B w (n + 1) s) (hm : In B w (n + 1) m) (hx : In B w (n + 1) x) (hAs : same (n + 3) A (n + 3) (tupV (n + 2) ys) = true) :
    sameL (fun a b => same (n + 3) a (n + 3) b) [atomV wOn (n + 2), lift (n + 3) (n + 1) s, lift (n + 3) (n + 1) m, A, lift (n + 3) (n + 1) x] [atomV wOn (n + 2), lift (n + 3) (n + 1) s, lift (n + 3) (n + 1) m, tupV (n + 2) ys, lift (n + 3) (n + 1) x] = true := by
  have S : ∀ t : Tm (n + 1), In B w (n + 1) t → same (n + 3) (lift (n + 3) (n + 1) t) (n + 3) (lift (n + 3) (n + 1) t) = true := fun t ht => in_self (lift_in (n + 3) (n + 1) (by omega) t B w ht)
  simp only [sameL, S s hs, S m hm, S x hx, hAs, atomV_same, Bool.and_self]
theorem lit_tup2 {B N base : Nat} (xs : List (Tm N)) {w1 W : World} {cs : Array Value} {g L : Nat} (hb1 : base ≤ w1.heap.size) (hg : g = w1.heap.size) (hL : L = xs.length) (h2 : Below (w1.alloc (.cells cs 25)).heap.size (w1.alloc (.cells cs 25)) W) (hcs : cs.toList = xs.flatMap (tm4 N)) (hm : xs.length ≤ 8) (hX : ∀ y ∈ xs, In w1.heap.size w1 N y ∧ Off (fun b => b < B ∨ base ≤ b) N y) :
    In W.heap.size W (N + 1) ((4, 0, .empty), (some ⟨g, 0, none⟩, L), xs) ∧ Off (fun b => b < B ∨ base ≤ b) (N + 1) ((4, 0, .empty), (some ⟨g, 0, none⟩, L), xs) := by
  subst hg hL
  have h := Grow.lit (T := 25) (k := 4) (B := B) (base := base) (tm_stays N) xs (w0 := w1) hcs (tm4_len N) (by unfold maxLen; omega) hb1 (Below.refl _ _) hX
  exact GrowT.tup (Grow.later (tm_stays N) h (by simp; omega) h2)
/-- A clause's box: its terms. -/
theorem clause_box {w : World} {q : Nat} {c0 c1 c2 c3 c4 c5 c6 c7 c8 c9 c10 c11 c12 : Value} {t : TypeId} (h : w.heap[q]? = some (.cells #[c0, c1, c2, c3, c4, c5, c6, c7, c8, c9, c10, c11, c12] t)) :
    (w.cell? ⟨q, 0, none⟩ = some c0 ∧ w.cell? ⟨q, 1, none⟩ = some c1 ∧ w.cell? ⟨q, 2, none⟩ = some c2 ∧ w.cell? ⟨q, 3, none⟩ = some c3) ∧ (w.cell? ⟨q, 4, none⟩ = some c4 ∧ w.cell? ⟨q, 5, none⟩ = some c5 ∧ w.cell? ⟨q, 6, none⟩ = some c6 ∧ w.cell? ⟨q, 7, none⟩ = some c7) ∧ (w.cell? ⟨q, 9, none⟩ = some c9 ∧ w.cell? ⟨q, 10, none⟩ = some c10 ∧ w.cell? ⟨q, 11, none⟩ = some c11 ∧ w.cell? ⟨q, 12, none⟩ = some c12) :=
  ⟨⟨box_cell h 0, box_cell h 1, box_cell h 2, box_cell h 3⟩, ⟨box_cell h 4, box_cell h 5, box_cell h 6, box_cell h 7⟩, box_cell h 9, box_cell h 10, box_cell h 11, box_cell h 12⟩
theorem ok_left {a b c d : Bool} (h : d = (a && b && c)) (k : d = true) : a = true := by
  subst h
  simp only [Bool.and_eq_true] at k
  exact k.1.1
theorem ok_left2 {a b c e d : Bool} (h : d = (a && b && c && e)) (k : d = true) : a = true := by
  subst h
  simp only [Bool.and_eq_true] at k
  exact k.1.1.1
theorem cs_is {w : World} {q L : Nat} {N : Nat} {xs : List (Tm N)} {va : Option Addr} {vc : Nat} {t : TypeId} (hL : xs.length = L) (h : w.heap[q]? = some (.cells #[.int .i64 4, .int .i64 0, .string ⟨#[]⟩, .slice va L vc] t)) : w.heap[q]? = some (.cells #[.int .i64 4, .int .i64 0, .string ⟨#[]⟩, .slice va xs.length vc] t) := by rw [hL]; exact h
theorem form_len {n len : Nat} {p : List (Bh n)} (h : pgB n p = true) (hl : p.length = len) : inB (len : Int) 1 7 = true := by
  rw [← hl]
  simp only [pgB, Bool.and_eq_true] at h
  simp only [inB, h.1.1, h.1.2, Bool.and_self]
theorem form_beh {n : Nat} {p : List (Bh n)} (h : pgB n p = true) {b : Bh n} (hb : b ∈ p) : nameB b.1 = true ∧ inB (b.2.2.length : Int) 1 6 = true ∧ b.2.2.length ≤ 6 ∧ ∀ c ∈ b.2.2, c.2.2.length ≤ 8 ∧ ∀ a ∈ c.2.2, actB n a = true := by
  simp only [pgB, bhB, clB, Bool.and_eq_true, decide_eq_true_eq, List.all_eq_true] at h
  obtain ⟨⟨⟨h1, h2⟩, h3⟩, h4⟩ := h.2 b hb
  refine ⟨h1, ?_, by omega, fun c hc => ⟨by have := (h4 c hc).1; omega, (h4 c hc).2⟩⟩
  simp only [inB, decide_eq_true h2, decide_eq_true h3, Bool.and_self]
theorem form_kind {n : Nat} {K : Int} {t x : Tm n} {s : ByteArray} {v : Int} (h : actB n (K, (t, x), (s, v)) = true) :
    (K = 1 ∧ s.toList.isEmpty = true ∧ (v == 0) = true) ∨ (K = 2 ∧ nothingT n t = true ∧ nameB s = true ∧ inB v 0 3 = true) ∨ (K = 3 ∧ nothingT n x = true ∧ s.toList.isEmpty = true ∧ (v == 0) = true) ∨ (K = 4 ∧ nothingT n t = true ∧ nothingT n x = true ∧ s.toList.isEmpty = true ∧ (v == 0) = true) := by
  by_cases k1 : K = 1
  · subst k1
    have h' : (s.toList.isEmpty && v == 0) = true := h
    rw [Bool.and_eq_true] at h'
    exact Or.inl ⟨rfl, h'.1, h'.2⟩
  by_cases k2 : K = 2
  · subst k2
    rw [spawn_B] at h
    simp only [Bool.and_eq_true] at h
    exact Or.inr (Or.inl ⟨rfl, h.1.1, h.1.2, h.2⟩)
  by_cases k3 : K = 3
  · subst k3
    have h' : (nothingT n x && (s.toList.isEmpty && v == 0)) = true := h
    simp only [Bool.and_eq_true] at h'
    exact Or.inr (Or.inr (Or.inl ⟨rfl, h'.1, h'.2.1, h'.2.2⟩))
  by_cases k4 : K = 4
  · subst k4
    have h' : (nothingT n t && nothingT n x && (s.toList.isEmpty && v == 0)) = true := h
    simp only [Bool.and_eq_true] at h'
    exact Or.inr (Or.inr (Or.inr ⟨rfl, h'.1.1, h'.1.2, h'.2.1, h'.2.2⟩))
  · simp [actB, k1, k2, k3, k4] at h
end Go.Proofs.Ytbmjfnicfpdjfaa
