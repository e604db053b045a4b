/- What is proved here: plain facts and contracts that the claimed theorem stands on, several texts in one: code.tellBehaviour and code.tellProgram: the term that tells a program lies in new memory, with the program's own terms in it. Condition: it lies in memory, and has at most 7 behaviours, 6 clauses, 8 acts. code.To of a list that lies in memory: its error is what plain functions say, and the term that it returns is the one that tells the list, or the zero term. Condition: the list is of at most 2097152 terms, told as a term. plain facts on what a term tells as a program (rdP): its word and its parts, acts, clauses, behaviours; and what a call that reads one leaves. No condition. -/
import Derived.Test.YtpehdgbdinjbaaaG10
namespace Go.Proofs.Ytpehdgbdinjbaaa
open Go.RowKit

/-- Between two rounds. -/
def bhI (n B : Nat) (h : List (Tm (n + 4))) (p : List (Cl (n + 1))) (w0 : World) (base k : Nat) (v : Value) (wr : World) : Prop :=
  ∃ xs, xs.length = k + 2 ∧ GrowT (n + 4) B base xs v w0 wr ∧ sameL (fun a b => same (n + 4) a (n + 4) b) xs (h ++ (p.take k).map (tellC n)) = true

set_option maxHeartbeats 4000000 in
set_option maxRecDepth 100000 in
theorem tellBehaviour_walk (n : Nat) (s : ByteArray) (hs0 : s.size ≤ maxLen) (p : List (Cl (n + 1))) (len : Nat) (hpl : Hid (p.length = len)) (h8 : len ≤ 6) (h8c : Hid (∀ c ∈ p, c.2.2.length ≤ 8)) (a : Option Addr) (pc : Nat) (B : Nat) (w : World)
    (hp : Hid (Lay B w 13 (cl13 (n + 1)) (ClIn (n + 1) B w) a p)) (hB : B ≤ w.heap.size) (X : Tm (n + 5)) (hX : Hid (X = tellB n (s, (a, pc), p))) :
    Calls Try.prog 105 #[.agg #[.string s, .slice a len pc]] w (Tells B (n + 5) X w) := by
  obtain ⟨it, hit, htz0, htz1, htz2⟩ := info_parts infoTerm
  have HT := hide (⟨hit, htz0, htz1, htz2⟩ : _ ∧ _ ∧ _ ∧ _)
  clear hit htz0 htz1 htz2
  go_enter Try.func105, Try.ntmps105
  go_wp2_with fail
  have HN := hide (two_new w (.cells #[.string s, .slice a len pc] 127) (.cells #[.int .i64 0, .int .i64 0, .string ⟨#[]⟩, .slice none 0 0] 24)).2
  have HN1 := hide (two_new w (.cells #[.string s, .slice a len pc] 127) (.cells #[.int .i64 0, .int .i64 0, .string ⟨#[]⟩, .slice none 0 0] 24)).1
  generalize hW0 : (w.alloc _).alloc _ = W0
  rw [hW0] at HN HN1
  have HB0 : Hid (Below w.heap.size w W0 ∧ W0.heap.size = w.heap.size + 2) := by
    subst hW0
    exact ⟨((Below.refl _ _).alloc (Nat.le_refl _) _).alloc (by simp) _, by simp⟩
  have HA0 : Hid (∀ wr, Below (w.heap.size + 2) W0 wr → Below w.heap.size w wr) := fun wr h => HB0.out.1.trans (h.mono (by omega))
  clear hW0
  have b0 : W0.cell? ⟨w.heap.size, 0, none⟩ = some (.string s) := box_cell HN1.out 0
  have b1 : W0.cell? ⟨w.heap.size, 1, none⟩ = some (.slice a len pc) := box_cell HN1.out 1
  have hq0 : w.heap.size < W0.heap.size := by have := HB0.out.2; omega
  have HK : Hid (∀ w', Below W0.heap.size W0 w' → w'.cell? ⟨w.heap.size, 0, none⟩ = some (.string s) ∧ w'.cell? ⟨w.heap.size, 1, none⟩ = some (.slice a len pc)) := fun w' h => ⟨(below_cells h _ _ hq0).trans b0, (below_cells h _ _ hq0).trans b1⟩
  clear HN1
  go_region_held3 (fun w' => w'.cell? ⟨w.heap.size, 0, none⟩ = some (.string s) ∧ w'.cell? ⟨w.heap.size, 1, none⟩ = some (.slice a len pc)) (first | (go_keep; done) | (refine HK.out _ ?_; go_grown; done))
    ((go_at_call 104; refine (catom_any _ _).mono ?_; rintro e w1 ⟨rfl, rfl⟩))
  have HM0 : Hid (sameL (fun a b => same (n + 4) a (n + 4) b) [atomV wBeh (n + 3), atomV s (n + 3)] ([atomV wBeh (n + 3), atomV s (n + 3)] ++ (p.take 0).map (tellC n)) = true) := by
    show _ = true
    simp [sameL, atomV_same]
  have HG0 : Hid (GrowT (n + 4) B (w.heap.size + 2) [atomV wBeh (n + 3), atomV s (n + 3)] (.slice (some ⟨W0.heap.size + 1 + 1, 0, none⟩) 2 2) W0 (((W0.alloc (.cells #[.int .i64 2, .int .i64 0, .string ⟨#[98, 101, 104]⟩, .slice none 0 0] 24)).alloc (.cells #[.int .i64 2, .int .i64 0, .string s, .slice none 0 0] 24)).alloc (.cells #[.int .i64 2, .int .i64 0, .string ⟨#[98, 101, 104]⟩, .slice none 0 0, .int .i64 2, .int .i64 0, .string s, .slice none 0 0] 24)).drew) := by
    have h := Grow.lit (T := 24) (k := 4) (B := B) (base := w.heap.size + 2) (tm_stays (n + 4)) [atomV wBeh (n + 3), atomV s (n + 3)] (w0 := W0) (w1 := (W0.alloc (.cells #[.int .i64 2, .int .i64 0, .string ⟨#[98, 101, 104]⟩, .slice none 0 0] 24)).alloc (.cells #[.int .i64 2, .int .i64 0, .string s, .slice none 0 0] 24)) (cs := #[.int .i64 2, .int .i64 0, .string ⟨#[98, 101, 104]⟩, .slice none 0 0, .int .i64 2, .int .i64 0, .string s, .slice none 0 0]) rfl (tm4_len _) (by show 2 ≤ maxLen; unfold maxLen; omega) (by have := HB0.out.2; simp; omega) (((Below.refl _ _).alloc (by have := HB0.out.2; omega) _).alloc (by have := HB0.out.2; simp; omega) _) (fun y hy => by
      simp only [List.mem_cons, List.not_mem_nil, or_false] at hy
      rcases hy with rfl | rfl
      · exact ⟨atomV_in _ _ (word_le _ (by decide)) _ _, atomV_off _ _ _⟩
      · exact ⟨atomV_in _ _ hs0 _ _, atomV_off _ _ _⟩)
    have e : ((W0.alloc (.cells #[.int .i64 2, .int .i64 0, .string ⟨#[98, 101, 104]⟩, .slice none 0 0] 24)).alloc (.cells #[.int .i64 2, .int .i64 0, .string s, .slice none 0 0] 24)).heap.size = W0.heap.size + 1 + 1 := by simp
    rw [e] at h
    exact h.later (tm_stays _) (by have := HB0.out.2; simp; omega) (Below.refl _ _).drew
  have HK1 := hide (HK.out _ (show Below W0.heap.size W0 (((W0.alloc (.cells #[.int .i64 2, .int .i64 0, .string ⟨#[98, 101, 104]⟩, .slice none 0 0] 24)).alloc (.cells #[.int .i64 2, .int .i64 0, .string s, .slice none 0 0] 24)).alloc (.cells #[.int .i64 2, .int .i64 0, .string ⟨#[98, 101, 104]⟩, .slice none 0 0, .int .i64 2, .int .i64 0, .string s, .slice none 0 0] 24)).drew by go_grown))
  generalize hWi : (((W0.alloc _).alloc _).alloc _).drew = Wi
  rw [hWi] at HG0 HK1
  have i1 : Wi.cell? ⟨w.heap.size, 1, none⟩ = some (.slice a len pc) := HK1.out.2
  clear hWi HK HK1 b0 b1
  go_wp2_with fail
  go_loopw [3, 14] (fun v i wr => ∃ (k : Nat) (u : Value), k ≤ len ∧ i = .int .i64 k ∧ u = v ∧ Hid (bhI n B ([atomV wBeh (n + 3), atomV s (n + 3)]) p W0 (w.heap.size + 2) k u wr)) (fun _ i _ => len - (intOf i).toNat)
  case atStart => exact ⟨0, _, by omega, rfl, rfl, _, rfl, HG0.out, HM0.out⟩
  case round =>
    clear HG0 HM0
    obtain ⟨k, v, hk, rfl, rfl, HR⟩ := hrel
    obtain ⟨xs, HL, HG, HM⟩ : ∃ xs : List (Tm (n + 4)), Hid (xs.length = k + 2) ∧ Hid (GrowT (n + 4) B (w.heap.size + 2) xs v W0 wr) ∧ Hid (sameL (fun a b => same (n + 4) a (n + 4) b) xs (([atomV wBeh (n + 3), atomV s (n + 3)]) ++ (p.take k).map (tellC n)) = true) := HR.out
    clear HR
    have HBW := hide (HA0.out wr HG.out.1)
    have hbase : w.heap.size + 2 ≤ wr.heap.size := by have := HG.out.1.size; have := HB0.out.2; omega
    by_cases hlt : k < len
    · obtain ⟨y, hy⟩ : ∃ y, p[k]? = some y := ⟨p[k]'(by rw [hpl.out]; exact hlt), List.getElem?_eq_getElem _⟩
      have HS := hide (take_map_snoc (tellC n) p k y hy)
      obtain ⟨pb, po, rfl, hpb, ⟨⟨x0, x1, x2, x3⟩, ⟨x4, x5, x6, x7⟩, x8, x9, x10, x11, x12⟩, hi⟩ := (lay_below (cl_stays (n + 1)) (HBW.out.mono hB) hp.out).cl k y hy
      have hB' : B ≤ wr.heap.size := by omega
      have HY := hide hy
      have HC : Hid (∀ w1, Below wr.heap.size wr w1 → Calls Try.prog 120 #[.agg #[.int .i64 y.1.1.1.1, .int .i64 y.1.1.1.2.1, .string y.1.1.1.2.2, .slice y.1.1.2.1.1 y.1.1.2.2.length y.1.1.2.1.2, .int .i64 y.1.2.1.1.1, .int .i64 y.1.2.1.1.2.1, .string y.1.2.1.1.2.2, .slice y.1.2.1.2.1.1 y.1.2.1.2.2.length y.1.2.1.2.1.2, .slice y.2.1.1 y.2.2.length y.2.1.2, .int .i64 y.1.2.2.1.1, .int .i64 y.1.2.2.1.2.1, .string y.1.2.2.1.2.2, .slice y.1.2.2.2.1.1 y.1.2.2.2.2.length y.1.2.2.2.1.2]] w1 (Tells B (n + 4) (tellC n y) w1)) :=
        fun w1 hw => tellClause_any n y B w1 ((cl_stays (n + 1)).below (hw.mono hB') hi) (h8c.out y (List.mem_of_getElem? HY.out)) (Nat.le_trans hB' hw.size)
      clear hi hy
      generalize tellC n y = Y at *
      have hk1 : (0 : Int) ≤ (k : Int) := by omega
      have hk2 : (k : Int) < (len : Int) := by omega
      have hpw : pb < wr.heap.size := by omega
      obtain ⟨va, vc, hv⟩ := HG.out.slice
      rw [HL.out] at hv
      subst hv
      go_wp2_with fail
      refine (HC.out _ one_alloc).mono ?_
      rintro e w3 ⟨z, rfl, HZ⟩
      have HB3 : Hid (Below wr.heap.size wr w3) := one_alloc.trans (HZ.out.1.mono (by simp))
      have e3 : val (n + 4) z = .agg #[.int .i64 z.1.1, .int .i64 z.1.2.1, .string z.1.2.2, .slice z.2.1.1 z.2.2.length z.2.1.2] := rfl
      rw [e3]
      have HST := fun (o : Obj) (g c : Nat) (w4 : World) hown hgrow hat => hide (HG.out.app HL.out (by omega) hbase HB3.out z HZ.out.2.1 (HZ.out.2.2.1.mono fun b hb => by simp at hb; omega) (o := o) (g := g) (c := c) (w4 := w4) hown hgrow hat)
      have h3s : wr.heap.size ≤ w3.heap.size := HB3.out.size
      clear e3 HC x0 x1 x2 x3 x4 x5 x6 x7 x8 x9 x10 x11 x12
      go_wp2_with (at_builtin; refine wpList_append_lies _ rfl _ _ 22 rfl (w.heap.size + 2) 24 it _ 4 56 Try.underlying22 HT.out.1 HT.out.2.1 HT.out.2.2.1 HT.out.2.2.2 rfl (by decide) (.slice va (k + 2) vc) (k + 2) (xs.flatMap (tm4 (n + 4))) (by simp [Act.eval]) (HG.out.own HL.out HB3.out _) ⟨w3.heap.size, 0, none⟩ 1 1 (tm4 (n + 4) z) (by simp [Act.eval]) rfl (tm4_new w3 (hdT (n + 4) z) rfl) (tm4_one _ _) (by decide) (by unfold maxLen; omega) (by omega) (by simp; omega) (w3.heap.size + 1) (by simp) ?_; intro g4 c4 w4 hown4 hgrow4 hat4 hlt4; have HS4 := HST _ g4 c4 w4 hown4 hgrow4 hat4; clear hown4 hgrow4 hat4)
      go_roundw
      case rel => exact ⟨k + 1, _, by omega, by go_num, rfl, xs ++ [z], by have := HL.out; simp; omega, HS4.out, by rw [HS.out, ← List.append_assoc]; exact sameL_snoc _ _ _ _ _ HM.out HZ.out.2.2.2⟩
      case measure => simp [intOf]; omega
    · obtain rfl : k = len := by omega
      obtain ⟨va, vc, hv⟩ := HG.out.slice
      rw [HL.out] at hv
      subst hv
      have HX1 := hide ((HG.out.1.block (w.heap.size + 1) (by omega)).trans HN.out)
      have d0 : wr.cell? ⟨w.heap.size + 1, 0, none⟩ = some (.int .i64 0) := box_cell HX1.out 0
      have d1 : wr.cell? ⟨w.heap.size + 1, 1, none⟩ = some (.int .i64 0) := box_cell HX1.out 1
      have d2 : wr.cell? ⟨w.heap.size + 1, 2, none⟩ = some (.string ⟨#[]⟩) := box_cell HX1.out 2
      have d3 : wr.cell? ⟨w.heap.size + 1, 3, none⟩ = some (.slice none 0 0) := box_cell HX1.out 3
      have f0 := fun j => box_free HX1.out j
      have hq1 : w.heap.size + 1 < wr.heap.size := by omega
      have HF := fun (W w' : World) hb hw hsz => hide (GrowT.tells (w := w) (ys := ([atomV wBeh (n + 3), atomV s (n + 3)]) ++ p.map (tellC n)) (w' := w') (HG.out.later (tm_stays _) hbase (w1 := W) hb) (by omega) (by have h := HM.out; rw [List.take_of_length_le (by rw [hpl.out]; omega)] at h; exact h) hw hsz)
      clear HX1 HN
      go_wp2_with (go_at_call 106; refine (ctuple_any _ _ _ _).mono ?_; rintro e w5 ⟨rfl, hw5⟩; have HB5 := hide (show Below wr.heap.size wr w5 by rw [hw5]; go_grown); clear hw5; replace d0 := (below_cells HB5.out _ _ hq1).trans d0; replace d1 := (below_cells HB5.out _ _ hq1).trans d1; replace d2 := (below_cells HB5.out _ _ hq1).trans d2; replace d3 := (below_cells HB5.out _ _ hq1).trans d3; replace f0 := fun j => (below_free HB5.out _ j hq1).trans (f0 j))
      refine bodyPost_ret (v := .agg #[.int .i64 4, .int .i64 0, .string ⟨#[]⟩, .slice va (k + 2) vc]) (by simp [results, Try.results105, go_sem, d0, d1, d2, d3]) rfl ?_
      rw [hX.out]
      obtain ⟨a', c', e', H⟩ := (HF w5 (put4 w5 (w.heap.size + 1) 0 (.int .i64 4) (.int .i64 0) (.string ⟨#[]⟩) (.slice va (k + 2) vc)) HB5.out (put4_at (by omega) (by omega) (Below.refl _ _)) (Nat.le_of_eq (put4_size _ _ _ _).symm)).out (put4_below (HBW.out.trans (HB5.out.mono HBW.out.size)) (by omega))
      rw [HL.out] at e' H
      injection e' with e1 e2 e3
      subst e1 e3
      exact H

theorem tellBehaviour_any (n : Nat) (b : Bh (n + 1)) (B : Nat) (w : World) (hi : BhIn (n + 1) B w b) (h6 : b.2.2.length ≤ 6) (h8 : ∀ c ∈ b.2.2, c.2.2.length ≤ 8) (hB : B ≤ w.heap.size) :
    Calls Try.prog 105 #[.agg (bh2 (n + 1) b).toArray] w (Tells B (n + 5) (tellB n b) w) := by
  obtain ⟨s, ⟨a, pc⟩, p⟩ := b
  exact tellBehaviour_walk n s hi.1 p p.length rfl h6 h8 a pc B w hi.2.2 hB _ rfl

/-- Between two rounds. -/
def pgI (n B : Nat) (h : List (Tm (n + 5))) (p : List (Bh (n + 1))) (w0 : World) (base k : Nat) (v : Value) (wr : World) : Prop :=
  ∃ xs, xs.length = k + 1 ∧ GrowT (n + 5) B base xs v w0 wr ∧ sameL (fun a b => same (n + 5) a (n + 5) b) xs (h ++ (p.take k).map (tellB n)) = true

set_option maxHeartbeats 4000000 in
set_option maxRecDepth 100000 in
theorem tellProgram_walk (n : Nat) (p : List (Bh (n + 1))) (len : Nat) (hpl : Hid (p.length = len)) (h8 : len ≤ 7) (h8c : Hid (∀ b ∈ p, b.2.2.length ≤ 6 ∧ ∀ c ∈ b.2.2, c.2.2.length ≤ 8)) (a : Option Addr) (pc : Nat) (B : Nat) (w : World)
    (hp : Hid (PgIn (n + 1) B w a p)) (hB : B ≤ w.heap.size) (X : Tm (n + 6)) (hX : Hid (X = tellP n p)) :
    Calls Try.prog 76 #[.slice a len pc] w (Tells B (n + 6) X w) := by
  obtain ⟨it, hit, htz0, htz1, htz2⟩ := info_parts infoTerm
  have HT := hide (⟨hit, htz0, htz1, htz2⟩ : _ ∧ _ ∧ _ ∧ _)
  clear hit htz0 htz1 htz2
  go_enter Try.func76, Try.ntmps76
  go_wp2_with (go_at_call 104; refine (catom_any _ _).mono ?_; rintro e w1 ⟨rfl, rfl⟩)
  have HN := hide (heap_alloc_new w (.cells #[.int .i64 0, .int .i64 0, .string ⟨#[]⟩, .slice none 0 0] 24))
  have HM0 : Hid (sameL (fun a b => same (n + 5) a (n + 5) b) [atomV wCode (n + 4)] ([atomV wCode (n + 4)] ++ (p.take 0).map (tellB n)) = true) := by
    show _ = true
    simp [sameL, atomV_same]
  generalize hW0 : w.alloc (.cells #[.int .i64 0, .int .i64 0, .string ⟨#[]⟩, .slice none 0 0] 24) = W0
  rw [hW0] at HN
  have HB0 : Hid (Below w.heap.size w W0 ∧ W0.heap.size = w.heap.size + 1) := by
    subst hW0
    exact ⟨(Below.refl _ _).alloc (Nat.le_refl _) _, by simp⟩
  have HA0 : Hid (∀ wr, Below (w.heap.size + 1) W0 wr → Below w.heap.size w wr) := fun wr h => HB0.out.1.trans (h.mono (by omega))
  clear hW0
  have HG0 : Hid (GrowT (n + 5) B (w.heap.size + 1) [atomV wCode (n + 4)] (.slice (some ⟨w.heap.size + 1 + 1, 0, none⟩) 1 1) W0 ((W0.alloc (.cells #[.int .i64 2, .int .i64 0, .string ⟨#[99, 111, 100, 101]⟩, .slice none 0 0] 24)).alloc (.cells #[.int .i64 2, .int .i64 0, .string ⟨#[99, 111, 100, 101]⟩, .slice none 0 0] 24))) := by
    have h := Grow.lit (T := 24) (k := 4) (B := B) (base := w.heap.size + 1) (tm_stays (n + 5)) [atomV wCode (n + 4)] (w0 := W0) (w1 := W0.alloc (.cells #[.int .i64 2, .int .i64 0, .string ⟨#[99, 111, 100, 101]⟩, .slice none 0 0] 24)) (cs := #[.int .i64 2, .int .i64 0, .string ⟨#[99, 111, 100, 101]⟩, .slice none 0 0]) rfl (tm4_len _) (by show 1 ≤ maxLen; unfold maxLen; omega) (by have := HB0.out.2; simp; omega) ((Below.refl _ _).alloc (by have := HB0.out.2; omega) _) (fun y hy => by
      simp only [List.mem_cons, List.not_mem_nil, or_false] at hy
      subst hy
      exact ⟨atomV_in _ _ (word_le _ (by decide)) _ _, atomV_off _ _ _⟩)
    have e : (W0.alloc (.cells #[.int .i64 2, .int .i64 0, .string ⟨#[99, 111, 100, 101]⟩, .slice none 0 0] 24)).heap.size = w.heap.size + 1 + 1 := by have := HB0.out.2; simp; omega
    rw [e] at h
    exact h
  generalize hWi : (W0.alloc _).alloc _ = Wi
  rw [hWi] at HG0
  clear hWi
  go_loopw [3, 10] (fun v i wr => ∃ (k : Nat) (u : Value), k ≤ len ∧ i = .int .i64 k ∧ u = v ∧ Hid (pgI n B ([atomV wCode (n + 4)]) p W0 (w.heap.size + 1) k u wr)) (fun _ i _ => len - (intOf i).toNat)
  case atStart => exact ⟨0, _, by omega, rfl, rfl, _, rfl, HG0.out, HM0.out⟩
  case round =>
    clear HG0 HM0
    obtain ⟨k, v, hk, rfl, rfl, HR⟩ := hrel
    obtain ⟨xs, HL, HG, HM⟩ : ∃ xs : List (Tm (n + 5)), Hid (xs.length = k + 1) ∧ Hid (GrowT (n + 5) B (w.heap.size + 1) xs v W0 wr) ∧ Hid (sameL (fun a b => same (n + 5) a (n + 5) b) xs (([atomV wCode (n + 4)]) ++ (p.take k).map (tellB n)) = true) := HR.out
    clear HR
    have HBW := hide (HA0.out wr HG.out.1)
    have hbase : w.heap.size + 1 ≤ wr.heap.size := by have := HG.out.1.size; have := HB0.out.2; omega
    by_cases hlt : k < len
    · obtain ⟨y, hy⟩ : ∃ y, p[k]? = some y := ⟨p[k]'(by rw [hpl.out]; exact hlt), List.getElem?_eq_getElem _⟩
      have HS := hide (take_map_snoc (tellB n) p k y hy)
      obtain ⟨pb, po, rfl, hpb, ⟨x0, x1⟩, hi⟩ := (PgIn.below (HBW.out.mono hB) hp.out).bh k y hy
      have hB' : B ≤ wr.heap.size := by omega
      have HY := hide hy
      have HC : Hid (∀ w1, Below wr.heap.size wr w1 → Calls Try.prog 105 #[.agg #[.string y.1, .slice y.2.1.1 y.2.2.length y.2.1.2]] w1 (Tells B (n + 5) (tellB n y) w1)) :=
        fun w1 hw => tellBehaviour_any n y B w1 ((bh_stays (n + 1)).below (hw.mono hB') hi) (h8c.out y (List.mem_of_getElem? HY.out)).1 (h8c.out y (List.mem_of_getElem? HY.out)).2 (Nat.le_trans hB' hw.size)
      clear hi hy
      generalize tellB n y = Y at *
      have hk1 : (0 : Int) ≤ (k : Int) := by omega
      have hk2 : (k : Int) < (len : Int) := by omega
      have hpw : pb < wr.heap.size := by omega
      obtain ⟨va, vc, hv⟩ := HG.out.slice
      rw [HL.out] at hv
      subst hv
      go_wp2_with fail
      refine (HC.out _ one_alloc).mono ?_
      rintro e w3 ⟨z, rfl, HZ⟩
      have HB3 : Hid (Below wr.heap.size wr w3) := one_alloc.trans (HZ.out.1.mono (by simp))
      have e3 : val (n + 5) z = .agg #[.int .i64 z.1.1, .int .i64 z.1.2.1, .string z.1.2.2, .slice z.2.1.1 z.2.2.length z.2.1.2] := rfl
      rw [e3]
      have HST := fun (o : Obj) (g c : Nat) (w4 : World) hown hgrow hat => hide (HG.out.app HL.out (by omega) hbase HB3.out z HZ.out.2.1 (HZ.out.2.2.1.mono fun b hb => by simp at hb; omega) (o := o) (g := g) (c := c) (w4 := w4) hown hgrow hat)
      have h3s : wr.heap.size ≤ w3.heap.size := HB3.out.size
      clear e3 HC x0 x1
      go_wp2_with (at_builtin; refine wpList_append_lies _ rfl _ _ 22 rfl (w.heap.size + 1) 24 it _ 4 56 Try.underlying22 HT.out.1 HT.out.2.1 HT.out.2.2.1 HT.out.2.2.2 rfl (by decide) (.slice va (k + 1) vc) (k + 1) (xs.flatMap (tm4 (n + 5))) (by simp [Act.eval]) (HG.out.own HL.out HB3.out _) ⟨w3.heap.size, 0, none⟩ 1 1 (tm4 (n + 5) z) (by simp [Act.eval]) rfl (tm4_new w3 (hdT (n + 5) z) rfl) (tm4_one _ _) (by decide) (by unfold maxLen; omega) (by omega) (by simp; omega) (w3.heap.size + 1) (by simp) ?_; intro g4 c4 w4 hown4 hgrow4 hat4 hlt4; have HS4 := HST _ g4 c4 w4 hown4 hgrow4 hat4; clear hown4 hgrow4 hat4)
      go_roundw
      case rel => exact ⟨k + 1, _, by omega, by go_num, rfl, xs ++ [z], by have := HL.out; simp; omega, HS4.out, by rw [HS.out, ← List.append_assoc]; exact sameL_snoc _ _ _ _ _ HM.out HZ.out.2.2.2⟩
      case measure => simp [intOf]; omega
    · obtain rfl : k = len := by omega
      obtain ⟨va, vc, hv⟩ := HG.out.slice
      rw [HL.out] at hv
      subst hv
      have HX1 := hide ((HG.out.1.block (w.heap.size) (by omega)).trans HN.out)
      have d0 : wr.cell? ⟨w.heap.size, 0, none⟩ = some (.int .i64 0) := box_cell HX1.out 0
      have d1 : wr.cell? ⟨w.heap.size, 1, none⟩ = some (.int .i64 0) := box_cell HX1.out 1
      have d2 : wr.cell? ⟨w.heap.size, 2, none⟩ = some (.string ⟨#[]⟩) := box_cell HX1.out 2
      have d3 : wr.cell? ⟨w.heap.size, 3, none⟩ = some (.slice none 0 0) := box_cell HX1.out 3
      have f0 := fun j => box_free HX1.out j
      have hq1 : w.heap.size < wr.heap.size := by omega
      have HF := fun (W w' : World) hb hw hsz => hide (GrowT.tells (w := w) (ys := ([atomV wCode (n + 4)]) ++ p.map (tellB n)) (w' := w') (HG.out.later (tm_stays _) hbase (w1 := W) hb) (by omega) (by have h := HM.out; rw [List.take_of_length_le (by rw [hpl.out]; omega)] at h; exact h) hw hsz)
      clear HX1 HN
      go_wp2_with (go_at_call 106; refine (ctuple_any _ _ _ _).mono ?_; rintro e w5 ⟨rfl, hw5⟩; have HB5 := hide (show Below wr.heap.size wr w5 by rw [hw5]; go_grown); clear hw5; replace d0 := (below_cells HB5.out _ _ hq1).trans d0; replace d1 := (below_cells HB5.out _ _ hq1).trans d1; replace d2 := (below_cells HB5.out _ _ hq1).trans d2; replace d3 := (below_cells HB5.out _ _ hq1).trans d3; replace f0 := fun j => (below_free HB5.out _ j hq1).trans (f0 j))
      refine bodyPost_ret (v := .agg #[.int .i64 4, .int .i64 0, .string ⟨#[]⟩, .slice va (k + 1) vc]) (by simp [results, Try.results76, go_sem, d0, d1, d2, d3]) rfl ?_
      rw [hX.out]
      obtain ⟨a', c', e', H⟩ := (HF w5 (put4 w5 (w.heap.size) 0 (.int .i64 4) (.int .i64 0) (.string ⟨#[]⟩) (.slice va (k + 1) vc)) HB5.out (put4_at (by omega) (by omega) (Below.refl _ _)) (Nat.le_of_eq (put4_size _ _ _ _).symm)).out (put4_below (HBW.out.trans (HB5.out.mono HBW.out.size)) (by omega))
      rw [HL.out] at e' H
      injection e' with e1 e2 e3
      subst e1 e3
      exact H

theorem tellProgram_any (n : Nat) (p : List (Bh (n + 1))) (a : Option Addr) (pc : Nat) (B : Nat) (w : World) (hi : PgIn (n + 1) B w a p) (h7 : p.length ≤ 7) (h8 : ∀ b ∈ p, b.2.2.length ≤ 6 ∧ ∀ c ∈ b.2.2, c.2.2.length ≤ 8) (hB : B ≤ w.heap.size) :
    Calls Try.prog 76 #[.slice a p.length pc] w (Tells B (n + 6) (tellP n p) w) :=
  tellProgram_walk n p p.length rfl h7 h8 a pc B w hi hB _ rfl
end Go.Proofs.Ytpehdgbdinjbaaa
namespace Go.Proofs.Ytpehdgbdinjbaaa
open Go.RowKit

def zT (N : Nat) : Tm (N + 1) := ((0, 0, .empty), (none, 0), [])
def toE (n : Nat) (p : List (Bh (n + 1))) : Int := if pgB (n + 1) p then chk (n + 6) (tellP n p) else 5
def toT (n : Nat) (p : List (Bh (n + 1))) : Tm (n + 6) := if toE n p = 0 then tellP n p else zT (n + 5)
def ToOut (B n : Nat) (p : List (Bh (n + 1))) (w : World) (e : Ending) (w' : World) : Prop :=
  ∃ y : Tm (n + 6), e = .returned (.tuple #[val (n + 6) y, .int .i64 (toE n p)]) ∧ Hid (Below w.heap.size w w' ∧ In w'.heap.size w' (n + 6) y ∧ Off (fun b => b < B ∨ w.heap.size ≤ b) (n + 6) y ∧ same (n + 6) y (n + 6) (toT n p) = true)
theorem zT_in (N B : Nat) (w : World) : In B w (N + 1) (zT N) := ⟨⟨by simp [zT, I64], by simp [zT, I64], Nat.zero_le _, by simp [zT], by simp [zT]⟩, Or.inl rfl⟩
theorem to_none {B n : Nat} {p : List (Bh (n + 1))} {w w' : World} {k : Int} (hb : Below w.heap.size w w') (hk : k = toE n p) (h0 : ¬ k = 0) : ToOut B n p w (.returned (.tuple #[.agg #[.int .i64 0, .int .i64 0, .string .empty, .slice none 0 0], .int .i64 k])) w' := by
  subst hk
  refine ⟨zT (n + 5), rfl, hb, zT_in _ _ _, Or.inl rfl, ?_⟩
  unfold toT
  rw [if_neg h0]
  exact in_self (zT_in _ 0 w)
theorem pg_bounds {n : Nat} {p : List (Bh n)} (h : pgB n p = true) : p.length ≤ 7 ∧ ∀ b ∈ p, b.2.2.length ≤ 6 ∧ ∀ c ∈ b.2.2, c.2.2.length ≤ 8 := by
  simp only [pgB, bhB, clB, Bool.and_eq_true, decide_eq_true_eq, List.all_eq_true] at h
  refine ⟨by omega, fun b hb => ⟨by have := (h.2 b hb).1.2; omega, fun c hc => by have := ((h.2 b hb).2 c hc).1; omega⟩⟩
theorem box4_new (w : World) (v0 v1 v2 v3 : Value) (t : TypeId) {w' : World} (hb : Below (w.alloc (.cells #[v0, v1, v2, v3] t)).heap.size (w.alloc (.cells #[v0, v1, v2, v3] t)) w') : w'.heap[w.heap.size]? = some (.cells #[v0, v1, v2, v3] t) :=
  (hb.block _ (by simp)).trans (heap_alloc_new w _)

set_option maxHeartbeats 2000000 in
set_option maxRecDepth 100000 in
theorem to_any (n : Nat) (p : List (Bh (n + 1))) (a : Option Addr) (pc : Nat) (hl : p.length ≤ pc) (hpc : pc ≤ maxLen) (B : Nat) (w : World) (hp : PgIn (n + 1) B w a p) (hB : B ≤ w.heap.size) (hN : pgB (n + 1) p = true → (nodes (n + 6) (tellP n p)).length ≤ 2097152) :
    Calls Try.prog 38 #[.slice a p.length pc] w (ToOut B n p w) := by
  have HIP : Hid (∀ w1, Below w.heap.size w w1 → Calls Try.prog 73 #[.slice a p.length pc] w1 fun e w' => e = .returned (.bool (pgB (n + 1) p)) ∧ Below w1.heap.size w1 w') :=
    fun w1 h => isProgram_any n p p.length rfl a pc B w1 (hp.below (h.mono hB)) (by unfold maxLen at hpc; omega) (Nat.le_trans hB h.size)
  have HTP : Hid (pgB (n + 1) p = true → ∀ w1, Below w.heap.size w w1 → Calls Try.prog 76 #[.slice a p.length pc] w1 (Tells B (n + 6) (tellP n p) w1)) :=
    fun h w1 h1 => tellProgram_any n p a pc B w1 (hp.below (h1.mono hB)) (pg_bounds h).1 (pg_bounds h).2 (Nat.le_trans hB h1.size)
  have HE : Hid (toE n p = if pgB (n + 1) p then chk (n + 6) (tellP n p) else 5) := rfl
  have HN := hide hN
  have HTT : Hid (toT n p = if toE n p = 0 then tellP n p else zT (n + 5)) := rfl
  clear hp hN hl hpc
  generalize p.length = len at *
  generalize pgB (n + 1) p = r at *
  go_enter Try.func38, Try.ntmps38
  go_wp2_with fail
  refine (HIP.out _ one_alloc).mono ?_
  rintro e w1 ⟨rfl, hb1⟩
  have HX1 := hide (box4_new w _ _ _ _ _ hb1)
  have HB1 : Hid (Below w.heap.size w w1) := one_alloc.trans (hb1.mono (by simp))
  have hq1 : w.heap.size < w1.heap.size := (Array.getElem?_eq_some_iff.1 HX1.out).1
  clear hb1 HIP
  cases r
  · have d0 : w1.cell? ⟨w.heap.size, 0, none⟩ = some (.int .i64 0) := box_cell HX1.out 0
    have d1 : w1.cell? ⟨w.heap.size, 1, none⟩ = some (.int .i64 0) := box_cell HX1.out 1
    have d2 : w1.cell? ⟨w.heap.size, 2, none⟩ = some (.string ⟨#[]⟩) := box_cell HX1.out 2
    have d3 : w1.cell? ⟨w.heap.size, 3, none⟩ = some (.slice none 0 0) := box_cell HX1.out 3
    have f0 := fun j => box_free HX1.out j
    clear HTP HX1
    go_wp2_with fail
    exact bodyPost_ret (v := .tuple #[.agg #[.int .i64 0, .int .i64 0, .string .empty, .slice none 0 0], .int .i64 5]) (by simp [results, Try.results38, go_sem, d0, d1, d2, d3]; rfl) rfl (to_none (put4_below HB1.out (Nat.le_refl _)) (by rw [HE.out]; rfl) (by omega))
  · have HTP1 := hide (HTP.out rfl w1 HB1.out)
    go_wp2_with fail
    refine HTP1.out.mono ?_
    rintro e w2 ⟨y, rfl, HY⟩
    have HB2 : Hid (Below w.heap.size w w2) := HB1.out.trans (HY.out.1.mono HB1.out.size)
    have e3 : val (n + 6) y = .agg #[.int .i64 y.1.1, .int .i64 y.1.2.1, .string y.1.2.2, .slice y.2.1.1 y.2.2.length y.2.1.2] := rfl
    have HC : Hid (∀ w3, Below w2.heap.size w2 w3 → Calls Try.prog 50 #[.agg #[.int .i64 y.1.1, .int .i64 y.1.2.1, .string y.1.2.2, .slice y.2.1.1 y.2.2.length y.2.1.2]] w3 fun e w' => e = .returned (.int .i64 (toE n p)) ∧ Below w3.heap.size w3 w') := fun w3 h3 => by
      have := tcheck_any (n + 6) y w2.heap.size w3 (HY.out.2.1.below h3) h3.size (by rw [same_nlen _ _ _ _ HY.out.2.2.2]; exact HN.out (by simp))
      rw [same_chk HY.out.2.2.2] at this
      rw [HE.out]
      exact this
    have HCP : Hid (toE n p = 0 → ∀ w3, Below w2.heap.size w2 w3 → Calls Try.prog 77 #[.agg #[.int .i64 y.1.1, .int .i64 y.1.2.1, .string y.1.2.2, .slice y.2.1.1 y.2.2.length y.2.1.2]] w3 fun e w' => ∃ z : Tm (n + 6), e = .returned (val (n + 6) z) ∧ Hid (Below w3.heap.size w3 w' ∧ In w'.heap.size w' (n + 6) z ∧ Off (fun q => w3.heap.size ≤ q) (n + 6) z ∧ same (n + 6) z (n + 6) y = true)) := fun h0 w3 h3 =>
      copy_any (n + 6) y w2.heap.size w3 (HY.out.2.1.below h3) h3.size (right_formed.2 (by have h1 : chk (n + 6) (tellP n p) = 0 := (by simpa [HE.out] using h0); rw [same_formed _ _ _ _ HY.out.2.2.2]; exact (chk_iff.1 h1).1))
    have HS := hide HY.out.2.2.2
    have HX2 := hide ((HY.out.1.block _ hq1).trans HX1.out)
    have hq2 : w.heap.size < w2.heap.size := (Array.getElem?_eq_some_iff.1 HX2.out).1
    rw [e3]
    clear HTP HTP1 HX1 HB1 HY e3 HN
    generalize hE : toE n p = E at *
    have HEE := hide hE
    clear hE HE
    go_wp2_with fail
    refine (HC.out _ one_alloc).mono ?_
    rintro e w3 ⟨rfl, hb3⟩
    have HB32 : Hid (Below w2.heap.size w2 w3) := one_alloc.trans (hb3.mono (by simp))
    have HB3 : Hid (Below w.heap.size w w3) := HB2.out.trans (HB32.out.mono HB2.out.size)
    have HXX := hide (box4_new w2 _ _ _ _ _ hb3)
    have HX3 := hide ((HB32.out.block _ hq2).trans HX2.out)
    have hq3 : w.heap.size < w3.heap.size := (Array.getElem?_eq_some_iff.1 HX3.out).1
    have c0 : w3.cell? ⟨w2.heap.size, 0, none⟩ = some (.int .i64 y.1.1) := box_cell HXX.out 0
    have c1 : w3.cell? ⟨w2.heap.size, 1, none⟩ = some (.int .i64 y.1.2.1) := box_cell HXX.out 1
    have c2 : w3.cell? ⟨w2.heap.size, 2, none⟩ = some (.string y.1.2.2) := box_cell HXX.out 2
    have c3 : w3.cell? ⟨w2.heap.size, 3, none⟩ = some (.slice y.2.1.1 y.2.2.length y.2.1.2) := box_cell HXX.out 3
    clear hb3 HC HX2
    by_cases hE0 : E = 0
    · subst hE0
      have HCP3 := hide (HCP.out rfl w3 HB32.out)
      clear HCP
      go_wp2_with fail
      refine HCP3.out.mono ?_
      rintro e w4 ⟨z, rfl, HZ⟩
      have HX4 := hide ((HZ.out.1.block _ hq3).trans HX3.out)
      have HB4 : Hid (Below w.heap.size w w4) := HB3.out.trans (HZ.out.1.mono HB3.out.size)
      have d0 : w4.cell? ⟨w.heap.size, 0, none⟩ = some (.int .i64 0) := box_cell HX4.out 0
      have d1 : w4.cell? ⟨w.heap.size, 1, none⟩ = some (.int .i64 0) := box_cell HX4.out 1
      have d2 : w4.cell? ⟨w.heap.size, 2, none⟩ = some (.string ⟨#[]⟩) := box_cell HX4.out 2
      have d3 : w4.cell? ⟨w.heap.size, 3, none⟩ = some (.slice none 0 0) := box_cell HX4.out 3
      have f0 := fun j => box_free HX4.out j
      have e4 : val (n + 6) z = .agg #[.int .i64 z.1.1, .int .i64 z.1.2.1, .string z.1.2.2, .slice z.2.1.1 z.2.2.length z.2.1.2] := rfl
      rw [e4]
      have HF : Hid (ToOut B n p w (.returned (.tuple #[.agg #[.int .i64 z.1.1, .int .i64 z.1.2.1, .string z.1.2.2, .slice z.2.1.1 z.2.2.length z.2.1.2], .int .i64 0])) (put4 w4 w.heap.size 0 (.int .i64 z.1.1) (.int .i64 z.1.2.1) (.string z.1.2.2) (.slice z.2.1.1 z.2.2.length z.2.1.2))) := by
        refine ⟨z, by rw [HEE.out]; rfl, put4_below HB4.out (Nat.le_refl _), ?_, HZ.out.2.2.1.mono fun b hb => Or.inr (by omega), ?_⟩
        · rw [put4_size]
          exact In.off (fun b hb => put4_block (by omega) _ _ _ _) HZ.out.2.2.1 HZ.out.2.1
        · rw [show toT n p = tellP n p from by simpa using HTT.out]
          exact same_trans _ _ _ _ _ _ HZ.out.2.2.2 HS.out
      clear HX4 HX3 HZ HB4 c0 c1 c2 c3 e4 HTT
      go_wp2_with fail
      exact bodyPost_ret (v := .tuple #[.agg #[.int .i64 z.1.1, .int .i64 z.1.2.1, .string z.1.2.2, .slice z.2.1.1 z.2.2.length z.2.1.2], .int .i64 0]) (by simp [results, Try.results38, go_sem, d0, d1, d2, d3]) rfl HF.out
    · have d0 : w3.cell? ⟨w.heap.size, 0, none⟩ = some (.int .i64 0) := box_cell HX3.out 0
      have d1 : w3.cell? ⟨w.heap.size, 1, none⟩ = some (.int .i64 0) := box_cell HX3.out 1
      have d2 : w3.cell? ⟨w.heap.size, 2, none⟩ = some (.string ⟨#[]⟩) := box_cell HX3.out 2
      have d3 : w3.cell? ⟨w.heap.size, 3, none⟩ = some (.slice none 0 0) := box_cell HX3.out 3
      have f0 := fun j => box_free HX3.out j
      have hE1 : (E != 0) = true := by simpa using hE0
      clear HX3 HCP c0 c1 c2 c3
      go_wp2_with fail
      exact bodyPost_ret (v := .tuple #[.agg #[.int .i64 0, .int .i64 0, .string .empty, .slice none 0 0], .int .i64 E]) (by simp [results, Try.results38, go_sem, d0, d1, d2, d3]; rfl) rfl (to_none (put4_below HB3.out (Nat.le_refl _)) HEE.out.symm hE0)
end Go.Proofs.Ytpehdgbdinjbaaa
namespace Go.Proofs.Ytpehdgbdinjbaaa
open Go.RowKit

/-- The atom with which a tuple begins; empty, if it is no such tuple. -/
def wordT (n : Nat) (x : Tm (n + 1)) : ByteArray := if x.1.1 = 4 then match x.2.2[0]? with | some h => if kindA ⟨n, h⟩ = 2 then (hdT n h).1.2.2 else .empty | none => .empty else .empty
/-- What stands behind it. -/
def partsT (n : Nat) (x : Tm (n + 1)) : List (Tm n) := if x.1.1 = 4 then match x.2.2[0]? with | some h => if kindA ⟨n, h⟩ = 2 then x.2.2.drop 1 else [] | none => [] else []
def isB (wd s : ByteArray) : Bool := wd.toList == s.toList
def argsA : (n : Nat) → Tm n → List (Tm (n - 1))
  | 0, _ => []
  | _ + 1, x => x.2.2
def nameA (n : Nat) (x : Tm n) : ByteArray := (hdT n x).1.2.2

def rdSp (M n : Nat) (a b c : Tm n) : Option (Ac (M + 1)) := if kindA ⟨n, a⟩ = 2 ∧ kindA ⟨n, c⟩ = 5 then some (2, (zT M, lift (M + 1) n b), (nameA n a, numA n c)) else none
def rdAq (M n : Nat) (wd : ByteArray) (q : List (Tm n)) : Option (Ac (M + 1)) :=
  if (isB wd wSend && decide (q.length = 2)) = true then (q[0]?).bind fun a => (q[1]?).bind fun b => some (1, (lift (M + 1) n a, lift (M + 1) n b), (.empty, 0))
  else if (isB wd wSpawn && decide (q.length = 3)) = true then (q[0]?).bind fun a => (q[1]?).bind fun b => (q[2]?).bind fun c => rdSp M n a b c
  else if (isB wd wLink && decide (q.length = 1)) = true then (q[0]?).bind fun a => some (3, (lift (M + 1) n a, zT M), (.empty, 0))
  else if (isB wd wStop && decide (q.length = 0)) = true then some (4, (zT M, zT M), (.empty, 0)) else none
def rdA (M : Nat) : (n : Nat) → Tm n → Option (Ac (M + 1))
  | 0, _ => none
  | n + 1, x => rdAq M n (wordT n x) (partsT n x)
def rdCq (M n : Nat) (wd : ByteArray) (q : List (Tm n)) : Option (Cl (M + 1)) :=
  if (isB wd wOn && decide (q.length = 4)) = true then (q[0]?).bind fun a => (q[1]?).bind fun b => (q[2]?).bind fun c => (q[3]?).bind fun d =>
    if kindA ⟨n, c⟩ = 4 then (allV (rdA M (n - 1)) (argsA n c)).map fun l => ((lift (M + 1) n a, lift (M + 1) n b, lift (M + 1) n d), (none, 0), l) else none
  else none
def rdC (M : Nat) : (n : Nat) → Tm n → Option (Cl (M + 1))
  | 0, _ => none
  | n + 1, x => rdCq M n (wordT n x) (partsT n x)
def rdBq (M n : Nat) (wd : ByteArray) (q : List (Tm n)) : Option (Bh (M + 1)) :=
  if isB wd wBeh = true then (q[0]?).bind fun a => if kindA ⟨n, a⟩ = 2 then (allV (rdC M n) (q.drop 1)).map fun l => (nameA n a, (none, 0), l) else none
  else none
def rdB (M : Nat) : (n : Nat) → Tm n → Option (Bh (M + 1))
  | 0, _ => none
  | n + 1, x => rdBq M n (wordT n x) (partsT n x)
def rdP (M : Nat) : (n : Nat) → Tm n → Option (List (Bh (M + 1)))
  | 0, _ => none
  | n + 1, x => if isB (wordT n x) wCode = true then allV (rdB M n) (partsT n x) else none

/-- What a call that reads a thing leaves: all new. -/
def RdOut {α : Type} (f : α → List Value) (I : Nat → World → α → Prop) (O : (Nat → Prop) → α → Prop) (S : α → α → Prop) (o : Option α) (w : World) (e : Ending) (w' : World) : Prop :=
  ∃ (y : α) (r : Bool), e = .returned (.tuple #[.agg (f y).toArray, .bool r]) ∧ Hid (Below w.heap.size w w' ∧ r = o.isSome ∧ I w'.heap.size w' y ∧ O (fun b => w.heap.size ≤ b) y ∧ ∀ z, o = some z → S y z)
/-- .. that reads a list of such things. -/
def RdAll {α : Type} (k : Nat) (f : α → List Value) (I : Nat → World → α → Prop) (O : (Nat → Prop) → α → Prop) (S : α → α → Prop) (o : Option (List α)) (w : World) (e : Ending) (w' : World) : Prop :=
  ∃ (l : List α) (a : Option Addr) (c : Nat) (r : Bool), e = .returned (.tuple #[.slice a l.length c, .bool r]) ∧ Hid (Below w.heap.size w w' ∧ r = o.isSome ∧ (l.length ≤ c ∧ c ≤ maxLen) ∧ Lay w'.heap.size w' k f (I w'.heap.size w') a l ∧ OffL (O (fun b => w.heap.size ≤ b)) (fun b => w.heap.size ≤ b) a l ∧ ∀ z, o = some z → RelL S l z)

theorem allV_take {α β : Type} (f : α → Option β) (p : List α) (k : Nat) (x : α) (hx : p[k]? = some x) (l : List β) (y : β) (h : allV f (p.take k) = some l) (hy : f x = some y) : allV f (p.take (k + 1)) = some (l ++ [y]) := by
  rw [List.take_add_one, hx]
  have key : ∀ (q : List α) (l : List β), allV f q = some l → allV f (q ++ [x]) = some (l ++ [y]) := by
    intro q
    induction q with
    | nil => intro l h; simp [allV] at h; subst h; simp [allV, hy]
    | cons a q ih =>
      intro l h
      simp only [allV] at h
      obtain ⟨b, hb, h⟩ := Option.bind_eq_some_iff.1 h
      obtain ⟨r, hr, rfl⟩ := Option.map_eq_some_iff.1 h
      simp only [List.cons_append, allV, hb, ih r hr]
      rfl
  exact key _ _ h
end Go.Proofs.Ytpehdgbdinjbaaa
