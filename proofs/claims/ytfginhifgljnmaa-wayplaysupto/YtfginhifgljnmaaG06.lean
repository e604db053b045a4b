/- What is proved here: plain facts and contracts that the claimed theorem stands on, several texts in one: what add does: the term is the last one on its way. No condition but that the ways lie in memory. plain facts: the order of right terms is turned round when its two terms are, is 0 of the same terms alone, and goes on in a row. No condition but that the terms are right. plain facts on what fits: the function fit of a pattern, a term and what is bound; pairs that are still to be asked; what a fit keeps. No condition. plain facts on rows of terms of whatever depth that a call owns: their cells, and what one that is put in leaves. No condition. -/
import Derived.Test.YtfginhifgljnmaaG05
import Derived.Test.YtfginhifgljnmaaG03
namespace Go.Proofs.Ytfginhifgljnmaa
open Go.RowKit Go.Maps

variable {base wp n N : Nat} {mo : Option Nat} {f : Int × Int → List (Tm N)} {sl : Int × Int → Value} {w : World}
/-- What is left of ways: one term more at a key. -/
def WyUp (base wp : Nat) (mo : Option Nat) (n N : Nat) (f : Int × Int → List (Tm N)) (sl : Int × Int → Value) (k : Int × Int) (l : List (Tm N)) (w w' : World) : Prop :=
  ∃ mo' sl', WyAt base wp mo' (n + 1) N (upd f k l) sl' w' ∧ Kee (wyM wp mo sl) w w' ∧ ∀ b, wyM wp mo' sl' b → wyM wp mo sl b ∨ w.heap.size ≤ b
theorem infoTermW : (Try.prog.info? 24).map (fun i => (i.zero, i.size, i.bytes)) = some (some (.agg #[.int .i64 0, .int .i64 0, .string ⟨#[]⟩, .slice none 0 0]), 4, 56) := by kernel_rfl
/-- What an entry that was opened leaves to be done. -/
def Ents (base mb n N : Nat) (f : Int × Int → List (Tm N)) (sl : Int × Int → Value) (k : Int × Int) (W : World) (st : Nat) (W1 : World) : Prop := Kee (fun b => b = mb) W W1 ∧ W1.heap.size = W.heap.size ∧ Ent base mb n N f sl k st W W1
theorem eq_some (mb : Nat) (W : World) : (binOp .eql 90 (.map (some mb)) (.map none)).run Try.prog W = .ok (.bool false) W := by kernel_rfl
theorem eq_none (W : World) : (binOp .eql 90 (.map none) (.map none)).run Try.prog W = .ok (.bool true) W := by kernel_rfl
theorem cells_kee {S : Nat → Prop} {W W1 : World} (h : Kee S W W1) {b : Nat} (hb : b < W.heap.size) (hS : ¬ S b) : ∀ o v, W.cell? ⟨b, o, none⟩ = some v → W1.cell? ⟨b, o, none⟩ = some v := fun o _ hv => (h.cell o hb hS).trans hv
set_option maxRecDepth 100000 in
set_option maxHeartbeats 2000000 in
/-- The last statement of add, wherever it begins. -/
theorem add_inmap (wp mb : Nat) (k0 k1 : Int) (y0 y1 : Int) (ys : ByteArray) (ya : Option Addr) (yl yc L sc : Nat) (sa : Option Addr) (xs : List Value) (base : Nat) (w wr : World) (X : World → Nat → World → Prop) (G : World → Prop) (hL : L < 1000) (hbw : base ≤ w.heap.size) (hwp : wp < w.heap.size) (hmb : mb < w.heap.size) (hne : wp ≠ mb)
    (hwr : wr = (w.alloc (.cells #[.int .i64 k0, .int .i64 k1] 88)).alloc (.cells #[.int .i64 y0, .int .i64 y1, .string ys, .slice ya yl yc] 24))
    (hrow : ∀ b, (Value.slice sa L sc).ownBlock = some b → b < w.heap.size ∧ b ≠ wp)
    (HC : Hid (w.cell? ⟨wp, 0, none⟩ = some (.map (some mb))))
    (HR : Hid (∀ W, Kee (fun b => b = mb) wr W → W.ownsRow base 24 4 (.slice sa L sc) L xs))
    (HE : Hid (∀ W, Below wr.heap.size wr W → ∃ (st : Nat) (W1 : World), (Instr.mapEntry 90 (.map (some mb)) (pk (k0, k1))).run Try.prog W = .ok (.tuple #[.slice sa L sc, goInt st]) W1 ∧ (Kee (fun b => b = mb) W W1 ∧ W1.heap.size = W.heap.size ∧ X W st W1)))
    (HS : Hid (∀ W st W1 W2 w5 g c, X W st W1 → Below wr.heap.size wr W → Kee (fun b => b = mb) W W1 → W1.heap.size = W.heap.size → Below W1.heap.size W1 W2 → W2.grownBy w5 (Value.slice sa L sc).ownBlock → w5.ownsRow base 24 4 (.slice (some ⟨g, 0, none⟩) (L + 1) c) (L + 1) (xs ++ [.int .i64 y0, .int .i64 y1, .string ys, .slice ya yl yc]) → ((Value.slice sa L sc).ownBlock = some g ∨ g = W2.heap.size) →
      ∃ w6, (Instr.entryStore 90 (.map (some mb)) (goInt st) (.slice (some ⟨g, 0, none⟩) (L + 1) c)).run Try.prog w5 = .ok () w6 ∧ (G w6 ∧ Kee (fun b => b = mb) w5 w6 ∧ w6.heap.size = w5.heap.size)))
    : Calls Try.prog 91 #[.pointer (some ⟨wp, 0, none⟩), .agg #[.int .i64 k0, .int .i64 k1], .agg #[.int .i64 y0, .int .i64 y1, .string ys, .slice ya yl yc]] w fun e w' => e = .returned (.tuple #[]) ∧ G w' := by
  obtain ⟨it, hit, htz0, htz1, htz2⟩ := info_parts infoTermW
  have HIT : Hid (Try.prog.info? 24 = some it ∧ it.zero = some (.agg #[.int .i64 0, .int .i64 0, .string ⟨#[]⟩, .slice none 0 0]) ∧ it.size = 4 ∧ it.bytes = 56) := ⟨hit, htz0, htz1, htz2⟩
  clear hit htz0 htz1 htz2
  have c0 := HC.out
  have HEQ := eq_some mb
  have HW : Hid (∃ q1 q2, q1 = w.heap.size ∧ q2 = w.heap.size + 1) := ⟨_, _, rfl, rfl⟩
  go_enter Try.func91, Try.ntmps91
  go_wp2_with fail
  obtain ⟨q1, q2, hq1, hq2⟩ := HW.out
  rw [← hwr, ← hq2, ← hq1]
  have hsr : wr.heap.size = w.heap.size + 2 := by rw [hwr]; simp
  have HBL : Hid (Below w.heap.size w wr) := by
    rw [hwr]
    exact ((Below.refl _ _).alloc (Nat.le_refl _) _).alloc (by simp) _
  have HQ1 : Hid (wr.heap[q1]? = some (.cells #[.int .i64 k0, .int .i64 k1] 88)) := by
    rw [hwr, hq1]
    exact (((Below.refl _ _).alloc (Nat.le_refl _) _).block w.heap.size (by simp)).trans (heap_alloc_new w _)
  have HQ2 : Hid (wr.heap[q2]? = some (.cells #[.int .i64 y0, .int .i64 y1, .string ys, .slice ya yl yc] 24)) := by
    rw [hwr, hq2]
    have h := heap_alloc_new (w.alloc (.cells #[.int .i64 k0, .int .i64 k1] 88)) (.cells #[.int .i64 y0, .int .i64 y1, .string ys, .slice ya yl yc] 24)
    have e : (w.alloc (.cells #[.int .i64 k0, .int .i64 k1] 88)).heap.size = w.heap.size + 1 := by simp
    rwa [e] at h
  have HP0 : Hid (wr.cell? ⟨wp, 0, none⟩ = some (.map (some mb))) := (HBL.out.cell (p := ⟨wp, 0, none⟩) hwp).trans c0
  have hl1 : q1 < wr.heap.size := by omega
  have hl2 : q2 < wr.heap.size := by omega
  have hlp : wp < wr.heap.size := by omega
  have hlm : mb < wr.heap.size := by omega
  have hbr : base ≤ wr.heap.size := by omega
  have hn1 : q1 ≠ mb := by omega
  have hn2 : q2 ≠ mb := by omega
  have hrw : ∀ b, (Value.slice sa L sc).ownBlock = some b → b ≠ q1 ∧ b ≠ q2 ∧ b ≠ wp := fun b hb => ⟨by have := (hrow b hb).1; omega, by have := (hrow b hb).1; omega, (hrow b hb).2⟩
  have HP : Hid (∀ W, Below wr.heap.size wr W → W.cell? ⟨wp, 0, none⟩ = some (.map (some mb)) ∧ (W.cell? ⟨q1, 0, none⟩ = some (.int .i64 k0) ∧ W.cell? ⟨q1, 1, none⟩ = some (.int .i64 k1)) ∧ (W.cell? ⟨q2, 0, none⟩ = some (.int .i64 y0) ∧ W.cell? ⟨q2, 1, none⟩ = some (.int .i64 y1) ∧ W.cell? ⟨q2, 2, none⟩ = some (.string ys) ∧ W.cell? ⟨q2, 3, none⟩ = some (.slice ya yl yc))) := by
    intro W hW
    have e1 := (hW.block q1 hl1).trans HQ1.out
    have e2 := (hW.block q2 hl2).trans HQ2.out
    exact ⟨(hW.cell (p := ⟨wp, 0, none⟩) hlp).trans HP0.out, ⟨by simp [World.cell?, e1], by simp [World.cell?, e1]⟩, by simp [World.cell?, e2], by simp [World.cell?, e2], by simp [World.cell?, e2], by simp [World.cell?, e2]⟩
  have HPC : Hid (∀ S W W1, Kee S W W1 → wr.heap.size ≤ W.heap.size → ¬ S wp → ¬ S q1 → ¬ S q2 → (W.cell? ⟨wp, 0, none⟩ = some (.map (some mb)) ∧ (W.cell? ⟨q1, 0, none⟩ = some (.int .i64 k0) ∧ W.cell? ⟨q1, 1, none⟩ = some (.int .i64 k1)) ∧ (W.cell? ⟨q2, 0, none⟩ = some (.int .i64 y0) ∧ W.cell? ⟨q2, 1, none⟩ = some (.int .i64 y1) ∧ W.cell? ⟨q2, 2, none⟩ = some (.string ys) ∧ W.cell? ⟨q2, 3, none⟩ = some (.slice ya yl yc))) →
      W1.cell? ⟨wp, 0, none⟩ = some (.map (some mb)) ∧ (W1.cell? ⟨q1, 0, none⟩ = some (.int .i64 k0) ∧ W1.cell? ⟨q1, 1, none⟩ = some (.int .i64 k1)) ∧ (W1.cell? ⟨q2, 0, none⟩ = some (.int .i64 y0) ∧ W1.cell? ⟨q2, 1, none⟩ = some (.int .i64 y1) ∧ W1.cell? ⟨q2, 2, none⟩ = some (.string ys) ∧ W1.cell? ⟨q2, 3, none⟩ = some (.slice ya yl yc))) := by
    rintro S W W1 hk hs s0 s1 s2 ⟨p0, ⟨p1, p2⟩, p3, p4, p5, p6⟩
    have a0 := cells_kee hk (b := wp) (by omega) s0
    have a1 := cells_kee hk (b := q1) (by omega) s1
    have a2 := cells_kee hk (b := q2) (by omega) s2
    exact ⟨a0 _ _ p0, ⟨a1 _ _ p1, a1 _ _ p2⟩, a2 _ _ p3, a2 _ _ p4, a2 _ _ p5, a2 _ _ p6⟩
  have HPK : Hid (∀ W W1, Below wr.heap.size wr W → Kee (fun b => b = mb) W W1 → W1.cell? ⟨wp, 0, none⟩ = some (.map (some mb)) ∧ (W1.cell? ⟨q1, 0, none⟩ = some (.int .i64 k0) ∧ W1.cell? ⟨q1, 1, none⟩ = some (.int .i64 k1)) ∧ (W1.cell? ⟨q2, 0, none⟩ = some (.int .i64 y0) ∧ W1.cell? ⟨q2, 1, none⟩ = some (.int .i64 y1) ∧ W1.cell? ⟨q2, 2, none⟩ = some (.string ys) ∧ W1.cell? ⟨q2, 3, none⟩ = some (.slice ya yl yc))) :=
    fun W W1 hW hk => HPC.out _ W W1 hk hW.size hne hn1 hn2 (HP.out W hW)
  have HPG : Hid (∀ W W1 w5, Below wr.heap.size wr W → Kee (fun b => b = mb) W W1 → W1.grownBy w5 (Value.slice sa L sc).ownBlock → w5.cell? ⟨wp, 0, none⟩ = some (.map (some mb)) ∧ (w5.cell? ⟨q1, 0, none⟩ = some (.int .i64 k0) ∧ w5.cell? ⟨q1, 1, none⟩ = some (.int .i64 k1)) ∧ (w5.cell? ⟨q2, 0, none⟩ = some (.int .i64 y0) ∧ w5.cell? ⟨q2, 1, none⟩ = some (.int .i64 y1) ∧ w5.cell? ⟨q2, 2, none⟩ = some (.string ys) ∧ w5.cell? ⟨q2, 3, none⟩ = some (.slice ya yl yc))) :=
    fun W W1 w5 hW hk hg => HPC.out _ W1 w5 (kee_grown hg) (Nat.le_trans hW.size hk.size) (fun e => (hrw _ e).2.2 rfl) (fun e => (hrw _ e).1 rfl) (fun e => (hrw _ e).2.1 rfl) (HPK.out W W1 hW hk)
  have HBc : Hid (Below wr.heap.size wr (wr.alloc (.cells #[.int .i64 y0, .int .i64 y1, .string ys, .slice ya yl yc] 24)).drew) := (show Below _ _ _ by go_grown)
  have HZc : Hid ((wr.alloc (.cells #[.int .i64 y0, .int .i64 y1, .string ys, .slice ya yl yc] 24)).drew.heap.size = wr.heap.size + 1) := (show _ = _ by simp [World.drew])
  have HKB : Hid (∀ W1, Kee (fun b => b = mb) (wr.alloc (.cells #[.int .i64 y0, .int .i64 y1, .string ys, .slice ya yl yc] 24)).drew W1 → Kee (fun b => b = mb) wr W1) := fun W1 hk => Kee.trans (kee_below HBc.out _) hk fun _ _ e => e
  have HNB : Hid (∀ W1, Kee (fun b => b = mb) (wr.alloc (.cells #[.int .i64 y0, .int .i64 y1, .string ys, .slice ya yl yc] 24)).drew W1 → W1.heap[wr.heap.size]? = some (.cells #[.int .i64 y0, .int .i64 y1, .string ys, .slice ya yl yc] 24)) :=
    fun W1 hk => (hk.block wr.heap.size (by rw [HZc.out]; omega) (by omega)).trans (heap_alloc_new wr _)
  have HPE : Hid (∀ w5 w6, (w5.cell? ⟨wp, 0, none⟩ = some (.map (some mb)) ∧ (w5.cell? ⟨q1, 0, none⟩ = some (.int .i64 k0) ∧ w5.cell? ⟨q1, 1, none⟩ = some (.int .i64 k1)) ∧ (w5.cell? ⟨q2, 0, none⟩ = some (.int .i64 y0) ∧ w5.cell? ⟨q2, 1, none⟩ = some (.int .i64 y1) ∧ w5.cell? ⟨q2, 2, none⟩ = some (.string ys) ∧ w5.cell? ⟨q2, 3, none⟩ = some (.slice ya yl yc))) → Kee (fun b => b = mb) w5 w6 → (w6.cell? ⟨wp, 0, none⟩ = some (.map (some mb)) ∧ (w6.cell? ⟨q1, 0, none⟩ = some (.int .i64 k0) ∧ w6.cell? ⟨q1, 1, none⟩ = some (.int .i64 k1)) ∧ (w6.cell? ⟨q2, 0, none⟩ = some (.int .i64 y0) ∧ w6.cell? ⟨q2, 1, none⟩ = some (.int .i64 y1) ∧ w6.cell? ⟨q2, 2, none⟩ = some (.string ys) ∧ w6.cell? ⟨q2, 3, none⟩ = some (.slice ya yl yc)))) := by
    rintro w5 w6 ⟨p0, ⟨p1, p2⟩, p3, p4, p5, p6⟩ hk
    have lt := fun (b o : Nat) (v : Value) (h : w5.cell? ⟨b, o, none⟩ = some v) => World.block_lt_of_cell? w5 ⟨b, o, none⟩ h
    exact ⟨cells_kee hk (lt _ _ _ p0) hne _ _ p0, ⟨cells_kee hk (lt _ _ _ p1) hn1 _ _ p1, cells_kee hk (lt _ _ _ p2) hn1 _ _ p2⟩, cells_kee hk (lt _ _ _ p3) hn2 _ _ p3, cells_kee hk (lt _ _ _ p4) hn2 _ _ p4, cells_kee hk (lt _ _ _ p5) hn2 _ _ p5, cells_kee hk (lt _ _ _ p6) hn2 _ _ p6⟩
  obtain ⟨p0, ⟨p1, p2⟩, p3, p4, p5, p6⟩ := HP.out wr (Below.refl _ _)
  obtain ⟨st, W1, hE1, hX1⟩ := HE.out _ HBc.out
  have HX1 := hide hX1
  have HP1 := hide (HPK.out _ _ HBc.out hX1.1)
  have HZ1 := hide (hX1.2.1.trans HZc.out)
  simp only [pk, goInt] at hE1
  clear hX1
  clear hq1 hq2 hwr HW hsr HP0 HQ1 HQ2 HPC c0 hl1 hl2 hlp hlm hn1 hn2 hrw HBL
  go_wp2_with fail
  go_region_held3 (fun W => W.cell? ⟨wp, 0, none⟩ = some (.map (some mb)) ∧ (W.cell? ⟨q1, 0, none⟩ = some (.int .i64 k0) ∧ W.cell? ⟨q1, 1, none⟩ = some (.int .i64 k1)) ∧ (W.cell? ⟨q2, 0, none⟩ = some (.int .i64 y0) ∧ W.cell? ⟨q2, 1, none⟩ = some (.int .i64 y1) ∧ W.cell? ⟨q2, 2, none⟩ = some (.string ys) ∧ W.cell? ⟨q2, 3, none⟩ = some (.slice ya yl yc)))
    (first | (go_keep; done) | exact HP.out _ (Below.refl _ _).drew | exact HP.out _ HBc.out | exact HP1.out | exact HP2.out | exact HP3.out) ((first
      | (refine step_append_lies _ rfl _ _ 22 rfl base 24 it _ 4 56 Try.underlying22 HIT.out.1 HIT.out.2.1 HIT.out.2.2.1 HIT.out.2.2.2 rfl (by decide) (.slice sa L sc) L xs (by simp [Act.eval]) (HR.out _ (HKB.out _ HX1.out.1)) ⟨wr.heap.size, 0, none⟩ 1 1 [.int .i64 y0, .int .i64 y1, .string ys, .slice ya yl yc] (by simp [Act.eval]) rfl (World.news_of_block (cs := #[.int .i64 y0, .int .i64 y1, .string ys, .slice ya yl yc]) (t := 24) (fr := (0, 0)) (HNB.out _ HX1.out.1)) (by simp [Value.oneCell']) (by decide) (by unfold maxLen; omega) (by omega) (by have := HZ1.out; omega) _ rfl ?_; intro g5 c5 w5 hown5 hgrow5 hat5 hlt5; have HST := HS.out _ _ _ _ _ g5 c5 HX1.out.2.2 HBc.out HX1.out.1 HX1.out.2.1 (Below.refl _ _) hgrow5 hown5 hat5; obtain ⟨w6, hE6, hX6⟩ := HST; have HX6 := hide hX6; simp only [goInt] at hE6; have HP2 := hide (HPG.out _ _ _ HBc.out HX1.out.1 hgrow5); have HP3 := hide (HPE.out _ _ HP2.out HX6.out.2.1); clear hown5 hgrow5 hat5 hlt5 hX6)))
  exact bodyPost_end (v := .tuple #[]) (by simp [results]) rfl ⟨rfl, HX6.out.1⟩
set_option maxRecDepth 100000 in
set_option maxHeartbeats 2000000 in
theorem add_nilmap (wp mb : Nat) (k0 k1 : Int) (y0 y1 : Int) (ys : ByteArray) (ya : Option Addr) (yl yc L sc : Nat) (sa : Option Addr) (xs : List Value) (base : Nat) (w wr : World) (X : World → Nat → World → Prop) (G : World → Prop) (hL : L < 1000) (hbw : base ≤ w.heap.size) (hwp : wp < w.heap.size) (hmb : mb = w.heap.size + 1 + 1)
    (hwr : wr = (((w.alloc (.cells #[.int .i64 k0, .int .i64 k1] 88)).alloc (.cells #[.int .i64 y0, .int .i64 y1, .string ys, .slice ya yl yc] 24)).alloc (.map #[] 0)).setCell ⟨wp, 0, none⟩ (.map (some mb)))
    (hrow : ∀ b, (Value.slice sa L sc).ownBlock = some b → b < w.heap.size ∧ b ≠ wp)
    (HC : Hid (w.heap[wp]? = some (.cells #[.map none] 160 (0, 0))))
    (HR : Hid (∀ W, Kee (fun b => b = mb) wr W → W.ownsRow base 24 4 (.slice sa L sc) L xs))
    (HE : Hid (∀ W, Below wr.heap.size wr W → ∃ (st : Nat) (W1 : World), (Instr.mapEntry 90 (.map (some mb)) (pk (k0, k1))).run Try.prog W = .ok (.tuple #[.slice sa L sc, goInt st]) W1 ∧ (Kee (fun b => b = mb) W W1 ∧ W1.heap.size = W.heap.size ∧ X W st W1)))
    (HS : Hid (∀ W st W1 W2 w5 g c, X W st W1 → Below wr.heap.size wr W → Kee (fun b => b = mb) W W1 → W1.heap.size = W.heap.size → Below W1.heap.size W1 W2 → W2.grownBy w5 (Value.slice sa L sc).ownBlock → w5.ownsRow base 24 4 (.slice (some ⟨g, 0, none⟩) (L + 1) c) (L + 1) (xs ++ [.int .i64 y0, .int .i64 y1, .string ys, .slice ya yl yc]) → ((Value.slice sa L sc).ownBlock = some g ∨ g = W2.heap.size) →
      ∃ w6, (Instr.entryStore 90 (.map (some mb)) (goInt st) (.slice (some ⟨g, 0, none⟩) (L + 1) c)).run Try.prog w5 = .ok () w6 ∧ (G w6 ∧ Kee (fun b => b = mb) w5 w6 ∧ w6.heap.size = w5.heap.size)))
    : Calls Try.prog 91 #[.pointer (some ⟨wp, 0, none⟩), .agg #[.int .i64 k0, .int .i64 k1], .agg #[.int .i64 y0, .int .i64 y1, .string ys, .slice ya yl yc]] w fun e w' => e = .returned (.tuple #[]) ∧ G w' := by
  obtain ⟨it, hit, htz0, htz1, htz2⟩ := info_parts infoTermW
  have HIT : Hid (Try.prog.info? 24 = some it ∧ it.zero = some (.agg #[.int .i64 0, .int .i64 0, .string ⟨#[]⟩, .slice none 0 0]) ∧ it.size = 4 ∧ it.bytes = 56) := ⟨hit, htz0, htz1, htz2⟩
  clear hit htz0 htz1 htz2
  have c0 : w.cell? ⟨wp, 0, none⟩ = some (.map none) := by simp [World.cell?, HC.out]
  have cA : (((w.alloc (.cells #[.int .i64 k0, .int .i64 k1] 88)).alloc (.cells #[.int .i64 y0, .int .i64 y1, .string ys, .slice ya yl yc] 24)).alloc (.map #[] 0)).heap[wp]? = some (.cells #[.map none] 160 (0, 0)) := (((((Below.refl w.heap.size w).alloc (Nat.le_refl _) _).alloc (by simp) _).alloc (by simp; omega) _).block wp hwp).trans HC.out
  have c1 : (((w.alloc (.cells #[.int .i64 k0, .int .i64 k1] 88)).alloc (.cells #[.int .i64 y0, .int .i64 y1, .string ys, .slice ya yl yc] 24)).alloc (.map #[] 0)).frozen? ⟨wp, 0, none⟩ = false := by
    unfold World.frozen?
    rw [show (⟨wp, 0, none⟩ : Addr).block = wp from rfl, cA]
    simp
  have c2 : (((w.alloc (.cells #[.int .i64 k0, .int .i64 k1] 88)).alloc (.cells #[.int .i64 y0, .int .i64 y1, .string ys, .slice ya yl yc] 24)).alloc (.map #[] 0)).cell? ⟨wp, 0, none⟩ = some (.map none) := cell_row cA 0
  clear cA
  have hne : wp ≠ mb := by omega
  have HEQ := eq_none
  have hmm := @run_makeMap Try.prog
  have HW : Hid (∃ q1 q2, q1 = w.heap.size ∧ q2 = w.heap.size + 1) := ⟨_, _, rfl, rfl⟩
  go_enter Try.func91, Try.ntmps91
  go_wp2_with fail
  obtain ⟨q1, q2, hq1, hq2⟩ := HW.out
  rw [← hmb, ← hwr, ← hq2, ← hq1]
  have hsr : wr.heap.size = w.heap.size + 3 := by rw [hwr]; simp [World.setCell]
  have hb0 : ∀ b, b ≠ wp → wr.heap[b]? = (((w.alloc (.cells #[.int .i64 k0, .int .i64 k1] 88)).alloc (.cells #[.int .i64 y0, .int .i64 y1, .string ys, .slice ya yl yc] 24)).alloc (.map #[] 0)).heap[b]? := fun b hb => by
    rw [hwr]
    have : wp ≠ b := fun e => hb e.symm
    simp [World.setCell, Array.getElem?_modify, this]
  have HQ1 : Hid (wr.heap[q1]? = some (.cells #[.int .i64 k0, .int .i64 k1] 88)) := by
    rw [hb0 q1 (by omega), hq1]
    exact ((((Below.refl _ _).alloc (Nat.le_refl _) _).alloc (by simp) _).block w.heap.size (by simp)).trans (heap_alloc_new w _)
  have HQ2 : Hid (wr.heap[q2]? = some (.cells #[.int .i64 y0, .int .i64 y1, .string ys, .slice ya yl yc] 24)) := by
    rw [hb0 q2 (by omega), hq2]
    have h := heap_alloc_new (w.alloc (.cells #[.int .i64 k0, .int .i64 k1] 88)) (.cells #[.int .i64 y0, .int .i64 y1, .string ys, .slice ya yl yc] 24)
    have e : (w.alloc (.cells #[.int .i64 k0, .int .i64 k1] 88)).heap.size = w.heap.size + 1 := by simp
    rw [e] at h
    exact (((Below.refl _ _).alloc (Nat.le_refl _) _).block (w.heap.size + 1) (by simp)).trans h
  have HP0 : Hid (wr.cell? ⟨wp, 0, none⟩ = some (.map (some mb))) := by
    have h := (((((Below.refl w.heap.size w).alloc (Nat.le_refl _) (.cells #[.int .i64 k0, .int .i64 k1] 88)).alloc (by simp) (.cells #[.int .i64 y0, .int .i64 y1, .string ys, .slice ya yl yc] 24)).alloc (by simp; omega) (.map #[] 0)).block wp hwp).trans HC.out
    rw [hwr]
    unfold Hid
    simp [World.cell?, World.setCell, Array.getElem?_modify, h]
  have hl1 : q1 < wr.heap.size := by omega
  have hl2 : q2 < wr.heap.size := by omega
  have hlp : wp < wr.heap.size := by omega
  have hlm : mb < wr.heap.size := by omega
  have hbr : base ≤ wr.heap.size := by omega
  have hn1 : q1 ≠ mb := by omega
  have hn2 : q2 ≠ mb := by omega
  have hrw : ∀ b, (Value.slice sa L sc).ownBlock = some b → b ≠ q1 ∧ b ≠ q2 ∧ b ≠ wp := fun b hb => ⟨by have := (hrow b hb).1; omega, by have := (hrow b hb).1; omega, (hrow b hb).2⟩
  have HP : Hid (∀ W, Below wr.heap.size wr W → W.cell? ⟨wp, 0, none⟩ = some (.map (some mb)) ∧ (W.cell? ⟨q1, 0, none⟩ = some (.int .i64 k0) ∧ W.cell? ⟨q1, 1, none⟩ = some (.int .i64 k1)) ∧ (W.cell? ⟨q2, 0, none⟩ = some (.int .i64 y0) ∧ W.cell? ⟨q2, 1, none⟩ = some (.int .i64 y1) ∧ W.cell? ⟨q2, 2, none⟩ = some (.string ys) ∧ W.cell? ⟨q2, 3, none⟩ = some (.slice ya yl yc))) := by
    intro W hW
    have e1 := (hW.block q1 hl1).trans HQ1.out
    have e2 := (hW.block q2 hl2).trans HQ2.out
    exact ⟨(hW.cell (p := ⟨wp, 0, none⟩) hlp).trans HP0.out, ⟨by simp [World.cell?, e1], by simp [World.cell?, e1]⟩, by simp [World.cell?, e2], by simp [World.cell?, e2], by simp [World.cell?, e2], by simp [World.cell?, e2]⟩
  have HPC : Hid (∀ S W W1, Kee S W W1 → wr.heap.size ≤ W.heap.size → ¬ S wp → ¬ S q1 → ¬ S q2 → (W.cell? ⟨wp, 0, none⟩ = some (.map (some mb)) ∧ (W.cell? ⟨q1, 0, none⟩ = some (.int .i64 k0) ∧ W.cell? ⟨q1, 1, none⟩ = some (.int .i64 k1)) ∧ (W.cell? ⟨q2, 0, none⟩ = some (.int .i64 y0) ∧ W.cell? ⟨q2, 1, none⟩ = some (.int .i64 y1) ∧ W.cell? ⟨q2, 2, none⟩ = some (.string ys) ∧ W.cell? ⟨q2, 3, none⟩ = some (.slice ya yl yc))) →
      W1.cell? ⟨wp, 0, none⟩ = some (.map (some mb)) ∧ (W1.cell? ⟨q1, 0, none⟩ = some (.int .i64 k0) ∧ W1.cell? ⟨q1, 1, none⟩ = some (.int .i64 k1)) ∧ (W1.cell? ⟨q2, 0, none⟩ = some (.int .i64 y0) ∧ W1.cell? ⟨q2, 1, none⟩ = some (.int .i64 y1) ∧ W1.cell? ⟨q2, 2, none⟩ = some (.string ys) ∧ W1.cell? ⟨q2, 3, none⟩ = some (.slice ya yl yc))) := by
    rintro S W W1 hk hs s0 s1 s2 ⟨p0, ⟨p1, p2⟩, p3, p4, p5, p6⟩
    have a0 := cells_kee hk (b := wp) (by omega) s0
    have a1 := cells_kee hk (b := q1) (by omega) s1
    have a2 := cells_kee hk (b := q2) (by omega) s2
    exact ⟨a0 _ _ p0, ⟨a1 _ _ p1, a1 _ _ p2⟩, a2 _ _ p3, a2 _ _ p4, a2 _ _ p5, a2 _ _ p6⟩
  have HPK : Hid (∀ W W1, Below wr.heap.size wr W → Kee (fun b => b = mb) W W1 → W1.cell? ⟨wp, 0, none⟩ = some (.map (some mb)) ∧ (W1.cell? ⟨q1, 0, none⟩ = some (.int .i64 k0) ∧ W1.cell? ⟨q1, 1, none⟩ = some (.int .i64 k1)) ∧ (W1.cell? ⟨q2, 0, none⟩ = some (.int .i64 y0) ∧ W1.cell? ⟨q2, 1, none⟩ = some (.int .i64 y1) ∧ W1.cell? ⟨q2, 2, none⟩ = some (.string ys) ∧ W1.cell? ⟨q2, 3, none⟩ = some (.slice ya yl yc))) :=
    fun W W1 hW hk => HPC.out _ W W1 hk hW.size hne hn1 hn2 (HP.out W hW)
  have HPG : Hid (∀ W W1 w5, Below wr.heap.size wr W → Kee (fun b => b = mb) W W1 → W1.grownBy w5 (Value.slice sa L sc).ownBlock → w5.cell? ⟨wp, 0, none⟩ = some (.map (some mb)) ∧ (w5.cell? ⟨q1, 0, none⟩ = some (.int .i64 k0) ∧ w5.cell? ⟨q1, 1, none⟩ = some (.int .i64 k1)) ∧ (w5.cell? ⟨q2, 0, none⟩ = some (.int .i64 y0) ∧ w5.cell? ⟨q2, 1, none⟩ = some (.int .i64 y1) ∧ w5.cell? ⟨q2, 2, none⟩ = some (.string ys) ∧ w5.cell? ⟨q2, 3, none⟩ = some (.slice ya yl yc))) :=
    fun W W1 w5 hW hk hg => HPC.out _ W1 w5 (kee_grown hg) (Nat.le_trans hW.size hk.size) (fun e => (hrw _ e).2.2 rfl) (fun e => (hrw _ e).1 rfl) (fun e => (hrw _ e).2.1 rfl) (HPK.out W W1 hW hk)
  have HBc : Hid (Below wr.heap.size wr (wr.alloc (.cells #[.int .i64 y0, .int .i64 y1, .string ys, .slice ya yl yc] 24)).drew) := (show Below _ _ _ by go_grown)
  have HZc : Hid ((wr.alloc (.cells #[.int .i64 y0, .int .i64 y1, .string ys, .slice ya yl yc] 24)).drew.heap.size = wr.heap.size + 1) := (show _ = _ by simp [World.drew])
  have HKB : Hid (∀ W1, Kee (fun b => b = mb) (wr.alloc (.cells #[.int .i64 y0, .int .i64 y1, .string ys, .slice ya yl yc] 24)).drew W1 → Kee (fun b => b = mb) wr W1) := fun W1 hk => Kee.trans (kee_below HBc.out _) hk fun _ _ e => e
  have HNB : Hid (∀ W1, Kee (fun b => b = mb) (wr.alloc (.cells #[.int .i64 y0, .int .i64 y1, .string ys, .slice ya yl yc] 24)).drew W1 → W1.heap[wr.heap.size]? = some (.cells #[.int .i64 y0, .int .i64 y1, .string ys, .slice ya yl yc] 24)) :=
    fun W1 hk => (hk.block wr.heap.size (by rw [HZc.out]; omega) (by omega)).trans (heap_alloc_new wr _)
  have HPE : Hid (∀ w5 w6, (w5.cell? ⟨wp, 0, none⟩ = some (.map (some mb)) ∧ (w5.cell? ⟨q1, 0, none⟩ = some (.int .i64 k0) ∧ w5.cell? ⟨q1, 1, none⟩ = some (.int .i64 k1)) ∧ (w5.cell? ⟨q2, 0, none⟩ = some (.int .i64 y0) ∧ w5.cell? ⟨q2, 1, none⟩ = some (.int .i64 y1) ∧ w5.cell? ⟨q2, 2, none⟩ = some (.string ys) ∧ w5.cell? ⟨q2, 3, none⟩ = some (.slice ya yl yc))) → Kee (fun b => b = mb) w5 w6 → (w6.cell? ⟨wp, 0, none⟩ = some (.map (some mb)) ∧ (w6.cell? ⟨q1, 0, none⟩ = some (.int .i64 k0) ∧ w6.cell? ⟨q1, 1, none⟩ = some (.int .i64 k1)) ∧ (w6.cell? ⟨q2, 0, none⟩ = some (.int .i64 y0) ∧ w6.cell? ⟨q2, 1, none⟩ = some (.int .i64 y1) ∧ w6.cell? ⟨q2, 2, none⟩ = some (.string ys) ∧ w6.cell? ⟨q2, 3, none⟩ = some (.slice ya yl yc)))) := by
    rintro w5 w6 ⟨p0, ⟨p1, p2⟩, p3, p4, p5, p6⟩ hk
    have lt := fun (b o : Nat) (v : Value) (h : w5.cell? ⟨b, o, none⟩ = some v) => World.block_lt_of_cell? w5 ⟨b, o, none⟩ h
    exact ⟨cells_kee hk (lt _ _ _ p0) hne _ _ p0, ⟨cells_kee hk (lt _ _ _ p1) hn1 _ _ p1, cells_kee hk (lt _ _ _ p2) hn1 _ _ p2⟩, cells_kee hk (lt _ _ _ p3) hn2 _ _ p3, cells_kee hk (lt _ _ _ p4) hn2 _ _ p4, cells_kee hk (lt _ _ _ p5) hn2 _ _ p5, cells_kee hk (lt _ _ _ p6) hn2 _ _ p6⟩
  obtain ⟨p0, ⟨p1, p2⟩, p3, p4, p5, p6⟩ := HP.out wr (Below.refl _ _)
  obtain ⟨st, W1, hE1, hX1⟩ := HE.out _ HBc.out
  have HX1 := hide hX1
  have HP1 := hide (HPK.out _ _ HBc.out hX1.1)
  have HZ1 := hide (hX1.2.1.trans HZc.out)
  simp only [pk, goInt] at hE1
  clear hX1
  clear hmb hb0 hq1 hq2 hwr HW hsr HP0 HQ1 HQ2 HPC c0 hl1 hl2 hlp hlm hn1 hn2 hrw
  go_wp2_with fail
  go_region_held3 (fun W => W.cell? ⟨wp, 0, none⟩ = some (.map (some mb)) ∧ (W.cell? ⟨q1, 0, none⟩ = some (.int .i64 k0) ∧ W.cell? ⟨q1, 1, none⟩ = some (.int .i64 k1)) ∧ (W.cell? ⟨q2, 0, none⟩ = some (.int .i64 y0) ∧ W.cell? ⟨q2, 1, none⟩ = some (.int .i64 y1) ∧ W.cell? ⟨q2, 2, none⟩ = some (.string ys) ∧ W.cell? ⟨q2, 3, none⟩ = some (.slice ya yl yc)))
    (first | (go_keep; done) | exact HP.out _ (Below.refl _ _).drew | exact HP.out _ HBc.out | exact HP1.out | exact HP2.out | exact HP3.out) ((first
      | (refine step_append_lies _ rfl _ _ 22 rfl base 24 it _ 4 56 Try.underlying22 HIT.out.1 HIT.out.2.1 HIT.out.2.2.1 HIT.out.2.2.2 rfl (by decide) (.slice sa L sc) L xs (by simp [Act.eval]) (HR.out _ (HKB.out _ HX1.out.1)) ⟨wr.heap.size, 0, none⟩ 1 1 [.int .i64 y0, .int .i64 y1, .string ys, .slice ya yl yc] (by simp [Act.eval]) rfl (World.news_of_block (cs := #[.int .i64 y0, .int .i64 y1, .string ys, .slice ya yl yc]) (t := 24) (fr := (0, 0)) (HNB.out _ HX1.out.1)) (by simp [Value.oneCell']) (by decide) (by unfold maxLen; omega) (by omega) (by have := HZ1.out; omega) _ rfl ?_; intro g5 c5 w5 hown5 hgrow5 hat5 hlt5; have HST := HS.out _ _ _ _ _ g5 c5 HX1.out.2.2 HBc.out HX1.out.1 HX1.out.2.1 (Below.refl _ _) hgrow5 hown5 hat5; obtain ⟨w6, hE6, hX6⟩ := HST; have HX6 := hide hX6; simp only [goInt] at hE6; have HP2 := hide (HPG.out _ _ _ HBc.out HX1.out.1 hgrow5); have HP3 := hide (HPE.out _ _ HP2.out HX6.out.2.1); clear hown5 hgrow5 hat5 hlt5 hX6)))
  exact bodyPost_end (v := .tuple #[]) (by simp [results]) rfl ⟨rfl, HX6.out.1⟩
end Go.Proofs.Ytfginhifgljnmaa
namespace Go.Proofs.Ytfginhifgljnmaa
open Go.RowKit

/-- How three comparisons stand to each other: first and second, second and third, first and third. -/
def C3 (f g h : Int) : Prop := (f ≤ 0 → g ≤ 0 → h ≤ 0 ∧ (h = 0 → f = 0 ∧ g = 0)) ∧ (0 ≤ f → 0 ≤ g → 0 ≤ h ∧ (h = 0 → f = 0 ∧ g = 0))
theorem C3_lex {f g h f' g' h' : Int} (H : C3 f g h) (H' : f = 0 → g = 0 → h = 0 → C3 f' g' h') : C3 (if f = 0 then f' else f) (if g = 0 then g' else g) (if h = 0 then h' else h) := by
  unfold C3 at *
  by_cases hf : f = 0
  · by_cases hg : g = 0
    · have hh : h = 0 := by omega
      have := H' hf hg hh
      rw [if_pos hf, if_pos hg, if_pos hh]
      exact this
    · have hh : ¬ h = 0 := by omega
      rw [if_pos hf, if_neg hg, if_neg hh]
      omega
  · by_cases hg : g = 0
    · have hh : ¬ h = 0 := by omega
      rw [if_neg hf, if_pos hg, if_neg hh]
      omega
    · by_cases hh : h = 0
      · rw [if_neg hf, if_neg hg, if_pos hh]
        omega
      · rw [if_neg hf, if_neg hg, if_neg hh]
        exact H
theorem cmpI_val (x y : Int) : (x < y ∧ cmpI x y = -1) ∨ (x = y ∧ cmpI x y = 0) ∨ (y < x ∧ cmpI x y = 1) := by
  unfold cmpI
  by_cases h : x < y
  · rw [if_pos h]; exact Or.inl ⟨h, rfl⟩
  · rw [if_neg h]
    by_cases h' : y < x
    · rw [if_pos h']; exact Or.inr (Or.inr ⟨h', rfl⟩)
    · rw [if_neg h']; exact Or.inr (Or.inl ⟨by omega, rfl⟩)
theorem cmpI_C3 (x y z : Int) : C3 (cmpI x y) (cmpI y z) (cmpI x z) := by
  have h1 := cmpI_val x y
  have h2 := cmpI_val y z
  have h3 := cmpI_val x z
  unfold C3
  omega
theorem cmpI_anti (x y : Int) : cmpI x y = - cmpI y x := by
  have h1 := cmpI_val x y
  have h2 := cmpI_val y x
  omega

theorem bl_asymm : (x y : List UInt8) → Op.bytesLess x y = true → Op.bytesLess y x = false
  | _, [], h => by simp [Op.bytesLess] at h
  | [], _ :: _, _ => by simp [Op.bytesLess]
  | a :: x, b :: y, h => by
    simp only [Op.bytesLess, Bool.or_eq_true, decide_eq_true_eq, Bool.and_eq_true, beq_iff_eq] at h
    simp only [Op.bytesLess, Bool.or_eq_false_iff, decide_eq_false_iff_not, Bool.and_eq_false_iff, beq_eq_false_iff_ne]
    rcases h with h | ⟨rfl, h⟩
    · rw [UInt8.lt_iff_toNat_lt] at h
      refine ⟨by rw [UInt8.lt_iff_toNat_lt]; omega, Or.inl fun e => by subst e; omega⟩
    · exact ⟨by rw [UInt8.lt_iff_toNat_lt]; omega, Or.inr (bl_asymm x y h)⟩
theorem bl_tri : (x y : List UInt8) → Op.bytesLess x y = false → Op.bytesLess y x = false → x = y
  | [], [], _, _ => rfl
  | [], _ :: _, h, _ => by simp [Op.bytesLess] at h
  | _ :: _, [], _, h => by simp [Op.bytesLess] at h
  | a :: x, b :: y, h, h' => by
    simp only [Op.bytesLess, Bool.or_eq_false_iff, decide_eq_false_iff_not, Bool.and_eq_false_iff, beq_eq_false_iff_ne] at h h'
    obtain ⟨h1, h2⟩ := h
    obtain ⟨h3, h4⟩ := h'
    have e : a = b := by
      rw [UInt8.lt_iff_toNat_lt] at h1 h3
      exact UInt8.toNat_inj.1 (by omega)
    subst e
    rw [bl_tri x y (h2.resolve_left (fun n => n rfl)) (h4.resolve_left (fun n => n rfl))]
theorem bl_trans : (x y z : List UInt8) → Op.bytesLess x y = true → Op.bytesLess y z = true → Op.bytesLess x z = true
  | _, [], _, h, _ => by simp [Op.bytesLess] at h
  | _, _ :: _, [], _, h => by simp [Op.bytesLess] at h
  | [], _ :: _, _ :: _, _, _ => by simp [Op.bytesLess]
  | a :: x, b :: y, c :: z, h, h' => by
    simp only [Op.bytesLess, Bool.or_eq_true, decide_eq_true_eq, Bool.and_eq_true, beq_iff_eq] at h h' ⊢
    rcases h with h | ⟨rfl, h⟩
    · rcases h' with h' | ⟨rfl, h'⟩
      · left; rw [UInt8.lt_iff_toNat_lt] at *; omega
      · exact Or.inl h
    · rcases h' with h' | ⟨rfl, h'⟩
      · exact Or.inl h'
      · exact Or.inr ⟨rfl, bl_trans x y z h h'⟩
theorem bl_irrefl (l : List UInt8) : Op.bytesLess l l = false := by
  induction l with
  | nil => rfl
  | cons a l ih => simp [Op.bytesLess, ih]
theorem cmpS_val (x y : ByteArray) : (Op.bytesLess x.toList y.toList = true ∧ cmpS x y = -1) ∨ (x.toList = y.toList ∧ cmpS x y = 0) ∨ (Op.bytesLess y.toList x.toList = true ∧ cmpS x y = 1) := by
  unfold cmpS
  cases h : Op.bytesLess x.toList y.toList
  · by_cases e : x.toList = y.toList
    · rw [e]; simp
    · have h' : Op.bytesLess y.toList x.toList = true := by
        cases h2 : Op.bytesLess y.toList x.toList
        · exact (e (bl_tri _ _ h h2)).elim
        · rfl
      have e' : (x.toList == y.toList) = false := by simpa using e
      rw [e']
      simp [h']
  · simp
theorem cmpS_anti (x y : ByteArray) : cmpS x y = - cmpS y x := by
  rcases cmpS_val x y with ⟨h1, e1⟩ | ⟨h1, e1⟩ | ⟨h1, e1⟩
  all_goals rcases cmpS_val y x with ⟨h2, e2⟩ | ⟨h2, e2⟩ | ⟨h2, e2⟩
  all_goals first
    | omega
    | (exfalso; first
        | (have := bl_asymm _ _ h1; rw [h2] at this; cases this)
        | (rw [h2, bl_irrefl] at h1; cases h1)
        | (rw [h1, bl_irrefl] at h2; cases h2))
theorem cmpS_C3 (x y z : ByteArray) : C3 (cmpS x y) (cmpS y z) (cmpS x z) := by
  unfold C3
  rcases cmpS_val x y with ⟨h1, e1⟩ | ⟨h1, e1⟩ | ⟨h1, e1⟩
  all_goals rcases cmpS_val y z with ⟨h2, e2⟩ | ⟨h2, e2⟩ | ⟨h2, e2⟩
  all_goals rcases cmpS_val x z with ⟨h3, e3⟩ | ⟨h3, e3⟩ | ⟨h3, e3⟩
  all_goals first
    | omega
    | (exfalso
       first
         | (have t := bl_trans _ _ _ h1 h2; first | (rw [h3, bl_irrefl] at t; cases t) | (rw [bl_asymm _ _ t] at h3; cases h3))
         | (have t := bl_trans _ _ _ h2 h1; first | (rw [h3, bl_irrefl] at t; cases t) | (rw [bl_asymm _ _ t] at h3; cases h3))
         | (rw [h1] at h3; first | (rw [bl_asymm _ _ h2] at h3; cases h3) | (rw [h3, bl_irrefl] at h2; cases h2) | (rw [h2, bl_irrefl] at h3; cases h3))
         | (rw [← h2] at h3; first | (rw [bl_asymm _ _ h1] at h3; cases h3) | (rw [h3, bl_irrefl] at h1; cases h1) | (rw [h1, bl_irrefl] at h3; cases h3)))

theorem ordL_anti {α β : Type} (f : α → β → Int) (g : β → α → Int) (h : ∀ a b, f a b = - g b a) : (p : List α) → (q : List β) → ordL f p q = - ordL g q p
  | [], [] => rfl
  | [], _ :: _ => rfl
  | _ :: _, [] => rfl
  | a :: p, b :: q => by
    simp only [ordL]
    rw [ordL_anti f g h p q, h a b]
    by_cases e : g b a = 0
    · rw [if_pos (by omega), if_pos e]
    · rw [if_neg (by omega), if_neg e]
theorem ord_anti : (n : Nat) → (x : Tm n) → (m : Nat) → (y : Tm m) → ord n x m y = - ord m y n x
  | 0, _, 0, _ => rfl
  | 0, _, _ + 1, _ => rfl
  | _ + 1, _, 0, _ => rfl
  | n + 1, x, m + 1, y => by
    have hl := ordL_anti (fun a b => ord n a m b) (fun b a => ord m b n a) (fun a b => ord_anti n a m b) x.2.2 y.2.2
    simp only [ord, hl]
    rw [cmpI_anti x.1.1, cmpI_anti x.1.2.1, cmpS_anti x.1.2.2, cmpI_anti (x.2.2.length : Int)]
    by_cases e : x.1.1 = y.1.1
    · rw [if_pos e, if_pos e.symm, e]
      by_cases e1 : y.1.1 = 1 ∨ y.1.1 = 3 ∨ y.1.1 = 5
      · rw [if_pos e1, if_pos e1]
      rw [if_neg e1, if_neg e1]
      by_cases e2 : y.1.1 = 2
      · rw [if_pos e2, if_pos e2]
      rw [if_neg e2, if_neg e2]
      by_cases e4 : y.1.1 = 4
      · rw [if_pos e4, if_pos e4]
        by_cases e5 : x.2.2.length = y.2.2.length
        · rw [if_pos e5, if_pos e5.symm]
        · rw [if_neg e5, if_neg (fun h => e5 h.symm)]
      · rw [if_neg e4, if_neg e4]; rfl
    · rw [if_neg e, if_neg (fun h => e h.symm)]

theorem ordL_C3 {α β γ : Type} (f : α → β → Int) (g : β → γ → Int) (h : α → γ → Int) : (p : List α) → (q : List β) → (r : List γ) → p.length = q.length → q.length = r.length →
    (∀ a ∈ p, ∀ b ∈ q, ∀ c ∈ r, C3 (f a b) (g b c) (h a c)) → C3 (ordL f p q) (ordL g q r) (ordL h p r)
  | [], [], [], _, _, _ => by simp [ordL, C3]
  | [], _ :: _, _, e, _, _ => by simp at e
  | _ :: _, [], _, e, _, _ => by simp at e
  | [], [], _ :: _, _, e, _ => by simp at e
  | _ :: _, _ :: _, [], _, e, _ => by simp at e
  | a :: p, b :: q, c :: r, e1, e2, H => by
    simp only [ordL]
    exact C3_lex (H a (by simp) b (by simp) c (by simp)) (fun _ _ _ => ordL_C3 f g h p q r (by simpa using e1) (by simpa using e2) (fun a' ha b' hb c' hc => H a' (by simp [ha]) b' (by simp [hb]) c' (by simp [hc])))

/-- The order within one kind. -/
def inner (k : Int) (n : Nat) (x : Tm (n + 1)) (m : Nat) (y : Tm (m + 1)) : Int :=
  if k = 1 ∨ k = 3 ∨ k = 5 then cmpI x.1.2.1 y.1.2.1 else if k = 2 then cmpS x.1.2.2 y.1.2.2
  else if k = 4 then (if cmpI x.2.2.length y.2.2.length = 0 then ordL (fun a b => ord n a m b) x.2.2 y.2.2 else cmpI x.2.2.length y.2.2.length) else 0
theorem ord_lex (n : Nat) (x : Tm (n + 1)) (m : Nat) (y : Tm (m + 1)) : ord (n + 1) x (m + 1) y = if cmpI x.1.1 y.1.1 = 0 then inner x.1.1 n x m y else cmpI x.1.1 y.1.1 := by
  have h := cmpI_val x.1.1 y.1.1
  have hl := cmpI_val x.2.2.length y.2.2.length
  have e : (if x.2.2.length = y.2.2.length then ordL (fun a b => ord n a m b) x.2.2 y.2.2 else cmpI x.2.2.length y.2.2.length) = (if cmpI x.2.2.length y.2.2.length = 0 then ordL (fun a b => ord n a m b) x.2.2 y.2.2 else cmpI x.2.2.length y.2.2.length) := by
    by_cases e : x.2.2.length = y.2.2.length
    · rw [if_pos e, if_pos (by omega)]
    · rw [if_neg e, if_neg (by omega)]
  simp only [ord, inner, e]
  by_cases e : x.1.1 = y.1.1
  · have hz : cmpI x.1.1 y.1.1 = 0 := by omega
    rw [if_pos e, if_pos hz]
  · have hz : ¬ cmpI x.1.1 y.1.1 = 0 := by omega
    rw [if_neg e, if_neg hz]

theorem zero_bad {x : Tm 0} (h : ∀ a ∈ nodes 0 x, good a = true) : False := by
  have := h ((0, 0, .empty), (none, 0, 0)) (by simp [nodes])
  rcases good_kind _ this with g | g | g | g | g | ⟨g, _⟩ <;> simp at g

theorem ord_C3 : (n : Nat) → (x : Tm n) → (m : Nat) → (y : Tm m) → (l : Nat) → (z : Tm l) → (∀ a ∈ nodes n x, good a = true) → (∀ a ∈ nodes m y, good a = true) → (∀ a ∈ nodes l z, good a = true) →
    C3 (ord n x m y) (ord m y l z) (ord n x l z)
  | 0, _, _, _, _, _, h, _, _ => (zero_bad h).elim
  | _ + 1, _, 0, _, _, _, _, h, _ => (zero_bad h).elim
  | _ + 1, _, _ + 1, _, 0, _, _, _, h => (zero_bad h).elim
  | n + 1, x, m + 1, y, l + 1, z, hx, hy, hz => by
    rw [ord_lex, ord_lex, ord_lex]
    refine C3_lex (cmpI_C3 _ _ _) (fun h1 h2 _ => ?_)
    have e1 : x.1.1 = y.1.1 := by have := cmpI_val x.1.1 y.1.1; omega
    rw [← e1]
    generalize x.1.1 = k
    unfold inner
    by_cases k1 : k = 1 ∨ k = 3 ∨ k = 5
    · rw [if_pos k1, if_pos k1, if_pos k1]; exact cmpI_C3 _ _ _
    rw [if_neg k1, if_neg k1, if_neg k1]
    by_cases k2 : k = 2
    · rw [if_pos k2, if_pos k2, if_pos k2]; exact cmpS_C3 _ _ _
    rw [if_neg k2, if_neg k2, if_neg k2]
    by_cases k4 : k = 4
    · rw [if_pos k4, if_pos k4, if_pos k4]
      refine C3_lex (cmpI_C3 _ _ _) (fun h1 h2 _ => ordL_C3 _ _ _ _ _ _ ?_ ?_ ?_)
      · have := cmpI_val x.2.2.length y.2.2.length; omega
      · have := cmpI_val y.2.2.length z.2.2.length; omega
      · exact fun a ha b hb c hc => ord_C3 n a m b l c (fun d hd => hx d (nodes_mem ha hd)) (fun d hd => hy d (nodes_mem hb hd)) (fun d hd => hz d (nodes_mem hc hd))
    · rw [if_neg k4, if_neg k4, if_neg k4]; simp [C3]

theorem ordL_range {α β : Type} (f : α → β → Int) (h : ∀ a b, -1 ≤ f a b ∧ f a b ≤ 1) : (p : List α) → (q : List β) → -1 ≤ ordL f p q ∧ ordL f p q ≤ 1
  | [], _ => by simp [ordL]
  | _ :: _, [] => by simp [ordL]
  | a :: p, b :: q => by
    simp only [ordL]
    by_cases e : f a b = 0
    · rw [if_pos e]; exact ordL_range f h p q
    · rw [if_neg e]; exact h a b
theorem ord_range : (n : Nat) → (x : Tm n) → (m : Nat) → (y : Tm m) → -1 ≤ ord n x m y ∧ ord n x m y ≤ 1
  | 0, _, _, _ => by simp [ord]
  | _ + 1, _, 0, _ => by simp [ord]
  | n + 1, x, m + 1, y => by
    have hl := ordL_range (fun a b => ord n a m b) (fun a b => ord_range n a m b) x.2.2 y.2.2
    have h1 := cmpI_val x.1.1 y.1.1
    have h2 := cmpI_val x.1.2.1 y.1.2.1
    have h3 := cmpS_val x.1.2.2 y.1.2.2
    have h4 := cmpI_val x.2.2.length y.2.2.length
    have h3' : -1 ≤ cmpS x.1.2.2 y.1.2.2 ∧ cmpS x.1.2.2 y.1.2.2 ≤ 1 := by rcases h3 with ⟨_, h⟩ | ⟨_, h⟩ | ⟨_, h⟩ <;> omega
    simp only [ord]
    generalize ordL (fun a b => ord n a m b) x.2.2 y.2.2 = r at *
    clear h3
    repeat' split
    all_goals omega

theorem ordL_same {α β : Type} (f : α → β → Int) (g : α → β → Bool) : (p : List α) → (q : List β) → p.length = q.length → (∀ a ∈ p, ∀ b ∈ q, (f a b = 0 ↔ g a b = true)) → (ordL f p q = 0 ↔ sameL g p q = true)
  | [], [], _, _ => by simp [ordL, sameL]
  | [], _ :: _, e, _ => by simp at e
  | _ :: _, [], e, _ => by simp at e
  | a :: p, b :: q, e, H => by
    have h0 := H a (by simp) b (by simp)
    have h1 := ordL_same f g p q (by simpa using e) (fun a' ha b' hb => H a' (by simp [ha]) b' (by simp [hb]))
    simp only [ordL, sameL, Bool.and_eq_true]
    by_cases e0 : f a b = 0
    · rw [if_pos e0, h1]
      exact ⟨fun h => ⟨h0.1 e0, h⟩, fun h => h.2⟩
    · rw [if_neg e0]
      exact ⟨fun h => (e0 h).elim, fun h => (e0 (h0.2 h.1)).elim⟩

theorem good_parts (x : Nd) (h : good x = true) : (x.1.1 ≠ 2 → x.1.2.2.toList = []) ∧ (x.1.1 = 2 → x.1.2.1 = 0) ∧ (x.1.1 = 4 → x.1.2.1 = 0) ∧ (x.1.1 = 6 → x.1.2.1 = 0) ∧ (x.1.1 ≠ 4 → x.2.2.1 = 0) := by
  have hk := good_kind x h
  unfold good at h
  rcases hk with g | g | g | g | g | ⟨g, g0⟩
  all_goals (rw [g] at h ⊢; simp at h ⊢; simp [h])

theorem ord_same : (n : Nat) → (x : Tm n) → (m : Nat) → (y : Tm m) → (∀ a ∈ nodes n x, good a = true) → (∀ a ∈ nodes m y, good a = true) → (ord n x m y = 0 ↔ same n x m y = true)
  | 0, _, _, _, h, _ => (zero_bad h).elim
  | _ + 1, _, 0, _, _, h => (zero_bad h).elim
  | n + 1, x, m + 1, y, hx, hy => by
    have gx := good_parts _ (hx (x.1, (x.2.1.1, x.2.2.length, x.2.1.2)) (by simp [nodes]))
    have gy := good_parts _ (hy (y.1, (y.2.1.1, y.2.2.length, y.2.1.2)) (by simp [nodes]))
    have kx := good_kind _ (hx (x.1, (x.2.1.1, x.2.2.length, x.2.1.2)) (by simp [nodes]))
    have hl := fun e => ordL_same (fun a b => ord n a m b) (fun a b => same n a m b) x.2.2 y.2.2 e (fun a ha b hb => ord_same n a m b (fun d hd => hx d (nodes_mem ha hd)) (fun d hd => hy d (nodes_mem hb hd)))
    simp only at gx gy kx
    simp only [ord, same]
    have hS := cmpS_val x.1.2.2 y.1.2.2
    have hI := cmpI_val x.1.2.1 y.1.2.1
    have hK := cmpI_val x.1.1 y.1.1
    have hL := cmpI_val x.2.2.length y.2.2.length
    obtain ⟨⟨k, u, s⟩, ⟨a, c⟩, p⟩ := x
    obtain ⟨⟨k', u', s'⟩, ⟨a', c'⟩, q⟩ := y
    simp only at *
    clear hx hy
    by_cases e : k = k'
    · subst e
      rw [if_pos rfl]
      have nilp : k ≠ 4 → p = [] ∧ q = [] := fun h => ⟨List.eq_nil_of_length_eq_zero (gx.2.2.2.2 h), List.eq_nil_of_length_eq_zero (gy.2.2.2.2 h)⟩
      have nils : k ≠ 2 → s.toList = [] ∧ s'.toList = [] := fun h => ⟨gx.1 h, gy.1 h⟩
      rcases kx with g | g | g | g | g | ⟨g, g0⟩
      · subst g
        obtain ⟨rfl, rfl⟩ := nilp (by decide)
        obtain ⟨e1, e2⟩ := nils (by decide)
        rw [if_pos (by decide), e1, e2]
        simp [sameL]
        omega
      · subst g
        obtain ⟨rfl, rfl⟩ := nilp (by decide)
        have u0 : u = 0 := gx.2.1 rfl
        have u1 : u' = 0 := gy.2.1 rfl
        subst u0 u1
        rw [if_neg (by decide), if_pos rfl]
        simp [sameL]
        rcases hS with ⟨h, h'⟩ | ⟨h, h'⟩ | ⟨h, h'⟩
        · refine ⟨fun e => by omega, fun e => ?_⟩
          rw [e, bl_irrefl] at h
          cases h
        · exact ⟨fun _ => h, fun _ => h'⟩
        · refine ⟨fun e => by omega, fun e => ?_⟩
          rw [e, bl_irrefl] at h
          cases h
      · subst g
        obtain ⟨rfl, rfl⟩ := nilp (by decide)
        obtain ⟨e1, e2⟩ := nils (by decide)
        rw [if_pos (by decide), e1, e2]
        simp [sameL]
        omega
      · subst g
        obtain ⟨e1, e2⟩ := nils (by decide)
        have u0 : u = 0 := gx.2.2.1 rfl
        have u1 : u' = 0 := gy.2.2.1 rfl
        subst u0 u1
        rw [if_neg (by decide), if_neg (by decide), if_pos rfl, e1, e2]
        by_cases el : p.length = q.length
        · rw [if_pos el, hl el]
          simp
        · rw [if_neg el, sameL_ne _ _ _ el]
          simp
          omega
      · subst g
        obtain ⟨rfl, rfl⟩ := nilp (by decide)
        obtain ⟨e1, e2⟩ := nils (by decide)
        rw [if_pos (by decide), e1, e2]
        simp [sameL]
        omega
      · subst g
        obtain ⟨rfl, rfl⟩ := nilp (by decide)
        obtain ⟨e1, e2⟩ := nils (by decide)
        have u1 : u' = 0 := gy.2.2.2.1 rfl
        subst g0 u1
        rw [if_neg (by decide), if_neg (by decide), if_neg (by decide), e1, e2]
        simp [sameL]
    · rw [if_neg e]
      have : (k == k') = false := by simpa using e
      rw [this]
      simp
      omega
end Go.Proofs.Ytfginhifgljnmaa
namespace Go.Proofs.Ytfginhifgljnmaa
open Go.RowKit

/-- A term of whatever depth. -/
abbrev An := (n : Nat) × Tm n
def kindA : An → Int
  | ⟨0, _⟩ => 0
  | ⟨_ + 1, x⟩ => x.1.1
def sameA (x y : An) : Bool := same x.1 x.2 y.1 y.2
def InA (B : Nat) (w : World) (x : An) : Prop := In B w x.1 x.2
def RightA (x : An) : Prop := ∀ a ∈ nodes x.1 x.2, good a = true

def fitL {α β S : Type} (f : α → β → S → Option S) : List α → List β → S → Option S
  | x :: p, y :: q, b => (f x y b).bind (fitL f p q)
  | _, _, b => some b

def fitV (b : List An) (i : Nat) (t : An) : Option (List An) :=
  match b[i]? with
  | some y => if kindA y = 6 then some (b.set i t) else if sameA y t then some b else none
  | none => none

def fit : (n : Nat) → Tm n → (m : Nat) → Tm m → List An → Option (List An)
  | n + 1, p, m + 1, t, b =>
    if p.1.1 = 6 then some b
    else if p.1.1 = 5 then fitV b p.1.2.1.toNat ⟨m + 1, t⟩
    else if p.1.1 = 4 then
      if t.1.1 = 4 ∧ p.2.2.length = t.2.2.length then fitL (fun x y b => fit n x m y b) p.2.2 t.2.2 b else none
    else if same (n + 1) p (m + 1) t then some b else none
  | _, _, _, _, _ => none
def fitA (x y : An) (b : List An) : Option (List An) := fit x.1 x.2 y.1 y.2 b

/-- Pairs that are still to be asked. -/
def fits : List (An × An) → List An → Option (List An)
  | [], b => some b
  | (x, y) :: r, b => (fitA x y b).bind (fits r)

def pairs (n m : Nat) (p : List (Tm n)) (q : List (Tm m)) : List (An × An) := List.zipWith (fun x y => (⟨n, x⟩, ⟨m, y⟩)) p q

theorem fits_pairs (n m : Nat) : (p : List (Tm n)) → (q : List (Tm m)) → (r : List (An × An)) → (b : List An) →
    fits (pairs n m p q ++ r) b = (fitL (fun x y b => fit n x m y b) p q b).bind (fits r)
  | [], q, r, b => by simp [pairs, fitL]
  | x :: p, [], r, b => by simp [pairs, fitL]
  | x :: p, y :: q, r, b => by
    show (fit n x m y b).bind (fits (pairs n m p q ++ r)) = ((fit n x m y b).bind (fitL (fun x y b => fit n x m y b) p q)).bind (fits r)
    rw [Option.bind_assoc]
    congr 1
    funext c
    exact fits_pairs n m p q r c

/-- What holds of each part of what it holds of. -/
def Parts (P : An → Prop) : Prop := ∀ (n : Nat) (x : Tm (n + 1)) (y : Tm n), P ⟨n + 1, x⟩ → y ∈ x.2.2 → P ⟨n, y⟩

theorem fitL_keep {α β S : Type} (f : α → β → S → Option S) (Q : S → Prop) : (p : List α) → (q : List β) → (∀ x ∈ p, ∀ y ∈ q, ∀ b c, Q b → f x y b = some c → Q c) → ∀ b c, Q b → fitL f p q b = some c → Q c
  | [], _, _, b, c, hb, h => by simp [fitL] at h; rw [← h]; exact hb
  | _ :: _, [], _, b, c, hb, h => by simp [fitL] at h; rw [← h]; exact hb
  | x :: p, y :: q, hf, b, c, hb, h => by
    simp only [fitL] at h
    obtain ⟨d, h1, h2⟩ := Option.bind_eq_some_iff.1 h
    exact fitL_keep f Q p q (fun x' hx y' hy => hf x' (List.mem_cons_of_mem _ hx) y' (List.mem_cons_of_mem _ hy)) d c (hf x (by simp) y (by simp) b d hb h1) h2

theorem fitV_keep (P : An → Prop) (b c : List An) (i : Nat) (t : An) (ht : P t) (hb : b.length = 4 ∧ ∀ y ∈ b, P y) (h : fitV b i t = some c) : c.length = 4 ∧ ∀ y ∈ c, P y := by
  unfold fitV at h
  split at h
  · split at h
    · obtain rfl := Option.some.inj h
      refine ⟨by simpa using hb.1, fun y hy => ?_⟩
      rcases List.mem_or_eq_of_mem_set hy with h1 | rfl
      · exact hb.2 y h1
      · exact ht
    · split at h
      · obtain rfl := Option.some.inj h
        exact hb
      · cases h
  · cases h

theorem fit_keep (P : An → Prop) (hP : Parts P) : (n : Nat) → (p : Tm n) → (m : Nat) → (t : Tm m) → P ⟨m, t⟩ → ∀ b c, (b.length = 4 ∧ ∀ y ∈ b, P y) → fit n p m t b = some c → (c.length = 4 ∧ ∀ y ∈ c, P y)
  | 0, _, _, _, _, _, _, _, h => by simp [fit] at h
  | n + 1, _, 0, _, _, _, _, _, h => by simp [fit] at h
  | n + 1, p, m + 1, t, ht, b, c, hb, h => by
    simp only [fit] at h
    split at h
    · obtain rfl := Option.some.inj h; exact hb
    split at h
    · exact fitV_keep P b c _ _ ht hb h
    split at h
    · split at h
      · exact fitL_keep _ _ p.2.2 t.2.2 (fun x hx y hy b c hb hc => fit_keep P hP n x m y (hP m t y ht hy) b c hb hc) b c hb h
      · cases h
    · split at h
      · obtain rfl := Option.some.inj h; exact hb
      · cases h

theorem fitL_drop {α β S : Type} (f : α → β → S → Option S) (p : List α) (q : List β) (k : Nat) (x : α) (y : β) (hx : p[k]? = some x) (hy : q[k]? = some y) (b : S) :
    fitL f (p.drop k) (q.drop k) b = (f x y b).bind (fitL f (p.drop (k + 1)) (q.drop (k + 1))) := by
  obtain ⟨h1, e1⟩ := List.getElem?_eq_some_iff.1 hx
  obtain ⟨h2, e2⟩ := List.getElem?_eq_some_iff.1 hy
  rw [List.drop_eq_getElem_cons h1, List.drop_eq_getElem_cons h2, e1, e2]
  rfl

theorem parts_in (B : Nat) (w : World) : Parts (InA B w) := by
  intro n x y h hy
  rcases h.2 with h1 | ⟨b, o, e, hb, h1⟩
  · have h2 : x.2.2 = [] := h1
    rw [h2] at hy
    cases hy
  · obtain ⟨i, hi⟩ := List.getElem?_of_mem hy
    exact (h1 i y hi).2
theorem parts_right : Parts RightA := fun _ _ _ h hy a ha => h a (nodes_mem hy ha)
theorem parts_and {P Q : An → Prop} (hP : Parts P) (hQ : Parts Q) : Parts fun x => P x ∧ Q x := fun n x y h hy => ⟨hP n x y h.1 hy, hQ n x y h.2 hy⟩
end Go.Proofs.Ytfginhifgljnmaa
namespace Go.Proofs.Ytfginhifgljnmaa
open Go.RowKit

def ndA (a : An) : Nd := hdT a.1 a.2
def anCells (l : List An) : List Value := ndCells (l.map ndA)
theorem anCells_length (l : List An) : (anCells l).length = l.length * 4 := by simp [anCells, ndCells_length]
theorem anCells_one (l : List An) : ∀ u ∈ anCells l, u.oneCell' = true := ndCells_one _
theorem anCells_append (l r : List An) : anCells (l ++ r) = anCells l ++ anCells r := by simp [anCells, ndCells_append]

/-- A row of such terms that is owned. -/
def Has (base : Nat) (g c : Nat) (b : List An) (w : World) : Prop := w.ownsRow base 24 4 (.slice (some ⟨g, 0, none⟩) b.length c) b.length (anCells b)

theorem Has.cells {base g c : Nat} {b : List An} {w : World} (h : Has base g c b w) (i : Nat) (y : An) (hy : b[i]? = some y) :
    w.cell? ⟨g, i * 4, none⟩ = some (.int .i64 (ndA y).1.1) ∧ w.cell? ⟨g, i * 4 + 1, none⟩ = some (.int .i64 (ndA y).1.2.1) ∧ w.cell? ⟨g, i * 4 + 2, none⟩ = some (.string (ndA y).1.2.2) ∧ w.cell? ⟨g, i * 4 + 3, none⟩ = some (.slice (ndA y).2.1 (ndA y).2.2.1 (ndA y).2.2.2) :=
  own_nd (l := b.map ndA) h i (ndA y) (by simp [hy])
theorem Has.lt {base g c : Nat} {b : List An} {w : World} (h : Has base g c b w) : base ≤ g ∧ g < w.heap.size := World.ownsRow.lt h g rfl
theorem Has.kept {base g c : Nat} {b : List An} {w w' : World} (h : Has base g c b w) {row : Option Nat} (hg : w.grownBy w' row) (hne : row ≠ some g) : Has base g c b w' :=
  World.ownsRow.kept h hg (Or.inr fun e => hne e.symm)
theorem grown_of_below {w w' : World} (h : Below w.heap.size w w') (row : Option Nat) : w.grownBy w' row := ⟨h.os, h.tape, h.output, h.size, fun k hk _ => h.block k hk⟩
theorem Has.below {base g c : Nat} {b : List An} {w w' : World} (h : Has base g c b w) (hb : Below w.heap.size w w') : Has base g c b w' := h.kept (grown_of_below hb none) (by simp)
theorem grown_below {w w' : World} {g B : Nat} (h : w.grownBy w' (some g)) (hB : B ≤ g) (hg : g < w.heap.size) : Below B w w' := ⟨h.os, h.tape, h.output, h.size, fun k hk => h.block k (by omega) (by simp; omega)⟩
theorem grown_trans {w w1 w2 : World} {row : Option Nat} (h : w.grownBy w1 row) (k : w1.grownBy w2 row) : w.grownBy w2 row :=
  ⟨k.os.trans h.os, k.tape.trans h.tape, k.output.trans h.output, Nat.le_trans h.size k.size, fun b hb hne => (k.block b (Nat.lt_of_lt_of_le hb h.size) hne).trans (h.block b hb hne)⟩
theorem Has.free {base g c : Nat} {b : List An} {w : World} (h : Has base g c b w) (j : Nat) : w.frozen? ⟨g, j, none⟩ = false := by
  obtain ⟨h1, h2⟩ := h
  rcases h2 with ⟨h2, _⟩ | ⟨g', cap, cur, hv, hg, hh, hc, hm, hz, he⟩
  · simp at h2
  · injection hv with e1 e2 e3
    injection e1 with e1
    injection e1 with e1 _
    subst e1
    simp [World.frozen?, hh]

def put4 (w : World) (g o : Nat) (v0 v1 v2 v3 : Value) : World := (((w.setCell ⟨g, o, none⟩ v0).setCell ⟨g, o + 1, none⟩ v1).setCell ⟨g, o + 2, none⟩ v2).setCell ⟨g, o + 3, none⟩ v3
def putNd (w : World) (g o : Nat) (x : Nd) : World := put4 w g o (.int .i64 x.1.1) (.int .i64 x.1.2.1) (.string x.1.2.2) (.slice x.2.1 x.2.2.1 x.2.2.2)

theorem cell_set {w : World} {base e size g L c : Nat} {xs : List Value} (h : w.ownsRow base e size (.slice (some ⟨g, 0, none⟩) L c) L xs) (j : Nat) (u : Value) :
    (w.setCell ⟨g, j, none⟩ u).ownsRow base e size (.slice (some ⟨g, 0, none⟩) L c) L (xs.set j u) := by
  obtain ⟨h1, h2⟩ := h
  refine ⟨by simpa using h1, ?_⟩
  rcases h2 with ⟨h2, _⟩ | ⟨g', cap, cur, hv, hg, hh, hc, hm, hz, he⟩
  · simp at h2
  · injection hv with e1 e2 e3
    injection e1 with e1
    injection e1 with e1 _
    subst e1 e3
    refine Or.inr ⟨g, c, cur.setIfInBounds j u, rfl, hg, ?_, hc, hm, by simpa using hz, ?_⟩
    · simp [World.setCell, Array.getElem?_modify, hh]
    · rw [← he]
      simp [List.take_set]

theorem ndCells_set : (l : List Nd) → (i : Nat) → (x : Nd) → i < l.length →
    ((((ndCells l).set (i * 4) (.int .i64 x.1.1)).set (i * 4 + 1) (.int .i64 x.1.2.1)).set (i * 4 + 2) (.string x.1.2.2)).set (i * 4 + 3) (.slice x.2.1 x.2.2.1 x.2.2.2) = ndCells (l.set i x)
  | [], i, x, h => by simp at h
  | y :: l, 0, x, _ => by simp [ndCells, nd4]
  | y :: l, i + 1, x, h => by
    have ih := ndCells_set l i x (by simpa using h)
    have e : ndCells (y :: l) = nd4 y ++ ndCells l := rfl
    have e' : ndCells ((y :: l).set (i + 1) x) = nd4 y ++ ndCells (l.set i x) := rfl
    have hy : (nd4 y).length = 4 := rfl
    rw [e, e', ← ih]
    rw [List.set_append_right _ _ (by rw [hy]; omega), List.set_append_right _ _ (by rw [hy]; omega), List.set_append_right _ _ (by rw [hy]; omega), List.set_append_right _ _ (by rw [hy]; omega), hy]
    rw [show (i + 1) * 4 - 4 = i * 4 by omega, show (i + 1) * 4 + 1 - 4 = i * 4 + 1 by omega, show (i + 1) * 4 + 2 - 4 = i * 4 + 2 by omega, show (i + 1) * 4 + 3 - 4 = i * 4 + 3 by omega]

theorem Has.put {base g c : Nat} {b : List An} {w : World} (h : Has base g c b w) (i : Nat) (t : An) (hi : i < b.length) : Has base g c (b.set i t) (putNd w g (i * 4) (ndA t)) := by
  have h4 := cell_set (cell_set (cell_set (cell_set h (i * 4) (.int .i64 (ndA t).1.1)) (i * 4 + 1) (.int .i64 (ndA t).1.2.1)) (i * 4 + 2) (.string (ndA t).1.2.2)) (i * 4 + 3) (.slice (ndA t).2.1 (ndA t).2.2.1 (ndA t).2.2.2)
  unfold anCells at h4
  rw [ndCells_set (b.map ndA) i (ndA t) (by simpa using hi)] at h4
  unfold Has anCells
  rw [List.map_set, List.length_set]
  exact h4

theorem put4_block {w : World} {g b o : Nat} (h : b ≠ g) (v0 v1 v2 v3 : Value) : (put4 w g o v0 v1 v2 v3).heap[b]? = w.heap[b]? := by
  have hne : g ≠ b := fun e => h e.symm
  simp [put4, World.setCell, Array.getElem?_modify, hne]
theorem put4_size {w : World} {g o : Nat} (v0 v1 v2 v3 : Value) : (put4 w g o v0 v1 v2 v3).heap.size = w.heap.size := by simp [put4, World.setCell]
theorem put4_grown {w : World} {g o : Nat} (v0 v1 v2 v3 : Value) : w.grownBy (put4 w g o v0 v1 v2 v3) (some g) :=
  ⟨rfl, rfl, rfl, Nat.le_of_eq (put4_size _ _ _ _).symm, fun k _ hne => put4_block (fun e => hne (by rw [e])) _ _ _ _⟩

theorem val_nd (n : Nat) (x : Tm (n + 1)) : val (n + 1) x = .agg #[.int .i64 (ndA ⟨n + 1, x⟩).1.1, .int .i64 (ndA ⟨n + 1, x⟩).1.2.1, .string (ndA ⟨n + 1, x⟩).1.2.2, .slice (ndA ⟨n + 1, x⟩).2.1 (ndA ⟨n + 1, x⟩).2.2.1 (ndA ⟨n + 1, x⟩).2.2.2] := rfl

theorem boxed {w w' : World} {v0 v1 v2 v3 : Value} {t : TypeId} (hb : Below (w.alloc (.cells #[v0, v1, v2, v3] t)).heap.size (w.alloc (.cells #[v0, v1, v2, v3] t)) w') :
    (w'.cell? ⟨w.heap.size, 0, none⟩ = some v0 ∧ w'.cell? ⟨w.heap.size, 1, none⟩ = some v1 ∧ w'.cell? ⟨w.heap.size, 2, none⟩ = some v2 ∧ w'.cell? ⟨w.heap.size, 3, none⟩ = some v3) ∧
    (w'.frozen? ⟨w.heap.size, 0, none⟩ = false ∧ w'.frozen? ⟨w.heap.size, 1, none⟩ = false ∧ w'.frozen? ⟨w.heap.size, 2, none⟩ = false ∧ w'.frozen? ⟨w.heap.size, 3, none⟩ = false) := by
  have hc := fun o => hb.cell (p := ⟨w.heap.size, o, none⟩) (by simp)
  have hf := fun o => hb.frozen (p := ⟨w.heap.size, o, none⟩) (by simp)
  exact ⟨⟨(hc 0).trans (by simp [go_sem]), (hc 1).trans (by simp [go_sem]), (hc 2).trans (by simp [go_sem]), (hc 3).trans (by simp [go_sem])⟩, (hf 0).trans (by simp [go_sem]), (hf 1).trans (by simp [go_sem]), (hf 2).trans (by simp [go_sem]), (hf 3).trans (by simp [go_sem])⟩

theorem cells_nx {w1 w2 : World} {q : Nat} {u0 u1 u2 u3 : Value} (hq : q < w1.heap.size) (h : Below w1.heap.size w1 w2)
    (k : w1.cell? ⟨q, 0, none⟩ = some u0 ∧ w1.cell? ⟨q, 1, none⟩ = some u1 ∧ w1.cell? ⟨q, 2, none⟩ = some u2 ∧ w1.cell? ⟨q, 3, none⟩ = some u3) :
    w2.cell? ⟨q, 0, none⟩ = some u0 ∧ w2.cell? ⟨q, 1, none⟩ = some u1 ∧ w2.cell? ⟨q, 2, none⟩ = some u2 ∧ w2.cell? ⟨q, 3, none⟩ = some u3 := by
  obtain ⟨b0, b1, b2, b3⟩ := k
  have hcc := below_cells h
  exact ⟨(hcc _ _ hq).trans b0, (hcc _ _ hq).trans b1, (hcc _ _ hq).trans b2, (hcc _ _ hq).trans b3⟩

/-- What a walk on what fits leaves. -/
def FitPost (base g c : Nat) (o : Option (List An)) (w : World) (e : Ending) (w' : World) : Prop :=
  e = .returned (.bool o.isSome) ∧ w.grownBy w' (some g) ∧ ∀ b, o = some b → Has base g c b w'
def Bnd (B : Nat) (w : World) (b : List An) : Prop := b.length = 4 ∧ ∀ y ∈ b, InA B w y ∧ RightA y
theorem InA.below {B : Nat} {w w' : World} (h : Below B w w') {x : An} (k : InA B w x) : InA B w' x := In.below h k
theorem Bnd.below {B : Nat} {w w' : World} (h : Below B w w') {b : List An} (k : Bnd B w b) : Bnd B w' b := ⟨k.1, fun y hy => ⟨(k.2 y hy).1.below h, (k.2 y hy).2⟩⟩
theorem Bnd.fit {B : Nat} {w : World} {b b' : List An} (k : Bnd B w b) {n m : Nat} {p : Tm n} {t : Tm m} (ht : In B w m t) (hr : RightA ⟨m, t⟩) (h : fit n p m t b = some b') : Bnd B w b' :=
  fit_keep (fun x => InA B w x ∧ RightA x) (parts_and (parts_in B w) parts_right) n p m t ⟨ht, hr⟩ b b' k h
def FFit (n : Nat) : Prop := ∀ (p : Tm n) (m : Nat) (t : Tm m) (b : List An) (base g c B : Nat) (w : World), In B w n p → In B w m t → RightA ⟨n, p⟩ → RightA ⟨m, t⟩ → Bnd B w b → B ≤ base → Has base g c b w →
  Calls Try.prog 76 #[.slice (some ⟨g, 0, none⟩) 4 c, val n p, val m t] w (FitPost base g c (fit n p m t b) w)
end Go.Proofs.Ytfginhifgljnmaa
