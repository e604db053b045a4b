/- What is proved here: Live and Collect of a heap, from what allStand and reached do. No condition but those. -/
import Derived.Test.YtfaoeccnhbcjgabHp22
namespace Go.Proofs.Ytfaoeccnhbcjgab
open Go.RowKit Go.Maps

set_option maxHeartbeats 1000000 in
set_option maxRecDepth 100000 in
theorem live_walk (R : List Wd × List Wd × Went) (hp : Nat) (ta : Option Addr) (L tc : Nat) (a : Option Addr) (len pc : Nat) (w : World) (hhp : hp < w.heap.size) (c1 : w.cell? ⟨hp, 1, none⟩ = some (.slice ta L tc))
    (HA : Hid (Calls Try.prog 46 #[.pointer (some ⟨hp, 0, none⟩), .slice a len pc] w fun e w' => e = .returned (.bool true) ∧ Below w.heap.size w w'))
    (HC : Hid (∀ w1, Below w.heap.size w w1 → Calls Try.prog 50 #[.slice ta L tc, .slice a len pc] w1 fun e w' => ∃ g tv, e = .returned (.tuple #[tv, .slice (some ⟨g, 0, none⟩) len len]) ∧ Hid (ReachOut R len g tv w1 w'))) :
    Calls Try.prog 20 #[.pointer (some ⟨hp, 0, none⟩), .slice a len pc] w fun e w' => e = .returned (.tuple #[.int .i64 R.2.1.length, .int .i64 0]) ∧ Below w.heap.size w w' := by
  go_enter Try.func20, Try.ntmps20
  go_wp2_with fail
  refine HA.out.mono ?_
  rintro e w1 ⟨rfl, hb⟩
  have HB := hide hb
  replace c1 := (below_cells hb hp 1 hhp).trans c1
  clear hb HA
  go_wp2_with fail
  refine (HC.out w1 HB.out).mono ?_
  rintro e w2 ⟨g, tv, rfl, H⟩
  obtain ⟨ta', tc', rfl⟩ : ∃ ta' tc', tv = .slice ta' R.2.1.length tc' := by
    rcases H.out.2.1.2 with ⟨e, e0⟩ | ⟨g, c, cur, e, _⟩
    · exact ⟨none, 0, by rw [e, e0]⟩
    · exact ⟨_, c, e⟩
  have HB2 : Hid (Below w.heap.size w w2) := HB.out.trans (H.out.1.mono HB.out.size)
  clear HC H
  go_wp2_with fail
  go_ret2
  exact ⟨rfl, HB2.out⟩

/-- What Collect leaves. -/
theorem collect_out {base hp : Nat} {room : Int} {ws : List Wd} {nm : List ByteArray} {M : Nat → Prop} {R : List Wd × List Wd × Went} {len g : Nat} {tv : Value} {w w1 w2 : World} (h : HpAt base hp room ws nm M w) (hb : Below w.heap.size w w1) (hr : ReachOut R len g tv w1 w2) (hbw : base ≤ w.heap.size) : Laid base hp room R.2.1 nm M w (w2.setCell ⟨hp, 1, none⟩ tv) := by
  obtain ⟨r1, r2, r3, r4, r5⟩ := hr
  have hs := hb.size
  have hb2 := hb.trans (r1.mono hs)
  obtain ⟨tv0, lv, mv, h1, h2, h3, h4, h5, h6, h7⟩ := h.later hb2
  have k := keep_set w2 hp 1 tv
  have r6 : ∀ b, tv.ownBlock = some b → w1.heap.size ≤ b := fun b e => (r2.lt b e).1
  refine ⟨⟨tv, lv, mv, h1.set1 tv, row_kept (own_base r2 (by omega)) k (fun b e e' => ?_), h3.kept k (fun b e e' => ?_) (fun b e e' => ?_), Or.inl h4.1, fun b e => Or.inr (by have := r6 b e; omega), fun b e => Or.inl (h6 b e).1, fun b e => Or.inl (h7 b e).1⟩, (keep_below hb2 M).trans k ?_⟩
  · subst e'
    have := r6 b e
    have := h4.2
    omega
  · subst e'
    exact row_box h3.1 h1 (by decide) e
  · subst e'
    exact map_box h3 h1 e
  · rintro b _ rfl
    exact h4.1

set_option maxHeartbeats 1000000 in
set_option maxRecDepth 100000 in
theorem collect_walk (R : List Wd × List Wd × Went) (hp : Nat) (ta : Option Addr) (L tc : Nat) (a : Option Addr) (len pc : Nat) (w : World) (hhp : hp < w.heap.size) (c1 : w.cell? ⟨hp, 1, none⟩ = some (.slice ta L tc)) (f1 : w.frozen? ⟨hp, 1, none⟩ = false)
    (HA : Hid (Calls Try.prog 46 #[.pointer (some ⟨hp, 0, none⟩), .slice a len pc] w fun e w' => e = .returned (.bool true) ∧ Below w.heap.size w w'))
    (HC : Hid (∀ w1, Below w.heap.size w w1 → Calls Try.prog 50 #[.slice ta L tc, .slice a len pc] w1 fun e w' => ∃ g tv, e = .returned (.tuple #[tv, .slice (some ⟨g, 0, none⟩) len len]) ∧ Hid (ReachOut R len g tv w1 w'))) :
    Calls Try.prog 21 #[.pointer (some ⟨hp, 0, none⟩), .slice a len pc] w fun e w' => ∃ g tv w1 w2, e = .returned (.tuple #[.slice (some ⟨g, 0, none⟩) len len, .int .i64 0]) ∧ w' = w2.setCell ⟨hp, 1, none⟩ tv ∧ Hid (Below w.heap.size w w1 ∧ ReachOut R len g tv w1 w2) := by
  go_enter Try.func21, Try.ntmps21
  go_wp2_with fail
  refine HA.out.mono ?_
  rintro e w1 ⟨rfl, hb⟩
  have HB := hide hb
  replace c1 := (below_cells hb hp 1 hhp).trans c1
  replace f1 := (below_free hb hp 1 hhp).trans f1
  have hhp1 : hp < w1.heap.size := Nat.lt_of_lt_of_le hhp hb.size
  clear hb HA
  go_wp2_with fail
  refine (HC.out w1 HB.out).mono ?_
  rintro e w2 ⟨g, tv, rfl, H⟩
  obtain ⟨ta', tc', rfl⟩ : ∃ ta' tc', tv = .slice ta' R.2.1.length tc' := by
    rcases H.out.2.1.2 with ⟨e, e0⟩ | ⟨g, c, cur, e, _⟩
    · exact ⟨none, 0, by rw [e, e0]⟩
    · exact ⟨_, c, e⟩
  replace c1 := (below_cells H.out.1 hp 1 hhp1).trans c1
  replace f1 := (below_free H.out.1 hp 1 hhp1).trans f1
  clear HC
  go_wp2_with fail
  go_ret2
  exact ⟨g, _, w1, w2, rfl, rfl, HB.out, H.out⟩
end Go.Proofs.Ytfaoeccnhbcjgab
