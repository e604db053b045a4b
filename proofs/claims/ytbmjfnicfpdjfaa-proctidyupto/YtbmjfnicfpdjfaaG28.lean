/- What is proved here: plain facts and contracts that the claimed theorem stands on, several texts in one: proc's become: the state is given up for another one, if there is room; else the old one is laid again. No condition but that all lies in memory. how what a step does (doing) lies in memory, and what doing.value and doing.process tell in it. No condition but that all lies in memory. what doing's send and link leave, by the plain function of an act (doA). No condition but that all lies in memory. what doing's send leaves, by the plain function of an act (doA). No condition but that all lies in memory. what doing's spawn leaves, by the plain function of an act (doA). No condition but that all lies in memory. -/
import Derived.Test.YtbmjfnicfpdjfaaG20
import Derived.Test.YtbmjfnicfpdjfaaG27
import Derived.Test.YtbmjfnicfpdjfaaG17
import Derived.Test.YtbmjfnicfpdjfaaG19
import Derived.Test.YtbmjfnicfpdjfaaG18
namespace Go.Proofs.Ytbmjfnicfpdjfaa
open Go.RowKit

/-- A word laid into the state's cells. -/
def stW (w : World) (pb : Nat) (a b : Int) : World := (w.setCell ⟨pb, 5, none⟩ (.int .i64 a)).setCell ⟨pb, 6, none⟩ (.int .i64 b)
/-- What holds of the boxes of a call, and of the state's cells. -/
def BcB (pb q0 q1 : Nat) (t0 t1 : Int) (t2 : ByteArray) (ta : Option Addr) (tl tc : Nat) (s0 s1 : Int) (s2 : ByteArray) (sa : Option Addr) (sl sc : Nat) (W : World) : Prop :=
  W.heap[q0]? = some (.cells #[.int .i64 t0, .int .i64 t1, .string t2, .slice ta tl tc] 25) ∧ W.heap[q1]? = some (.cells #[.int .i64 s0, .int .i64 s1, .string s2, .slice sa sl sc] 25) ∧ (∃ a, W.cell? ⟨pb, 5, none⟩ = some (.int .i64 a)) ∧ (∃ a, W.cell? ⟨pb, 6, none⟩ = some (.int .i64 a)) ∧ ∀ j, W.frozen? ⟨pb, j, none⟩ = false
set_option maxRecDepth 100000 in
set_option maxHeartbeats 2000000 in
theorem become_walk (t0 t1 : Int) (t2 : ByteArray) (ta : Option Addr) (tl tc : Nat) (pb : Nat) (w : World) (S : Int → Int → ByteArray → Option Addr → Nat → Nat → World → Prop) (P1 : World → Wd → Int → World → Prop) (R : Bool → World → Prop)
    (HS : Hid (∀ W, Below w.heap.size w W → Calls Try.prog 14 #[.pointer (some ⟨pb, 0, none⟩)] W fun e w' => ∃ s0 s1 s2 sa sl sc, e = .returned (.agg #[.int .i64 s0, .int .i64 s1, .string s2, .slice sa sl sc]) ∧ Hid (Below W.heap.size W w' ∧ S s0 s1 s2 sa sl sc w')))
    (HC : Hid (∀ W, Below w.heap.size w W → (∃ a, W.cell? ⟨pb, 5, none⟩ = some (.int .i64 a)) ∧ (∃ a, W.cell? ⟨pb, 6, none⟩ = some (.int .i64 a)) ∧ (∀ j, W.frozen? ⟨pb, j, none⟩ = false) ∧ pb < w.heap.size))
    (HP : Hid (∀ s0 s1 s2 sa sl sc W0 W1 q0 q1, S s0 s1 s2 sa sl sc W0 → Below W0.heap.size W0 W1 → Below w.heap.size w W1 → w.heap.size ≤ q0 → w.heap.size ≤ q1 → BcB pb q0 q1 t0 t1 t2 ta tl tc s0 s1 s2 sa sl sc (stW W1 pb 1 0) → Calls Try.prog 23 #[.pointer (some ⟨pb, 0, none⟩), .agg #[.int .i64 t0, .int .i64 t1, .string t2, .slice ta tl tc]] (stW W1 pb 1 0) fun e w' => ∃ (v : Wd) (e1 : Int), e = .returned (.tuple #[.agg #[.int .i64 v.1, .int .i64 v.2], .int .i64 e1]) ∧ Hid (BcB pb q0 q1 t0 t1 t2 ta tl tc s0 s1 s2 sa sl sc w' ∧ P1 W1 v e1 w' ∧
      (e1 = 0 → ∀ W, Below w'.heap.size w' W → R true (stW W pb v.1 v.2)) ∧
      (e1 ≠ 0 → ∀ W q2, Below w'.heap.size w' W → w'.heap.size ≤ q2 → q2 < W.heap.size → Calls Try.prog 23 #[.pointer (some ⟨pb, 0, none⟩), .agg #[.int .i64 s0, .int .i64 s1, .string s2, .slice sa sl sc]] W fun e w'' => ∃ (v2 : Wd) (e2 : Int), e = .returned (.tuple #[.agg #[.int .i64 v2.1, .int .i64 v2.2], .int .i64 e2]) ∧ Hid ((∀ ob, W.heap[q2]? = some ob → w''.heap[q2]? = some ob) ∧ ((∃ a, w''.cell? ⟨pb, 5, none⟩ = some (.int .i64 a)) ∧ (∃ a, w''.cell? ⟨pb, 6, none⟩ = some (.int .i64 a)) ∧ ∀ j, w''.frozen? ⟨pb, j, none⟩ = false) ∧ ∀ W', Kee (fun b => b = q2) w'' W' → R false (stW W' pb v2.1 v2.2)))))) :
    Calls Try.prog 48 #[.pointer (some ⟨pb, 0, none⟩), .agg #[.int .i64 t0, .int .i64 t1, .string t2, .slice ta tl tc]] w fun e w' => ∃ t, e = .returned (.bool t) ∧ Hid (R t w') := by
  have HW : Hid (∃ w0 q, (w0 = w.alloc (.cells #[.int .i64 t0, .int .i64 t1, .string t2, .slice ta tl tc] 25) ∧ q = w.heap.size) ∧ Below w.heap.size w w0 ∧ w0.heap[q]? = some (.cells #[.int .i64 t0, .int .i64 t1, .string t2, .slice ta tl tc] 25) ∧ w.heap.size ≤ q) := ⟨_, _, ⟨rfl, rfl⟩, (Below.refl _ _).alloc (Nat.le_refl _) _, heap_alloc_new _ _, Nat.le_refl _⟩
  go_enter Try.func48, Try.ntmps48
  go_wp2_with fail
  obtain ⟨w0, q0, ⟨hw0, hq0⟩, hb0, hh0, hl0⟩ := HW.out
  rw [← hw0, ← hq0]
  have HB0 := hide hb0
  have HQ0 := hide hh0
  have HL0 := hide hl0
  clear hw0 hq0 hb0 hh0 hl0 HW
  refine (HS.out _ HB0.out).mono ?_
  rintro e w2 ⟨s0, s1, s2, sa, sl, sc, rfl, H2⟩
  have HB2 := hide (HB0.out.trans (H2.out.1.mono HB0.out.size))
  have HW3 : Hid (∃ w3 q, (w3 = w2.alloc (.cells #[.int .i64 s0, .int .i64 s1, .string s2, .slice sa sl sc] 25) ∧ q = w2.heap.size) ∧ Below w2.heap.size w2 w3 ∧ w3.heap[q]? = some (.cells #[.int .i64 s0, .int .i64 s1, .string s2, .slice sa sl sc] 25) ∧ w.heap.size ≤ q ∧ w3.heap[q0]? = some (.cells #[.int .i64 t0, .int .i64 t1, .string t2, .slice ta tl tc] 25)) := by
    have hl := (Array.getElem?_eq_some_iff.1 HQ0.out).1
    have h2 := (H2.out.1.block q0 hl).trans HQ0.out
    exact ⟨_, _, ⟨rfl, rfl⟩, (Below.refl _ _).alloc (Nat.le_refl _) _, heap_alloc_new _ _, HB2.out.size, (((Below.refl _ _).alloc (Nat.le_refl _) _).block q0 (Array.getElem?_eq_some_iff.1 h2).1).trans h2⟩
  have HSS := hide H2.out.2
  clear H2 HS HQ0
  go_upto_region 2 with fail
  obtain ⟨w3, q1, ⟨hw3, hq1⟩, hb3, hh3, hl1, hh0⟩ := HW3.out
  rw [← hw3, ← hq1]
  have HB3 := hide (HB2.out.trans (hb3.mono HB2.out.size))
  have HB23 := hide hb3
  have HQ1 := hide hh3
  have HQ0 := hide hh0
  have HL1 := hide hl1
  clear hw3 hq1 hb3 hh3 hl1 hh0 HW3
  obtain ⟨⟨c5, x5⟩, ⟨c6, x6⟩, hfz, hpb⟩ := HC.out w3 HB3.out
  have f5 := hfz 5
  have f6 := hfz 6
  have HBC : Hid (BcB pb q0 q1 t0 t1 t2 ta tl tc s0 s1 s2 sa sl sc (stW w3 pb 1 0)) := by
    have hk : Kee (fun b => b = pb) w3 (stW w3 pb 1 0) := Kee.trans (kee_set w3 pb 5 _) (kee_set _ pb 6 _) fun _ _ e => e
    refine ⟨(hk.block q0 (Array.getElem?_eq_some_iff.1 HQ0.out).1 (by have := HL0.out; omega)).trans HQ0.out, (hk.block q1 (Array.getElem?_eq_some_iff.1 HQ1.out).1 (by have := HL1.out; omega)).trans HQ1.out, ⟨1, ?_⟩, ⟨0, ?_⟩, fun j => ?_⟩
    · exact (set_far 5 (by decide)).trans (World.cell?_setCell_same _ _ _ x5)
    · exact World.cell?_setCell_same _ _ _ ((set_far 6 (by decide)).trans x6)
    · unfold stW
      rw [frozen_set, frozen_set]
      exact hfz j
  have HPP := hide (HP.out s0 s1 s2 sa sl sc w2 w3 q0 q1 HSS.out HB23.out HB3.out HL0.out HL1.out HBC.out)
  clear HP hfz HC
  go_upto_region 3 with fail
  obtain ⟨w4, hw4⟩ : ∃ w4, w4 = stW w3 pb 1 0 := ⟨_, rfl⟩
  rw [← hw4] at HPP HBC
  unfold stW at hw4
  rw [← hw4]
  have z0 : w4.cell? ⟨q0, 0, none⟩ = some (.int .i64 t0) := cell_row HBC.out.1 0
  have z1 : w4.cell? ⟨q0, 1, none⟩ = some (.int .i64 t1) := cell_row HBC.out.1 1
  have z2 : w4.cell? ⟨q0, 2, none⟩ = some (.string t2) := cell_row HBC.out.1 2
  have z3 : w4.cell? ⟨q0, 3, none⟩ = some (.slice ta tl tc) := cell_row HBC.out.1 3
  clear hw4 x5 x6 f5 f6 HQ0 HQ1 HB3 HB23 HB2 HSS HBC
  go_wp2_with fail
  refine HPP.out.mono ?_
  rintro e w5 ⟨v, e1, rfl, H5⟩
  have HW6 : Hid (∃ w6 q, (w6 = w5.alloc (.cells #[.int .i64 v.1, .int .i64 v.2] 60) ∧ q = w5.heap.size) ∧ Below w5.heap.size w5 w6 ∧ w6.heap[q]? = some (.cells #[.int .i64 v.1, .int .i64 v.2] 60) ∧ w5.heap.size ≤ q) := ⟨_, _, ⟨rfl, rfl⟩, (Below.refl _ _).alloc (Nat.le_refl _) _, heap_alloc_new _ _, Nat.le_refl _⟩
  go_upto_region 4 with fail
  obtain ⟨w6, q2, ⟨hw6, hq2⟩, hb6, hh6, hl2⟩ := HW6.out
  rw [← hw6, ← hq2]
  have HB6 := hide hb6
  have HQ2 := hide hh6
  have HL2 := hide hl2
  clear hw6 hq2 hb6 hh6 hl2 HW6 z0 z1 z2 z3 HPP
  have HPL : Hid (pb < w5.heap.size) := by
    obtain ⟨a, ha⟩ := H5.out.1.2.2.1
    exact World.block_lt_of_cell? w5 ⟨pb, 5, none⟩ ha
  have HCF : Hid ((∃ a, w6.cell? ⟨pb, 5, none⟩ = some (.int .i64 a)) ∧ (∃ a, w6.cell? ⟨pb, 6, none⟩ = some (.int .i64 a)) ∧ ∀ j, w6.frozen? ⟨pb, j, none⟩ = false) := by
    obtain ⟨_, _, ⟨a, ha⟩, ⟨b, hb⟩, hf⟩ := H5.out.1
    refine ⟨⟨a, (HB6.out.cell (p := ⟨pb, 5, none⟩) HPL.out).trans ha⟩, ⟨b, (HB6.out.cell (p := ⟨pb, 6, none⟩) HPL.out).trans hb⟩, fun j => ?_⟩
    have hf := hf j
    unfold World.frozen? at hf ⊢
    rw [HB6.out.block pb HPL.out]
    exact hf
  have g0 : w6.cell? ⟨q2, 0, none⟩ = some (.int .i64 v.1) := cell_row HQ2.out 0
  have g1 : w6.cell? ⟨q2, 1, none⟩ = some (.int .i64 v.2) := cell_row HQ2.out 1
  by_cases h0 : e1 = 0
  · have HR := hide (H5.out.2.2.1 h0 w6 HB6.out)
    unfold stW at HR
    obtain ⟨⟨a, k5⟩, ⟨b, k6⟩, kf⟩ := HCF.out
    have f5 := kf 5
    have f6 := kf 6
    clear kf H5
    subst h0
    go_wp2_with fail
    go_ret
    exact ⟨true, rfl, HR.out⟩
  · have h0' : ¬ (0 : Int) = e1 := fun e => h0 e.symm
    have HP2 := hide (H5.out.2.2.2 h0 w6 q2 HB6.out HL2.out (Array.getElem?_eq_some_iff.1 HQ2.out).1)
    have hq1 := (HB6.out.block q1 (Array.getElem?_eq_some_iff.1 H5.out.1.2.1).1).trans H5.out.1.2.1
    have o0 : w6.cell? ⟨q1, 0, none⟩ = some (.int .i64 s0) := cell_row hq1 0
    have o1 : w6.cell? ⟨q1, 1, none⟩ = some (.int .i64 s1) := cell_row hq1 1
    have o2 : w6.cell? ⟨q1, 2, none⟩ = some (.string s2) := cell_row hq1 2
    have o3 : w6.cell? ⟨q1, 3, none⟩ = some (.slice sa sl sc) := cell_row hq1 3
    clear hq1 H5
    go_wp2_with fail
    refine HP2.out.mono ?_
    rintro e w7 ⟨v2, e2, rfl, H7⟩
    have hq2 := H7.out.1 _ HQ2.out
    have r0 : w7.cell? ⟨q2, 0, none⟩ = some (.int .i64 v.1) := cell_row hq2 0
    have r1 : w7.cell? ⟨q2, 1, none⟩ = some (.int .i64 v.2) := cell_row hq2 1
    have rf : ∀ j, w7.frozen? ⟨q2, j, none⟩ = false := fun j => by simp [World.frozen?, hq2]
    have rf0 := rf 0
    have rf1 := rf 1
    have HW8 : Hid (∃ w8, w8 = (w7.setCell ⟨q2, 0, none⟩ (.int .i64 v2.1)).setCell ⟨q2, 1, none⟩ (.int .i64 v2.2) ∧ (w8.cell? ⟨q2, 0, none⟩ = some (.int .i64 v2.1) ∧ w8.cell? ⟨q2, 1, none⟩ = some (.int .i64 v2.2)) ∧ Kee (fun b => b = q2) w7 w8) := by
      refine ⟨_, rfl, ⟨?_, ?_⟩, Kee.trans (kee_set w7 q2 0 _) (kee_set _ q2 1 _) fun _ _ e => e⟩
      · exact (set_far 0 (by decide)).trans (World.cell?_setCell_same _ _ _ r0)
      · exact World.cell?_setCell_same _ _ _ ((set_far 1 (by decide)).trans r1)
    clear rf hq2
    go_upto_region 6 with fail
    obtain ⟨w8, hw8, ⟨y0, y1⟩, hk8⟩ := HW8.out
    rw [← hw8]
    have HR := hide (H7.out.2.2 w8 hk8)
    unfold stW at HR
    obtain ⟨⟨a, k5⟩, ⟨b, k6⟩, kf⟩ := H7.out.2.1
    have hp7 := World.block_lt_of_cell? w7 ⟨pb, 5, none⟩ k5
    have hne : pb ≠ q2 := by have := HPL.out; have := HL2.out; omega
    have k5' := (hk8.cell 5 hp7 hne).trans k5
    have k6' := (hk8.cell 6 hp7 hne).trans k6
    have ff : ∀ j, w8.frozen? ⟨pb, j, none⟩ = false := fun j => by
      have hf := kf j
      unfold World.frozen? at hf ⊢
      rw [hk8.block pb hp7 hne]
      exact hf
    have f5 := ff 5
    have f6 := ff 6
    clear hw8 HW8 hk8 k5 k6 kf ff H7 r0 r1 rf0 rf1 hp7
    go_wp2_with fail
    exact bodyPost_ret (v := .bool (e1 == 0)) (by simp [results, Try.results48, go_sem]) rfl (Or.inl ⟨ret_bool (by simpa using h0), HR.out⟩)
end Go.Proofs.Ytbmjfnicfpdjfaa
namespace Go.Proofs.Ytbmjfnicfpdjfaa
open Go.RowKit

/-- The blocks that are written while it goes on. -/
def DoW (db bg : Nat) (sv pv lv : Value) (q : Nat) : Prop := q = db ∨ q = bg ∨ sv.ownBlock = some q ∨ pv.ownBlock = some q ∨ lv.ownBlock = some q
/-- What lies in no such block. -/
def DoF (base db bg : Nat) (sv pv lv : Value) (q : Nat) : Prop := base ≤ q ∧ ¬ DoW db bg sv pv lv q
/-- What is done, in memory: its box, the row of what is bound, the rows of what came of it; at most k acts were done. -/
structure DoAt (base db : Nat) (me : Int) (n D k : Nat) (nx : Int) (d : Dg) (w : World) (l : List (Tm (D + 1))) (bg bc : Nat) (sd : List (Int × Tm (D + 1 + n + 1))) (sp : List (Int × ByteArray × Tm (D + 1 + n + 1))) (sv pv lv : Value) : Prop where
  box : w.heap[db]? = some (.cells #[.slice (some ⟨bg, 0, none⟩) 4 bc, .int .i64 me, .int .i64 d.next, sv, pv, lv, .bool d.stops] 87)
  own : db ≠ bg ∧ base ≤ db ∧ base ≤ bg ∧ bg < w.heap.size ∧ base ≤ w.heap.size
  bnd : bndB (D + 1) l = true
  tells : l.map (cn (D + 1)) = d.b
  row : ∀ (i : Nat) (y : Tm (D + 1)), l[i]? = some y → Held w bg (i * 4) (D + 1) y ∧ In w.heap.size w (D + 1) y ∧ Off (DoF base db bg sv pv lv) (D + 1) y
  free : ∀ j, w.frozen? ⟨bg, j, none⟩ = false
  sRow : w.ownsRow base 44 5 sv sd.length (sd.flatMap fun z => sd5 z.1 z.2)
  pRow : w.ownsRow base 148 6 pv sp.length (sp.flatMap fun z => sp6 z.1 z.2.1 z.2.2)
  lRow : w.ownsRow base 3 1 lv d.links.length (d.links.map fun u => .int .i64 u)
  sIs : sd.map (fun z => (z.1, cn _ z.2)) = d.sends
  pIs : sp.map (fun z => (z.1, z.2.1, cn _ z.2.2)) = d.spawns
  sIn : ∀ z ∈ sd, chk _ z.2 = 0 ∧ In w.heap.size w _ z.2 ∧ Off (DoF base db bg sv pv lv) _ z.2
  pIn : ∀ z ∈ sp, chk _ z.2.2 = 0 ∧ In w.heap.size w _ z.2.2 ∧ Off (DoF base db bg sv pv lv) _ z.2.2
  apart : (sv.ownBlock ≠ some db ∧ pv.ownBlock ≠ some db ∧ lv.ownBlock ≠ some db) ∧ (sv.ownBlock ≠ some bg ∧ pv.ownBlock ≠ some bg ∧ lv.ownBlock ≠ some bg) ∧ ∀ q, (sv.ownBlock = some q → pv.ownBlock ≠ some q ∧ lv.ownBlock ≠ some q) ∧ (pv.ownBlock = some q → lv.ownBlock ≠ some q)
  few : sd.length ≤ k ∧ sp.length ≤ k ∧ d.links.length ≤ k ∧ d.next = nx + sp.length ∧ 1 ≤ nx ∧ nx ≤ 92
/-- So, and what is written lies in S, or is newer than w0. -/
def Do (base db : Nat) (self : Int) (n D k : Nat) (nx : Int) (d : Dg) (S : Nat → Prop) (w0 w : World) : Prop := ∃ l bg bc sd sp sv pv lv, DoAt base db self n D k nx d w l bg bc sd sp sv pv lv ∧ ∀ q, DoW db bg sv pv lv q → S q ∨ w0.heap.size ≤ q

/-- A term that lies in no block that is written stays, and is in none of those that are written then. -/
theorem kept_term {base n : Nat} {x : Tm n} {S S' : Nat → Prop} {w w' : World} (k : Kee S w w') (hS : ∀ q, S' q → S q ∨ w.heap.size ≤ q) (hi : In w.heap.size w n x) (ho : Off (fun q => base ≤ q ∧ ¬ S q) n x) : In w'.heap.size w' n x ∧ Off (fun q => base ≤ q ∧ ¬ S' q) n x := by
  refine ⟨hi.kee k (ho.mono fun q hq => hq.2), (In.offB ho hi).mono fun q hq => ⟨hq.1.1, fun h => ?_⟩⟩
  rcases hS q h with h | h
  · exact hq.1.2 h
  · have := hq.2
    omega
theorem lies_later {w w' : World} {n : Nat} {q : List (Tm n)} {a : Option Addr} (h : Lies w.heap.size w n q a) (hb : Below w.heap.size w w') : Lies w'.heap.size w' n q a := by
  rcases h.below hb with h | ⟨b, o, e, hlt, h⟩
  · exact Or.inl h
  · exact Or.inr ⟨b, o, e, Nat.lt_of_lt_of_le hlt hb.size, fun i y hy => ⟨(h i y hy).1, (h i y hy).2.mono hb.size⟩⟩
section
variable {base db : Nat} {self : Int} {n D k : Nat} {nx : Int} {d : Dg} {w : World} {l : List (Tm (D + 1))} {bg bc : Nat} {sd : List (Int × Tm (D + 1 + n + 1))} {sp : List (Int × ByteArray × Tm (D + 1 + n + 1))} {sv pv lv : Value}
theorem DoAt.lt (h : DoAt base db self n D k nx d w l bg bc sd sp sv pv lv) : db < w.heap.size := (Array.getElem?_eq_some_iff.1 h.box).1
/-- All that is written lies at base, or behind. -/
theorem DoAt.high (h : DoAt base db self n D k nx d w l bg bc sd sp sv pv lv) : ∀ q, DoW db bg sv pv lv q → base ≤ q := by
  intro q hq
  obtain ⟨_, h1, h2, _⟩ := h.own
  have hrow : ∀ {e : TypeId} {z m : Nat} {v : Value} {xs : List Value}, w.ownsRow base e z v m xs → v.ownBlock = some q → base ≤ q := fun hr hb => by
    rcases hr.2 with ⟨e, _⟩ | ⟨g, cap, cur, e, hg, _⟩
    · rw [e] at hb
      cases hb
    · rw [e] at hb
      have : g = q := Option.some.inj hb
      omega
  rcases hq with rfl | rfl | hq | hq | hq
  · exact h1
  · exact h2
  · exact hrow h.sRow hq
  · exact hrow h.pRow hq
  · exact hrow h.lRow hq
/-- What changes nothing of what was there leaves it. -/
theorem DoAt.later (h : DoAt base db self n D k nx d w l bg bc sd sp sv pv lv) {w' : World} (hb : Below w.heap.size w w') : DoAt base db self n D k nx d w' l bg bc sd sp sv pv lv := by
  have hk := kee_below hb (fun _ => False)
  have hs := hb.size
  obtain ⟨o1, o2, o3, o4, o5⟩ := h.own
  refine ⟨(hb.block db h.lt).trans h.box, ⟨o1, o2, o3, by omega, by omega⟩, h.bnd, h.tells, fun i y hy => ?_, fun j => ?_, row_kee h.sRow hk fun _ _ q => q, row_kee h.pRow hk fun _ _ q => q, row_kee h.lRow hk fun _ _ q => q, h.sIs, h.pIs, fun z hz => ?_, fun z hz => ?_, h.apart, h.few⟩
  · obtain ⟨a, b, c⟩ := h.row i y hy
    exact ⟨a.below hb o4, (b.below hb).mono hs, c⟩
  · exact (hb.frozen (p := ⟨bg, j, none⟩) o4).trans (h.free j)
  · obtain ⟨a, b, c⟩ := h.sIn z hz
    exact ⟨a, (b.below hb).mono hs, c⟩
  · obtain ⟨a, b, c⟩ := h.pIn z hz
    exact ⟨a, (b.below hb).mono hs, c⟩
theorem DoAt.more (h : DoAt base db self n D k nx d w l bg bc sd sp sv pv lv) {k' : Nat} (hk : k ≤ k') : DoAt base db self n D k' nx d w l bg bc sd sp sv pv lv := by
  obtain ⟨a, b, c, e, f⟩ := h.few
  exact { h with few := ⟨by omega, by omega, by omega, e, f⟩ }
theorem DoAt.lies (h : DoAt base db self n D k nx d w l bg bc sd sp sv pv lv) : Lies w.heap.size w (D + 1) l (some ⟨bg, 0, none⟩) := Or.inr ⟨bg, 0, rfl, h.own.2.2.2.1, fun i y hy => by
  rw [Nat.zero_add]
  exact ⟨(h.row i y hy).1, (h.row i y hy).2.1⟩⟩
/-- What doing.value tells. -/
theorem DoAt.value (h : DoAt base db self n D k nx d w l bg bc sd sp sv pv lv) (x : Tm (n + 1)) (hx : In base w (n + 1) x) (hc : chk (n + 1) x = 0) (hs : 1 ≤ self ∧ self ≤ 99) :
    ∀ W, Below w.heap.size w W → Calls Try.prog 47 #[.pointer (some ⟨db, 0, none⟩), .agg #[.int .i64 x.1.1, .int .i64 x.1.2.1, .string x.1.2.2, .slice x.2.1.1 x.2.2.length x.2.1.2]] W (DvOut (D + 1 + n) (rvO 0 (vl (D + 1) l self (n + 1) x)) W) := by
  intro W hW
  have hE : rvE (chk (n + 1) x) (bndB (D + 1) l) self = 0 := by simp [rvE, hc, h.bnd, hs]
  have h4 := (bnd_ok h.bnd).1
  have hl := h.lies
  have ho := h.own.2.2.2.2
  have hv := dovalue_walk (D + 1 + n) 0 (vl (D + 1) l self (n + 1) x) x.1.1 x.1.2.1 x.1.2.2 x.2.1.1 x.2.2.length x.2.1.2 (some ⟨bg, 0, none⟩) bc self db W (Nat.lt_of_lt_of_le h.lt hW.size) ((hW.cell (p := ⟨db, 0, none⟩) h.lt).trans (cell_row h.box 0)) ((hW.cell (p := ⟨db, 1, none⟩) h.lt).trans (cell_row h.box 1)) fun W1 hb => by
    have hb2 := hW.trans (hb.mono hW.size)
    have := rvalue_any n (D + 1) x l (some ⟨bg, 0, none⟩) bc W1.heap.size self W1 ((hx.below (hb2.mono ho)).mono (Nat.le_trans ho hb2.size)) (lies_later hl hb2) (Nat.le_refl _) (chk_n2 hc) (by rw [h4]; decide) (fun y hy => chk_n2 ((bnd_ok h.bnd).2 y hy).1)
    rw [hE, h4] at this
    exact this
  exact hv
/-- What doing.process tells. -/
theorem DoAt.process (h : DoAt base db self n D k nx d w l bg bc sd sp sv pv lv) (x : Tm (n + 1)) (hx : In base w (n + 1) x) (hc : chk (n + 1) x = 0) (hs : 1 ≤ self ∧ self ≤ 99) :
    ∀ W, Below w.heap.size w W → Calls Try.prog 91 #[.pointer (some ⟨db, 0, none⟩), .agg #[.int .i64 x.1.1, .int .i64 x.1.2.1, .string x.1.2.2, .slice x.2.1.1 x.2.2.length x.2.1.2]] W fun e w' => ∃ u, e = .returned (.tuple #[.int .i64 u, .bool (pidC d.b self (n + 1) x).isSome]) ∧ Hid (Below W.heap.size W w' ∧ ∀ v, pidC d.b self (n + 1) x = some v → u = v) := by
  intro W hW
  have hv := vlC_of h.bnd h.tells self x hc
  refine (doproc_walk (D + 1 + n) _ x.1.1 x.1.2.1 x.1.2.2 x.2.1.1 x.2.2.length x.2.1.2 db W fun W1 hb => h.value x hx hc hs W1 (hW.trans (hb.mono hW.size))).mono ?_
  rintro e w' ⟨u, rfl, H⟩
  obtain ⟨H1, H2⟩ := H.out
  have hp : isPid (rvO 0 (vl (D + 1) l self (n + 1) x)) = (pidC d.b self (n + 1) x).isSome ∧ ∀ v, pidC d.b self (n + 1) x = some v → u = v := by
    unfold pidC
    rw [← hv]
    cases e : rvO 0 (vl (D + 1) l self (n + 1) x) with
    | none => exact ⟨rfl, fun v hv => by cases hv⟩
    | some z =>
      have h1 : (cn (D + 1 + n + 1) z).1 = z.1 := rfl
      have hu := H2 z e
      simp only [Option.map_some, Option.bind_some, isPid]
      by_cases h3 : z.1.1 = 3
      · have h3' : (cn (D + 1 + n + 1) z).1.1 = 3 := h3
        refine ⟨?_, fun v hv => ?_⟩
        · erw [if_pos h3']
          simp [h3]
        · erw [if_pos h3'] at hv
          rw [hu, ← Option.some.inj hv]
          rfl
      · have h3' : ¬ (cn (D + 1 + n + 1) z).1.1 = 3 := h3
        refine ⟨?_, fun v hv => ?_⟩
        · erw [if_neg h3']
          simp [h3]
        · erw [if_neg h3'] at hv
          cases hv
  exact ⟨u, by rw [hp.1], H1, hp.2⟩
end
end Go.Proofs.Ytbmjfnicfpdjfaa
namespace Go.Proofs.Ytbmjfnicfpdjfaa
open Go.RowKit

section
variable {base db : Nat} {self : Int} {n D k : Nat} {nx : Int} {d : Dg} {w : World} {l : List (Tm (D + 1))} {bg bc : Nat} {sd : List (Int × Tm (D + 1 + n + 1))} {sp : List (Int × ByteArray × Tm (D + 1 + n + 1))} {sv pv lv : Value}
/-- What an act leaves. -/
def OneR (base db : Nat) (self : Int) (n D k : Nat) (nx : Int) (d : Dg) (a : Ac (n + 1)) (S : Nat → Prop) (w : World) (t : Bool) (w' : World) : Prop :=
  Kee S w w' ∧ t = (doA self a d).isSome ∧ ∀ d', doA self a d = some d' → Do base db self n D (k + 1) nx d' S w w'
theorem slice_of {w : World} {base : Nat} {e : TypeId} {z m : Nat} {v : Value} {xs : List Value} (h : w.ownsRow base e z v m xs) : ∃ a c, v = .slice a m c := by
  rcases h.2 with ⟨e1, e0⟩ | ⟨g, cap, cur, e1, _⟩
  · exact ⟨none, 0, by rw [e1, e0]⟩
  · exact ⟨_, cap, e1⟩
theorem set_box7 {w : World} {b : Nat} {v0 v1 v2 v3 v4 v5 v6 : Value} {t : TypeId} (h : w.heap[b]? = some (.cells #[v0, v1, v2, v3, v4, v5, v6] t)) :
    (∀ v, (w.setCell ⟨b, 3, none⟩ v).heap[b]? = some (.cells #[v0, v1, v2, v, v4, v5, v6] t)) ∧ (∀ v, (w.setCell ⟨b, 4, none⟩ v).heap[b]? = some (.cells #[v0, v1, v2, v3, v, v5, v6] t)) ∧ (∀ v, (w.setCell ⟨b, 5, none⟩ v).heap[b]? = some (.cells #[v0, v1, v2, v3, v4, v, v6] t)) ∧ (∀ v, (w.setCell ⟨b, 2, none⟩ v).heap[b]? = some (.cells #[v0, v1, v, v3, v4, v5, v6] t)) ∧ ∀ v, (w.setCell ⟨b, 6, none⟩ v).heap[b]? = some (.cells #[v0, v1, v2, v3, v4, v5, v] t) := by
  refine ⟨fun v => ?_, fun v => ?_, fun v => ?_, fun v => ?_, fun v => ?_⟩ <;>
  · unfold World.setCell
    simp [Array.getElem?_modify, h]
theorem frozen7 {w : World} {b : Nat} {cs : Array Value} {t : TypeId} (h : w.heap[b]? = some (.cells cs t)) (j : Nat) : w.frozen? ⟨b, j, none⟩ = false := by simp [World.frozen?, h]
/-- All that isn't written anew stays. -/
theorem DoAt.frame (h : DoAt base db self n D k nx d w l bg bc sd sp sv pv lv) {w' : World} {sv' pv' lv' : Value} (hk : Kee (DoW db bg sv pv lv) w w') (hW : ∀ q, DoW db bg sv' pv' lv' q → DoW db bg sv pv lv q ∨ w.heap.size ≤ q) :
    (∀ (i : Nat) (y : Tm (D + 1)), l[i]? = some y → In w'.heap.size w' (D + 1) y ∧ Off (DoF base db bg sv' pv' lv') (D + 1) y) ∧ (∀ z ∈ sd, chk _ z.2 = 0 ∧ In w'.heap.size w' _ z.2 ∧ Off (DoF base db bg sv' pv' lv') _ z.2) ∧ (∀ z ∈ sp, chk _ z.2.2 = 0 ∧ In w'.heap.size w' _ z.2.2 ∧ Off (DoF base db bg sv' pv' lv') _ z.2.2) ∧ Below base w w' :=
  ⟨fun i y hy => kept_term hk hW (h.row i y hy).2.1 (h.row i y hy).2.2, fun z hz => ⟨(h.sIn z hz).1, kept_term hk hW (h.sIn z hz).2.1 (h.sIn z hz).2.2⟩, fun z hz => ⟨(h.pIn z hz).1, kept_term hk hW (h.pIn z hz).2.1 (h.pIn z hz).2.2⟩, hk.below h.own.2.2.2.2 fun b hb q => by
    have := h.high b q
    omega⟩
theorem DoAt.link (h : DoAt base db self n D k nx d w l bg bc sd sp sv pv lv) (a : Ac (n + 1)) (ha : AcIn (n + 1) base w a) (hc : chk (n + 1) a.2.1.1 = 0) (h3 : a.1 = 3) (hs : 1 ≤ self ∧ self ≤ 99) (hk : k ≤ 1000) :
    Calls Try.prog 77 #[.pointer (some ⟨db, 0, none⟩), acV a] w fun e w' => ∃ t, e = .returned (.bool t) ∧ Hid (OneR base db self n D k nx d a (DoW db bg sv pv lv) w t w') := by
  have hrow := h.lRow
  obtain ⟨va, vc, rfl⟩ := slice_of hrow
  obtain ⟨f1, f2, f3, f4⟩ := h.few
  have hd : doA self a d = (pidC d.b self (n + 1) a.2.1.1).map fun u => { d with links := d.links ++ [u] } := by
    simp [doA, h3]
  refine (link_walk a.1 a.2.1.1.1.1 a.2.1.1.1.2.1 a.2.1.1.1.2.2 a.2.1.1.2.1.1 a.2.1.1.2.2.length a.2.1.1.2.1.2 a.2.1.2.1.1 a.2.1.2.1.2.1 a.2.1.2.1.2.2 a.2.1.2.2.1.1 a.2.1.2.2.2.length a.2.1.2.2.1.2 a.2.2.1 a.2.2.2 base db va d.links.length vc _ w (pidC d.b self (n + 1) a.2.1.1).isSome (fun u => ∀ v, pidC d.b self (n + 1) a.2.1.1 = some v → u = v) (by omega) h.lt h.own.2.2.2.2 ⟨cell_row h.box 5, frozen7 h.box 5⟩ hrow h.apart.1.2.2 (h.process a.2.1.1 ha.2.1 hc hs)).mono ?_
  rintro e w' ⟨rfl, hn, hy⟩
  refine ⟨_, rfl, ?_⟩
  cases hp : pidC d.b self (n + 1) a.2.1.1 with
  | none =>
    have hb := hn (by rw [hp]; rfl)
    refine ⟨kee_below hb _, by rw [hd, hp]; rfl, fun d' hd' => ?_⟩
    rw [hd, hp] at hd'
    cases hd'
  | some v =>
    obtain ⟨u, g, c, w3, hu, hr3, hk3, hg, rfl⟩ := hy (by rw [hp]; rfl)
    obtain rfl := hu v hp
    have hbox3 : w3.heap[db]? = _ := (hk3.block db h.lt fun q => h.apart.1.2.2 q).trans h.box
    have hk' : Kee (DoW db bg sv pv (.slice va d.links.length vc)) w (w3.setCell ⟨db, 5, none⟩ (.slice (some ⟨g, 0, none⟩) (d.links.length + 1) c)) := Kee.trans (hk3.mono fun q _ hq => Or.inr (Or.inr (Or.inr (Or.inr hq)))) (kee_set _ _ _ _) fun q _ hq => Or.inl hq
    have hgn : ∀ q, q < w.heap.size → ¬ (Value.slice va d.links.length vc).ownBlock = some q → g ≠ q := fun q hq hne e => by
      rcases hg with hg | hg
      · rw [e] at hg
        exact hne hg
      · omega
    have hW : ∀ q, DoW db bg sv pv (.slice (some ⟨g, 0, none⟩) (d.links.length + 1) c) q → DoW db bg sv pv (.slice va d.links.length vc) q ∨ w.heap.size ≤ q := fun q hq => by
      rcases hq with hq | hq | hq | hq | hq
      · exact Or.inl (Or.inl hq)
      · exact Or.inl (Or.inr (Or.inl hq))
      · exact Or.inl (Or.inr (Or.inr (Or.inl hq)))
      · exact Or.inl (Or.inr (Or.inr (Or.inr (Or.inl hq))))
      · have : g = q := Option.some.inj hq
        subst this
        rcases hg with hg | hg
        · exact Or.inl (Or.inr (Or.inr (Or.inr (Or.inr hg))))
        · exact Or.inr hg
    obtain ⟨q1, q2, q3, q4⟩ := h.frame hk' hW
    refine ⟨hk', by rw [hd, hp]; rfl, fun d' hd' => ?_⟩
    rw [hd, hp] at hd'
    obtain rfl := Option.some.inj hd'
    have hsz := hk'.size
    obtain ⟨o1, o2, o3, o4, o5⟩ := h.own
    have hks := kee_set w3 db 5 (.slice (some ⟨g, 0, none⟩) (d.links.length + 1) c)
    have hsl : ∀ q, sv.ownBlock = some q → q < w.heap.size := fun q hq => by
      obtain ⟨cur, hcu⟩ := own_cells h.sRow q hq
      exact (Array.getElem?_eq_some_iff.1 hcu).1
    have hpl : ∀ q, pv.ownBlock = some q → q < w.heap.size := fun q hq => by
      obtain ⟨cur, hcu⟩ := own_cells h.pRow q hq
      exact (Array.getElem?_eq_some_iff.1 hcu).1
    have hbg3 : ¬ (Value.slice va d.links.length vc).ownBlock = some bg := h.apart.2.1.2.2
    refine ⟨l, bg, bc, sd, sp, sv, pv, _, ⟨(set_box7 hbox3).2.2.1 _, ⟨o1, o2, o3, by omega, by omega⟩, h.bnd, h.tells, fun i y hy => ⟨?_, q1 i y hy⟩, fun j => ?_, ?_, ?_, ?_, h.sIs, h.pIs, q2, q3, ⟨⟨h.apart.1.1, h.apart.1.2.1, ?_⟩, ⟨h.apart.2.1.1, h.apart.2.1.2.1, ?_⟩, fun q => ⟨fun hq => ⟨((h.apart.2.2 q).1 hq).1, ?_⟩, fun hq => ?_⟩⟩, ⟨by omega, by omega, by simp; omega, f4⟩⟩, hW⟩
    · exact ((h.row i y hy).1.kee hk3 o4 hbg3).kee hks (by have := hk3.size; omega) (fun e => o1 e.symm)
    · have hb1 : (w3.setCell ⟨db, 5, none⟩ (.slice (some ⟨g, 0, none⟩) (d.links.length + 1) c)).heap[bg]? = w.heap[bg]? := (hks.block bg (by have := hk3.size; omega) (fun e => o1 e.symm)).trans (hk3.block bg o4 hbg3)
      have hf := h.free j
      unfold World.frozen? at hf ⊢
      rw [hb1]
      exact hf
    · exact row_kee (row_kee h.sRow hk3 fun q hq hl => ((h.apart.2.2 q).1 hq).2 hl) hks fun q hq e => h.apart.1.1 (by rw [hq, e])
    · exact row_kee (row_kee h.pRow hk3 fun q hq hl => (h.apart.2.2 q).2 hq hl) hks fun q hq e => h.apart.1.2.1 (by rw [hq, e])
    · have := row_kee hr3 hks fun q hq e => hgn db h.lt h.apart.1.2.2 (by
        have : g = q := Option.some.inj hq
        rw [this, e])
      simpa using this
    · exact fun e => hgn db h.lt h.apart.1.2.2 (Option.some.inj e)
    · exact fun e => hgn bg o4 hbg3 (Option.some.inj e)
    · exact fun e => hgn q (hsl q hq) (((h.apart.2.2 q).1 hq).2) (Option.some.inj e)
    · exact fun e => hgn q (hpl q hq) ((h.apart.2.2 q).2 hq) (Option.some.inj e)
end
end Go.Proofs.Ytbmjfnicfpdjfaa
namespace Go.Proofs.Ytbmjfnicfpdjfaa
open Go.RowKit

section
variable {base db : Nat} {self : Int} {n D k : Nat} {nx : Int} {d : Dg} {w : World} {l : List (Tm (D + 1))} {bg bc : Nat} {sd : List (Int × Tm (D + 1 + n + 1))} {sp : List (Int × ByteArray × Tm (D + 1 + n + 1))} {sv pv lv : Value}
theorem rvO_chk {N : Nat} {o : Option (Tm N)} {z : Tm N} (h : rvO 0 o = some z) : chk N z = 0 := by
  unfold rvO at h
  rw [if_pos rfl] at h
  obtain ⟨y, _, h⟩ := Option.bind_eq_some_iff.1 h
  by_cases hc : chk N y = 0
  · rw [if_pos hc] at h
    rw [← Option.some.inj h]
    exact hc
  · rw [if_neg hc] at h
    cases h
/-- What is told of a value is what the plain function says. -/
theorem DoAt.told (h : DoAt base db self n D k nx d w l bg bc sd sp sv pv lv) (x : Tm (n + 1)) (hc : chk (n + 1) x = 0) :
    (rvO 0 (vl (D + 1) l self (n + 1) x)).isSome = (vlC d.b self (n + 1) x).isSome ∧ ∀ (z : Tm (D + 1 + n + 1)) t, vlC d.b self (n + 1) x = some t → same _ z (D + 1 + n + 1) ((rvO 0 (vl (D + 1) l self (n + 1) x)).getD (zeroV (D + 1 + n))) = true → chk _ z = 0 ∧ closedT _ z = true ∧ cn _ z = t := by
  have hv := vlC_of h.bnd h.tells self x hc
  refine ⟨by rw [← hv, Option.isSome_map], fun z t ht hs => ?_⟩
  have hok := vlC_ok (row_ok h.bnd h.tells) hc ht
  rw [← hv] at ht
  obtain ⟨z0, hz0, rfl⟩ := Option.map_eq_some_iff.1 ht
  rw [hz0] at hs
  have hs : same _ z _ z0 = true := hs
  have hcz := (same_chk hs).trans (rvO_chk hz0)
  have he := cn_eq hs
  refine ⟨hcz, ?_, he⟩
  have h2 := hok.2.1
  rw [← he, cn_closed hcz] at h2
  exact h2
theorem DoAt.send (h : DoAt base db self n D k nx d w l bg bc sd sp sv pv lv) (a : Ac (n + 1)) (ha : AcIn (n + 1) base w a) (hc : chk (n + 1) a.2.1.1 = 0) (hc2 : chk (n + 1) a.2.1.2 = 0) (h1 : a.1 = 1) (hs : 1 ≤ self ∧ self ≤ 99) (hk : k ≤ 1000) :
    Calls Try.prog 75 #[.pointer (some ⟨db, 0, none⟩), acV a] w fun e w' => ∃ t, e = .returned (.bool t) ∧ Hid (OneR base db self n D k nx d a (DoW db bg sv pv lv) w t w') := by
  have hrow := h.sRow
  obtain ⟨va, vc, rfl⟩ := slice_of hrow
  obtain ⟨f1, f2, f3, f4⟩ := h.few
  have hd : doA self a d = (pidC d.b self (n + 1) a.2.1.1).bind fun u => (vlC d.b self (n + 1) a.2.1.2).map fun t => { d with sends := d.sends ++ [(u, t)] } := by
    simp [doA, h1]
  obtain ⟨hso, htd⟩ := h.told (self := self) a.2.1.2 hc2
  refine (send_walk (D + 1 + n) a.1 a.2.1.1.1.1 a.2.1.1.1.2.1 a.2.1.1.1.2.2 a.2.1.1.2.1.1 a.2.1.1.2.2.length a.2.1.1.2.1.2 a.2.1.2.1.1 a.2.1.2.1.2.1 a.2.1.2.1.2.2 a.2.1.2.2.1.1 a.2.1.2.2.2.length a.2.1.2.2.1.2 a.2.2.1 a.2.2.2 base db va sd.length vc _ w (pidC d.b self (n + 1) a.2.1.1).isSome (fun u => ∀ v, pidC d.b self (n + 1) a.2.1.1 = some v → u = v) (rvO 0 (vl (D + 1) l self (n + 1) a.2.1.2)) (by omega) h.lt h.own.2.2.2.2 ⟨cell_row h.box 3, frozen7 h.box 3⟩ hrow h.apart.1.1 (h.process a.2.1.1 ha.2.1 hc hs) (h.value a.2.1.2 ha.2.2.1 hc2 hs)).mono ?_
  rintro e w' ⟨rfl, hn, hy⟩
  refine ⟨_, rfl, ?_⟩
  rw [hso] at hn hy ⊢
  cases hp : pidC d.b self (n + 1) a.2.1.1 with
  | none =>
    have hb := hn (by rw [hp]; rfl)
    refine ⟨kee_below hb _, by rw [hd, hp]; rfl, fun d' hd' => ?_⟩
    rw [hd, hp] at hd'
    cases hd'
  | some v =>
    cases hq : vlC d.b self (n + 1) a.2.1.2 with
    | none =>
      have hb := hn (by rw [hp, hq]; rfl)
      refine ⟨kee_below hb _, by rw [hd, hp, hq]; rfl, fun d' hd' => ?_⟩
      rw [hd, hp, hq] at hd'
      cases hd'
    | some t =>
      obtain ⟨u, z, g, c, w3, hu, hzs, hzi, hzo, hr3, hk3, hg, rfl⟩ := hy (by rw [hp, hq]; rfl)
      obtain rfl := hu v hp
      obtain ⟨hz0, _, hzt⟩ := htd z t hq hzs
      have hbox3 : w3.heap[db]? = _ := (hk3.block db h.lt fun q => h.apart.1.1 q).trans h.box
      have hk' : Kee (DoW db bg (.slice va sd.length vc) pv lv) w (w3.setCell ⟨db, 3, none⟩ (.slice (some ⟨g, 0, none⟩) (sd.length + 1) c)) := Kee.trans (hk3.mono fun q _ hq => Or.inr (Or.inr (Or.inl hq))) (kee_set _ _ _ _) fun q _ hq => Or.inl hq
      have hgn : ∀ q, q < w.heap.size → ¬ (Value.slice va sd.length vc).ownBlock = some q → g ≠ q := fun q hq hne e => by
        rcases hg with hg | hg
        · rw [e] at hg
          exact hne hg
        · omega
      have hW : ∀ q, DoW db bg (.slice (some ⟨g, 0, none⟩) (sd.length + 1) c) pv lv q → DoW db bg (.slice va sd.length vc) pv lv q ∨ w.heap.size ≤ q := fun q hq => by
        rcases hq with hq | hq | hq | hq | hq
        · exact Or.inl (Or.inl hq)
        · exact Or.inl (Or.inr (Or.inl hq))
        · have : g = q := Option.some.inj hq
          subst this
          rcases hg with hg | hg
          · exact Or.inl (Or.inr (Or.inr (Or.inl hg)))
          · exact Or.inr hg
        · exact Or.inl (Or.inr (Or.inr (Or.inr (Or.inl hq))))
        · exact Or.inl (Or.inr (Or.inr (Or.inr (Or.inr hq))))
      obtain ⟨q1, q2, q3, q4⟩ := h.frame hk' hW
      refine ⟨hk', by rw [hd, hp, hq]; rfl, fun d' hd' => ?_⟩
      rw [hd, hp, hq] at hd'
      obtain rfl := Option.some.inj hd'
      have hsz := hk'.size
      have hsz3 := hk3.size
      obtain ⟨o1, o2, o3, o4, o5⟩ := h.own
      have hks := kee_set w3 db 3 (.slice (some ⟨g, 0, none⟩) (sd.length + 1) c)
      have hll : ∀ q, lv.ownBlock = some q → q < w.heap.size := fun q hq => by
        obtain ⟨cur, hcu⟩ := own_cells h.lRow q hq
        exact (Array.getElem?_eq_some_iff.1 hcu).1
      have hpl : ∀ q, pv.ownBlock = some q → q < w.heap.size := fun q hq => by
        obtain ⟨cur, hcu⟩ := own_cells h.pRow q hq
        exact (Array.getElem?_eq_some_iff.1 hcu).1
      have hbg3 : ¬ (Value.slice va sd.length vc).ownBlock = some bg := h.apart.2.1.1
      have hzn : Off (DoF base db bg (.slice (some ⟨g, 0, none⟩) (sd.length + 1) c) pv lv) _ z := hzo.mono fun q hq => by
        have := h.lt
        refine ⟨by omega, fun hw => ?_⟩
        rcases hw with hw | hw | hw | hw | hw
        · omega
        · omega
        · exact hq.2 (Option.some.inj hw).symm
        · have := hpl q hw
          omega
        · have := hll q hw
          omega
      refine ⟨l, bg, bc, sd ++ [(u, z)], sp, _, pv, lv, ⟨(set_box7 hbox3).1 _, ⟨o1, o2, o3, by omega, by omega⟩, h.bnd, h.tells, fun i y hy => ⟨?_, q1 i y hy⟩, fun j => ?_, ?_, ?_, ?_, ?_, h.pIs, fun y hy => ?_, q3, ⟨⟨?_, h.apart.1.2.1, h.apart.1.2.2⟩, ⟨?_, h.apart.2.1.2.1, h.apart.2.1.2.2⟩, fun q => ⟨fun hq => ⟨fun e => ?_, fun e => ?_⟩, (h.apart.2.2 q).2⟩⟩, ⟨by simp; omega, by omega, by show d.links.length ≤ k + 1; omega, f4⟩⟩, hW⟩
      · exact ((h.row i y hy).1.kee hk3 o4 hbg3).kee hks (by omega) (fun e => o1 e.symm)
      · have hb1 : (w3.setCell ⟨db, 3, none⟩ (.slice (some ⟨g, 0, none⟩) (sd.length + 1) c)).heap[bg]? = w.heap[bg]? := (hks.block bg (by omega) (fun e => o1 e.symm)).trans (hk3.block bg o4 hbg3)
        have hf := h.free j
        unfold World.frozen? at hf ⊢
        rw [hb1]
        exact hf
      · have := row_kee hr3 hks fun q hq e => hgn db h.lt h.apart.1.1 (by
          have : g = q := Option.some.inj hq
          rw [this, e])
        simpa using this
      · exact row_kee (row_kee h.pRow hk3 fun q hq hl => ((h.apart.2.2 q).1 hl).1 hq) hks fun q hq e => h.apart.1.2.1 (by rw [hq, e])
      · exact row_kee (row_kee h.lRow hk3 fun q hq hl => ((h.apart.2.2 q).1 hl).2 hq) hks fun q hq e => h.apart.1.2.2 (by rw [hq, e])
      · simp [h.sIs, hzt]
      · rcases List.mem_append.1 hy with hy | hy
        · exact q2 y hy
        · obtain rfl := List.mem_singleton.1 hy
          refine ⟨hz0, ?_, hzn⟩
          refine hzi.kee hks (hzo.mono fun q hq e => ?_)
          have := h.lt
          omega
      · exact fun e => hgn db h.lt h.apart.1.1 (Option.some.inj e)
      · exact fun e => hgn bg o4 hbg3 (Option.some.inj e)
      · have hgq : g = q := Option.some.inj hq
        exact hgn q (hpl q e) (fun z => ((h.apart.2.2 q).1 z).1 e) hgq
      · have hgq : g = q := Option.some.inj hq
        exact hgn q (hll q e) (fun z => ((h.apart.2.2 q).1 z).2 e) hgq
end
end Go.Proofs.Ytbmjfnicfpdjfaa
namespace Go.Proofs.Ytbmjfnicfpdjfaa
open Go.RowKit

theorem kee_put4 (w : World) (g o : Nat) (v0 v1 v2 v3 : Value) : Kee (fun b => b = g) w (put4 w g o v0 v1 v2 v3) :=
  Kee.trans (Kee.trans (Kee.trans (kee_set w g o v0) (kee_set _ g (o + 1) v1) fun _ _ e => e) (kee_set _ g (o + 2) v2) fun _ _ e => e) (kee_set _ g (o + 3) v3) fun _ _ e => e
theorem put4_far {w : World} {g o : Nat} {v0 v1 v2 v3 : Value} (j : Nat) (hj : j < o ∨ o + 4 ≤ j) : (put4 w g o v0 v1 v2 v3).cell? ⟨g, j, none⟩ = w.cell? ⟨g, j, none⟩ := by
  unfold put4
  rw [set_far j (by omega), set_far j (by omega), set_far j (by omega), set_far j (by omega)]
theorem put4_here {w : World} {g o : Nat} {u0 u1 u2 u3 : Value} (v0 v1 v2 v3 : Value) (h : w.cell? ⟨g, o, none⟩ = some u0 ∧ w.cell? ⟨g, o + 1, none⟩ = some u1 ∧ w.cell? ⟨g, o + 2, none⟩ = some u2 ∧ w.cell? ⟨g, o + 3, none⟩ = some u3) :
    (put4 w g o v0 v1 v2 v3).cell? ⟨g, o, none⟩ = some v0 ∧ (put4 w g o v0 v1 v2 v3).cell? ⟨g, o + 1, none⟩ = some v1 ∧ (put4 w g o v0 v1 v2 v3).cell? ⟨g, o + 2, none⟩ = some v2 ∧ (put4 w g o v0 v1 v2 v3).cell? ⟨g, o + 3, none⟩ = some v3 := by
  obtain ⟨h0, h1, h2, h3⟩ := h
  unfold put4
  refine ⟨?_, ?_, ?_, ?_⟩
  · rw [set_far o (by omega), set_far o (by omega), set_far o (by omega)]
    exact World.cell?_setCell_same _ _ _ h0
  · rw [set_far (o + 1) (by omega), set_far (o + 1) (by omega)]
    exact World.cell?_setCell_same _ _ _ ((set_far (o + 1) (by omega)).trans h1)
  · rw [set_far (o + 2) (by omega)]
    exact World.cell?_setCell_same _ _ _ ((set_far (o + 2) (by omega)).trans ((set_far (o + 2) (by omega)).trans h2))
  · exact World.cell?_setCell_same _ _ _ ((set_far (o + 3) (by omega)).trans ((set_far (o + 3) (by omega)).trans ((set_far (o + 3) (by omega)).trans h3)))
theorem put4_frozen {w : World} {g o : Nat} {v0 v1 v2 v3 : Value} (j : Nat) : (put4 w g o v0 v1 v2 v3).frozen? ⟨g, j, none⟩ = w.frozen? ⟨g, j, none⟩ := by
  unfold put4
  rw [frozen_set, frozen_set, frozen_set, frozen_set]
theorem drew_cell (w : World) (p : Addr) : w.drew.cell? p = w.cell? p := rfl
theorem drew_frozen (w : World) (p : Addr) : w.drew.frozen? p = w.frozen? p := rfl
theorem Held.far {w w' : World} {g o : Nat} {n : Nat} {x : Tm n} (h : Held w g o n x) (hc : ∀ j, o ≤ j → j < o + 4 → w'.cell? ⟨g, j, none⟩ = w.cell? ⟨g, j, none⟩) : Held w' g o n x := by
  cases n with
  | zero => exact h.elim
  | succ n =>
    obtain ⟨k0, k1, k2, k3⟩ := h
    exact ⟨(hc _ (by omega) (by omega)).trans k0, (hc _ (by omega) (by omega)).trans k1, (hc _ (by omega) (by omega)).trans k2, (hc _ (by omega) (by omega)).trans k3⟩
theorem pid_ok (u : Int) (D : Nat) (h : 1 ≤ u ∧ u ≤ 99) : okB (D + 1) (leafV 3 u D) = true ∧ cn (D + 1) (leafV 3 u D) = pidT u := by
  refine ⟨?_, rfl⟩
  have hf : formedB (D + 1) (leafV 3 u D) = true := by
    rw [← right_formed]
    intro a ha
    have : a = ((3, u, .empty), (none, 0, 0)) := by simpa [nodes, leafV] using ha
    subst this
    have hin : inB u 1 99 = true := by simp [inB]; omega
    simp [good, hin]
  have hc : chk (D + 1) (leafV 3 u D) = 0 := chk_iff.2 ⟨hf, by simp [dep, leafV], by simp [sz, leafV]⟩
  have hcl : closedT (D + 1) (leafV 3 u D) = true := by simp [closedT, leafV]
  simp only [okB, hc, Bool.and_eq_true, Bool.or_eq_true]
  refine ⟨rfl, Or.inr ?_⟩
  rw [← closed_eq]
  exact hcl
theorem bnd_set {D : Nat} {l : List (Tm D)} (h : bndB D l = true) (i : Nat) {y : Tm D} (hy : okB D y = true) : bndB D (l.set i y) = true := by
  simp only [bndB, List.length_set, Bool.and_eq_true, decide_eq_true_eq, List.all_eq_true] at h ⊢
  refine ⟨h.1, fun x hx => ?_⟩
  rcases List.mem_or_eq_of_mem_set hx with hx | rfl
  · exact h.2 x hx
  · exact hy
section
variable {base db : Nat} {self : Int} {n D k : Nat} {nx : Int} {d : Dg} {w : World} {l : List (Tm (D + 1))} {bg bc : Nat} {sd : List (Int × Tm (D + 1 + n + 1))} {sp : List (Int × ByteArray × Tm (D + 1 + n + 1))} {sv pv lv : Value}
theorem DoAt.spawn (h : DoAt base db self n D k nx d w l bg bc sd sp sv pv lv) (a : Ac (n + 1)) (ha : AcIn (n + 1) base w a) (hc2 : chk (n + 1) a.2.1.2 = 0) (h2 : a.1 = 2) (hnm : nameB a.2.2.1 = true) (hvr : 0 ≤ a.2.2.2 ∧ a.2.2.2 < 4) (hs : 1 ≤ self ∧ self ≤ 99) (hk : k ≤ 7) :
    Calls Try.prog 76 #[.pointer (some ⟨db, 0, none⟩), acV a] w fun e w' => ∃ t, e = .returned (.bool t) ∧ Hid (OneR base db self n D k nx d a (DoW db bg sv pv lv) w t w') := by
  have hrow := h.pRow
  obtain ⟨va, vc, rfl⟩ := slice_of hrow
  obtain ⟨f1, f2, f3, f4, f5, f6⟩ := h.few
  obtain ⟨vr, hv⟩ : ∃ vr : Nat, a.2.2.2 = (vr : Int) := ⟨a.2.2.2.toNat, by omega⟩
  have hv4 : vr < 4 := by omega
  have h4 := (bnd_ok h.bnd).1
  obtain ⟨y, hy⟩ : ∃ y, l[vr]? = some y := ⟨l[vr]'(by omega), List.getElem?_eq_getElem _⟩
  obtain ⟨y1, y2, y3⟩ := h.row vr y hy
  have hby : d.b[vr]? = some (cn (D + 1) y) := by rw [← h.tells, List.getElem?_map, hy]; rfl
  have hd : doA self a d = (vlC d.b self (n + 1) a.2.1.2).bind fun t => if y.1.1 = 6 then some { d with b := d.b.set vr (pidT d.next), next := d.next + 1, spawns := d.spawns ++ [(d.next, a.2.2.1, t)] } else none := by
    have hkd : kindA ⟨13, (d.b[a.2.2.2.toNat]?).getD (pidT 0)⟩ = y.1.1 := by
      rw [hv, Int.toNat_natCast, hby]
      rfl
    have hn1 : ¬ a.1 = 1 := by omega
    unfold doA
    rw [if_neg hn1, if_pos h2, hkd, hv, Int.toNat_natCast]
  obtain ⟨hso, htd⟩ := h.told (self := self) a.2.1.2 hc2
  have hw := spawn_walk (D + 1 + n) a.1 a.2.1.1.1.1 a.2.1.1.1.2.1 a.2.1.1.1.2.2 a.2.1.1.2.1.1 a.2.1.1.2.2.length a.2.1.1.2.1.2 a.2.1.2.1.1 a.2.1.2.1.2.1 a.2.1.2.1.2.2 a.2.1.2.2.1.1 a.2.1.2.2.2.length a.2.1.2.2.1.2 a.2.2.1 vr base db va sp.length vc _ w (rvO 0 (vl (D + 1) l self (n + 1) a.2.1.2)) bg bc d.next y.1.1 y.1.2.1 y.1.2.2 y.2.1.1 y.2.2.length y.2.1.2 hv4 (by omega) h.lt h.own.2.2.2.1 h.own.1 h.own.2.2.2.2 (by omega) (by omega) (by
      simp only [nameB, inB, Bool.and_eq_true, decide_eq_true_eq] at hnm
      omega)
    ⟨cell_row h.box 4, cell_row h.box 0, cell_row h.box 2, fun j => frozen7 h.box j, h.free⟩ hrow ⟨h.apart.1.2.1, h.apart.2.1.2.1⟩ y1 (fun W => isBound_any _ _ _ _ _ _ W) (h.value a.2.1.2 ha.2.2.1 hc2 hs)
  rw [← hv] at hw
  refine hw.mono ?_
  rintro e w' ⟨rfl, hn, hyy⟩
  refine ⟨_, rfl, ?_⟩
  rw [hso] at hn hyy ⊢
  cases hq : vlC d.b self (n + 1) a.2.1.2 with
  | none =>
    have hb := hn (by rw [hq]; rfl)
    refine ⟨kee_below hb _, by rw [hd, hq]; rfl, fun d' hd' => ?_⟩
    rw [hd, hq] at hd'
    cases hd'
  | some t =>
    by_cases h6 : y.1.1 = 6
    rotate_left
    · have hb := hn (by rw [hq]; simp [h6])
      refine ⟨kee_below hb _, by rw [hd, hq]; simp [h6], fun d' hd' => ?_⟩
      rw [hd, hq] at hd'
      simp [h6] at hd'
    · obtain ⟨z, g, c, w3, w4, w5, hzs, hzi, hzo, hr3, hk3, hg, hw4, hw5, hw'⟩ := hyy (by rw [hq]; simp [h6])
      obtain ⟨hz0, _, hzt⟩ := htd z t hq hzs
      have hbox3 : w3.heap[db]? = _ := (hk3.block db h.lt fun q => h.apart.1.2.1 q).trans h.box
      obtain ⟨o1, o2, o3, o4, o5⟩ := h.own
      have hsz3 := hk3.size
      have hbox4 := (set_box7 hbox3).2.1 (.slice (some ⟨g, 0, none⟩) (sp.length + 1) c)
      rw [← hw4] at hbox4
      have hk4 : Kee (fun b => b = db) w3 w4 := by rw [hw4]; exact kee_set _ _ _ _
      have hk5 : Kee (fun b => b = bg) w4 w5 := by
        rw [hw5]
        exact Kee.trans (kee_put4 w4 bg (vr * 4) _ _ _ _) (kee_below ((Below.refl _ _).drew) _) fun _ _ e => e
      have hbox5 : w5.heap[db]? = _ := (hk5.block db (Array.getElem?_eq_some_iff.1 hbox4).1 o1).trans hbox4
      have hk6 : Kee (fun b => b = db) w5 w' := by rw [hw']; exact kee_set _ _ _ _
      have hbox6 := (set_box7 hbox5).2.2.2.1 (.int .i64 (d.next + 1))
      rw [← hw'] at hbox6
      have hs4 := hk4.size
      have hs5 := hk5.size
      have hs6 := hk6.size
      have hk' : Kee (DoW db bg sv (.slice va sp.length vc) lv) w w' := Kee.trans (Kee.trans (Kee.trans (hk3.mono fun q _ hq => Or.inr (Or.inr (Or.inr (Or.inl hq)))) hk4 fun q _ hq => Or.inl hq) hk5 fun q _ hq => Or.inr (Or.inl hq)) hk6 fun q _ hq => Or.inl hq
      have hgn : ∀ q, q < w.heap.size → ¬ (Value.slice va sp.length vc).ownBlock = some q → g ≠ q := fun q hq hne e => by
        rcases hg with hg | hg
        · rw [e] at hg
          exact hne hg
        · omega
      have hW : ∀ q, DoW db bg sv (.slice (some ⟨g, 0, none⟩) (sp.length + 1) c) lv q → DoW db bg sv (.slice va sp.length vc) lv q ∨ w.heap.size ≤ q := fun q hq => by
        rcases hq with hq | hq | hq | hq | hq
        · exact Or.inl (Or.inl hq)
        · exact Or.inl (Or.inr (Or.inl hq))
        · exact Or.inl (Or.inr (Or.inr (Or.inl hq)))
        · have : g = q := Option.some.inj hq
          subst this
          rcases hg with hg | hg
          · exact Or.inl (Or.inr (Or.inr (Or.inr (Or.inl hg))))
          · exact Or.inr hg
        · exact Or.inl (Or.inr (Or.inr (Or.inr (Or.inr hq))))
      obtain ⟨q1, q2, q3, q4⟩ := h.frame hk' hW
      refine ⟨hk', by rw [hd, hq]; simp [h6], fun d' hd' => ?_⟩
      rw [hd, hq] at hd'
      have hd' : some { d with b := d.b.set vr (pidT d.next), next := d.next + 1, spawns := d.spawns ++ [(d.next, a.2.2.1, t)] } = some d' := by simpa [h6] using hd'
      obtain rfl := Option.some.inj hd'
      have hll : ∀ q, lv.ownBlock = some q → q < w.heap.size := fun q hq => by
        obtain ⟨cur, hcu⟩ := own_cells h.lRow q hq
        exact (Array.getElem?_eq_some_iff.1 hcu).1
      have hsl : ∀ q, sv.ownBlock = some q → q < w.heap.size := fun q hq => by
        obtain ⟨cur, hcu⟩ := own_cells h.sRow q hq
        exact (Array.getElem?_eq_some_iff.1 hcu).1
      have hbg3 : ¬ (Value.slice va sp.length vc).ownBlock = some bg := h.apart.2.1.2.1
      have hzn : Off (DoF base db bg sv (.slice (some ⟨g, 0, none⟩) (sp.length + 1) c) lv) _ z := hzo.mono fun q hq => by
        have := h.lt
        refine ⟨by omega, fun hw => ?_⟩
        rcases hw with hw | hw | hw | hw | hw
        · omega
        · omega
        · have := hsl q hw
          omega
        · exact hq.2 (Option.some.inj hw).symm
        · have := hll q hw
          omega
      have hpk := pid_ok d.next D (by omega)
      -- the row of what is bound
      have hbg4 : ∀ j, w4.cell? ⟨bg, j, none⟩ = w.cell? ⟨bg, j, none⟩ := fun j => (hk4.cell j (by omega) (fun e => o1 e.symm)).trans (hk3.cell j o4 hbg3)
      have hbg6 : ∀ j, w'.cell? ⟨bg, j, none⟩ = w5.cell? ⟨bg, j, none⟩ := fun j => hk6.cell j (by omega) (fun e => o1 e.symm)
      have hbg5 : ∀ j, w5.cell? ⟨bg, j, none⟩ = (put4 w4 bg (vr * 4) (.int .i64 3) (.int .i64 d.next) (.string ⟨#[]⟩) (.slice none 0 0)).cell? ⟨bg, j, none⟩ := fun j => by
        rw [hw5, drew_cell]
      have hfar : ∀ j, j < vr * 4 ∨ vr * 4 + 4 ≤ j → w'.cell? ⟨bg, j, none⟩ = w.cell? ⟨bg, j, none⟩ := fun j hj => by
        rw [hbg6, hbg5, put4_far j hj]
        exact hbg4 j
      have hhere := put4_here (w := w4) (g := bg) (o := vr * 4) (.int .i64 3) (.int .i64 d.next) (.string ⟨#[]⟩) (.slice none 0 0) ⟨(hbg4 _).trans y1.1, (hbg4 _).trans y1.2.1, (hbg4 _).trans y1.2.2.1, (hbg4 _).trans y1.2.2.2⟩
      refine ⟨l.set vr (leafV 3 d.next D), bg, bc, sd, sp ++ [(d.next, a.2.2.1, z)], sv, _, lv, ⟨hbox6, ⟨o1, o2, o3, by omega, by omega⟩, bnd_set h.bnd vr hpk.1, ?_, fun i y' hy' => ?_, fun j => ?_, ?_, ?_, ?_, h.sIs, ?_, q2, fun x hx => ?_, ⟨⟨h.apart.1.1, ?_, h.apart.1.2.2⟩, ⟨h.apart.2.1.1, ?_, h.apart.2.1.2.2⟩, fun q => ⟨fun hq => ⟨fun e => ?_, ((h.apart.2.2 q).1 hq).2⟩, fun hq e => ?_⟩⟩, ⟨by omega, by simp; omega, by show d.links.length ≤ k + 1; omega, by show d.next + 1 = nx + ((sp ++ [(d.next, a.2.2.1, z)]).length : Nat); simp; omega, f5, f6⟩⟩, hW⟩
      · rw [List.map_set, h.tells, hpk.2]
      · by_cases hi : vr = i
        · subst hi
          rw [List.getElem?_set_self (by omega)] at hy'
          obtain rfl := Option.some.inj hy'
          have hin := leaf_out D 3 d.next (by unfold I64; omega) (by unfold I64; omega) w'.heap.size w' (DoF base db bg sv (.slice (some ⟨g, 0, none⟩) (sp.length + 1) c) lv)
          refine ⟨⟨?_, ?_, ?_, ?_⟩, hin.1, hin.2⟩
          · rw [hbg6, hbg5]; exact hhere.1
          · rw [hbg6, hbg5]; exact hhere.2.1
          · rw [hbg6, hbg5]; exact hhere.2.2.1
          · rw [hbg6, hbg5]; exact hhere.2.2.2
        · rw [List.getElem?_set_ne hi] at hy'
          exact ⟨(h.row i y' hy').1.far fun j j1 j2 => hfar j (by omega), q1 i y' hy'⟩
      · have e6 : w'.frozen? ⟨bg, j, none⟩ = w5.frozen? ⟨bg, j, none⟩ := by
          unfold World.frozen?
          rw [hk6.block bg (by omega) (fun e => o1 e.symm)]
        have e5 : w5.frozen? ⟨bg, j, none⟩ = w4.frozen? ⟨bg, j, none⟩ := by
          rw [hw5, drew_frozen, put4_frozen]
        have e4 : w4.frozen? ⟨bg, j, none⟩ = w.frozen? ⟨bg, j, none⟩ := by
          unfold World.frozen?
          rw [hk4.block bg (by omega) (fun e => o1 e.symm), hk3.block bg o4 hbg3]
        rw [e6, e5, e4]
        exact h.free j
      · refine row_kee (row_kee (row_kee (row_kee h.sRow hk3 fun q hq hl => ((h.apart.2.2 q).1 hq).1 hl) hk4 fun q hq e => h.apart.1.1 (by rw [hq, e])) hk5 fun q hq e => h.apart.2.1.1 (by rw [hq, e])) hk6 fun q hq e => h.apart.1.1 (by rw [hq, e])
      · have := row_kee (row_kee (row_kee hr3 hk4 fun q hq e => hgn db h.lt h.apart.1.2.1 (by
          have : g = q := Option.some.inj hq
          rw [this, e])) hk5 fun q hq e => hgn bg o4 hbg3 (by
          have : g = q := Option.some.inj hq
          rw [this, e])) hk6 fun q hq e => hgn db h.lt h.apart.1.2.1 (by
          have : g = q := Option.some.inj hq
          rw [this, e])
        simpa using this
      · refine row_kee (row_kee (row_kee (row_kee h.lRow hk3 fun q hq hl => (h.apart.2.2 q).2 hl hq) hk4 fun q hq e => h.apart.1.2.2 (by rw [hq, e])) hk5 fun q hq e => h.apart.2.1.2.2 (by rw [hq, e])) hk6 fun q hq e => h.apart.1.2.2 (by rw [hq, e])
      · simp [h.pIs, hzt]
      · rcases List.mem_append.1 hx with hx | hx
        · exact q3 x hx
        · obtain rfl := List.mem_singleton.1 hx
          have hlt := h.lt
          have hz4 := hzi.kee hk4 (hzo.mono fun q hq e => by omega)
          have hz5 := hz4.kee hk5 (hzo.mono fun q hq e => by omega)
          exact ⟨hz0, hz5.kee hk6 (hzo.mono fun q hq e => by omega), hzn⟩
      · exact fun e => hgn db h.lt h.apart.1.2.1 (Option.some.inj e)
      · exact fun e => hgn bg o4 hbg3 (Option.some.inj e)
      · exact hgn q (hsl q hq) (fun z => ((h.apart.2.2 q).1 hq).1 z) (Option.some.inj e)
      · have hgq : g = q := Option.some.inj hq
        exact hgn q (hll q e) (fun z => (h.apart.2.2 q).2 z e) hgq
end
end Go.Proofs.Ytbmjfnicfpdjfaa
