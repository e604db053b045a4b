/- What is proved here: plain facts and contracts that the claimed theorem stands on, several texts in one: what clerkkeep.CodeBack calls, as it calls it: a program that is told is read, the same; the document's SamePrograms of two that are told the same answers true; a small program's text. Conditions: told as a term, at most 2097152 terms; the library's table of powers lies as its text lays it. clerkkeep.told and clerkkeep.CodeBack return true and turn no memory that was there, for every term and every list that lie in memory. Conditions: at most 2097152 terms and letters, told as a term too; the library's table of powers lies as its text lays it. whatever reads as a term is a tree that lies in memory, no larger than the reading's bulk; and a row over terms follows from what the call does. No condition. whatever reads as a list of behaviours is a program's list that lies in memory, no larger than the reading's bulk. No condition. told as a term, a program in form is of no more terms than its bulk and 2897. No condition beside its form. -/
import Derived.Test.YtpehdgbdinjbaabDoorG16
import Derived.Test.YtpehdgbdinjbaabDoorG17
import Derived.Test.YtpehdgbdinjbaabDoorG18
import Derived.Test.YtpehdgbdinjbaabDoorG20
import Derived.ProofKit
import Derived.OpenShut
import Derived.JoinedCond
import Derived.Test.YtpehdgbdinjbaabDoorG09
namespace Go.Proofs.YtpehdgbdinjbaabDoor
open Go.RowKit

theorem same_wt : (n : Nat) → (x : Tm n) → (m : Nat) → (y : Tm m) → same n x m y = true → wt n x = wt m y
  | 0, _, _, _, h => by simp [same] at h
  | _ + 1, _, 0, _, h => by simp [same] at h
  | n + 1, x, m + 1, y, h => by
    obtain ⟨h1, h2⟩ := same_parts h
    simp only [wt, h1]
    rw [sameL_map _ _ _ _ _ (fun a _ b hab => same_wt n a m b hab) h2]
def BkFrom (n : Nat) (p : List (Bh (n + 1))) (len : Nat) (W : World) (e : Ending) (w' : World) : Prop :=
  ∃ (l : List (Bh (n + 6))) (a : Option Addr) (c : Nat), e = .returned (.tuple #[.slice a len c, .int .i64 0]) ∧ Hid (Below W.heap.size W w' ∧ l.length = len ∧ PgIn (n + 6) w'.heap.size w' a l ∧ pgB (n + 6) l = true ∧ toE (n + 5) l = 0 ∧ same (n + 11) (toT (n + 5) l) (n + 6) (toT n p) = true ∧ (nodes (n + 11) (tellP (n + 5) l)).length ≤ 2097152)
theorem bk_from {n len : Nat} {p : List (Bh (n + 1))} {y : Tm (n + 6)} {w W : World} (hlen : p.length = len) (hp : toE n p = 0) (hN : (nodes (n + 6) (tellP n p)).length ≤ 2097152) (hy : In w.heap.size w (n + 6) y) (hs : same (n + 6) y (n + 6) (toT n p) = true) (hW : Below w.heap.size w W) :
    Calls Tryd.prog 11 #[.agg #[.int .i64 y.1.1, .int .i64 y.1.2.1, .string y.1.2.2, .slice y.2.1.1 y.2.2.length y.2.1.2]] W (BkFrom n p len W) := by
  subst hlen
  obtain ⟨h1, h2, h3⟩ := told_read hp hs
  have hn : (nodes (n + 6) y).length ≤ 2097152 := by
    rw [same_nlen _ _ _ _ hs, (toE_form hp).2.2]
    exact hN
  refine (from_any (n + 5) (n + 6) (Nat.le_refl _) y w.heap.size W (hy.below hW) hn hW.size).mono ?_
  rintro e w' ⟨l, a, c, rfl, k1, k2, k3, k4, k5, k6⟩
  obtain ⟨z, hz, hr⟩ := k6 h2
  obtain ⟨m1, m2, m3, m4, m5⟩ := h3 z l hz hr
  rw [h2, m4]
  exact ⟨l, a, c, rfl, k1, m4, k3, m1, m2, m3, by rw [m5]; exact hN⟩
theorem bk_same {n m pl ql : Nat} {p : List (Bh (n + 1))} {q : List (Bh (m + 1))} {a c : Option Addr} {pc qc : Nat} {W : World} (hpl : p.length = pl) (hql : q.length = ql) (hp : toE n p = 0) (hq : toE m q = 0) (hNp : (nodes (n + 6) (tellP n p)).length ≤ 2097152) (hNq : (nodes (m + 6) (tellP m q)).length ≤ 2097152) (ip : PgIn (n + 1) W.heap.size W a p) (iq : PgIn (m + 1) W.heap.size W c q) (hs : same (n + 6) (toT n p) (m + 6) (toT m q) = true) (hl : p.length = q.length) :
    Calls Tryd.prog 12 #[.slice a pl pc, .slice c ql qc] W fun e w' => e = .returned (.bool true) ∧ Below W.heap.size W w' := by
  have fp := (toE_form hp).1
  have fq := (toE_form hq).1
  have lp := (pg_bounds fp).1
  have lq := (pg_bounds fq).1
  have h := samePrograms_any n m p q a c pl pc ql qc hpl hql W.heap.size W (by omega) (by omega) (fun w1 h1 => rto_form n p pl hpl fp a pc W.heap.size w1 (PgIn.below h1 ip) h1.size (by omega) hNp) (fun w1 h1 => rto_form m q ql hql fq c qc W.heap.size w1 (PgIn.below h1 iq) h1.size (by omega) hNq)
  rw [sameP_of hp hq hs hl] at h
  exact h

theorem small_nodes {l : List (Bh 3)} (h : RelL (bhS 3) l smallP) : (nodes 8 (tellP 2 l)).length ≤ 2097152 := by
  rw [same_nlen _ _ _ _ (pgS_tell h)]
  decide
theorem small_E {l : List (Bh 3)} (h : RelL (bhS 3) l smallP) : toE 2 l = 0 := (toE_congr h).trans small_toE
def SmTo (W : World) (l : List (Bh 3)) (e : Ending) (w' : World) : Prop := ∃ y : Tm 8, e = .returned (.tuple #[val 8 y, .int .i64 0]) ∧ Hid (Below W.heap.size W w' ∧ In w'.heap.size w' 8 y ∧ same 8 y 8 (toT 2 l) = true)
theorem sm_to {W : World} {a : Option Addr} {l : List (Bh 3)} (hl : l.length = 1) (hi : PgIn 3 W.heap.size W a l) (hr : RelL (bhS 3) l smallP) :
    Calls Tryd.prog 10 #[.slice a 1 1] W (SmTo W l) := by
  have h := to_any 2 l a 1 (by omega) (by unfold maxLen; omega) W.heap.size W hi (Nat.le_refl _) (fun _ => small_nodes hr)
  rw [hl] at h
  refine h.mono ?_
  rintro e w' ⟨y, rfl, k⟩
  rw [small_E hr]
  exact ⟨y, rfl, k.out.1, k.out.2.1, k.out.2.2.2⟩
theorem sm_print {w W : World} {y : Tm 8} {l : List (Bh 3)} (hr : RelL (bhS 3) l smallP) (hy : In w.heap.size w 8 y) (hs : same 8 y 8 (toT 2 l) = true) (hW : Below w.heap.size w W) (ht : Tab W.heap.size W) :
    Calls Tryd.prog 6 #[.agg #[.int .i64 y.1.1, .int .i64 y.1.2.1, .string y.1.2.2, .slice y.2.1.1 y.2.2.length y.2.1.2]] W fun e w' => e = .returned (.tuple #[.string ⟨#[40, 99, 111, 100, 101, 32, 40, 98, 101, 104, 32, 114, 101, 108, 97, 121, 32, 40, 111, 110, 32, 36, 48, 32, 40, 110, 32, 36, 49, 41, 32, 40, 40, 115, 101, 110, 100, 32, 36, 48, 32, 40, 110, 32, 40, 97, 100, 100, 32, 36, 49, 32, 49, 41, 41, 41, 41, 32, 36, 48, 41, 41, 41]⟩, .int .i64 0]) ∧ Below W.heap.size W w' := by
  have hE := small_E hr
  rw [(toE_form hE).2.2] at hs
  have hs2 := same_trans _ _ _ _ _ _ hs (pgS_tell hr)
  have hc : chk 8 y = 0 := (same_chk hs2).trans small_chk
  have hn : (nodes 8 y).length = 22 := by
    rw [same_nlen _ _ _ _ hs2]
    decide
  have hw : wt 8 y ≤ 2097152 := by
    rw [same_wt _ _ _ _ hs2]
    decide
  have h := print_any 8 y w.heap.size W (hy.below hW) hW.size ht (by omega) hw
  rw [hc, if_pos rfl, same_wtext _ _ _ _ hs2, small_text] at h
  exact h
end Go.Proofs.YtpehdgbdinjbaabDoor
namespace Go.Proofs.YtpehdgbdinjbaabDoor
open Go.RowKit

theorem tab_later {w w' : World} (ht : Tab w.heap.size w) (hb : Below w.heap.size w w') : Tab w'.heap.size w' := Tab.mono (ht.on hb) hb.size
set_option maxHeartbeats 4000000 in
set_option maxRecDepth 100000 in
theorem told_any (w : World) (ht : Tab w.heap.size w) : Calls Tryd.prog 9 #[] w fun e w' => e = .returned (.bool true) ∧ Below w.heap.size w w' := by
  have HT := hide ht
  clear ht
  go_enter Tryd.func9, Tryd.ntmps9
  go_wp2_with fail
  refine (small_any _).mono ?_
  rintro e w1 ⟨a1, l1, rfl, H1⟩
  go_wp2_with fail
  refine (sm_to H1.out.2.1 H1.out.2.2.1 H1.out.2.2.2).mono ?_
  rintro e w2 ⟨y, rfl, H2⟩
  have e3 : val 8 y = .agg #[.int .i64 y.1.1, .int .i64 y.1.2.1, .string y.1.2.2, .slice y.2.1.1 y.2.2.length y.2.1.2] := rfl
  rw [e3]
  clear e3
  have HB2 : Hid (Below w.heap.size w w2) := H1.out.1.trans (H2.out.1.mono H1.out.1.size)
  go_wp2_with fail
  refine (bk_from (len := 1) H1.out.2.1 (small_E H1.out.2.2.2) (small_nodes H1.out.2.2.2) H2.out.2.1 H2.out.2.2 one_alloc).mono ?_
  rintro e w3 ⟨l3, a3, c3, rfl, H3⟩
  have HX3 := hide (box4_new w2 _ _ _ _ _ H3.out.1)
  have HB23 : Hid (Below w2.heap.size w2 w3) := one_alloc.trans (H3.out.1.mono (by simp))
  have HB3 : Hid (Below w.heap.size w w3) := HB2.out.trans (HB23.out.mono HB2.out.size)
  have c0 : w3.cell? ⟨w2.heap.size, 0, none⟩ = some (.int .i64 y.1.1) := box_cell HX3.out 0
  have c1 : w3.cell? ⟨w2.heap.size, 1, none⟩ = some (.int .i64 y.1.2.1) := box_cell HX3.out 1
  have c2 : w3.cell? ⟨w2.heap.size, 2, none⟩ = some (.string y.1.2.2) := box_cell HX3.out 2
  have c3' : w3.cell? ⟨w2.heap.size, 3, none⟩ = some (.slice y.2.1.1 y.2.2.length y.2.1.2) := box_cell HX3.out 3
  go_wp2_with fail
  refine (sm_print H1.out.2.2.2 H2.out.2.1 H2.out.2.2 HB23.out (tab_later HT.out HB3.out)).mono ?_
  rintro e w4 ⟨rfl, hb4⟩
  have HB34 := hide hb4
  have HB4 : Hid (Below w.heap.size w w4) := HB3.out.trans (hb4.mono HB3.out.size)
  clear hb4 c0 c1 c2 c3'
  have HSM : Hid (∀ (w5 : World) (a5 : Option Addr) (l5 : List (Bh 3)), Below w4.heap.size w4 w5 → l5.length = 1 → PgIn 3 w5.heap.size w5 a5 l5 → RelL (bhS 3) l5 smallP → Calls Tryd.prog 12 #[.slice a3 1 c3, .slice a5 1 1] w5 fun e w' => e = .returned (.bool true) ∧ Below w5.heap.size w5 w') := fun w5 a5 l5 hb hl hi hr => by
    have hb3 : Below w3.heap.size w3 w5 := HB34.out.trans (hb.mono HB34.out.size)
    refine bk_same (n := 7) (m := 2) H3.out.2.1 hl H3.out.2.2.2.2.1 (small_E hr) H3.out.2.2.2.2.2.2 (small_nodes hr) ((PgIn.below hb3 H3.out.2.2.1).mono hb3.size) hi ?_ (by rw [H3.out.2.1, hl])
    have h1 := H3.out.2.2.2.2.2.1
    rw [(toE_form (small_E H1.out.2.2.2)).2.2] at h1
    rw [(toE_form (small_E hr)).2.2]
    exact same_trans _ _ _ _ _ _ h1 (same_trans _ _ _ _ _ _ (pgS_tell H1.out.2.2.2) (same_symm _ _ _ _ (pgS_tell hr)))
  go_wp2_with fail
  refine (small_any _).mono ?_
  rintro e w5 ⟨a5, l5, rfl, H5⟩
  have HB5 : Hid (Below w.heap.size w w5) := HB4.out.trans (H5.out.1.mono HB4.out.size)
  go_wp2_with fail
  refine (HSM.out w5 a5 l5 H5.out.1 H5.out.2.1 H5.out.2.2.1 H5.out.2.2.2).mono ?_
  rintro e w6 ⟨rfl, hb6⟩
  have HB6 : Hid (Below w.heap.size w w6) := HB5.out.trans (hb6.mono HB5.out.size)
  clear hb6
  go_wp2_with fail
  go_ret
  exact ⟨rfl, HB6.out⟩

/-- A program that was told: an error, or what it is told as. -/
theorem back_to {n len : Nat} {p : List (Bh (n + 1))} {a : Option Addr} {pc B : Nat} {W : World} (hlen : p.length = len) (hl : len ≤ pc) (hpc : pc ≤ maxLen) (hi : PgIn (n + 1) B W a p) (hB : B ≤ W.heap.size) (hN : pgB (n + 1) p = true → (nodes (n + 6) (tellP n p)).length ≤ 2097152) :
    Calls Tryd.prog 10 #[.slice a len pc] W (ToOut B n p W) := by
  subst hlen
  exact to_any n p a pc hl hpc B W hi hB hN
/-- What is read of a term: an error and nothing, or a list in form that is told as that term. -/
def BkRead (n : Nat) (x : Tm n) (W : World) (e : Ending) (w' : World) : Prop :=
  ∃ (l : List (Bh (n + 1))) (len : Nat) (a : Option Addr) (c : Nat) (E : Int), e = .returned (.tuple #[.slice a len c, .int .i64 E]) ∧ Hid (Below W.heap.size W w' ∧ l.length = len ∧ (len ≤ c ∧ c ≤ maxLen) ∧ PgIn (n + 1) w'.heap.size w' a l ∧ (¬ E = 0 → len = 0) ∧ (E = 0 → pgB (n + 1) l = true ∧ toE n l = 0 ∧ same (n + 6) (toT n l) n x = true ∧ (nodes (n + 6) (tellP n l)).length ≤ 2097152))
theorem back_from {n : Nat} {x : Tm n} {B : Nat} {W : World} (hx : In B W n x) (hN : (nodes n x).length ≤ 2097152) (hB : B ≤ W.heap.size) :
    Calls Tryd.prog 11 #[val n x] W (BkRead n x W) := by
  refine (from_any n n (by omega) x B W hx hN hB).mono ?_
  rintro e w' ⟨l, a, c, rfl, k1, k2, k3, k4, k5, k6⟩
  refine ⟨l, l.length, a, c, _, rfl, k1, rfl, k2, k3, fun h => by rw [k5 h]; rfl, fun h => ?_⟩
  obtain ⟨hc, hz0⟩ := from_form h
  obtain ⟨z, hz, hr⟩ := k6 h
  obtain ⟨m1, m2, m3, m4⟩ := read_told (by omega) hc hz hr (hz0 z hz)
  exact ⟨m1, m2, m3, by rw [m4]; exact hN⟩

set_option maxHeartbeats 4000000 in
set_option maxRecDepth 100000 in
theorem cback_walk (m : Nat) (x : Tm (m + 1)) (n : Nat) (p : List (Bh (n + 1))) (len : Nat) (a : Option Addr) (pc B : Nat) (w : World) (hlen : Hid (p.length = len)) (hl : len ≤ pc) (hpc : Hid (pc ≤ maxLen)) (hx : Hid (In B w (m + 1) x)) (hp : Hid (PgIn (n + 1) B w a p)) (hB : B ≤ w.heap.size) (ht : Hid (Tab w.heap.size w)) (hNx : Hid ((nodes (m + 1) x).length ≤ 2097152)) (hNp : Hid (pgB (n + 1) p = true → (nodes (n + 6) (tellP n p)).length ≤ 2097152)) :
    Calls Tryd.prog 4 #[.agg #[.int .i64 x.1.1, .int .i64 x.1.2.1, .string x.1.2.2, .slice x.2.1.1 x.2.2.length x.2.1.2], .slice a len pc] w fun e w' => e = .returned (.bool true) ∧ Below w.heap.size w w' := by
  go_enter Tryd.func4, Tryd.ntmps4
  go_wp2_with fail
  refine (told_any _ (tab_later ht.out one_alloc)).mono ?_
  rintro e w1 ⟨rfl, hb1⟩
  have HX1 := hide (box4_new w _ _ _ _ _ hb1)
  have HB1 : Hid (Below w.heap.size w w1) := one_alloc.trans (hb1.mono (by simp))
  clear hb1
  go_wp2_with fail
  refine (back_to hlen.out hl hpc.out (PgIn.below (HB1.out.mono hB) hp.out) (Nat.le_trans hB HB1.out.size) hNp.out).mono ?_
  rintro e w2 ⟨y, rfl, HY⟩
  have e3 : val (n + 6) y = .agg #[.int .i64 y.1.1, .int .i64 y.1.2.1, .string y.1.2.2, .slice y.2.1.1 y.2.2.length y.2.1.2] := rfl
  rw [e3]
  clear e3
  have HB2 : Hid (Below w.heap.size w w2) := HB1.out.trans (HY.out.1.mono HB1.out.size)
  have hq1 : w.heap.size < w1.heap.size := (Array.getElem?_eq_some_iff.1 HX1.out).1
  have HX2 := hide ((HY.out.1.block _ hq1).trans HX1.out)
  obtain ⟨E, hE⟩ : ∃ E, toE n p = E := ⟨_, rfl⟩
  rw [hE]
  have HE := hide hE
  clear hE HX1
  have hq2 : w.heap.size < w2.heap.size := (Array.getElem?_eq_some_iff.1 HX2.out).1
  have HBT : Hid (∀ W, Below w2.heap.size w2 W → Below w.heap.size w W ∧ W.heap[w.heap.size]? = some (.cells #[.int .i64 x.1.1, .int .i64 x.1.2.1, .string x.1.2.2, .slice x.2.1.1 x.2.2.length x.2.1.2] 24)) := fun W h => ⟨HB2.out.trans (h.mono HB2.out.size), (h.block _ hq2).trans HX2.out⟩
  by_cases h0 : E = 0
  · subst h0
    go_wp2_with fail
    refine (bk_from (w := w2) hlen.out HE.out (hNp.out (toE_form HE.out).1) HY.out.2.1 HY.out.2.2.2 one_alloc).mono ?_
    rintro e w3 ⟨l3, a3, c3, rfl, H3⟩
    have HB23 : Hid (Below w2.heap.size w2 w3) := one_alloc.trans (H3.out.1.mono (by simp))
    have HP3 := hide (bk_same (n := n) (m := n + 5) (a := a) (c := a3) (pc := pc) (qc := c3) (W := w3) hlen.out H3.out.2.1 HE.out H3.out.2.2.2.2.1 (hNp.out (toE_form HE.out).1) H3.out.2.2.2.2.2.2 ((PgIn.below ((HBT.out w3 HB23.out).1.mono hB) hp.out).mono (Nat.le_trans hB (HBT.out w3 HB23.out).1.size)) H3.out.2.2.1 (same_symm _ _ _ _ H3.out.2.2.2.2.2.1) (by rw [hlen.out, H3.out.2.1]))
    go_wp2_with fail
    refine HP3.out.mono ?_
    rintro e w4 ⟨rfl, hb4⟩
    have HB24 : Hid (Below w2.heap.size w2 w4) := HB23.out.trans (hb4.mono HB23.out.size)
    have HBt := hide (HBT.out w4 HB24.out).1
    have HXt := hide (HBT.out w4 HB24.out).2
    clear hb4 HP3 H3 HB23 HB24
    have c0 : w4.cell? ⟨w.heap.size, 0, none⟩ = some (.int .i64 x.1.1) := box_cell HXt.out 0
    have c1 : w4.cell? ⟨w.heap.size, 1, none⟩ = some (.int .i64 x.1.2.1) := box_cell HXt.out 1
    have c2 : w4.cell? ⟨w.heap.size, 2, none⟩ = some (.string x.1.2.2) := box_cell HXt.out 2
    have c3 : w4.cell? ⟨w.heap.size, 3, none⟩ = some (.slice x.2.1.1 x.2.2.length x.2.1.2) := box_cell HXt.out 3
    go_wp2_with fail
    refine (back_from (x := x) (B := B) (hx.out.below (HBt.out.mono hB)) hNx.out (Nat.le_trans hB HBt.out.size)).mono ?_
    rintro e w5 ⟨l5, len5, a5, c5, E5, rfl, H5⟩
    have HB5 : Hid (Below w.heap.size w w5) := HBt.out.trans (H5.out.1.mono HBt.out.size)
    have hq4 : w.heap.size < w4.heap.size := (Array.getElem?_eq_some_iff.1 HXt.out).1
    have HX5 := hide ((H5.out.1.block _ hq4).trans HXt.out)
    have hle5 : len5 ≤ 9223372036854775807 := by have := H5.out.2.2.1; unfold maxLen at this; omega
    by_cases h5 : E5 = 0
    · subst h5
      have HF5 := hide (H5.out.2.2.2.2.2 rfl)
      go_wp2_with fail
      refine (back_to (B := w5.heap.size) H5.out.2.1 H5.out.2.2.1.1 H5.out.2.2.1.2 H5.out.2.2.2.1 (Nat.le_refl _) (fun _ => HF5.out.2.2.2)).mono ?_
      rintro e w6 ⟨z, rfl, HZ⟩
      rw [HF5.out.2.1]
      have e3 : val (m + 1 + 6) z = .agg #[.int .i64 z.1.1, .int .i64 z.1.2.1, .string z.1.2.2, .slice z.2.1.1 z.2.2.length z.2.1.2] := rfl
      rw [e3]
      clear e3
      have HB6 : Hid (Below w.heap.size w w6) := HB5.out.trans (HZ.out.1.mono HB5.out.size)
      have hq5 : w.heap.size < w5.heap.size := (Array.getElem?_eq_some_iff.1 HX5.out).1
      have HX6 := hide ((HZ.out.1.block _ hq5).trans HX5.out)
      have d0 : w6.cell? ⟨w.heap.size, 0, none⟩ = some (.int .i64 x.1.1) := box_cell HX6.out 0
      have d1 : w6.cell? ⟨w.heap.size, 1, none⟩ = some (.int .i64 x.1.2.1) := box_cell HX6.out 1
      have d2 : w6.cell? ⟨w.heap.size, 2, none⟩ = some (.string x.1.2.2) := box_cell HX6.out 2
      have d3 : w6.cell? ⟨w.heap.size, 3, none⟩ = some (.slice x.2.1.1 x.2.2.length x.2.1.2) := box_cell HX6.out 3
      have hq6 : w.heap.size < w6.heap.size := (Array.getElem?_eq_some_iff.1 HX6.out).1
      have HSM : Hid (∀ w7, Below w6.heap.size w6 w7 → Calls Tryd.prog 8 #[.agg #[.int .i64 z.1.1, .int .i64 z.1.2.1, .string z.1.2.2, .slice z.2.1.1 z.2.2.length z.2.1.2], .agg #[.int .i64 x.1.1, .int .i64 x.1.2.1, .string x.1.2.2, .slice x.2.1.1 x.2.2.length x.2.1.2]] w7 fun e w' => e = .returned (.bool true) ∧ Below w7.heap.size w7 w') := fun w7 h7 => by
        have hs : same (m + 1 + 6) z (m + 1) x = true := same_trans _ _ _ _ _ _ HZ.out.2.2.2 HF5.out.2.2.1
        rw [← hs]
        exact same_any (m + 1 + 6) z (m + 1) x w7.heap.size w7 ((HZ.out.2.1.below h7).mono h7.size) ((hx.out.below ((HB6.out.trans (h7.mono HB6.out.size)).mono hB)).mono (Nat.le_trans hB (HB6.out.trans (h7.mono HB6.out.size)).size)) (Nat.le_refl _)
      go_wp2_with fail
      refine (HSM.out _ one_alloc).mono ?_
      rintro e w8 ⟨rfl, hb8⟩
      have HB8 : Hid (Below w.heap.size w w8) := HB6.out.trans ((one_alloc.trans (hb8.mono (by simp))).mono HB6.out.size)
      clear hb8
      go_wp2_with fail
      go_ret
      exact ⟨rfl, HB8.out⟩
    · have h5' : (E5 != 0) = true := by simpa using h5
      obtain rfl : len5 = 0 := H5.out.2.2.2.2.1 h5
      go_wp2_with fail
      go_ret
      exact ⟨by simp, HB5.out⟩
  · have h0' : (E == 0) = false := by simpa using h0
    have c0 : w2.cell? ⟨w.heap.size, 0, none⟩ = some (.int .i64 x.1.1) := box_cell HX2.out 0
    have c1 : w2.cell? ⟨w.heap.size, 1, none⟩ = some (.int .i64 x.1.2.1) := box_cell HX2.out 1
    have c2 : w2.cell? ⟨w.heap.size, 2, none⟩ = some (.string x.1.2.2) := box_cell HX2.out 2
    have c3 : w2.cell? ⟨w.heap.size, 3, none⟩ = some (.slice x.2.1.1 x.2.2.length x.2.1.2) := box_cell HX2.out 3
    have HBt := hide (HBT.out _ (one_alloc (w := w2) (o := .cells #[.int .i64 y.1.1, .int .i64 y.1.2.1, .string y.1.2.2, .slice y.2.1.1 y.2.2.length y.2.1.2] 24))).1
    have HXt := hide (HBT.out _ (one_alloc (w := w2) (o := .cells #[.int .i64 y.1.1, .int .i64 y.1.2.1, .string y.1.2.2, .slice y.2.1.1 y.2.2.length y.2.1.2] 24))).2
    go_wp2_with fail
    clear c0 c1 c2 c3
    generalize w2.alloc _ = w4 at HBt HXt ⊢
    refine (back_from (x := x) (B := B) (hx.out.below (HBt.out.mono hB)) hNx.out (Nat.le_trans hB HBt.out.size)).mono ?_
    rintro e w5 ⟨l5, len5, a5, c5, E5, rfl, H5⟩
    have HB5 : Hid (Below w.heap.size w w5) := HBt.out.trans (H5.out.1.mono HBt.out.size)
    have hq4 : w.heap.size < w4.heap.size := (Array.getElem?_eq_some_iff.1 HXt.out).1
    have HX5 := hide ((H5.out.1.block _ hq4).trans HXt.out)
    have hle5 : len5 ≤ 9223372036854775807 := by have := H5.out.2.2.1; unfold maxLen at this; omega
    by_cases h5 : E5 = 0
    · subst h5
      have HF5 := hide (H5.out.2.2.2.2.2 rfl)
      go_wp2_with fail
      refine (back_to (B := w5.heap.size) H5.out.2.1 H5.out.2.2.1.1 H5.out.2.2.1.2 H5.out.2.2.2.1 (Nat.le_refl _) (fun _ => HF5.out.2.2.2)).mono ?_
      rintro e w6 ⟨z, rfl, HZ⟩
      rw [HF5.out.2.1]
      have e3 : val (m + 1 + 6) z = .agg #[.int .i64 z.1.1, .int .i64 z.1.2.1, .string z.1.2.2, .slice z.2.1.1 z.2.2.length z.2.1.2] := rfl
      rw [e3]
      clear e3
      have HB6 : Hid (Below w.heap.size w w6) := HB5.out.trans (HZ.out.1.mono HB5.out.size)
      have hq5 : w.heap.size < w5.heap.size := (Array.getElem?_eq_some_iff.1 HX5.out).1
      have HX6 := hide ((HZ.out.1.block _ hq5).trans HX5.out)
      have d0 : w6.cell? ⟨w.heap.size, 0, none⟩ = some (.int .i64 x.1.1) := box_cell HX6.out 0
      have d1 : w6.cell? ⟨w.heap.size, 1, none⟩ = some (.int .i64 x.1.2.1) := box_cell HX6.out 1
      have d2 : w6.cell? ⟨w.heap.size, 2, none⟩ = some (.string x.1.2.2) := box_cell HX6.out 2
      have d3 : w6.cell? ⟨w.heap.size, 3, none⟩ = some (.slice x.2.1.1 x.2.2.length x.2.1.2) := box_cell HX6.out 3
      have hq6 : w.heap.size < w6.heap.size := (Array.getElem?_eq_some_iff.1 HX6.out).1
      have HSM : Hid (∀ w7, Below w6.heap.size w6 w7 → Calls Tryd.prog 8 #[.agg #[.int .i64 z.1.1, .int .i64 z.1.2.1, .string z.1.2.2, .slice z.2.1.1 z.2.2.length z.2.1.2], .agg #[.int .i64 x.1.1, .int .i64 x.1.2.1, .string x.1.2.2, .slice x.2.1.1 x.2.2.length x.2.1.2]] w7 fun e w' => e = .returned (.bool true) ∧ Below w7.heap.size w7 w') := fun w7 h7 => by
        have hs : same (m + 1 + 6) z (m + 1) x = true := same_trans _ _ _ _ _ _ HZ.out.2.2.2 HF5.out.2.2.1
        rw [← hs]
        exact same_any (m + 1 + 6) z (m + 1) x w7.heap.size w7 ((HZ.out.2.1.below h7).mono h7.size) ((hx.out.below ((HB6.out.trans (h7.mono HB6.out.size)).mono hB)).mono (Nat.le_trans hB (HB6.out.trans (h7.mono HB6.out.size)).size)) (Nat.le_refl _)
      go_wp2_with fail
      refine (HSM.out _ one_alloc).mono ?_
      rintro e w8 ⟨rfl, hb8⟩
      have HB8 : Hid (Below w.heap.size w w8) := HB6.out.trans ((one_alloc.trans (hb8.mono (by simp))).mono HB6.out.size)
      clear hb8
      go_wp2_with fail
      go_ret
      exact ⟨rfl, HB8.out⟩
    · have h5' : (E5 != 0) = true := by simpa using h5
      obtain rfl : len5 = 0 := H5.out.2.2.2.2.1 h5
      go_wp2_with fail
      go_ret
      exact ⟨by simp, HB5.out⟩
end Go.Proofs.YtpehdgbdinjbaabDoor
namespace Go.Proofs.YtpehdgbdinjbaabDoor
open Go.ChangeShapes Go.WideShapes Go.ChangeAt Go.RowKit

theorem own : ownKnob Tryd.prog.godebug = none := by kernel_rfl
theorem laidOut : laidOutB Tryd.prog = true := by kernel_rfl
theorem cellsTerm : Tryd.prog.cellsOf 24 = 4 := by kernel_rfl
theorem cellsInt : Tryd.prog.cellsOf 3 = 1 := by kernel_rfl
theorem cellsString : Tryd.prog.cellsOf 9 = 1 := by kernel_rfl
theorem cellsTerms : Tryd.prog.cellsOf 22 = 1 := by kernel_rfl

theorem list_of {α : Type} {P : Nat → α → Prop} : (len : Nat) → (∀ i, i < len → ∃ y, P i y) → ∃ l : List α, l.length = len ∧ ∀ i y, l[i]? = some y → P i y
  | 0, _ => ⟨[], rfl, fun i y h => by simp at h⟩
  | len + 1, h => by
    obtain ⟨l, hl, hp⟩ := list_of len (fun i hi => h i (by omega))
    obtain ⟨z, hz⟩ := h len (by omega)
    refine ⟨l ++ [z], by simp [hl], fun i y hy => ?_⟩
    by_cases hi : i < l.length
    · rw [List.getElem?_append_left hi] at hy
      exact hp i y hy
    · rw [List.getElem?_append_right (by omega)] at hy
      have h0 : i - l.length = 0 := by
        by_cases h0 : i - l.length = 0
        · exact h0
        · rw [List.getElem?_eq_none (by simp; omega)] at hy; cases hy
      rw [h0] at hy
      have e1 : z = y := by simpa using hy
      have e2 : i = len := by omega
      rw [e2, ← e1]
      exact hz

theorem wt_le {H : Type} {n : Nat} : (p : List (Tm n)) → (es : List (DataW H)) → (∀ (i : Nat) (y : Tm n) (e : DataW H), p[i]? = some y → es[i]? = some e → wt n y ≤ Rows.uptoBulk e) → p.length = es.length → (p.map fun y => wt n y).sum ≤ Rows.uptoBulkAll es
  | [], es, _, h => by simp
  | y :: p, [], _, h => by simp at h
  | y :: p, e :: es, hp, h => by
    have h0 := hp 0 y e (by simp) (by simp)
    have h1 := wt_le p es (fun i y' e' hy he => hp (i + 1) y' e' (by simpa using hy) (by simpa using he)) (by simpa using h)
    simp only [List.map_cons, List.sum_cons, Rows.uptoBulkAll]
    omega

theorem add_add (b o i j : Nat) : ((⟨b, o, none⟩ : Addr).add i).add j = ⟨b, o + i + j, none⟩ := by
  unfold Addr.add
  split <;> split <;> simp_all
theorem spot_none {w : World} {a : Addr} {v : Value} (h : w.cell? ((a.add 0).add 0) = some v) : a = ⟨a.block, a.off, none⟩ := by
  have e : (a.add 0).add 0 = a := rfl
  rw [e] at h
  unfold World.cell? at h
  split at h
  · split at h
    · cases h
    · rename_i hs
      cases a with
      | mk b o s => cases s with
        | none => rfl
        | some q => simp at hs
  · cases h

theorem wf64 {k : Int} (h : (Lit.int .i64 k).wf = true) : I64 k := by
  have : -9223372036854775808 ≤ k ∧ k ≤ 9223372036854775807 := by simpa [Lit.wf, IntKind.min, IntKind.max, IntKind.signed, IntKind.bits] using h
  exact this

set_option maxRecDepth 100000 in
theorem tree_of {H : Type} (enc : TypeId × Value → H) (w : World) (sp : Nat → Bool) : (n f : Nat) → f ≤ 2 * n + 1 → (cs : List Value) → (x : DataW H × List MemPlace) →
    DataW.trod enc Tryd.prog w 0 sp true f 24 cs = some x →
    ∃ t : Tm (n + 1), cs = [.int .i64 t.1.1, .int .i64 t.1.2.1, .string t.1.2.2, .slice t.2.1.1 t.2.2.length t.2.1.2] ∧ In w.heap.size w (n + 1) t ∧ wt (n + 1) t ≤ Rows.uptoBulk x.1 := by
  intro n
  induction n with
  | zero =>
    intro f hf cs x h
    obtain ⟨xs, m, rfl, rfl, hl, hx, hg⟩ := DataW.trod_struct Tryd.underlying24 h
    have h0 : DataW.trod enc Tryd.prog w 0 sp true m 3 ((cs.drop 0).take (Tryd.prog.cellsOf 3)) = xs[0]? := hg 0 _ rfl
    obtain rfl : m = 0 := by omega
    have hx' : xs.length = 4 := hx
    rw [List.getElem?_eq_getElem (by omega)] at h0
    cases h0
  | succ n ih =>
    intro f hf cs x h
    obtain ⟨xs, m, rfl, rfl, hl, hx, hg⟩ := DataW.trod_struct Tryd.underlying24 h
    have h0 : DataW.trod enc Tryd.prog w 0 sp true m 3 ((cs.drop 0).take (Tryd.prog.cellsOf 3)) = xs[0]? := hg 0 _ rfl
    have h1 : DataW.trod enc Tryd.prog w 0 sp true m 3 ((cs.drop 1).take (Tryd.prog.cellsOf 3)) = xs[1]? := hg 1 _ rfl
    have h2 : DataW.trod enc Tryd.prog w 0 sp true m 9 ((cs.drop 2).take (Tryd.prog.cellsOf 9)) = xs[2]? := hg 2 _ rfl
    have h3 : DataW.trod enc Tryd.prog w 0 sp true m 22 ((cs.drop 3).take (Tryd.prog.cellsOf 22)) = xs[3]? := hg 3 _ rfl
    rw [cellsInt] at h0 h1
    rw [cellsString] at h2
    rw [cellsTerms] at h3
    rw [cellsTerm] at hl
    obtain ⟨c0, c1, c2, c3, rfl⟩ : ∃ c0 c1 c2 c3, cs = [c0, c1, c2, c3] := by
      match cs, hl with
      | [c0, c1, c2, c3], _ => exact ⟨c0, c1, c2, c3, rfl⟩
    obtain ⟨y0, y1, y2, y3, rfl⟩ : ∃ y0 y1 y2 y3, xs = [y0, y1, y2, y3] := by
      match xs, hx with
      | [y0, y1, y2, y3], _ => exact ⟨y0, y1, y2, y3, rfl⟩
    obtain ⟨k, e0, z0, w0⟩ := DataW.trod_int Tryd.underlying3 (x := y0) (by simpa using h0)
    obtain ⟨u, e1, z1, w1⟩ := DataW.trod_int Tryd.underlying3 (x := y1) (by simpa using h1)
    obtain ⟨s, e2, z2, w2⟩ := DataW.trod_string Tryd.underlying9 (x := y2) (by simpa using h2)
    have h3' : DataW.trod enc Tryd.prog w 0 sp true m 22 [c3] = some y3 := by simpa using h3
    simp at e0 e1 e2
    subst e0 e1 e2 z0 z1 z2
    rcases DataW.trod_slice Tryd.underlying22 h3' with ⟨e3, rfl⟩ | ⟨a, len, cap, elems, rest, m', rfl, e3, rfl, _, hlc, hcm, hel, hat, _, _⟩
    · simp at e3
      subst e3
      refine ⟨((k, u, s), (none, 0), []), rfl, ⟨⟨wf64 w0, wf64 w1, w2, Nat.le_refl _, Nat.zero_le _⟩, Or.inl rfl⟩, ?_⟩
      have es : s.data.toList.length = s.size := by rw [Array.length_toList]; rfl
      simp only [wt, Rows.uptoBulk, Rows.uptoBulkAll, List.map_cons, List.map_nil, List.sum_nil]
      omega
    · simp at e3
      subst e3
      simp only [cellsTerm] at hat
      have key : ∀ i, i < len → ∃ t : Tm (n + 1), (∃ b o, a = ⟨b, o, none⟩ ∧ b < w.heap.size ∧ Held w b (o + i * 4) (n + 1) t) ∧ In w.heap.size w (n + 1) t ∧ ∀ e, (elems.map (·.1))[i]? = some e → wt (n + 1) t ≤ Rows.uptoBulk e := by
        intro i hi
        have hi' := hat i hi
        have hi0 := hat 0 (by omega)
        rw [List.getElem?_eq_getElem (by omega)] at hi' hi0
        obtain ⟨cs', hcs, htr⟩ := Option.bind_eq_some_iff.1 hi'
        obtain ⟨cs0, hcs0, htr0⟩ := Option.bind_eq_some_iff.1 hi0
        obtain ⟨_, hlen, hcell⟩ := World.cells?_some hcs
        obtain ⟨_, hlen0, hcell0⟩ := World.cells?_some hcs0
        obtain ⟨t, rfl, hin, hb⟩ := ih m' (by omega) cs' _ htr
        have ha := spot_none (w := w) (a := a) (v := cs0[0]'(by omega)) (by have := hcell0 0 (by omega); rw [List.getElem?_eq_getElem (by omega)] at this; simpa using this)
        have hadd : ∀ j, (a.add (i * 4)).add j = ⟨a.block, a.off + i * 4 + j, none⟩ := fun j => by
          have := add_add a.block a.off (i * 4) j
          rw [← ha] at this
          exact this
        have c0 := hcell 0 (by omega)
        have c1 := hcell 1 (by omega)
        have c2 := hcell 2 (by omega)
        have c3 := hcell 3 (by omega)
        rw [hadd] at c0 c1 c2 c3
        simp at c0 c1 c2 c3
        refine ⟨t, ⟨a.block, a.off, ha, World.block_lt_of_cell? w ⟨a.block, a.off + i * 4, none⟩ c0, c0, c1, c2, c3⟩, hin, fun e he => ?_⟩
        rw [List.getElem?_map, List.getElem?_eq_getElem (by omega)] at he
        have : (elems[i]).1 = e := by simpa using he
        rw [← this]
        exact hb
      obtain ⟨p, hpl, hp⟩ := list_of len key
      refine ⟨((k, u, s), (some a, cap), p), by simp [hpl], ⟨⟨wf64 w0, wf64 w1, w2, by simp only; omega, hcm⟩, ?_⟩, ?_⟩
      · rcases Nat.eq_zero_or_pos len with h | h
        · exact Or.inl (List.eq_nil_of_length_eq_zero (hpl.trans h))
        · obtain ⟨⟨b, o, rfl, hb, _⟩, _, _⟩ := hp 0 (p[0]'(by rw [hpl]; exact h)) (List.getElem?_eq_getElem (by rw [hpl]; exact h))
          refine Or.inr ⟨b, o, rfl, hb, fun i y hy => ?_⟩
          obtain ⟨⟨b', o', e, _, hh⟩, hin, _⟩ := hp i y hy
          simp at e
          obtain ⟨rfl, rfl⟩ := e
          exact ⟨hh, hin⟩
      · have hs := wt_le p (elems.map (·.1)) (fun i y e hy he => (hp i y hy).2.2 e he) (by simp; omega)
        have es : s.data.toList.length = s.size := by rw [Array.length_toList]; rfl
        simp only [wt, Rows.uptoBulk, Rows.uptoBulkAll, List.map_cons, List.map_nil] at hs ⊢
        omega

set_option maxRecDepth 100000 in
theorem open_term {H : Type} {enc : TypeId × Value → H} {W : World} {r : Reach} {b0 : Nat} {v : Value} {d : DataW H} {p : List MemPlace} (hv : Value.okWide Tryd.prog W r b0 24 v)
    (h : DataW.Trod enc Tryd.prog W 0 (fun _ => true) true 24 v d p) : ∃ n, ∃ t : Tm (n + 1), v = val (n + 1) t ∧ In W.heap.size W (n + 1) t ∧ wt (n + 1) t ≤ Rows.uptoBulk d := by
  obtain ⟨cs, rfl, _⟩ := okWide_struct Tryd.underlying24 hv
  obtain ⟨f, hf⟩ := h
  obtain ⟨t, e, hin, hb⟩ := tree_of enc W (fun _ => true) f f (by omega) _ _ hf
  refine ⟨f, t, ?_, hin, hb⟩
  have : cs = #[.int .i64 t.1.1, .int .i64 t.1.2.1, .string t.1.2.2, .slice t.2.1.1 t.2.2.length t.2.1.2] := by
    simp [Value.cells] at e
    exact Array.toList_inj.1 e
  rw [this]
  rfl
end Go.Proofs.YtpehdgbdinjbaabDoor
namespace Go.Proofs.YtpehdgbdinjbaabDoor
open Go.ChangeShapes Go.WideShapes Go.ChangeAt Go.RowKit

def wtA (n : Nat) (a : Ac n) : Nat := wt n a.2.1.1 + wt n a.2.1.2 + a.2.2.1.size + 1
def wtC (n : Nat) (c : Cl n) : Nat := wt n c.1.1 + wt n c.1.2.1 + wt n c.1.2.2 + (c.2.2.map (wtA n)).sum + 1
def wtB (n : Nat) (b : Bh n) : Nat := b.1.size + (b.2.2.map (wtC n)).sum + 1
theorem cellsAct : Tryd.prog.cellsOf 77 = 11 := by kernel_rfl
theorem cellsClause : Tryd.prog.cellsOf 80 = 13 := by kernel_rfl
theorem cellsBeh : Tryd.prog.cellsOf 83 = 2 := by kernel_rfl
theorem cellsActs : Tryd.prog.cellsOf 78 = 1 := by kernel_rfl
theorem cellsClauses : Tryd.prog.cellsOf 81 = 1 := by kernel_rfl

theorem sum_le {α H : Type} (g : α → Nat) : (p : List α) → (es : List (DataW H)) → (∀ (i : Nat) (y : α) (e : DataW H), p[i]? = some y → es[i]? = some e → g y ≤ Rows.uptoBulk e) → p.length = es.length → (p.map g).sum ≤ Rows.uptoBulkAll es
  | [], es, _, h => by simp
  | y :: p, [], _, h => by simp at h
  | y :: p, e :: es, hp, h => by
    have h0 := hp 0 y e (by simp) (by simp)
    have h1 := sum_le g p es (fun i y' e' hy he => hp (i + 1) y' e' (by simpa using hy) (by simpa using he)) (by simpa using h)
    simp only [List.map_cons, List.sum_cons, Rows.uptoBulkAll]
    omega

set_option maxRecDepth 100000 in
theorem row_of {H α : Type} (enc : TypeId × Value → H) (w : World) (sp : Nat → Bool) (k : Nat) (f : α → List Value) (I : α → Prop) (g : α → Nat) (T S : TypeId) (hS : Tryd.prog.underlying S = some (.slice T)) (hk : Tryd.prog.cellsOf T = k) (hk0 : 0 < k) (hlen : ∀ y, (f y).length = k) (F : Nat)
    (elem : ∀ (m : Nat) (cs : List Value) (x : DataW H × List MemPlace), m ≤ F → DataW.trod enc Tryd.prog w 0 sp true m T cs = some x → ∃ y, cs = f y ∧ I y ∧ g y ≤ Rows.uptoBulk x.1)
    (m : Nat) (hm : m ≤ F) (v : Value) (x : DataW H × List MemPlace) (h : DataW.trod enc Tryd.prog w 0 sp true m S [v] = some x) :
    ∃ a l c, v = .slice a l.length c ∧ l.length ≤ c ∧ c ≤ maxLen ∧ Lay w.heap.size w k f I a l ∧ (l.map g).sum + 1 ≤ Rows.uptoBulk x.1 := by
  rcases DataW.trod_slice hS h with ⟨e, rfl⟩ | ⟨a, len, cap, elems, rest, m', rfl, e, rfl, _, hlc, hcm, hel, hat, _, _⟩
  · simp at e
    subst e
    exact ⟨none, [], 0, rfl, Nat.le_refl _, Nat.zero_le _, Or.inl rfl, by simp [Rows.uptoBulk]⟩
  · simp at e
    subst e
    simp only [hk] at hat
    have key : ∀ i, i < len → ∃ y : α, (∃ b o, a = ⟨b, o, none⟩ ∧ b < w.heap.size ∧ ∀ (j : Nat) (u : Value), (f y)[j]? = some u → w.cell? ⟨b, o + i * k + j, none⟩ = some u) ∧ I y ∧ ∀ e, (elems.map (·.1))[i]? = some e → g y ≤ Rows.uptoBulk e := by
      intro i hi
      have hi' := hat i hi
      have hi0 := hat 0 (by omega)
      rw [List.getElem?_eq_getElem (by omega)] at hi' hi0
      obtain ⟨cs', hcs, htr⟩ := Option.bind_eq_some_iff.1 hi'
      obtain ⟨cs0, hcs0, htr0⟩ := Option.bind_eq_some_iff.1 hi0
      obtain ⟨_, hl', hcell⟩ := World.cells?_some hcs
      obtain ⟨_, hl0, hcell0⟩ := World.cells?_some hcs0
      obtain ⟨y, rfl, hin, hb⟩ := elem m' cs' _ (by omega) htr
      have ha := spot_none (w := w) (a := a) (v := cs0[0]'(by omega)) (by have := hcell0 0 (by omega); rw [List.getElem?_eq_getElem (by omega)] at this; simpa using this)
      have hadd : ∀ j, (a.add (i * k)).add j = ⟨a.block, a.off + i * k + j, none⟩ := fun j => by
        have := add_add a.block a.off (i * k) j
        rw [← ha] at this
        exact this
      have hc : ∀ (j : Nat) (u : Value), (f y)[j]? = some u → w.cell? ⟨a.block, a.off + i * k + j, none⟩ = some u := fun j u hj => by
        have hjl := (List.getElem?_eq_some_iff.1 hj).1
        have := hcell j (by rw [hlen] at hjl; omega)
        rw [hadd, hj] at this
        exact this
      obtain ⟨u0, hu0⟩ : ∃ u, (f y)[0]? = some u := ⟨(f y)[0]'(by rw [hlen]; omega), List.getElem?_eq_getElem _⟩
      refine ⟨y, ⟨a.block, a.off, ha, World.block_lt_of_cell? w ⟨a.block, a.off + i * k + 0, none⟩ (hc 0 u0 hu0), hc⟩, hin, fun e he => ?_⟩
      rw [List.getElem?_map, List.getElem?_eq_getElem (by omega)] at he
      have : (elems[i]).1 = e := by simpa using he
      rw [← this]
      exact hb
    obtain ⟨p, hpl, hp⟩ := list_of len key
    refine ⟨some a, p, cap, by rw [hpl], by omega, hcm, ?_, ?_⟩
    · rcases Nat.eq_zero_or_pos len with h | h
      · exact Or.inl (List.eq_nil_of_length_eq_zero (hpl.trans h))
      · obtain ⟨⟨b, o, rfl, hb, _⟩, _, _⟩ := hp 0 (p[0]'(by rw [hpl]; exact h)) (List.getElem?_eq_getElem (by rw [hpl]; exact h))
        refine Or.inr ⟨b, o, rfl, hb, fun i y hy => ?_⟩
        obtain ⟨⟨b', o', e, _, hh⟩, hin, _⟩ := hp i y hy
        simp at e
        obtain ⟨rfl, rfl⟩ := e
        exact ⟨hh, hin⟩
    · have hs := sum_le g p (elems.map (·.1)) (fun i y e hy he => (hp i y hy).2.2 e he) (by simp; omega)
      simp only [Rows.uptoBulk]
      omega
theorem term_of {H : Type} (enc : TypeId × Value → H) (w : World) (sp : Nat → Bool) (n m : Nat) (hm : m ≤ n) (cs : List Value) (x : DataW H × List MemPlace) (h : DataW.trod enc Tryd.prog w 0 sp true m 24 cs = some x) : ∃ t : Tm (n + 1), cs = tm4 (n + 1) t ∧ In w.heap.size w (n + 1) t ∧ wt (n + 1) t ≤ Rows.uptoBulk x.1 := by
  obtain ⟨t, h1, h2, h3⟩ := tree_of enc w sp n m (by omega) cs x h
  exact ⟨t, h1, h2, h3⟩

set_option maxRecDepth 100000 in
set_option maxHeartbeats 1000000 in
theorem act_of {H : Type} (enc : TypeId × Value → H) (w : World) (sp : Nat → Bool) (n m : Nat) (hm : m ≤ n) (cs : List Value) (x : DataW H × List MemPlace) (h : DataW.trod enc Tryd.prog w 0 sp true m 77 cs = some x) : ∃ a : Ac (n + 1), cs = ac11 (n + 1) a ∧ AcIn (n + 1) w.heap.size w a ∧ wtA (n + 1) a ≤ Rows.uptoBulk x.1 := by
  obtain ⟨xs, m, rfl, rfl, hl, hx, hg⟩ := DataW.trod_struct Tryd.underlying77 h
  have h0 : DataW.trod enc Tryd.prog w 0 sp true m 3 ((cs.drop 0).take (Tryd.prog.cellsOf 3)) = xs[0]? := hg 0 _ rfl
  have h1 : DataW.trod enc Tryd.prog w 0 sp true m 24 ((cs.drop 1).take (Tryd.prog.cellsOf 24)) = xs[1]? := hg 1 _ rfl
  have h2 : DataW.trod enc Tryd.prog w 0 sp true m 24 ((cs.drop 5).take (Tryd.prog.cellsOf 24)) = xs[2]? := hg 2 _ rfl
  have h3 : DataW.trod enc Tryd.prog w 0 sp true m 9 ((cs.drop 9).take (Tryd.prog.cellsOf 9)) = xs[3]? := hg 3 _ rfl
  have h4 : DataW.trod enc Tryd.prog w 0 sp true m 3 ((cs.drop 10).take (Tryd.prog.cellsOf 3)) = xs[4]? := hg 4 _ rfl
  rw [cellsInt] at h0 h4
  rw [cellsTerm] at h1 h2
  rw [cellsString] at h3
  rw [cellsAct] at hl
  obtain ⟨c0, c1, c2, c3, c4, c5, c6, c7, c8, c9, c10, rfl⟩ : ∃ c0 c1 c2 c3 c4 c5 c6 c7 c8 c9 c10, cs = [c0, c1, c2, c3, c4, c5, c6, c7, c8, c9, c10] := by
    match cs, hl with
    | [c0, c1, c2, c3, c4, c5, c6, c7, c8, c9, c10], _ => exact ⟨c0, c1, c2, c3, c4, c5, c6, c7, c8, c9, c10, rfl⟩
  obtain ⟨y0, y1, y2, y3, y4, rfl⟩ : ∃ y0 y1 y2 y3 y4, xs = [y0, y1, y2, y3, y4] := by
    match xs, hx with
    | [y0, y1, y2, y3, y4], _ => exact ⟨y0, y1, y2, y3, y4, rfl⟩
  obtain ⟨k, e0, z0, w0⟩ := DataW.trod_int Tryd.underlying3 (x := y0) (by simpa using h0)
  obtain ⟨v, e4, z4, w4⟩ := DataW.trod_int Tryd.underlying3 (x := y4) (by simpa using h4)
  obtain ⟨s, e3, z3, w3⟩ := DataW.trod_string Tryd.underlying9 (x := y3) (by simpa using h3)
  obtain ⟨t, e1, i1, b1⟩ := term_of enc w sp n m (by omega) [c1, c2, c3, c4] y1 (by simpa using h1)
  obtain ⟨u, e2, i2, b2⟩ := term_of enc w sp n m (by omega) [c5, c6, c7, c8] y2 (by simpa using h2)
  simp at e0 e3 e4
  subst e0 e3 e4 z0 z3 z4
  refine ⟨(k, (t, u), (s, v)), ?_, ⟨wf64 w0, i1, i2, w3, wf64 w4⟩, ?_⟩
  · show _ = .int .i64 k :: (tm4 (n + 1) t ++ tm4 (n + 1) u ++ [.string s, .int .i64 v])
    rw [← e1, ← e2]
    rfl
  · have es : s.data.toList.length = s.size := by rw [Array.length_toList]; rfl
    simp only [wtA, Rows.uptoBulk, Rows.uptoBulkAll, List.map_cons, List.map_nil]
    omega

set_option maxRecDepth 100000 in
set_option maxHeartbeats 1000000 in
theorem clause_of {H : Type} (enc : TypeId × Value → H) (w : World) (sp : Nat → Bool) (n m : Nat) (hm : m ≤ n) (cs : List Value) (x : DataW H × List MemPlace) (h : DataW.trod enc Tryd.prog w 0 sp true m 80 cs = some x) : ∃ a : Cl (n + 1), cs = cl13 (n + 1) a ∧ ClIn (n + 1) w.heap.size w a ∧ wtC (n + 1) a ≤ Rows.uptoBulk x.1 := by
  obtain ⟨xs, m, rfl, rfl, hl, hx, hg⟩ := DataW.trod_struct Tryd.underlying80 h
  have h0 : DataW.trod enc Tryd.prog w 0 sp true m 24 ((cs.drop 0).take (Tryd.prog.cellsOf 24)) = xs[0]? := hg 0 _ rfl
  have h1 : DataW.trod enc Tryd.prog w 0 sp true m 24 ((cs.drop 4).take (Tryd.prog.cellsOf 24)) = xs[1]? := hg 1 _ rfl
  have h2 : DataW.trod enc Tryd.prog w 0 sp true m 78 ((cs.drop 8).take (Tryd.prog.cellsOf 78)) = xs[2]? := hg 2 _ rfl
  have h3 : DataW.trod enc Tryd.prog w 0 sp true m 24 ((cs.drop 9).take (Tryd.prog.cellsOf 24)) = xs[3]? := hg 3 _ rfl
  rw [cellsTerm] at h0 h1 h3
  rw [cellsActs] at h2
  rw [cellsClause] at hl
  obtain ⟨c0, c1, c2, c3, c4, c5, c6, c7, c8, c9, c10, c11, c12, rfl⟩ : ∃ c0 c1 c2 c3 c4 c5 c6 c7 c8 c9 c10 c11 c12, cs = [c0, c1, c2, c3, c4, c5, c6, c7, c8, c9, c10, c11, c12] := by
    match cs, hl with
    | [c0, c1, c2, c3, c4, c5, c6, c7, c8, c9, c10, c11, c12], _ => exact ⟨c0, c1, c2, c3, c4, c5, c6, c7, c8, c9, c10, c11, c12, rfl⟩
  obtain ⟨y0, y1, y2, y3, rfl⟩ : ∃ y0 y1 y2 y3, xs = [y0, y1, y2, y3] := by
    match xs, hx with
    | [y0, y1, y2, y3], _ => exact ⟨y0, y1, y2, y3, rfl⟩
  obtain ⟨t, e0, i0, b0⟩ := term_of enc w sp n m (by omega) [c0, c1, c2, c3] y0 (by simpa using h0)
  obtain ⟨u, e1, i1, b1⟩ := term_of enc w sp n m (by omega) [c4, c5, c6, c7] y1 (by simpa using h1)
  obtain ⟨v, e3, i3, b3⟩ := term_of enc w sp n m (by omega) [c9, c10, c11, c12] y3 (by simpa using h3)
  obtain ⟨a, l, c, e2, hlc, hcm, hly, hb⟩ := row_of enc w sp 11 (ac11 (n + 1)) (AcIn (n + 1) w.heap.size w) (wtA (n + 1)) 77 78 Tryd.underlying78 cellsAct (by omega) (fun _ => rfl) n (fun m cs x hm h => act_of enc w sp n m hm cs x h) m (by omega) c8 y2 (by simpa using h2)
  subst e2
  refine ⟨((t, u, v), (a, c), l), ?_, ⟨⟨i0, i1, i3⟩, ⟨hlc, hcm⟩, hly⟩, ?_⟩
  · show _ = tm4 (n + 1) t ++ tm4 (n + 1) u ++ (.slice a l.length c :: tm4 (n + 1) v)
    rw [← e0, ← e1, ← e3]
    rfl
  · simp only [wtC, Rows.uptoBulk, Rows.uptoBulkAll, List.map_cons, List.map_nil]
    omega

set_option maxRecDepth 100000 in
set_option maxHeartbeats 1000000 in
theorem beh_of {H : Type} (enc : TypeId × Value → H) (w : World) (sp : Nat → Bool) (n m : Nat) (hm : m ≤ n) (cs : List Value) (x : DataW H × List MemPlace) (h : DataW.trod enc Tryd.prog w 0 sp true m 83 cs = some x) : ∃ a : Bh (n + 1), cs = bh2 (n + 1) a ∧ BhIn (n + 1) w.heap.size w a ∧ wtB (n + 1) a ≤ Rows.uptoBulk x.1 := by
  obtain ⟨xs, m, rfl, rfl, hl, hx, hg⟩ := DataW.trod_struct Tryd.underlying83 h
  have h0 : DataW.trod enc Tryd.prog w 0 sp true m 9 ((cs.drop 0).take (Tryd.prog.cellsOf 9)) = xs[0]? := hg 0 _ rfl
  have h1 : DataW.trod enc Tryd.prog w 0 sp true m 81 ((cs.drop 1).take (Tryd.prog.cellsOf 81)) = xs[1]? := hg 1 _ rfl
  rw [cellsString] at h0
  rw [cellsClauses] at h1
  rw [cellsBeh] at hl
  obtain ⟨c0, c1, rfl⟩ : ∃ c0 c1, cs = [c0, c1] := by
    match cs, hl with
    | [c0, c1], _ => exact ⟨c0, c1, rfl⟩
  obtain ⟨y0, y1, rfl⟩ : ∃ y0 y1, xs = [y0, y1] := by
    match xs, hx with
    | [y0, y1], _ => exact ⟨y0, y1, rfl⟩
  obtain ⟨s, e0, z0, w0⟩ := DataW.trod_string Tryd.underlying9 (x := y0) (by simpa using h0)
  obtain ⟨a, l, c, e1, hlc, hcm, hly, hb⟩ := row_of enc w sp 13 (cl13 (n + 1)) (ClIn (n + 1) w.heap.size w) (wtC (n + 1)) 80 81 Tryd.underlying81 cellsClause (by omega) (fun _ => rfl) n (fun m cs x hm h => clause_of enc w sp n m hm cs x h) m (by omega) c1 y1 (by simpa using h1)
  simp at e0
  subst e0 z0 e1
  refine ⟨(s, (a, c), l), rfl, ⟨w0, ⟨hlc, hcm⟩, hly⟩, ?_⟩
  have es : s.data.toList.length = s.size := by rw [Array.length_toList]; rfl
  simp only [wtB, Rows.uptoBulk, Rows.uptoBulkAll, List.map_cons, List.map_nil]
  omega

set_option maxRecDepth 100000 in
theorem open_prog {H : Type} {enc : TypeId × Value → H} {W : World} {r : Reach} {b0 : Nat} {v : Value} {d : DataW H} {p : List MemPlace} (hv : Value.okWide Tryd.prog W r b0 33 v)
    (h : DataW.Trod enc Tryd.prog W 0 (fun _ => true) true 33 v d p) : ∃ n, ∃ l : List (Bh (n + 1)), ∃ a c, v = .slice a l.length c ∧ l.length ≤ c ∧ c ≤ maxLen ∧ PgIn (n + 1) W.heap.size W a l ∧ (l.map (wtB (n + 1))).sum ≤ Rows.uptoBulk d := by
  obtain ⟨a, len, cap, rfl⟩ := okWide_slice Tryd.underlying33 hv
  obtain ⟨f, hf⟩ := h
  have hf' : DataW.trod enc Tryd.prog W 0 (fun _ => true) true f 33 [.slice a len cap] = some (d, p) := hf
  obtain ⟨a', l, c, e, h1, h2, h3, h4⟩ := row_of enc W (fun _ => true) 2 (bh2 (f + 1)) (BhIn (f + 1) W.heap.size W) (wtB (f + 1)) 83 33 Tryd.underlying33 cellsBeh (by omega) (fun _ => rfl) f (fun m cs x hm h => beh_of enc W _ f m hm cs x h) f (Nat.le_refl _) _ _ hf'
  exact ⟨f, l, a', c, e, h1, h2, h3, by simp only at h4; omega⟩
end Go.Proofs.YtpehdgbdinjbaabDoor
namespace Go.Proofs.YtpehdgbdinjbaabDoor

theorem wt_lift : (N n : Nat) → n ≤ N → (x : Tm n) → wt N (lift N n x) = wt n x
  | 0, 0, _, _ => rfl
  | N + 1, 0, _, _ => by simp [lift, wt]
  | N + 1, n + 1, h, x => by
    simp only [lift, wt, List.map_map]
    congr 2
    refine List.map_congr_left fun y _ => ?_
    exact wt_lift N n (by omega) y
theorem wt_pos : (n : Nat) → (x : Tm n) → 1 ≤ wt n x
  | 0, _ => by simp [wt]
  | n + 1, x => by simp only [wt]; omega
theorem sum_more {α : Type} (f g : α → Nat) (c : Nat) : (l : List α) → (∀ y ∈ l, f y ≤ g y + c) → (l.map f).sum ≤ (l.map g).sum + l.length * c
  | [], _ => by simp
  | y :: l, h => by
    have h1 := h y (by simp)
    have h2 := sum_more f g c l fun z hz => h z (by simp [hz])
    simp only [List.map_cons, List.sum_cons, List.length_cons, Nat.add_mul, Nat.one_mul]
    omega
theorem wt_atom (s : ByteArray) (N : Nat) : wt (N + 1) (atomV s N) = 1 + s.size := by simp [wt, atomV]
theorem wt_tup (N : Nat) (l : List (Tm N)) : wt (N + 1) (tupV N l) = 1 + (l.map (wt N)).sum := by simp [wt, tupV]
theorem wt_leaf (k u : Int) (N : Nat) : wt (N + 1) (leafV k u N) = 1 := by simp [wt, leafV]
theorem wt_tellA (n : Nat) (a : Ac (n + 1)) : wt (n + 2) (tellA n a) ≤ wtA (n + 1) a + 8 := by
  have h1 := wt_pos (n + 1) a.2.1.1
  have h2 := wt_pos (n + 1) a.2.1.2
  have e1 : wSend.size = 4 := rfl
  have e2 : wSpawn.size = 5 := rfl
  have e3 : wLink.size = 4 := rfl
  have e4 : wStop.size = 4 := rfl
  unfold tellA wtA
  split
  · rw [wt_tup]; simp only [List.map_cons, List.map_nil, List.sum_cons, List.sum_nil, wt_atom]; omega
  · split
    · rw [wt_tup]; simp only [List.map_cons, List.map_nil, List.sum_cons, List.sum_nil, wt_atom, wt_leaf]; omega
    · split
      · rw [wt_tup]; simp only [List.map_cons, List.map_nil, List.sum_cons, List.sum_nil, wt_atom]; omega
      · rw [wt_tup]; simp only [List.map_cons, List.map_nil, List.sum_cons, List.sum_nil, wt_atom]; omega
theorem wt_tellC (n : Nat) (c : Cl (n + 1)) (h : clB (n + 1) c = true) : wt (n + 4) (tellC n c) ≤ wtC (n + 1) c + 68 := by
  have e1 : wOn.size = 2 := rfl
  have hl : c.2.2.length ≤ 8 := by
    simp only [clB, Bool.and_eq_true, decide_eq_true_eq] at h
    omega
  have hs := sum_more (fun a => wt (n + 2) (tellA n a)) (wtA (n + 1)) 8 c.2.2 fun a _ => wt_tellA n a
  have l1 := wt_lift (n + 3) (n + 1) (by omega) c.1.1
  have l2 := wt_lift (n + 3) (n + 1) (by omega) c.1.2.1
  have l3 := wt_lift (n + 3) (n + 1) (by omega) c.1.2.2
  unfold tellC wtC
  rw [wt_tup]
  simp only [List.map_cons, List.map_nil, List.sum_cons, List.sum_nil, wt_atom, wt_tup, List.map_map, l1, l2, l3]
  have hs' : (c.2.2.map (wt (n + 2) ∘ tellA n)).sum ≤ (c.2.2.map (wtA (n + 1))).sum + c.2.2.length * 8 := hs
  omega
theorem wt_tellB (n : Nat) (b : Bh (n + 1)) (h : bhB (n + 1) b = true) : wt (n + 5) (tellB n b) ≤ wtB (n + 1) b + 413 := by
  have e1 : wBeh.size = 3 := rfl
  simp only [bhB, Bool.and_eq_true, decide_eq_true_eq, List.all_eq_true] at h
  have hs : (b.2.2.map (wt (n + 4) ∘ tellC n)).sum ≤ (b.2.2.map (wtC (n + 1))).sum + b.2.2.length * 68 := sum_more (fun a => wt (n + 4) (tellC n a)) (wtC (n + 1)) 68 b.2.2 fun a ha => wt_tellC n a (h.2 a ha)
  have hl : b.2.2.length ≤ 6 := by omega
  unfold tellB wtB
  rw [wt_tup]
  simp only [List.map_cons, List.sum_cons, wt_atom, List.map_map]
  omega
/-- Told as a term, a program in form is hardly larger. -/
theorem wt_tellP (n : Nat) (p : List (Bh (n + 1))) (h : pgB (n + 1) p = true) : wt (n + 6) (tellP n p) ≤ (p.map (wtB (n + 1))).sum + 2897 := by
  have e1 : wCode.size = 4 := rfl
  simp only [pgB, Bool.and_eq_true, decide_eq_true_eq, List.all_eq_true] at h
  have hs : (p.map (wt (n + 5) ∘ tellB n)).sum ≤ (p.map (wtB (n + 1))).sum + p.length * 413 := sum_more (fun a => wt (n + 5) (tellB n a)) (wtB (n + 1)) 413 p fun a ha => wt_tellB n a (h.2 a ha)
  have hl : p.length ≤ 7 := by omega
  unfold tellP
  rw [wt_tup]
  simp only [List.map_cons, List.sum_cons, wt_atom, List.map_map]
  omega
theorem nodes_tellP (n : Nat) (p : List (Bh (n + 1))) (h : pgB (n + 1) p = true) (hb : (p.map (wtB (n + 1))).sum ≤ 1048576) : (nodes (n + 6) (tellP n p)).length ≤ 2097152 := by
  have h1 := nodes_wt (n + 6) (tellP n p)
  have h2 := wt_tellP n p h
  omega
end Go.Proofs.YtpehdgbdinjbaabDoor
