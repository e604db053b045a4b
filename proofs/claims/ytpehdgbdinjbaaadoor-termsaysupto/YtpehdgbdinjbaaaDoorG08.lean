/- What is proved here: plain facts and contracts that the claimed theorem stands on, several texts in one: clerklaw.TermSays, called with a term that lies in memory and holds at most 2097152 terms and letters, returns true and turns no memory that was there, where the library's table of powers lies as its text lays it. whatever reads as a term is a tree that lies in memory, no larger than the reading's bulk; and a row over terms follows from what the call does. No condition. -/
import Derived.Test.YtpehdgbdinjbaaaDoorG07
import Derived.Deep.RegionHeld3
import Derived.Deep.DrawnRows
import Derived.Test.YtpehdgbdinjbaaaDoorG02
import Derived.ProofKit
import Derived.OpenShut
import Derived.JoinedCond
namespace Go.Proofs.YtpehdgbdinjbaaaDoor
open Go.RowKit
attribute [local go_sem ↓] Go.wp_at_zero Go.wp_at_succ

theorem jn_congr {n : Nat} (f g : Tm n → List UInt8) (l : List (Tm n)) (h : ∀ y ∈ l, f y = g y) : jn (l.map f) = jn (l.map g) := by
  rw [List.map_congr_left h]
theorem text_eq : (n : Nat) → (x : Tm n) → (∀ a ∈ nodes n x, good a = true) → wtext n x = rtext n x
  | 0, _, _ => rfl
  | n + 1, x, h => by
    have hg := good_kind _ (h (x.1, (x.2.1.1, x.2.2.length, x.2.1.2)) (by simp [nodes]))
    have hl := jn_congr (fun y => wtext n y) (fun y => rtext n y) x.2.2 (fun y hy => text_eq n y (fun a ha => h a (nodes_mem hy ha)))
    simp only at hg
    simp only [wtext, rtext, hl]
    rcases hg with g | g | g | g | g | ⟨g, _⟩ <;> simp [g]

/-- All that was is as it was, and the box lies below. -/
def Far (w w' : World) : Prop := Below w.heap.size w w' ∧ w.heap.size + 1 ≤ w'.heap.size
theorem Far.next {w w1 w2 : World} (h : Far w w1) (hb : Below w1.heap.size w1 w2) : Far w w2 := ⟨h.1.trans (hb.mono h.1.size), Nat.le_trans h.2 hb.size⟩
theorem Far.drew {w w1 : World} (h : Far w w1) : Far w w1.drew := ⟨h.1.drew, h.2⟩
theorem Far.cell {w w1 w2 : World} (h : Far w w1) (hb : Below w1.heap.size w1 w2) (o : Nat) : w2.cell? ⟨w.heap.size, o, none⟩ = w1.cell? ⟨w.heap.size, o, none⟩ := hb.cell (p := ⟨w.heap.size, o, none⟩) h.2

theorem box_far {w w1 : World} {k u : Int} {s : ByteArray} {v : Value} (h : w1.cell? ⟨w.heap.size, 0, none⟩ = some (.int .i64 k) ∧ w1.cell? ⟨w.heap.size, 1, none⟩ = some (.int .i64 u) ∧ w1.cell? ⟨w.heap.size, 2, none⟩ = some (.string s) ∧ w1.cell? ⟨w.heap.size, 3, none⟩ = some v ∧ Far w w1) : Far w w1 := h.2.2.2.2
theorem box_next {w w1 w2 : World} {k u : Int} {s : ByteArray} {v : Value} (h : w1.cell? ⟨w.heap.size, 0, none⟩ = some (.int .i64 k) ∧ w1.cell? ⟨w.heap.size, 1, none⟩ = some (.int .i64 u) ∧ w1.cell? ⟨w.heap.size, 2, none⟩ = some (.string s) ∧ w1.cell? ⟨w.heap.size, 3, none⟩ = some v ∧ Far w w1) (hb : Below w1.heap.size w1 w2) :
    w2.cell? ⟨w.heap.size, 0, none⟩ = some (.int .i64 k) ∧ w2.cell? ⟨w.heap.size, 1, none⟩ = some (.int .i64 u) ∧ w2.cell? ⟨w.heap.size, 2, none⟩ = some (.string s) ∧ w2.cell? ⟨w.heap.size, 3, none⟩ = some v ∧ Far w w2 := by
  obtain ⟨h0, h1, h2, h3, h4⟩ := h
  exact ⟨(h4.cell hb 0).trans h0, (h4.cell hb 1).trans h1, (h4.cell hb 2).trans h2, (h4.cell hb 3).trans h3, h4.next hb⟩

set_option maxRecDepth 100000 in
set_option maxHeartbeats 2000000 in
theorem says_walk (w : World) (k u : Int) (s : ByteArray) (a : Option Addr) (l c : Nat) (e0 z : Int) (cb : Bool) (t t' : List UInt8) (HT : Hid ((if e0 = 0 then t else []) = t'))
    (HRC : Hid (∀ w1, Below w.heap.size w w1 → Calls Tryd.prog 4 #[.agg #[.int .i64 k, .int .i64 u, .string s, .slice a l c]] w1 fun e w' => e = .returned (.int .i64 e0) ∧ Below w1.heap.size w1 w'))
    (HTX : Hid (∀ w1, Below w.heap.size w w1 → e0 = 0 → Calls Tryd.prog 5 #[.agg #[.int .i64 k, .int .i64 u, .string s, .slice a l c]] w1 fun e w' => ∃ r : ByteArray, e = .returned (.string r) ∧ Hid (r.data.toList = t ∧ Below w1.heap.size w1 w')))
    (HPR : Hid (∀ w1, Below w.heap.size w w1 → Calls Tryd.prog 6 #[.agg #[.int .i64 k, .int .i64 u, .string s, .slice a l c]] w1 fun e w' => e = .returned (.tuple #[.string ⟨t'.toArray⟩, .int .i64 e0]) ∧ Below w1.heap.size w1 w'))
    (HTC : Hid (∀ w1, Below w.heap.size w w1 → Calls Tryd.prog 7 #[.agg #[.int .i64 k, .int .i64 u, .string s, .slice a l c]] w1 fun e w' => e = .returned (.int .i64 e0) ∧ Below w1.heap.size w1 w'))
    (HCL : Hid (∀ w1, Below w.heap.size w w1 → Calls Tryd.prog 8 #[.agg #[.int .i64 k, .int .i64 u, .string s, .slice a l c]] w1 fun e w' => e = .returned (.bool cb) ∧ Below w1.heap.size w1 w'))
    (HRL : Hid (∀ w1, Below w.heap.size w w1 → Calls Tryd.prog 9 #[.agg #[.int .i64 k, .int .i64 u, .string s, .slice a l c]] w1 fun e w' => e = .returned (.bool cb) ∧ Below w1.heap.size w1 w'))
    (HSZ : Hid (∀ w1, Below w.heap.size w w1 → Calls Tryd.prog 10 #[.agg #[.int .i64 k, .int .i64 u, .string s, .slice a l c]] w1 fun e w' => e = .returned (.int .i64 z) ∧ Below w1.heap.size w1 w'))
    (HRS : Hid (∀ w1, Below w.heap.size w w1 → Calls Tryd.prog 11 #[.agg #[.int .i64 k, .int .i64 u, .string s, .slice a l c]] w1 fun e w' => e = .returned (.int .i64 z) ∧ Below w1.heap.size w1 w')) :
    Calls Tryd.prog 3 #[.agg #[.int .i64 k, .int .i64 u, .string s, .slice a l c]] w fun e w' => e = .returned (.bool true) ∧ Below w.heap.size w w' := by
  go_enter Tryd.func3, Tryd.ntmps3
  go_wp2_with fail
  refine (HRC.out _ ((Below.refl _ _).alloc (Nat.le_refl _) _)).mono ?_
  rintro e w1 ⟨rfl, hb1⟩
  have HB1 : Hid (Below w.heap.size w w1 ∧ w.heap.size + 1 ≤ w1.heap.size) := ⟨((Below.refl _ _).alloc (Nat.le_refl _) _).trans (hb1.mono (by simp)), by have := hb1.size; simpa using this⟩
  have hcc := below_cells hb1
  simp only [World.size_alloc] at hcc
  have a0 := (hcc w.heap.size 0 (by omega)).trans (by simp [go_sem] : _ = some (Value.int .i64 k))
  have a1 := (hcc w.heap.size 1 (by omega)).trans (by simp [go_sem] : _ = some (Value.int .i64 u))
  have a2 := (hcc w.heap.size 2 (by omega)).trans (by simp [go_sem] : _ = some (Value.string s))
  have a3 := (hcc w.heap.size 3 (by omega)).trans (by simp [go_sem] : _ = some (Value.slice a l c))
  clear hcc hb1
  by_cases h0 : e0 = 0
  · have HT2 := hide (HTX.out w1 HB1.out.1 h0)
    have HEQ : Hid (t = t') := by have := HT.out; rw [if_pos h0] at this; exact this
    have h00 : (e0 == 0) = true := by simpa using h0
    subst h0
    clear HTX
    go_wp2_with fail
    refine HT2.out.mono ?_
    rintro e w2 ⟨r, rfl, HR⟩
    obtain rfl : r = ⟨t'.toArray⟩ := by
      have h1 := HR.out.1.trans HEQ.out
      cases r with
      | mk d => simp at h1; rw [← h1]
    have HB2 : Hid (Below w.heap.size w w2 ∧ w.heap.size + 1 ≤ w2.heap.size) := ⟨HB1.out.1.trans (HR.out.2.mono HB1.out.1.size), by have := HR.out.2.size; have := HB1.out.2; omega⟩
    have hcc := below_cells HR.out.2
    have hz := HB1.out.2
    replace a0 := (hcc w.heap.size 0 (by omega)).trans a0
    replace a1 := (hcc w.heap.size 1 (by omega)).trans a1
    replace a2 := (hcc w.heap.size 2 (by omega)).trans a2
    replace a3 := (hcc w.heap.size 3 (by omega)).trans a3
    clear hcc hz
    go_wp2_with fail
    refine (HPR.out _ HB2.out.1).mono ?_
    rintro e w3 ⟨rfl, hb3⟩
    have HB3 : Hid (Below w.heap.size w w3 ∧ w.heap.size + 1 ≤ w3.heap.size) := ⟨HB2.out.1.trans (hb3.mono HB2.out.1.size), by have := hb3.size; have := HB2.out.2; omega⟩
    have hcc := below_cells hb3
    have hz := HB2.out.2
    replace a0 := (hcc w.heap.size 0 (by omega)).trans a0
    replace a1 := (hcc w.heap.size 1 (by omega)).trans a1
    replace a2 := (hcc w.heap.size 2 (by omega)).trans a2
    replace a3 := (hcc w.heap.size 3 (by omega)).trans a3
    clear hcc hz hb3
    have hf3 : Far w w3.drew := Far.drew HB3.out
    go_wp2_with fail
    go_region_held3 (fun w' => w'.cell? ⟨w.heap.size, 0, none⟩ = some (.int .i64 k) ∧ w'.cell? ⟨w.heap.size, 1, none⟩ = some (.int .i64 u) ∧ w'.cell? ⟨w.heap.size, 2, none⟩ = some (.string s) ∧ w'.cell? ⟨w.heap.size, 3, none⟩ = some (.slice a l c) ∧ Far w w')
      (first | assumption | go_keep) (first | (go_at_call 7; refine (HTC.out _ (box_far (by assumption)).1).mono ?_; rintro e wn ⟨rfl, hbn⟩; have hn := box_next (by assumption) hbn) | (go_at_call 8; refine (HCL.out _ (box_far (by assumption)).1).mono ?_; rintro e wn ⟨rfl, hbn⟩; have hn := box_next (by assumption) hbn) | (go_at_call 9; refine (HRL.out _ (box_far (by assumption)).1).mono ?_; rintro e wn ⟨rfl, hbn⟩; have hn := box_next (by assumption) hbn) | (go_at_call 10; refine (HSZ.out _ (box_far (by assumption)).1).mono ?_; rintro e wn ⟨rfl, hbn⟩; have hn := box_next (by assumption) hbn) | (go_at_call 11; refine (HRS.out _ (box_far (by assumption)).1).mono ?_; rintro e wn ⟨rfl, hbn⟩; have hn := box_next (by assumption) hbn))
    have HFN := hide (box_far (by assumption : _ ∧ _ ∧ _ ∧ _ ∧ Far w wn))
    go_wp2_with fail
    go_ret
    exact ⟨rfl, HFN.out.1⟩
  · have HEQ : Hid ([] = t') := by have := HT.out; rw [if_neg h0] at this; exact this
    obtain rfl := HEQ.out
    have h00 : (e0 == 0) = false := by simpa using h0
    clear HTX h0 HEQ HT
    go_wp2_with fail
    refine (HPR.out _ HB1.out.1).mono ?_
    rintro e w3 ⟨rfl, hb3⟩
    have HB3 : Hid (Below w.heap.size w w3 ∧ w.heap.size + 1 ≤ w3.heap.size) := ⟨HB1.out.1.trans (hb3.mono HB1.out.1.size), by have := hb3.size; have := HB1.out.2; omega⟩
    have hcc := below_cells hb3
    have hz := HB1.out.2
    replace a0 := (hcc w.heap.size 0 (by omega)).trans a0
    replace a1 := (hcc w.heap.size 1 (by omega)).trans a1
    replace a2 := (hcc w.heap.size 2 (by omega)).trans a2
    replace a3 := (hcc w.heap.size 3 (by omega)).trans a3
    clear hcc hz hb3
    have hf3 : Far w w3.drew := Far.drew HB3.out
    go_wp2_with fail
    go_region_held3 (fun w' => w'.cell? ⟨w.heap.size, 0, none⟩ = some (.int .i64 k) ∧ w'.cell? ⟨w.heap.size, 1, none⟩ = some (.int .i64 u) ∧ w'.cell? ⟨w.heap.size, 2, none⟩ = some (.string s) ∧ w'.cell? ⟨w.heap.size, 3, none⟩ = some (.slice a l c) ∧ Far w w')
      (first | assumption | go_keep) (first | (go_at_call 7; refine (HTC.out _ (box_far (by assumption)).1).mono ?_; rintro e wn ⟨rfl, hbn⟩; have hn := box_next (by assumption) hbn) | (go_at_call 8; refine (HCL.out _ (box_far (by assumption)).1).mono ?_; rintro e wn ⟨rfl, hbn⟩; have hn := box_next (by assumption) hbn) | (go_at_call 9; refine (HRL.out _ (box_far (by assumption)).1).mono ?_; rintro e wn ⟨rfl, hbn⟩; have hn := box_next (by assumption) hbn) | (go_at_call 10; refine (HSZ.out _ (box_far (by assumption)).1).mono ?_; rintro e wn ⟨rfl, hbn⟩; have hn := box_next (by assumption) hbn) | (go_at_call 11; refine (HRS.out _ (box_far (by assumption)).1).mono ?_; rintro e wn ⟨rfl, hbn⟩; have hn := box_next (by assumption) hbn))
    have HFN := hide (box_far (by assumption : _ ∧ _ ∧ _ ∧ _ ∧ Far w wn))
    go_wp2_with fail
    go_ret
    exact ⟨rfl, HFN.out.1⟩

theorem says_any (n : Nat) (x : Tm n) (B : Nat) (w : World) (hx : In B w n x) (hB : B ≤ w.heap.size) (ht : Tab w.heap.size w) (hw : wt n x ≤ 2097152) :
    Calls Tryd.prog 3 #[val n x] w fun e w' => e = .returned (.bool true) ∧ Below w.heap.size w w' := by
  cases n with
  | zero => exact hx.elim
  | succ n =>
  have hN : (nodes (n + 1) x).length ≤ 2097152 := Nat.le_trans (nodes_wt (n + 1) x) hw
  have htab : ∀ w1, Below w.heap.size w w1 → Tab w1.heap.size w1 := fun w1 h1 => Tab.mono (ht.on h1) h1.size
  exact says_walk w x.1.1 x.1.2.1 x.1.2.2 x.2.1.1 x.2.2.length x.2.1.2 (chk (n + 1) x) (sz (n + 1) x) (closedB (n + 1) x) (wtext (n + 1) x) _ rfl
    (fun w1 h1 => rcheck_any (n + 1) x B w1 (hx.below (h1.mono hB)) (Nat.le_trans hB h1.size) hN)
    (fun w1 h1 h0 => by rw [text_eq (n + 1) x (chk_good (n + 1) x h0)]; exact text_any (n + 1) x B w1 (hx.below (h1.mono hB)) (Nat.le_trans hB h1.size) (htab w1 h1) hw)
    (fun w1 h1 => print_any (n + 1) x B w1 (hx.below (h1.mono hB)) (Nat.le_trans hB h1.size) (htab w1 h1) hN hw)
    (fun w1 h1 => tcheck_any (n + 1) x B w1 (hx.below (h1.mono hB)) (Nat.le_trans hB h1.size) hN)
    (fun w1 h1 => by rw [← closed_eq]; exact closed_any (n + 1) x B w1 (hx.below (h1.mono hB)) (Nat.le_trans hB h1.size))
    (fun w1 h1 => rclosed_any (n + 1) x B w1 (hx.below (h1.mono hB)) (Nat.le_trans hB h1.size) hN)
    (fun w1 h1 => tsize_any (n + 1) x B w1 (hx.below (h1.mono hB)) (Nat.le_trans hB h1.size) hN)
    (fun w1 h1 => rsize_any (n + 1) x B w1 (hx.below (h1.mono hB)) (Nat.le_trans hB h1.size) hN)
end Go.Proofs.YtpehdgbdinjbaaaDoor
namespace Go.Proofs.YtpehdgbdinjbaaaDoor
open Go.ChangeShapes Go.WideShapes Go.ChangeAt Go.RowKit

theorem own : ownKnob Tryd.prog.godebug = none := by kernel_rfl
theorem laidOut : laidOutB Tryd.prog = true := by kernel_rfl
theorem cellsTerm : Tryd.prog.cellsOf 24 = 4 := by kernel_rfl
theorem cellsInt : Tryd.prog.cellsOf 3 = 1 := by kernel_rfl
theorem cellsString : Tryd.prog.cellsOf 9 = 1 := by kernel_rfl
theorem cellsTerms : Tryd.prog.cellsOf 22 = 1 := by kernel_rfl

theorem list_of {α : Type} {P : Nat → α → Prop} : (len : Nat) → (∀ i, i < len → ∃ y, P i y) → ∃ l : List α, l.length = len ∧ ∀ i y, l[i]? = some y → P i y
  | 0, _ => ⟨[], rfl, fun i y h => by simp at h⟩
  | len + 1, h => by
    obtain ⟨l, hl, hp⟩ := list_of len (fun i hi => h i (by omega))
    obtain ⟨z, hz⟩ := h len (by omega)
    refine ⟨l ++ [z], by simp [hl], fun i y hy => ?_⟩
    by_cases hi : i < l.length
    · rw [List.getElem?_append_left hi] at hy
      exact hp i y hy
    · rw [List.getElem?_append_right (by omega)] at hy
      have h0 : i - l.length = 0 := by
        by_cases h0 : i - l.length = 0
        · exact h0
        · rw [List.getElem?_eq_none (by simp; omega)] at hy; cases hy
      rw [h0] at hy
      have e1 : z = y := by simpa using hy
      have e2 : i = len := by omega
      rw [e2, ← e1]
      exact hz

theorem wt_le {H : Type} {n : Nat} : (p : List (Tm n)) → (es : List (DataW H)) → (∀ (i : Nat) (y : Tm n) (e : DataW H), p[i]? = some y → es[i]? = some e → wt n y ≤ Rows.uptoBulk e) → p.length = es.length → (p.map fun y => wt n y).sum ≤ Rows.uptoBulkAll es
  | [], es, _, h => by simp
  | y :: p, [], _, h => by simp at h
  | y :: p, e :: es, hp, h => by
    have h0 := hp 0 y e (by simp) (by simp)
    have h1 := wt_le p es (fun i y' e' hy he => hp (i + 1) y' e' (by simpa using hy) (by simpa using he)) (by simpa using h)
    simp only [List.map_cons, List.sum_cons, Rows.uptoBulkAll]
    omega

theorem add_add (b o i j : Nat) : ((⟨b, o, none⟩ : Addr).add i).add j = ⟨b, o + i + j, none⟩ := by
  unfold Addr.add
  split <;> split <;> simp_all
theorem spot_none {w : World} {a : Addr} {v : Value} (h : w.cell? ((a.add 0).add 0) = some v) : a = ⟨a.block, a.off, none⟩ := by
  have e : (a.add 0).add 0 = a := rfl
  rw [e] at h
  unfold World.cell? at h
  split at h
  · split at h
    · cases h
    · rename_i hs
      cases a with
      | mk b o s => cases s with
        | none => rfl
        | some q => simp at hs
  · cases h

theorem wf64 {k : Int} (h : (Lit.int .i64 k).wf = true) : I64 k := by
  have : -9223372036854775808 ≤ k ∧ k ≤ 9223372036854775807 := by simpa [Lit.wf, IntKind.min, IntKind.max, IntKind.signed, IntKind.bits] using h
  exact this

set_option maxRecDepth 100000 in
theorem tree_of {H : Type} (enc : TypeId × Value → H) (w : World) (sp : Nat → Bool) : (n f : Nat) → f ≤ 2 * n + 1 → (cs : List Value) → (x : DataW H × List MemPlace) →
    DataW.trod enc Tryd.prog w 0 sp true f 24 cs = some x →
    ∃ t : Tm (n + 1), cs = [.int .i64 t.1.1, .int .i64 t.1.2.1, .string t.1.2.2, .slice t.2.1.1 t.2.2.length t.2.1.2] ∧ In w.heap.size w (n + 1) t ∧ wt (n + 1) t ≤ Rows.uptoBulk x.1 := by
  intro n
  induction n with
  | zero =>
    intro f hf cs x h
    obtain ⟨xs, m, rfl, rfl, hl, hx, hg⟩ := DataW.trod_struct Tryd.underlying24 h
    have h0 : DataW.trod enc Tryd.prog w 0 sp true m 3 ((cs.drop 0).take (Tryd.prog.cellsOf 3)) = xs[0]? := hg 0 _ rfl
    obtain rfl : m = 0 := by omega
    have hx' : xs.length = 4 := hx
    rw [List.getElem?_eq_getElem (by omega)] at h0
    cases h0
  | succ n ih =>
    intro f hf cs x h
    obtain ⟨xs, m, rfl, rfl, hl, hx, hg⟩ := DataW.trod_struct Tryd.underlying24 h
    have h0 : DataW.trod enc Tryd.prog w 0 sp true m 3 ((cs.drop 0).take (Tryd.prog.cellsOf 3)) = xs[0]? := hg 0 _ rfl
    have h1 : DataW.trod enc Tryd.prog w 0 sp true m 3 ((cs.drop 1).take (Tryd.prog.cellsOf 3)) = xs[1]? := hg 1 _ rfl
    have h2 : DataW.trod enc Tryd.prog w 0 sp true m 9 ((cs.drop 2).take (Tryd.prog.cellsOf 9)) = xs[2]? := hg 2 _ rfl
    have h3 : DataW.trod enc Tryd.prog w 0 sp true m 22 ((cs.drop 3).take (Tryd.prog.cellsOf 22)) = xs[3]? := hg 3 _ rfl
    rw [cellsInt] at h0 h1
    rw [cellsString] at h2
    rw [cellsTerms] at h3
    rw [cellsTerm] at hl
    obtain ⟨c0, c1, c2, c3, rfl⟩ : ∃ c0 c1 c2 c3, cs = [c0, c1, c2, c3] := by
      match cs, hl with
      | [c0, c1, c2, c3], _ => exact ⟨c0, c1, c2, c3, rfl⟩
    obtain ⟨y0, y1, y2, y3, rfl⟩ : ∃ y0 y1 y2 y3, xs = [y0, y1, y2, y3] := by
      match xs, hx with
      | [y0, y1, y2, y3], _ => exact ⟨y0, y1, y2, y3, rfl⟩
    obtain ⟨k, e0, z0, w0⟩ := DataW.trod_int Tryd.underlying3 (x := y0) (by simpa using h0)
    obtain ⟨u, e1, z1, w1⟩ := DataW.trod_int Tryd.underlying3 (x := y1) (by simpa using h1)
    obtain ⟨s, e2, z2, w2⟩ := DataW.trod_string Tryd.underlying9 (x := y2) (by simpa using h2)
    have h3' : DataW.trod enc Tryd.prog w 0 sp true m 22 [c3] = some y3 := by simpa using h3
    simp at e0 e1 e2
    subst e0 e1 e2 z0 z1 z2
    rcases DataW.trod_slice Tryd.underlying22 h3' with ⟨e3, rfl⟩ | ⟨a, len, cap, elems, rest, m', rfl, e3, rfl, _, hlc, hcm, hel, hat, _, _⟩
    · simp at e3
      subst e3
      refine ⟨((k, u, s), (none, 0), []), rfl, ⟨⟨wf64 w0, wf64 w1, w2, Nat.le_refl _, Nat.zero_le _⟩, Or.inl rfl⟩, ?_⟩
      have es : s.data.toList.length = s.size := by rw [Array.length_toList]; rfl
      simp only [wt, Rows.uptoBulk, Rows.uptoBulkAll, List.map_cons, List.map_nil, List.sum_nil]
      omega
    · simp at e3
      subst e3
      simp only [cellsTerm] at hat
      have key : ∀ i, i < len → ∃ t : Tm (n + 1), (∃ b o, a = ⟨b, o, none⟩ ∧ b < w.heap.size ∧ Held w b (o + i * 4) (n + 1) t) ∧ In w.heap.size w (n + 1) t ∧ ∀ e, (elems.map (·.1))[i]? = some e → wt (n + 1) t ≤ Rows.uptoBulk e := by
        intro i hi
        have hi' := hat i hi
        have hi0 := hat 0 (by omega)
        rw [List.getElem?_eq_getElem (by omega)] at hi' hi0
        obtain ⟨cs', hcs, htr⟩ := Option.bind_eq_some_iff.1 hi'
        obtain ⟨cs0, hcs0, htr0⟩ := Option.bind_eq_some_iff.1 hi0
        obtain ⟨_, hlen, hcell⟩ := World.cells?_some hcs
        obtain ⟨_, hlen0, hcell0⟩ := World.cells?_some hcs0
        obtain ⟨t, rfl, hin, hb⟩ := ih m' (by omega) cs' _ htr
        have ha := spot_none (w := w) (a := a) (v := cs0[0]'(by omega)) (by have := hcell0 0 (by omega); rw [List.getElem?_eq_getElem (by omega)] at this; simpa using this)
        have hadd : ∀ j, (a.add (i * 4)).add j = ⟨a.block, a.off + i * 4 + j, none⟩ := fun j => by
          have := add_add a.block a.off (i * 4) j
          rw [← ha] at this
          exact this
        have c0 := hcell 0 (by omega)
        have c1 := hcell 1 (by omega)
        have c2 := hcell 2 (by omega)
        have c3 := hcell 3 (by omega)
        rw [hadd] at c0 c1 c2 c3
        simp at c0 c1 c2 c3
        refine ⟨t, ⟨a.block, a.off, ha, World.block_lt_of_cell? w ⟨a.block, a.off + i * 4, none⟩ c0, c0, c1, c2, c3⟩, hin, fun e he => ?_⟩
        rw [List.getElem?_map, List.getElem?_eq_getElem (by omega)] at he
        have : (elems[i]).1 = e := by simpa using he
        rw [← this]
        exact hb
      obtain ⟨p, hpl, hp⟩ := list_of len key
      refine ⟨((k, u, s), (some a, cap), p), by simp [hpl], ⟨⟨wf64 w0, wf64 w1, w2, by simp only; omega, hcm⟩, ?_⟩, ?_⟩
      · rcases Nat.eq_zero_or_pos len with h | h
        · exact Or.inl (List.eq_nil_of_length_eq_zero (hpl.trans h))
        · obtain ⟨⟨b, o, rfl, hb, _⟩, _, _⟩ := hp 0 (p[0]'(by rw [hpl]; exact h)) (List.getElem?_eq_getElem (by rw [hpl]; exact h))
          refine Or.inr ⟨b, o, rfl, hb, fun i y hy => ?_⟩
          obtain ⟨⟨b', o', e, _, hh⟩, hin, _⟩ := hp i y hy
          simp at e
          obtain ⟨rfl, rfl⟩ := e
          exact ⟨hh, hin⟩
      · have hs := wt_le p (elems.map (·.1)) (fun i y e hy he => (hp i y hy).2.2 e he) (by simp; omega)
        have es : s.data.toList.length = s.size := by rw [Array.length_toList]; rfl
        simp only [wt, Rows.uptoBulk, Rows.uptoBulkAll, List.map_cons, List.map_nil] at hs ⊢
        omega

set_option maxRecDepth 100000 in
theorem open_term {H : Type} {enc : TypeId × Value → H} {W : World} {r : Reach} {b0 : Nat} {v : Value} {d : DataW H} {p : List MemPlace} (hv : Value.okWide Tryd.prog W r b0 24 v)
    (h : DataW.Trod enc Tryd.prog W 0 (fun _ => true) true 24 v d p) : ∃ n, ∃ t : Tm (n + 1), v = val (n + 1) t ∧ In W.heap.size W (n + 1) t ∧ wt (n + 1) t ≤ Rows.uptoBulk d := by
  obtain ⟨cs, rfl, _⟩ := okWide_struct Tryd.underlying24 hv
  obtain ⟨f, hf⟩ := h
  obtain ⟨t, e, hin, hb⟩ := tree_of enc W (fun _ => true) f f (by omega) _ _ hf
  refine ⟨f, t, ?_, hin, hb⟩
  have : cs = #[.int .i64 t.1.1, .int .i64 t.1.2.1, .string t.1.2.2, .slice t.2.1.1 t.2.2.length t.2.1.2] := by
    simp [Value.cells] at e
    exact Array.toList_inj.1 e
  rw [this]
  rfl
end Go.Proofs.YtpehdgbdinjbaaaDoor
