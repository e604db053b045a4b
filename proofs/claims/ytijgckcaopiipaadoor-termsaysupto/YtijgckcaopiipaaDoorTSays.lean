/- What is proved here: clerklaw.TermSays, called with a term that lies in memory and holds at most 2097152 terms and letters, returns true and turns no memory that was there, where the library's table of powers lies as its text lays it. -/
import Derived.Test.YtijgckcaopiipaaDoorPri
import Derived.Test.YtijgckcaopiipaaDoorTxt
import Derived.Test.YtijgckcaopiipaaDoorClo
import Derived.Deep.RegionHeld3
import Derived.Deep.DrawnRows
namespace Go.Proofs.YtijgckcaopiipaaDoor
open Go.RowKit
attribute [local go_sem ↓] Go.wp_at_zero Go.wp_at_succ

theorem jn_congr {n : Nat} (f g : Tm n → List UInt8) (l : List (Tm n)) (h : ∀ y ∈ l, f y = g y) : jn (l.map f) = jn (l.map g) := by
  rw [List.map_congr_left h]
theorem text_eq : (n : Nat) → (x : Tm n) → (∀ a ∈ nodes n x, good a = true) → wtext n x = rtext n x
  | 0, _, _ => rfl
  | n + 1, x, h => by
    have hg := good_kind _ (h (x.1, (x.2.1.1, x.2.2.length, x.2.1.2)) (by simp [nodes]))
    have hl := jn_congr (fun y => wtext n y) (fun y => rtext n y) x.2.2 (fun y hy => text_eq n y (fun a ha => h a (nodes_mem hy ha)))
    simp only at hg
    simp only [wtext, rtext, hl]
    rcases hg with g | g | g | g | g | ⟨g, _⟩ <;> simp [g]

/-- All that was is as it was, and the box lies below. -/
def Far (w w' : World) : Prop := Below w.heap.size w w' ∧ w.heap.size + 1 ≤ w'.heap.size
theorem Far.next {w w1 w2 : World} (h : Far w w1) (hb : Below w1.heap.size w1 w2) : Far w w2 := ⟨h.1.trans (hb.mono h.1.size), Nat.le_trans h.2 hb.size⟩
theorem Far.drew {w w1 : World} (h : Far w w1) : Far w w1.drew := ⟨h.1.drew, h.2⟩
theorem Far.cell {w w1 w2 : World} (h : Far w w1) (hb : Below w1.heap.size w1 w2) (o : Nat) : w2.cell? ⟨w.heap.size, o, none⟩ = w1.cell? ⟨w.heap.size, o, none⟩ := hb.cell (p := ⟨w.heap.size, o, none⟩) h.2

theorem box_far {w w1 : World} {k u : Int} {s : ByteArray} {v : Value} (h : w1.cell? ⟨w.heap.size, 0, none⟩ = some (.int .i64 k) ∧ w1.cell? ⟨w.heap.size, 1, none⟩ = some (.int .i64 u) ∧ w1.cell? ⟨w.heap.size, 2, none⟩ = some (.string s) ∧ w1.cell? ⟨w.heap.size, 3, none⟩ = some v ∧ Far w w1) : Far w w1 := h.2.2.2.2
theorem box_next {w w1 w2 : World} {k u : Int} {s : ByteArray} {v : Value} (h : w1.cell? ⟨w.heap.size, 0, none⟩ = some (.int .i64 k) ∧ w1.cell? ⟨w.heap.size, 1, none⟩ = some (.int .i64 u) ∧ w1.cell? ⟨w.heap.size, 2, none⟩ = some (.string s) ∧ w1.cell? ⟨w.heap.size, 3, none⟩ = some v ∧ Far w w1) (hb : Below w1.heap.size w1 w2) :
    w2.cell? ⟨w.heap.size, 0, none⟩ = some (.int .i64 k) ∧ w2.cell? ⟨w.heap.size, 1, none⟩ = some (.int .i64 u) ∧ w2.cell? ⟨w.heap.size, 2, none⟩ = some (.string s) ∧ w2.cell? ⟨w.heap.size, 3, none⟩ = some v ∧ Far w w2 := by
  obtain ⟨h0, h1, h2, h3, h4⟩ := h
  exact ⟨(h4.cell hb 0).trans h0, (h4.cell hb 1).trans h1, (h4.cell hb 2).trans h2, (h4.cell hb 3).trans h3, h4.next hb⟩

set_option maxRecDepth 100000 in
set_option maxHeartbeats 2000000 in
theorem says_walk (w : World) (k u : Int) (s : ByteArray) (a : Option Addr) (l c : Nat) (e0 z : Int) (cb : Bool) (t t' : List UInt8) (HT : Hid ((if e0 = 0 then t else []) = t'))
    (HRC : Hid (∀ w1, Below w.heap.size w w1 → Calls Tryd.prog 4 #[.agg #[.int .i64 k, .int .i64 u, .string s, .slice a l c]] w1 fun e w' => e = .returned (.int .i64 e0) ∧ Below w1.heap.size w1 w'))
    (HTX : Hid (∀ w1, Below w.heap.size w w1 → e0 = 0 → Calls Tryd.prog 5 #[.agg #[.int .i64 k, .int .i64 u, .string s, .slice a l c]] w1 fun e w' => ∃ r : ByteArray, e = .returned (.string r) ∧ Hid (r.data.toList = t ∧ Below w1.heap.size w1 w')))
    (HPR : Hid (∀ w1, Below w.heap.size w w1 → Calls Tryd.prog 6 #[.agg #[.int .i64 k, .int .i64 u, .string s, .slice a l c]] w1 fun e w' => e = .returned (.tuple #[.string ⟨t'.toArray⟩, .int .i64 e0]) ∧ Below w1.heap.size w1 w'))
    (HTC : Hid (∀ w1, Below w.heap.size w w1 → Calls Tryd.prog 7 #[.agg #[.int .i64 k, .int .i64 u, .string s, .slice a l c]] w1 fun e w' => e = .returned (.int .i64 e0) ∧ Below w1.heap.size w1 w'))
    (HCL : Hid (∀ w1, Below w.heap.size w w1 → Calls Tryd.prog 8 #[.agg #[.int .i64 k, .int .i64 u, .string s, .slice a l c]] w1 fun e w' => e = .returned (.bool cb) ∧ Below w1.heap.size w1 w'))
    (HRL : Hid (∀ w1, Below w.heap.size w w1 → Calls Tryd.prog 9 #[.agg #[.int .i64 k, .int .i64 u, .string s, .slice a l c]] w1 fun e w' => e = .returned (.bool cb) ∧ Below w1.heap.size w1 w'))
    (HSZ : Hid (∀ w1, Below w.heap.size w w1 → Calls Tryd.prog 10 #[.agg #[.int .i64 k, .int .i64 u, .string s, .slice a l c]] w1 fun e w' => e = .returned (.int .i64 z) ∧ Below w1.heap.size w1 w'))
    (HRS : Hid (∀ w1, Below w.heap.size w w1 → Calls Tryd.prog 11 #[.agg #[.int .i64 k, .int .i64 u, .string s, .slice a l c]] w1 fun e w' => e = .returned (.int .i64 z) ∧ Below w1.heap.size w1 w')) :
    Calls Tryd.prog 3 #[.agg #[.int .i64 k, .int .i64 u, .string s, .slice a l c]] w fun e w' => e = .returned (.bool true) ∧ Below w.heap.size w w' := by
  go_enter Tryd.func3, Tryd.ntmps3
  go_wp2_with fail
  refine (HRC.out _ ((Below.refl _ _).alloc (Nat.le_refl _) _)).mono ?_
  rintro e w1 ⟨rfl, hb1⟩
  have HB1 : Hid (Below w.heap.size w w1 ∧ w.heap.size + 1 ≤ w1.heap.size) := ⟨((Below.refl _ _).alloc (Nat.le_refl _) _).trans (hb1.mono (by simp)), by have := hb1.size; simpa using this⟩
  have hcc := below_cells hb1
  simp only [World.size_alloc] at hcc
  have a0 := (hcc w.heap.size 0 (by omega)).trans (by simp [go_sem] : _ = some (Value.int .i64 k))
  have a1 := (hcc w.heap.size 1 (by omega)).trans (by simp [go_sem] : _ = some (Value.int .i64 u))
  have a2 := (hcc w.heap.size 2 (by omega)).trans (by simp [go_sem] : _ = some (Value.string s))
  have a3 := (hcc w.heap.size 3 (by omega)).trans (by simp [go_sem] : _ = some (Value.slice a l c))
  clear hcc hb1
  by_cases h0 : e0 = 0
  · have HT2 := hide (HTX.out w1 HB1.out.1 h0)
    have HEQ : Hid (t = t') := by have := HT.out; rw [if_pos h0] at this; exact this
    have h00 : (e0 == 0) = true := by simpa using h0
    subst h0
    clear HTX
    go_wp2_with fail
    refine HT2.out.mono ?_
    rintro e w2 ⟨r, rfl, HR⟩
    obtain rfl : r = ⟨t'.toArray⟩ := by
      have h1 := HR.out.1.trans HEQ.out
      cases r with
      | mk d => simp at h1; rw [← h1]
    have HB2 : Hid (Below w.heap.size w w2 ∧ w.heap.size + 1 ≤ w2.heap.size) := ⟨HB1.out.1.trans (HR.out.2.mono HB1.out.1.size), by have := HR.out.2.size; have := HB1.out.2; omega⟩
    have hcc := below_cells HR.out.2
    have hz := HB1.out.2
    replace a0 := (hcc w.heap.size 0 (by omega)).trans a0
    replace a1 := (hcc w.heap.size 1 (by omega)).trans a1
    replace a2 := (hcc w.heap.size 2 (by omega)).trans a2
    replace a3 := (hcc w.heap.size 3 (by omega)).trans a3
    clear hcc hz
    go_wp2_with fail
    refine (HPR.out _ HB2.out.1).mono ?_
    rintro e w3 ⟨rfl, hb3⟩
    have HB3 : Hid (Below w.heap.size w w3 ∧ w.heap.size + 1 ≤ w3.heap.size) := ⟨HB2.out.1.trans (hb3.mono HB2.out.1.size), by have := hb3.size; have := HB2.out.2; omega⟩
    have hcc := below_cells hb3
    have hz := HB2.out.2
    replace a0 := (hcc w.heap.size 0 (by omega)).trans a0
    replace a1 := (hcc w.heap.size 1 (by omega)).trans a1
    replace a2 := (hcc w.heap.size 2 (by omega)).trans a2
    replace a3 := (hcc w.heap.size 3 (by omega)).trans a3
    clear hcc hz hb3
    have hf3 : Far w w3.drew := Far.drew HB3.out
    go_wp2_with fail
    go_region_held3 (fun w' => w'.cell? ⟨w.heap.size, 0, none⟩ = some (.int .i64 k) ∧ w'.cell? ⟨w.heap.size, 1, none⟩ = some (.int .i64 u) ∧ w'.cell? ⟨w.heap.size, 2, none⟩ = some (.string s) ∧ w'.cell? ⟨w.heap.size, 3, none⟩ = some (.slice a l c) ∧ Far w w')
      (first | assumption | go_keep) (first | (go_at_call 7; refine (HTC.out _ (box_far (by assumption)).1).mono ?_; rintro e wn ⟨rfl, hbn⟩; have hn := box_next (by assumption) hbn) | (go_at_call 8; refine (HCL.out _ (box_far (by assumption)).1).mono ?_; rintro e wn ⟨rfl, hbn⟩; have hn := box_next (by assumption) hbn) | (go_at_call 9; refine (HRL.out _ (box_far (by assumption)).1).mono ?_; rintro e wn ⟨rfl, hbn⟩; have hn := box_next (by assumption) hbn) | (go_at_call 10; refine (HSZ.out _ (box_far (by assumption)).1).mono ?_; rintro e wn ⟨rfl, hbn⟩; have hn := box_next (by assumption) hbn) | (go_at_call 11; refine (HRS.out _ (box_far (by assumption)).1).mono ?_; rintro e wn ⟨rfl, hbn⟩; have hn := box_next (by assumption) hbn))
    have HFN := hide (box_far (by assumption : _ ∧ _ ∧ _ ∧ _ ∧ Far w wn))
    go_wp2_with fail
    go_ret
    exact ⟨rfl, HFN.out.1⟩
  · have HEQ : Hid ([] = t') := by have := HT.out; rw [if_neg h0] at this; exact this
    obtain rfl := HEQ.out
    have h00 : (e0 == 0) = false := by simpa using h0
    clear HTX h0 HEQ HT
    go_wp2_with fail
    refine (HPR.out _ HB1.out.1).mono ?_
    rintro e w3 ⟨rfl, hb3⟩
    have HB3 : Hid (Below w.heap.size w w3 ∧ w.heap.size + 1 ≤ w3.heap.size) := ⟨HB1.out.1.trans (hb3.mono HB1.out.1.size), by have := hb3.size; have := HB1.out.2; omega⟩
    have hcc := below_cells hb3
    have hz := HB1.out.2
    replace a0 := (hcc w.heap.size 0 (by omega)).trans a0
    replace a1 := (hcc w.heap.size 1 (by omega)).trans a1
    replace a2 := (hcc w.heap.size 2 (by omega)).trans a2
    replace a3 := (hcc w.heap.size 3 (by omega)).trans a3
    clear hcc hz hb3
    have hf3 : Far w w3.drew := Far.drew HB3.out
    go_wp2_with fail
    go_region_held3 (fun w' => w'.cell? ⟨w.heap.size, 0, none⟩ = some (.int .i64 k) ∧ w'.cell? ⟨w.heap.size, 1, none⟩ = some (.int .i64 u) ∧ w'.cell? ⟨w.heap.size, 2, none⟩ = some (.string s) ∧ w'.cell? ⟨w.heap.size, 3, none⟩ = some (.slice a l c) ∧ Far w w')
      (first | assumption | go_keep) (first | (go_at_call 7; refine (HTC.out _ (box_far (by assumption)).1).mono ?_; rintro e wn ⟨rfl, hbn⟩; have hn := box_next (by assumption) hbn) | (go_at_call 8; refine (HCL.out _ (box_far (by assumption)).1).mono ?_; rintro e wn ⟨rfl, hbn⟩; have hn := box_next (by assumption) hbn) | (go_at_call 9; refine (HRL.out _ (box_far (by assumption)).1).mono ?_; rintro e wn ⟨rfl, hbn⟩; have hn := box_next (by assumption) hbn) | (go_at_call 10; refine (HSZ.out _ (box_far (by assumption)).1).mono ?_; rintro e wn ⟨rfl, hbn⟩; have hn := box_next (by assumption) hbn) | (go_at_call 11; refine (HRS.out _ (box_far (by assumption)).1).mono ?_; rintro e wn ⟨rfl, hbn⟩; have hn := box_next (by assumption) hbn))
    have HFN := hide (box_far (by assumption : _ ∧ _ ∧ _ ∧ _ ∧ Far w wn))
    go_wp2_with fail
    go_ret
    exact ⟨rfl, HFN.out.1⟩

theorem says_any (n : Nat) (x : Tm n) (B : Nat) (w : World) (hx : In B w n x) (hB : B ≤ w.heap.size) (ht : Tab w.heap.size w) (hw : wt n x ≤ 2097152) :
    Calls Tryd.prog 3 #[val n x] w fun e w' => e = .returned (.bool true) ∧ Below w.heap.size w w' := by
  cases n with
  | zero => exact hx.elim
  | succ n =>
  have hN : (nodes (n + 1) x).length ≤ 2097152 := Nat.le_trans (nodes_wt (n + 1) x) hw
  have htab : ∀ w1, Below w.heap.size w w1 → Tab w1.heap.size w1 := fun w1 h1 => Tab.mono (ht.on h1) h1.size
  exact says_walk w x.1.1 x.1.2.1 x.1.2.2 x.2.1.1 x.2.2.length x.2.1.2 (chk (n + 1) x) (sz (n + 1) x) (closedB (n + 1) x) (wtext (n + 1) x) _ rfl
    (fun w1 h1 => rcheck_any (n + 1) x B w1 (hx.below (h1.mono hB)) (Nat.le_trans hB h1.size) hN)
    (fun w1 h1 h0 => by rw [text_eq (n + 1) x (chk_good (n + 1) x h0)]; exact text_any (n + 1) x B w1 (hx.below (h1.mono hB)) (Nat.le_trans hB h1.size) (htab w1 h1) hw)
    (fun w1 h1 => print_any (n + 1) x B w1 (hx.below (h1.mono hB)) (Nat.le_trans hB h1.size) (htab w1 h1) hN hw)
    (fun w1 h1 => tcheck_any (n + 1) x B w1 (hx.below (h1.mono hB)) (Nat.le_trans hB h1.size) hN)
    (fun w1 h1 => by rw [← closed_eq]; exact closed_any (n + 1) x B w1 (hx.below (h1.mono hB)) (Nat.le_trans hB h1.size))
    (fun w1 h1 => rclosed_any (n + 1) x B w1 (hx.below (h1.mono hB)) (Nat.le_trans hB h1.size) hN)
    (fun w1 h1 => tsize_any (n + 1) x B w1 (hx.below (h1.mono hB)) (Nat.le_trans hB h1.size) hN)
    (fun w1 h1 => rsize_any (n + 1) x B w1 (hx.below (h1.mono hB)) (Nat.le_trans hB h1.size) hN)
end Go.Proofs.YtijgckcaopiipaaDoor
