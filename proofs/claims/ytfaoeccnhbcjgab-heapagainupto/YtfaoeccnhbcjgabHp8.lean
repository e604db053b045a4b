/- What is proved here: heap.stands and heap.allStand: whether words stand for terms. No condition but sizes. -/
import Derived.Test.YtfaoeccnhbcjgabHp7
import Derived.Test.YtfaoeccnhbcjgabTDep
namespace Go.Proofs.Ytfaoeccnhbcjgab
open Go.RowKit

def standsB (ws : List Wd) (nm : List ByteArray) (v : Wd) : Bool :=
  if v.1 = 1 then inB v.2 (-1099511627776) 1099511627776 else if v.1 = 3 then inB v.2 1 99 else if v.1 = 2 then hasB nm.length v.2 else if v.1 = 4 then beginsB ws v.2 else false

def leaf (k u : Int) : Tm 1 := ((k, u, .empty), (none, 0), [])
theorem leaf_chk (k u : Int) (hk : k = 1 ∨ k = 3) : chk 1 (leaf k u) = if good (hdOf 0 (leaf k u)) then 0 else 5 := by
  rcases hk with rfl | rfl <;> simp [chk, leaf, nodes, deeps, chkL, sz, deeper, hdOf] <;> rfl
theorem leaf_good (ws : List Wd) (nm : List ByteArray) (k u : Int) (hk : k = 1 ∨ k = 3) : good (hdOf 0 (leaf k u)) = standsB ws nm (k, u) := by
  rcases hk with rfl | rfl <;> simp [good, leaf, hdOf, standsB]

set_option maxHeartbeats 1000000 in
set_option maxRecDepth 100000 in
theorem stands_num (hp : Nat) (ws : List Wd) (nm : List ByteArray) (k u : Int) (w : World) (hk : k = 1 ∨ k = 3) (hu : I64 u) :
    Calls Try.prog 51 #[.pointer (some ⟨hp, 0, none⟩), .agg #[.int .i64 k, .int .i64 u]] w fun e w' => e = .returned (.bool (standsB ws nm (k, u))) ∧ Below w.heap.size w w' := by
  have HC : Hid (∀ w1, Calls Try.prog 41 #[.agg #[.int .i64 k, .int .i64 u, .string .empty, .slice none 0 0]] w1 fun e w' => e = .returned (.int .i64 (if standsB ws nm (k, u) then 0 else 5)) ∧ Below w1.heap.size w1 w') := by
    intro w1
    have h := tcheck_any 1 (leaf k u) w1.heap.size w1 ⟨⟨by rcases hk with rfl | rfl <;> simp [leaf, I64], hu, by simp [leaf, maxLen], Nat.le_refl _, Nat.zero_le _⟩, Or.inl rfl⟩ (Nat.le_refl _) (by simp [nodes, leaf])
    rw [leaf_chk k u hk, leaf_good ws nm k u hk] at h
    exact h
  generalize standsB ws nm (k, u) = sb at *
  cases sb
  all_goals
    simp only [if_true, Bool.false_eq_true, if_false] at HC
    rcases hk with rfl | rfl
    all_goals
      go_enter Try.func51, Try.ntmps51
      go_wp2_with fail
      refine (HC.out _).mono ?_
      rintro e w2 ⟨rfl, hb⟩
      have HB := hide hb
      clear hb
      go_wp2_with fail
      go_ret
      exact ⟨rfl, ((Below.refl _ _).alloc (Nat.le_refl _) _).trans (HB.out.mono (by simp))⟩

set_option maxHeartbeats 1000000 in
set_option maxRecDepth 100000 in
theorem stands_atom (base hp : Nat) (room : Int) (ws : List Wd) (nm : List ByteArray) (M : Nat → Prop) (u : Int) (w : World) (h : Hid (HpAt base hp room ws nm M w)) :
    Calls Try.prog 51 #[.pointer (some ⟨hp, 0, none⟩), .agg #[.int .i64 2, .int .i64 u]] w fun e w' => e = .returned (.bool (hasB nm.length u)) ∧ Below w.heap.size w w' := by
  have HC : Hid (∀ wA, Below w.heap.size w wA → Calls Try.prog 67 #[.pointer (some ⟨hp, 2, none⟩), .int .i64 u] wA fun e w' => e = .returned (.bool (hasB nm.length u)) ∧ w' = wA) := by
    intro wA hA
    obtain ⟨tv, lv, mv, h1, h2, h3, _⟩ := h.out.later hA
    obtain ⟨la, lc, rfl⟩ : ∃ la lc, lv = .slice la nm.length lc := by
      rcases h3.1.2 with ⟨e, e0⟩ | ⟨g, c, cur, e, _⟩
      · exact ⟨none, 0, by rw [e, e0]⟩
      · exact ⟨_, c, e⟩
    exact has_any hp room tv la nm.length lc mv u wA h1
  clear h
  generalize hasB nm.length u = bb at *
  go_enter Try.func51, Try.ntmps51
  go_wp2_with fail
  generalize hwA : w.alloc (Obj.cells #[Value.int IntKind.i64 2, Value.int IntKind.i64 u] 37) = wA
  have HA : Hid (Below w.heap.size w wA.drew) := by subst hwA; exact ((Below.refl _ _).alloc (Nat.le_refl _) _).drew
  have e1 : wA.cell? ⟨w.heap.size, 1, none⟩ = some (.int .i64 u) := by subst hwA; simp [go_sem]
  clear hwA
  go_region_held3 (fun w' => w'.cell? ⟨w.heap.size, 1, none⟩ = some (.int .i64 u)) (go_keep) ((go_at_call 67; refine (HC.out _ HA.out).mono ?_; rintro e w2 ⟨rfl, rfl⟩))
  go_wp2_with fail
  go_ret
  exact ⟨rfl, HA.out⟩

set_option maxHeartbeats 1000000 in
set_option maxRecDepth 100000 in
theorem stands_tup (base hp : Nat) (room : Int) (ws : List Wd) (nm : List ByteArray) (M : Nat → Prop) (u : Int) (w : World) (h : Hid (HpAt base hp room ws nm M w)) (hw : ws.length ≤ 100000) :
    Calls Try.prog 51 #[.pointer (some ⟨hp, 0, none⟩), .agg #[.int .i64 4, .int .i64 u]] w fun e w' => e = .returned (.bool (beginsB ws u)) ∧ Below w.heap.size w w' := by
  obtain ⟨ta, tc, hhp, c1, HC⟩ : ∃ ta tc, hp < w.heap.size ∧ w.cell? ⟨hp, 1, none⟩ = some (.slice ta ws.length tc) ∧ Hid (∀ wA, Below w.heap.size w wA → Calls Try.prog 68 #[.slice ta ws.length tc, .int .i64 u] wA fun e w' => e = .returned (.bool (beginsB ws u)) ∧ w' = wA) := by
    obtain ⟨tv, lv, mv, h1, h2, h3, _⟩ := h.out
    obtain ⟨ta, tc, rfl⟩ : ∃ ta tc, tv = .slice ta ws.length tc := by
      rcases h2.2 with ⟨e, e0⟩ | ⟨g, c, cur, e, _⟩
      · exact ⟨none, 0, by rw [e, e0]⟩
      · exact ⟨_, c, e⟩
    exact ⟨ta, tc, h1.lt, h1.cells.1.2.1, fun wA hA => begins_any base ta ws.length tc ws u wA rfl hw (own_below h2 hA)⟩
  clear h
  generalize beginsB ws u = bb at *
  generalize ws.length = L at *
  go_enter Try.func51, Try.ntmps51
  go_wp2_with fail
  generalize hwA : w.alloc (Obj.cells #[Value.int IntKind.i64 4, Value.int IntKind.i64 u] 37) = wA
  have HA : Hid (Below w.heap.size w wA.drew) := by subst hwA; exact ((Below.refl _ _).alloc (Nat.le_refl _) _).drew
  have e1 : wA.cell? ⟨w.heap.size, 1, none⟩ = some (.int .i64 u) := by subst hwA; simp [go_sem]
  replace c1 : wA.cell? ⟨hp, 1, none⟩ = some (.slice ta L tc) := (below_cells HA.out hp 1 hhp).trans c1
  clear hwA
  go_region_held3 (fun w' => w'.cell? ⟨w.heap.size, 1, none⟩ = some (.int .i64 u) ∧ w'.cell? ⟨hp, 1, none⟩ = some (.slice ta L tc)) (go_keep) ((go_at_call 68; refine (HC.out _ HA.out).mono ?_; rintro e w2 ⟨rfl, rfl⟩))
  go_wp2_with fail
  go_ret
  exact ⟨rfl, HA.out⟩

set_option maxHeartbeats 1000000 in
set_option maxRecDepth 100000 in
theorem stands_else (hp : Nat) (k u : Int) (w : World) (h1 : ¬ k = 1) (h2 : ¬ k = 2) (h3 : ¬ k = 3) (h4 : ¬ k = 4) :
    Calls Try.prog 51 #[.pointer (some ⟨hp, 0, none⟩), .agg #[.int .i64 k, .int .i64 u]] w fun e w' => e = .returned (.bool false) ∧ Below w.heap.size w w' := by
  have b1 : (k == 1) = false := by simpa using h1
  have b2 : (k == 2) = false := by simpa using h2
  have b3 : (k == 3) = false := by simpa using h3
  have b4 : (k == 4) = false := by simpa using h4
  go_enter Try.func51, Try.ntmps51
  go_wp2_with fail
  go_ret
  exact ⟨rfl, by go_grown⟩

theorem stands_any (base hp : Nat) (room : Int) (ws : List Wd) (nm : List ByteArray) (M : Nat → Prop) (v : Wd) (w : World) (h : HpAt base hp room ws nm M w) (hw : ws.length ≤ 100000) (hv : I64 v.2) :
    Calls Try.prog 51 #[.pointer (some ⟨hp, 0, none⟩), wdV v] w fun e w' => e = .returned (.bool (standsB ws nm v)) ∧ Below w.heap.size w w' := by
  obtain ⟨k, u⟩ := v
  by_cases h1 : k = 1
  · exact stands_num hp ws nm k u w (Or.inl h1) hv
  · by_cases h3 : k = 3
    · exact stands_num hp ws nm k u w (Or.inr h3) hv
    · by_cases h2 : k = 2
      · subst h2
        have e : standsB ws nm (2, u) = hasB nm.length u := by simp [standsB]
        rw [e]
        exact stands_atom base hp room ws nm M u w h
      · by_cases h4 : k = 4
        · subst h4
          have e : standsB ws nm (4, u) = beginsB ws u := by simp [standsB]
          rw [e]
          exact stands_tup base hp room ws nm M u w h hw
        · have e : standsB ws nm (k, u) = false := by simp [standsB, h1, h2, h3, h4]
          rw [e]
          exact stands_else hp k u w h1 h2 h3 h4

set_option maxHeartbeats 1000000 in
theorem allStand_any (base hp : Nat) (room : Int) (ws : List Wd) (nm : List ByteArray) (M : Nat → Prop) (vs : List Wd) (a : Option Addr) (len pc : Nat) (w : World) (h : Hid (HpAt base hp room ws nm M w)) (hw : ws.length ≤ 100000) (hvl : Hid (vs.length = len)) (hlen : len ≤ 100000) (hin : Hid (WordsIn w vs a)) (hi : Hid (∀ v ∈ vs, I64 v.2)) :
    Calls Try.prog 46 #[.pointer (some ⟨hp, 0, none⟩), .slice a len pc] w fun e w' => e = .returned (.bool (vs.all (standsB ws nm))) ∧ Below w.heap.size w w' := by
  go_enter Try.func46, Try.ntmps46
  go_wp2_with fail
  go_loopw [9] (fun i wr => ∃ k : Nat, k ≤ len ∧ i = .int .i64 k ∧ Hid (Below w.heap.size w wr ∧ (vs.take k).all (standsB ws nm) = true)) (fun i _ => len - (intOf i).toNat)
  case atStart => exact ⟨0, by omega, rfl, Below.refl _ _, by simp⟩
  case round =>
    obtain ⟨k, hk, rfl, HR⟩ := hrel
    by_cases hlt : k < len
    · obtain ⟨v, hv⟩ : ∃ v, vs[k]? = some v := ⟨vs[k]'(by rw [hvl.out]; exact hlt), List.getElem?_eq_getElem _⟩
      obtain ⟨b, o, rfl, hb, hvs⟩ : ∃ b o, a = some ⟨b, o, none⟩ ∧ b < w.heap.size ∧ ∀ (i : Nat) (v : Wd), vs[i]? = some v → w.cell? ⟨b, o + i * 2, none⟩ = some (.int .i64 v.1) ∧ w.cell? ⟨b, o + i * 2 + 1, none⟩ = some (.int .i64 v.2) := by
        rcases hin.out with e | e
        · rw [e] at hv; simp at hv
        · exact e
      obtain ⟨v0, v1⟩ := hvs k v hv
      replace v0 := (below_cells HR.out.1 b (o + k * 2) hb).trans v0
      replace v1 := (below_cells HR.out.1 b (o + k * 2 + 1) hb).trans v1
      have HC : Hid (∀ (w1 : World), Below wr.heap.size wr w1 → Calls Try.prog 51 #[.pointer (some ⟨hp, 0, none⟩), .agg #[.int .i64 v.1, .int .i64 v.2]] w1 fun e w' => e = .returned (.bool (standsB ws nm v)) ∧ Below w1.heap.size w1 w') :=
        fun w1 h1 => stands_any base hp room ws nm _ v w1 (h.out.later (HR.out.1.trans (h1.mono HR.out.1.size))) hw (hi.out v (List.mem_of_getElem? hv))
      have HN : Hid ((standsB ws nm v = true → (vs.take (k + 1)).all (standsB ws nm) = true) ∧ (standsB ws nm v = false → vs.all (standsB ws nm) = false)) := by
        refine ⟨fun e => ?_, fun e => ?_⟩
        · rw [List.take_add_one, hv, List.all_append, HR.out.2]
          simp [e]
        · cases ha : vs.all (standsB ws nm)
          · rfl
          · rw [List.all_eq_true] at ha
            rw [ha v (List.mem_of_getElem? hv)] at e
            exact e
      have HBr : Hid (Below w.heap.size w wr) := HR.out.1
      clear hv hvs hin h hi HR
      have hk1 : (0 : Int) ≤ (k : Int) := by omega
      have hk2 : (k : Int) < (len : Int) := by omega
      have hws := HBr.out.size
      have hpw : b < wr.heap.size := by omega
      clear hws
      cases hsb : standsB ws nm v
      · rw [hsb] at HC
        replace HN := hide (HN.out.2 hsb)
        clear hsb
        go_wp2_with fail
        refine (HC.out _ ((Below.refl _ _).alloc (Nat.le_refl _) _)).mono ?_
        rintro e w1 ⟨rfl, hb1⟩
        have HB1 : Hid (Below w.heap.size w w1) := HBr.out.trans ((((Below.refl _ _).alloc (Nat.le_refl _) _).trans (hb1.mono (by simp))).mono HBr.out.size)
        clear hb1 v0 v1 HC
        go_wp2_with fail
        go_ret
        exact ⟨ret_same HN.out.symm, HB1.out⟩
      · rw [hsb] at HC
        replace HN := hide (HN.out.1 hsb)
        clear hsb
        go_wp2_with fail
        refine (HC.out _ ((Below.refl _ _).alloc (Nat.le_refl _) _)).mono ?_
        rintro e w1 ⟨rfl, hb1⟩
        have HB1 : Hid (Below w.heap.size w w1) := HBr.out.trans ((((Below.refl _ _).alloc (Nat.le_refl _) _).trans (hb1.mono (by simp))).mono HBr.out.size)
        clear hb1 v0 v1 HC
        go_wp2_with fail
        go_roundw
        case rel => exact ⟨k + 1, by omega, by go_num, HB1.out, HN.out⟩
        case measure => simp [intOf]; omega
    · have HD : Hid (vs.all (standsB ws nm) = true) := by
        have h2 := HR.out.2
        rw [List.take_of_length_le (by have := hvl.out; omega)] at h2
        exact h2
      have HB1 : Hid (Below w.heap.size w wr) := HR.out.1
      clear HR
      go_wp2_with fail
      go_ret
      exact ⟨ret_same HD.out.symm, HB1.out⟩
end Go.Proofs.Ytfaoeccnhbcjgab
