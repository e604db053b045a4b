/- What is proved here: plain facts and contracts that the claimed theorem stands on, several texts in one: heap.stands and heap.allStand: whether words stand for terms. No condition but sizes. term.Closed, and the document's Closed, of a term that lies in memory: both return whether no term in it is a variable or the wild one, and turn no memory that was there. Condition of the document's: at most 2097152 terms in it. Put of a heap: which error it tells, and what it lays. No condition but sizes, and that the term lies outside of the heap's own blocks. cmp.Compare of two ints, and of two strings, returns -1, 0 or 1 as they stand to each other, and turns nothing. No condition but that the ints are ints. term.Order of two terms that lie in memory returns what the plain function ord says of them, and turns no memory that was there; likewise orderArgs of two lists. No condition but that the terms lie in memory. match.bindings' fits, of right terms that lie in memory and four right terms that are owned: it returns whether the plain function fit finds something, leaves that in the owned row, and turns no other memory that was there. No condition but those. -/
import Derived.Test.YtpehdgbdinjbaabG10
import Derived.Test.YtpehdgbdinjbaabG01
import Derived.Deep.RegionHeld3
import Derived.Deep.DrawnRows
import Derived.Test.YtpehdgbdinjbaabG05
namespace Go.Proofs.Ytpehdgbdinjbaab
open Go.RowKit

def standsB (ws : List Wd) (nm : List ByteArray) (v : Wd) : Bool :=
  if v.1 = 1 then inB v.2 (-1099511627776) 1099511627776 else if v.1 = 3 then inB v.2 1 99 else if v.1 = 2 then hasB nm.length v.2 else if v.1 = 4 then beginsB ws v.2 else false

def leaf (k u : Int) : Tm 1 := ((k, u, .empty), (none, 0), [])
theorem leaf_chk (k u : Int) (hk : k = 1 ∨ k = 3) : chk 1 (leaf k u) = if good (hdOf 0 (leaf k u)) then 0 else 5 := by
  rcases hk with rfl | rfl <;> simp [chk, leaf, nodes, deeps, chkL, sz, deeper, hdOf] <;> rfl
theorem leaf_good (ws : List Wd) (nm : List ByteArray) (k u : Int) (hk : k = 1 ∨ k = 3) : good (hdOf 0 (leaf k u)) = standsB ws nm (k, u) := by
  rcases hk with rfl | rfl <;> simp [good, leaf, hdOf, standsB]

set_option maxHeartbeats 1000000 in
set_option maxRecDepth 100000 in
theorem stands_num (hp : Nat) (ws : List Wd) (nm : List ByteArray) (k u : Int) (w : World) (hk : k = 1 ∨ k = 3) (hu : I64 u) :
    Calls Try.prog 61 #[.pointer (some ⟨hp, 0, none⟩), .agg #[.int .i64 k, .int .i64 u]] w fun e w' => e = .returned (.bool (standsB ws nm (k, u))) ∧ Below w.heap.size w w' := by
  have HC : Hid (∀ w1, Calls Try.prog 51 #[.agg #[.int .i64 k, .int .i64 u, .string .empty, .slice none 0 0]] w1 fun e w' => e = .returned (.int .i64 (if standsB ws nm (k, u) then 0 else 5)) ∧ Below w1.heap.size w1 w') := by
    intro w1
    have h := tcheck_any 1 (leaf k u) w1.heap.size w1 ⟨⟨by rcases hk with rfl | rfl <;> simp [leaf, I64], hu, by simp [leaf, maxLen], Nat.le_refl _, Nat.zero_le _⟩, Or.inl rfl⟩ (Nat.le_refl _) (by simp [nodes, leaf])
    rw [leaf_chk k u hk, leaf_good ws nm k u hk] at h
    exact h
  generalize standsB ws nm (k, u) = sb at *
  cases sb
  all_goals
    simp only [if_true, Bool.false_eq_true, if_false] at HC
    rcases hk with rfl | rfl
    all_goals
      go_enter Try.func61, Try.ntmps61
      go_wp2_with fail
      refine (HC.out _).mono ?_
      rintro e w2 ⟨rfl, hb⟩
      have HB := hide hb
      clear hb
      go_wp2_with fail
      go_ret
      exact ⟨rfl, ((Below.refl _ _).alloc (Nat.le_refl _) _).trans (HB.out.mono (by simp))⟩

set_option maxHeartbeats 1000000 in
set_option maxRecDepth 100000 in
theorem stands_atom (base hp : Nat) (room : Int) (ws : List Wd) (nm : List ByteArray) (M : Nat → Prop) (u : Int) (w : World) (h : Hid (HpAt base hp room ws nm M w)) :
    Calls Try.prog 61 #[.pointer (some ⟨hp, 0, none⟩), .agg #[.int .i64 2, .int .i64 u]] w fun e w' => e = .returned (.bool (hasB nm.length u)) ∧ Below w.heap.size w w' := by
  have HC : Hid (∀ wA, Below w.heap.size w wA → Calls Try.prog 88 #[.pointer (some ⟨hp, 2, none⟩), .int .i64 u] wA fun e w' => e = .returned (.bool (hasB nm.length u)) ∧ w' = wA) := by
    intro wA hA
    obtain ⟨tv, lv, mv, h1, h2, h3, _⟩ := h.out.later hA
    obtain ⟨la, lc, rfl⟩ : ∃ la lc, lv = .slice la nm.length lc := by
      rcases h3.1.2 with ⟨e, e0⟩ | ⟨g, c, cur, e, _⟩
      · exact ⟨none, 0, by rw [e, e0]⟩
      · exact ⟨_, c, e⟩
    exact has_any hp room tv la nm.length lc mv u wA h1
  clear h
  generalize hasB nm.length u = bb at *
  go_enter Try.func61, Try.ntmps61
  go_wp2_with fail
  generalize hwA : w.alloc (Obj.cells #[Value.int IntKind.i64 2, Value.int IntKind.i64 u] 37) = wA
  have HA : Hid (Below w.heap.size w wA.drew) := by subst hwA; exact ((Below.refl _ _).alloc (Nat.le_refl _) _).drew
  have e1 : wA.cell? ⟨w.heap.size, 1, none⟩ = some (.int .i64 u) := by subst hwA; simp [go_sem]
  clear hwA
  go_region_held3 (fun w' => w'.cell? ⟨w.heap.size, 1, none⟩ = some (.int .i64 u)) (go_keep) ((go_at_call 88; refine (HC.out _ HA.out).mono ?_; rintro e w2 ⟨rfl, rfl⟩))
  go_wp2_with fail
  go_ret
  exact ⟨rfl, HA.out⟩

set_option maxHeartbeats 1000000 in
set_option maxRecDepth 100000 in
theorem stands_tup (base hp : Nat) (room : Int) (ws : List Wd) (nm : List ByteArray) (M : Nat → Prop) (u : Int) (w : World) (h : Hid (HpAt base hp room ws nm M w)) (hw : ws.length ≤ 100000) :
    Calls Try.prog 61 #[.pointer (some ⟨hp, 0, none⟩), .agg #[.int .i64 4, .int .i64 u]] w fun e w' => e = .returned (.bool (beginsB ws u)) ∧ Below w.heap.size w w' := by
  obtain ⟨ta, tc, hhp, c1, HC⟩ : ∃ ta tc, hp < w.heap.size ∧ w.cell? ⟨hp, 1, none⟩ = some (.slice ta ws.length tc) ∧ Hid (∀ wA, Below w.heap.size w wA → Calls Try.prog 89 #[.slice ta ws.length tc, .int .i64 u] wA fun e w' => e = .returned (.bool (beginsB ws u)) ∧ w' = wA) := by
    obtain ⟨tv, lv, mv, h1, h2, h3, _⟩ := h.out
    obtain ⟨ta, tc, rfl⟩ : ∃ ta tc, tv = .slice ta ws.length tc := by
      rcases h2.2 with ⟨e, e0⟩ | ⟨g, c, cur, e, _⟩
      · exact ⟨none, 0, by rw [e, e0]⟩
      · exact ⟨_, c, e⟩
    exact ⟨ta, tc, h1.lt, h1.cells.1.2.1, fun wA hA => begins_any base ta ws.length tc ws u wA rfl hw (own_below h2 hA)⟩
  clear h
  generalize beginsB ws u = bb at *
  generalize ws.length = L at *
  go_enter Try.func61, Try.ntmps61
  go_wp2_with fail
  generalize hwA : w.alloc (Obj.cells #[Value.int IntKind.i64 4, Value.int IntKind.i64 u] 37) = wA
  have HA : Hid (Below w.heap.size w wA.drew) := by subst hwA; exact ((Below.refl _ _).alloc (Nat.le_refl _) _).drew
  have e1 : wA.cell? ⟨w.heap.size, 1, none⟩ = some (.int .i64 u) := by subst hwA; simp [go_sem]
  replace c1 : wA.cell? ⟨hp, 1, none⟩ = some (.slice ta L tc) := (below_cells HA.out hp 1 hhp).trans c1
  clear hwA
  go_region_held3 (fun w' => w'.cell? ⟨w.heap.size, 1, none⟩ = some (.int .i64 u) ∧ w'.cell? ⟨hp, 1, none⟩ = some (.slice ta L tc)) (go_keep) ((go_at_call 89; refine (HC.out _ HA.out).mono ?_; rintro e w2 ⟨rfl, rfl⟩))
  go_wp2_with fail
  go_ret
  exact ⟨rfl, HA.out⟩

set_option maxHeartbeats 1000000 in
set_option maxRecDepth 100000 in
theorem stands_else (hp : Nat) (k u : Int) (w : World) (h1 : ¬ k = 1) (h2 : ¬ k = 2) (h3 : ¬ k = 3) (h4 : ¬ k = 4) :
    Calls Try.prog 61 #[.pointer (some ⟨hp, 0, none⟩), .agg #[.int .i64 k, .int .i64 u]] w fun e w' => e = .returned (.bool false) ∧ Below w.heap.size w w' := by
  have b1 : (k == 1) = false := by simpa using h1
  have b2 : (k == 2) = false := by simpa using h2
  have b3 : (k == 3) = false := by simpa using h3
  have b4 : (k == 4) = false := by simpa using h4
  go_enter Try.func61, Try.ntmps61
  go_wp2_with fail
  go_ret
  exact ⟨rfl, by go_grown⟩

theorem stands_any (base hp : Nat) (room : Int) (ws : List Wd) (nm : List ByteArray) (M : Nat → Prop) (v : Wd) (w : World) (h : HpAt base hp room ws nm M w) (hw : ws.length ≤ 100000) (hv : I64 v.2) :
    Calls Try.prog 61 #[.pointer (some ⟨hp, 0, none⟩), wdV v] w fun e w' => e = .returned (.bool (standsB ws nm v)) ∧ Below w.heap.size w w' := by
  obtain ⟨k, u⟩ := v
  by_cases h1 : k = 1
  · exact stands_num hp ws nm k u w (Or.inl h1) hv
  · by_cases h3 : k = 3
    · exact stands_num hp ws nm k u w (Or.inr h3) hv
    · by_cases h2 : k = 2
      · subst h2
        have e : standsB ws nm (2, u) = hasB nm.length u := by simp [standsB]
        rw [e]
        exact stands_atom base hp room ws nm M u w h
      · by_cases h4 : k = 4
        · subst h4
          have e : standsB ws nm (4, u) = beginsB ws u := by simp [standsB]
          rw [e]
          exact stands_tup base hp room ws nm M u w h hw
        · have e : standsB ws nm (k, u) = false := by simp [standsB, h1, h2, h3, h4]
          rw [e]
          exact stands_else hp k u w h1 h2 h3 h4

set_option maxHeartbeats 1000000 in
theorem allStand_any (base hp : Nat) (room : Int) (ws : List Wd) (nm : List ByteArray) (M : Nat → Prop) (vs : List Wd) (a : Option Addr) (len pc : Nat) (w : World) (h : Hid (HpAt base hp room ws nm M w)) (hw : ws.length ≤ 100000) (hvl : Hid (vs.length = len)) (hlen : len ≤ 100000) (hin : Hid (WordsIn w vs a)) (hi : Hid (∀ v ∈ vs, I64 v.2)) :
    Calls Try.prog 56 #[.pointer (some ⟨hp, 0, none⟩), .slice a len pc] w fun e w' => e = .returned (.bool (vs.all (standsB ws nm))) ∧ Below w.heap.size w w' := by
  go_enter Try.func56, Try.ntmps56
  go_wp2_with fail
  go_loopw [9] (fun i wr => ∃ k : Nat, k ≤ len ∧ i = .int .i64 k ∧ Hid (Below w.heap.size w wr ∧ (vs.take k).all (standsB ws nm) = true)) (fun i _ => len - (intOf i).toNat)
  case atStart => exact ⟨0, by omega, rfl, Below.refl _ _, by simp⟩
  case round =>
    obtain ⟨k, hk, rfl, HR⟩ := hrel
    by_cases hlt : k < len
    · obtain ⟨v, hv⟩ : ∃ v, vs[k]? = some v := ⟨vs[k]'(by rw [hvl.out]; exact hlt), List.getElem?_eq_getElem _⟩
      obtain ⟨b, o, rfl, hb, hvs⟩ : ∃ b o, a = some ⟨b, o, none⟩ ∧ b < w.heap.size ∧ ∀ (i : Nat) (v : Wd), vs[i]? = some v → w.cell? ⟨b, o + i * 2, none⟩ = some (.int .i64 v.1) ∧ w.cell? ⟨b, o + i * 2 + 1, none⟩ = some (.int .i64 v.2) := by
        rcases hin.out with e | e
        · rw [e] at hv; simp at hv
        · exact e
      obtain ⟨v0, v1⟩ := hvs k v hv
      replace v0 := (below_cells HR.out.1 b (o + k * 2) hb).trans v0
      replace v1 := (below_cells HR.out.1 b (o + k * 2 + 1) hb).trans v1
      have HC : Hid (∀ (w1 : World), Below wr.heap.size wr w1 → Calls Try.prog 61 #[.pointer (some ⟨hp, 0, none⟩), .agg #[.int .i64 v.1, .int .i64 v.2]] w1 fun e w' => e = .returned (.bool (standsB ws nm v)) ∧ Below w1.heap.size w1 w') :=
        fun w1 h1 => stands_any base hp room ws nm _ v w1 (h.out.later (HR.out.1.trans (h1.mono HR.out.1.size))) hw (hi.out v (List.mem_of_getElem? hv))
      have HN : Hid ((standsB ws nm v = true → (vs.take (k + 1)).all (standsB ws nm) = true) ∧ (standsB ws nm v = false → vs.all (standsB ws nm) = false)) := by
        refine ⟨fun e => ?_, fun e => ?_⟩
        · rw [List.take_add_one, hv, List.all_append, HR.out.2]
          simp [e]
        · cases ha : vs.all (standsB ws nm)
          · rfl
          · rw [List.all_eq_true] at ha
            rw [ha v (List.mem_of_getElem? hv)] at e
            exact e
      have HBr : Hid (Below w.heap.size w wr) := HR.out.1
      clear hv hvs hin h hi HR
      have hk1 : (0 : Int) ≤ (k : Int) := by omega
      have hk2 : (k : Int) < (len : Int) := by omega
      have hws := HBr.out.size
      have hpw : b < wr.heap.size := by omega
      clear hws
      cases hsb : standsB ws nm v
      · rw [hsb] at HC
        replace HN := hide (HN.out.2 hsb)
        clear hsb
        go_wp2_with fail
        refine (HC.out _ ((Below.refl _ _).alloc (Nat.le_refl _) _)).mono ?_
        rintro e w1 ⟨rfl, hb1⟩
        have HB1 : Hid (Below w.heap.size w w1) := HBr.out.trans ((((Below.refl _ _).alloc (Nat.le_refl _) _).trans (hb1.mono (by simp))).mono HBr.out.size)
        clear hb1 v0 v1 HC
        go_wp2_with fail
        go_ret
        exact ⟨ret_same HN.out.symm, HB1.out⟩
      · rw [hsb] at HC
        replace HN := hide (HN.out.1 hsb)
        clear hsb
        go_wp2_with fail
        refine (HC.out _ ((Below.refl _ _).alloc (Nat.le_refl _) _)).mono ?_
        rintro e w1 ⟨rfl, hb1⟩
        have HB1 : Hid (Below w.heap.size w w1) := HBr.out.trans ((((Below.refl _ _).alloc (Nat.le_refl _) _).trans (hb1.mono (by simp))).mono HBr.out.size)
        clear hb1 v0 v1 HC
        go_wp2_with fail
        go_roundw
        case rel => exact ⟨k + 1, by omega, by go_num, HB1.out, HN.out⟩
        case measure => simp [intOf]; omega
    · have HD : Hid (vs.all (standsB ws nm) = true) := by
        have h2 := HR.out.2
        rw [List.take_of_length_le (by have := hvl.out; omega)] at h2
        exact h2
      have HB1 : Hid (Below w.heap.size w wr) := HR.out.1
      clear HR
      go_wp2_with fail
      go_ret
      exact ⟨ret_same HD.out.symm, HB1.out⟩
end Go.Proofs.Ytpehdgbdinjbaab
namespace Go.Proofs.Ytpehdgbdinjbaab
open Go.RowKit

/-- Neither a variable nor the wild one, by itself. -/
def shut (x : Nd) : Bool := !(x.1.1 == 5) && !(x.1.1 == 6)
def closedB (n : Nat) (x : Tm n) : Bool := (nodes n x).all shut
def closedT : (n : Nat) → Tm n → Bool
  | 0, _ => true
  | n + 1, x => !(x.1.1 == 5) && !(x.1.1 == 6) && x.2.2.all fun y => closedT n y
theorem closed_eq : (n : Nat) → (x : Tm n) → closedT n x = closedB n x
  | 0, _ => by simp [closedT, closedB, nodes, shut]
  | n + 1, x => by
    have key : ∀ l : List (Tm n), (l.all fun y => closedT n y) = (l.flatMap fun y => nodes n y).all shut := by
      intro l
      induction l with
      | nil => rfl
      | cons y l ih =>
        have := closed_eq n y
        unfold closedB at this
        simp only [List.all_cons, List.flatMap_cons, List.all_append, ih, this]
    show (!(x.1.1 == 5) && !(x.1.1 == 6) && x.2.2.all fun y => closedT n y) = (shut (x.1, (x.2.1.1, x.2.2.length, x.2.1.2)) && (x.2.2.flatMap fun y => nodes n y).all shut)
    rw [key]
    rfl

def FClo (n : Nat) : Prop := ∀ (x : Tm n) (B : Nat) (w : World), In B w n x → B ≤ w.heap.size →
  Calls Try.prog 52 #[val n x] w fun e w' => e = .returned (.bool (closedT n x)) ∧ Below w.heap.size w w'

set_option maxHeartbeats 400000 in
theorem closed_walk (n : Nat) (ih : FClo n) (k0 u0 : Int) (s : ByteArray) (a : Option Addr) (pc len : Nat) (p : List (Tm n)) (hpl : Hid (p.length = len)) (B : Nat) (w : World)
    (hp : Hid (p = [] ∨ ∃ b o, a = some ⟨b, o, none⟩ ∧ b < B ∧ ∀ (i : Nat) (y : Tm n), p[i]? = some y → Held w b (o + i * 4) n y ∧ In B w n y))
    (hlen : len ≤ 9223372036854775807) (hB : B ≤ w.heap.size) :
    Calls Try.prog 52 #[.agg #[.int .i64 k0, .int .i64 u0, .string s, .slice a len pc]] w fun e w' => e = .returned (.bool (!(k0 == 5) && !(k0 == 6) && p.all fun y => closedT n y)) ∧ Below w.heap.size w w' := by
  cases h5 : k0 == 5
  case true =>
    go_enter Try.func52, Try.ntmps52
    go_wp2_with fail
    go_ret
    exact ⟨ret_bool (by simp), (Below.refl _ _).alloc (Nat.le_refl _) _⟩
  cases h6 : k0 == 6
  case true =>
    go_enter Try.func52, Try.ntmps52
    go_wp2_with fail
    go_ret
    exact ⟨ret_bool (by simp), (Below.refl _ _).alloc (Nat.le_refl _) _⟩
  have e0 : (!false && !false && p.all fun y => closedT n y) = p.all fun y => closedT n y := by simp
  rw [e0]
  clear e0
  go_enter Try.func52, Try.ntmps52
  go_wp2_with fail
  go_loopw [16] (fun i wr => ∃ k : Nat, k ≤ len ∧ i = .int .i64 k ∧ Below w.heap.size w wr ∧ Hid (((p.drop k).all fun y => closedT n y) = p.all fun y => closedT n y)) (fun i _ => len - (intOf i).toNat)
  case atStart => exact ⟨0, by omega, rfl, (Below.refl _ _).alloc (Nat.le_refl _) _, rfl⟩
  case round =>
    obtain ⟨k, hk, rfl, hb, hd⟩ := hrel
    by_cases hlt : k < len
    · obtain ⟨x, hx⟩ : ∃ x, p[k]? = some x := ⟨p[k]'(by rw [hpl.out]; exact hlt), List.getElem?_eq_getElem _⟩
      have HS : Hid (((p.drop k).all fun y => closedT n y) = (closedT n x && (p.drop (k + 1)).all fun y => closedT n y)) := by
        obtain ⟨h1, e1⟩ := List.getElem?_eq_some_iff.1 hx
        rw [List.drop_eq_getElem_cons h1, e1]
        rfl
      rcases hp.out with hp | ⟨pb, po, rfl, hpb, hp⟩
      · subst hp; simp at hx
      obtain ⟨hx1, hx2⟩ := hp k x hx
      replace hx1 := hx1.below (hb.mono hB) hpb
      replace hx2 := hx2.below (hb.mono hB)
      clear hp hx
      cases n with
      | zero => exact hx1.elim
      | succ n =>
      obtain ⟨x0, x1, x2, x3⟩ := hx1
      have hB' : B ≤ wr.heap.size := Nat.le_trans hB hb.size
      have HC : Hid (∀ w1, Below wr.heap.size wr w1 → Calls Try.prog 52 #[.agg #[.int .i64 x.1.1, .int .i64 x.1.2.1, .string x.1.2.2, .slice x.2.1.1 x.2.2.length x.2.1.2]] w1 fun e w' => e = .returned (.bool (closedT (n + 1) x)) ∧ Below w1.heap.size w1 w') :=
        fun w1 h1 => ih x B w1 (hx2.below (h1.mono hB')) (Nat.le_trans hB' h1.size)
      clear ih hx2
      generalize x.2.2.length = xl at *
      generalize closedT (n + 1) x = r at *
      have hk1 : (0 : Int) ≤ (k : Int) := by omega
      have hk2 : (k : Int) < (len : Int) := by omega
      go_wp2_with fail
      refine (HC.out _ ((Below.refl _ _).alloc (Nat.le_refl _) _)).mono ?_
      rintro e w1 ⟨rfl, hb1⟩
      have hb2 : Below w.heap.size w w1 := (hb.trans (((Below.refl _ _).alloc (Nat.le_refl _) _).mono hb.size)).trans (hb1.mono (by have := hb.size; simp; omega))
      clear hb1
      cases r with
      | true =>
        go_wp2_with fail
        go_roundw
        case rel => exact ⟨k + 1, by omega, by go_num, hb2, by rw [← hd.out, HS.out]; rfl⟩
        case measure => simp [intOf]; omega
      | false =>
        go_wp2_with fail
        go_ret
        exact ⟨ret_bool (by rw [← hd.out, HS.out]; rfl), hb2⟩
    · go_wp2_with fail
      go_ret
      refine ⟨ret_bool ?_, hb⟩
      rw [← hd.out, List.drop_eq_nil_of_le (by rw [hpl.out]; omega)]
      rfl

theorem closed_any (n : Nat) : FClo n := by
  induction n with
  | zero => intro x B w hx; exact hx.elim
  | succ n ih =>
    intro x B w hx hB
    obtain ⟨⟨k, u, s⟩, ⟨a, pc⟩, p⟩ := x
    obtain ⟨⟨_, _, _, hpl, hpc⟩, hp⟩ := hx
    simp only at hpl hpc hp
    unfold maxLen at hpc
    exact closed_walk n ih k u s a pc p.length p rfl B w hp (by omega) hB

set_option maxHeartbeats 1000000 in
theorem rclosed_walk (w : World) (c0 c1 : Int) (c2 : ByteArray) (xa : Option Addr) (xl xc : Nat) (N : List Nd) (D : List Int) (L : Nat) (HL : Hid (N.length = L)) (hL : L ≤ 2097152)
    (HALL : Hid (∀ w1, Below w.heap.size w w1 → Calls Try.prog 48 #[.agg #[.int .i64 c0, .int .i64 c1, .string c2, .slice xa xl xc], .int .i64 0] w1 fun e w' =>
      ∃ g c h c', e = .returned (.tuple #[.slice (some ⟨g, 0, none⟩) L c, .slice (some ⟨h, 0, none⟩) L c']) ∧
        Hid (g ≠ h ∧ Below w1.heap.size w1 w' ∧ w'.ownsRow w1.heap.size 24 4 (.slice (some ⟨g, 0, none⟩) L c) L (ndCells N) ∧ w'.ownsRow w1.heap.size 3 1 (.slice (some ⟨h, 0, none⟩) L c') L (ints D)))) :
    Calls Try.prog 31 #[.agg #[.int .i64 c0, .int .i64 c1, .string c2, .slice xa xl xc]] w fun e w' => e = .returned (.bool (N.all shut)) ∧ Below w.heap.size w w' := by
  go_enter Try.func31, Try.ntmps31
  go_wp2_with fail
  refine (HALL.out _ ((Below.refl _ _).alloc (Nat.le_refl _) _)).mono ?_
  rintro e w1 ⟨g, c, h, c', rfl, HO⟩
  have HB1 : Hid (Below w.heap.size w w1) := ((Below.refl _ _).alloc (Nat.le_refl _) _).trans (HO.out.2.1.mono (by simp))
  have HOW := hide HO.out.2.2.1
  clear HO
  go_wp2_with fail
  go_loop [5] (fun i => ∃ k : Nat, k ≤ L ∧ i = .int .i64 k ∧ Hid ((N.drop k).all shut = N.all shut)) (fun i => L - (intOf i).toNat)
  case atStart => exact ⟨0, by omega, rfl, rfl⟩
  case round =>
    obtain ⟨k, hk, rfl, HD⟩ := hrel
    by_cases hlt : k < L
    · obtain ⟨x, hx⟩ : ∃ x, N[k]? = some x := ⟨N[k]'(by rw [HL.out]; exact hlt), List.getElem?_eq_getElem _⟩
      have HS : Hid ((N.drop k).all shut = (shut x && (N.drop (k + 1)).all shut)) := by
        obtain ⟨h1, e1⟩ := List.getElem?_eq_some_iff.1 hx
        rw [List.drop_eq_getElem_cons h1, e1]
        rfl
      obtain ⟨x0, _, _, _⟩ := own_nd HOW.out k x hx
      obtain ⟨⟨kk, uu, ss⟩, ⟨aa, ll, cc⟩⟩ := x
      simp only at x0
      clear hx
      have hk1 : (0 : Int) ≤ (k : Int) := by omega
      have hk2 : (k : Int) < (L : Int) := by omega
      cases h5 : kk == 5
      case true =>
        have HX : Hid (shut ((kk, uu, ss), (aa, ll, cc)) = false) := by simp [Hid, shut, h5]
        go_wp2_with fail
        go_ret
        exact ⟨ret_bool (by rw [← HD.out, HS.out, HX.out]; rfl), HB1.out⟩
      cases h6 : kk == 6
      case true =>
        have HX : Hid (shut ((kk, uu, ss), (aa, ll, cc)) = false) := by simp [Hid, shut, h6]
        go_wp2_with fail
        go_ret
        exact ⟨ret_bool (by rw [← HD.out, HS.out, HX.out]; rfl), HB1.out⟩
      have HX : Hid (shut ((kk, uu, ss), (aa, ll, cc)) = true) := by simp [Hid, shut, h5, h6]
      go_wp2_with fail
      go_round
      case rel => exact ⟨k + 1, by omega, by go_num, by simp only [Hid]; rw [← HD.out, HS.out, HX.out]; rfl⟩
      case measure => simp [intOf]; omega
    · go_wp2_with fail
      go_ret
      refine ⟨ret_bool ?_, HB1.out⟩
      rw [← HD.out, List.drop_eq_nil_of_le (by rw [HL.out]; omega)]
      rfl

theorem rclosed_any (n : Nat) (x : Tm n) (B : Nat) (w : World) (hx : In B w n x) (hB : B ≤ w.heap.size) (hN : (nodes n x).length ≤ 2097152) :
    Calls Try.prog 31 #[val n x] w fun e w' => e = .returned (.bool (closedB n x)) ∧ Below w.heap.size w w' := by
  cases n with
  | zero => exact hx.elim
  | succ n =>
  exact rclosed_walk w x.1.1 x.1.2.1 x.1.2.2 x.2.1.1 x.2.2.length x.2.1.2 (nodes (n + 1) x) (deeps (n + 1) x 0) (nodes (n + 1) x).length rfl hN
    (fun w1 hw => all_any (n + 1) x 0 B w1 (hx.below (hw.mono hB)) (Nat.le_trans hB hw.size) (by omega) (by omega))
end Go.Proofs.Ytpehdgbdinjbaab
namespace Go.Proofs.Ytpehdgbdinjbaab
open Go.RowKit

/-- The boxes of a call of Put: the term, and the word that is told. -/
def PutBox (q : Nat) (k u : Int) (s : ByteArray) (a : Option Addr) (l c : Nat) (w : World) : Prop :=
  w.heap[q]? = some (.cells #[.int .i64 k, .int .i64 u, .string s, .slice a l c] 24) ∧ w.heap[q + 1]? = some (.cells #[.int .i64 0, .int .i64 0] 37)
theorem put_box (w : World) (k u : Int) (s : ByteArray) (a : Option Addr) (l c : Nat) : PutBox w.heap.size k u s a l c ((w.alloc (Obj.cells #[.int .i64 k, .int .i64 u, .string s, .slice a l c] 24)).alloc (Obj.cells #[.int .i64 0, .int .i64 0] 37)) := by
  refine ⟨((World.grownBy_alloc (w.alloc (Obj.cells #[.int .i64 k, .int .i64 u, .string s, .slice a l c] 24)) (Obj.cells #[.int .i64 0, .int .i64 0] 37) none).block _ (by simp) (by simp)).trans (heap_alloc_new w _), ?_⟩
  have := heap_alloc_new (w.alloc (Obj.cells #[.int .i64 k, .int .i64 u, .string s, .slice a l c] 24)) (Obj.cells #[.int .i64 0, .int .i64 0] 37)
  have es : ∀ o, (w.alloc o).heap.size = w.heap.size + 1 := fun o => by simp
  rw [es] at this
  exact this
theorem PutBox.facts {q : Nat} {k u : Int} {s : ByteArray} {a : Option Addr} {l c : Nat} {w : World} (h : PutBox q k u s a l c w) :
    (w.cell? ⟨q, 0, none⟩ = some (.int .i64 k) ∧ w.cell? ⟨q, 1, none⟩ = some (.int .i64 u) ∧ w.cell? ⟨q, 2, none⟩ = some (.string s) ∧ w.cell? ⟨q, 3, none⟩ = some (.slice a l c)) ∧ (w.cell? ⟨q + 1, 0, none⟩ = some (.int .i64 0) ∧ w.cell? ⟨q + 1, 1, none⟩ = some (.int .i64 0)) ∧ w.frozen? ⟨q + 1, 0, none⟩ = false ∧ w.frozen? ⟨q + 1, 1, none⟩ = false := by
  obtain ⟨h1, h2⟩ := h
  refine ⟨⟨?_, ?_, ?_, ?_⟩, ⟨?_, ?_⟩, ?_, ?_⟩
  all_goals simp [World.cell?, World.frozen?, h1, h2]
theorem put_next {k u : Int} {s : ByteArray} {a : Option Addr} {l c : Nat} {w w1 w2 : World} (h : Below w.heap.size w w1 ∧ w.heap.size + 2 ≤ w1.heap.size ∧ PutBox w.heap.size k u s a l c w1) (hb : Below w1.heap.size w1 w2) : Below w.heap.size w w2 ∧ w.heap.size + 2 ≤ w2.heap.size ∧ PutBox w.heap.size k u s a l c w2 := by
  obtain ⟨h1, h2, h3⟩ := h
  have := hb.size
  exact ⟨h1.trans (hb.mono h1.size), by omega, (hb.block _ (by omega)).trans h3.1, (hb.block _ (by omega)).trans h3.2⟩
theorem put_below {k u : Int} {s : ByteArray} {a : Option Addr} {l c : Nat} {w w1 : World} (h : Below w.heap.size w w1 ∧ w.heap.size + 2 ≤ w1.heap.size ∧ PutBox w.heap.size k u s a l c w1) (v0 v1 : Value) : Below w.heap.size w ((w1.setCell ⟨w.heap.size + 1, 0, none⟩ v0).setCell ⟨w.heap.size + 1, 1, none⟩ v1) := by
  obtain ⟨h1, h2, h3⟩ := h
  have k1 := keep_set w1 (w.heap.size + 1) 0 v0
  have k2 := keep_set (w1.setCell ⟨w.heap.size + 1, 0, none⟩ v0) (w.heap.size + 1) 1 v1
  have k3 := (keep_below h1 (fun b => b = w.heap.size + 1)).trans (k1.trans k2 (fun b _ h => h)) (fun b _ h => h)
  exact ⟨k3.os, k3.tape, k3.output, k3.size, fun b hb => k3.block b hb (by omega)⟩

set_option maxHeartbeats 1000000 in
set_option maxRecDepth 100000 in
theorem put_e1 (hp : Nat) (k u : Int) (s : ByteArray) (a : Option Addr) (l c : Nat) (w : World) (ce : Int) (hce : (ce != 0) = true)
    (HC : Hid (∀ w1, Below w.heap.size w w1 → Calls Try.prog 51 #[.agg #[.int .i64 k, .int .i64 u, .string s, .slice a l c]] w1 fun e w' => e = .returned (.int .i64 ce) ∧ Below w1.heap.size w1 w')) :
    Calls Try.prog 16 #[.pointer (some ⟨hp, 0, none⟩), .agg #[.int .i64 k, .int .i64 u, .string s, .slice a l c]] w fun e w' => e = .returned (.tuple #[.agg #[.int .i64 0, .int .i64 0], .int .i64 ce]) ∧ Below w.heap.size w w' := by
  go_enter Try.func16, Try.ntmps16
  go_wp2_with fail
  generalize hw0 : (w.alloc (Obj.cells #[.int .i64 k, .int .i64 u, .string s, .slice a l c] 24)).alloc (Obj.cells #[.int .i64 0, .int .i64 0] 37) = w0
  have H0 : Hid (Below w.heap.size w w0 ∧ w.heap.size + 2 ≤ w0.heap.size ∧ PutBox w.heap.size k u s a l c w0) := by
    subst hw0
    exact ⟨((Below.refl _ _).alloc (Nat.le_refl _) _).alloc (by simp) _, by simp, put_box _ _ _ _ _ _ _⟩
  clear hw0
  refine (HC.out _ H0.out.1).mono ?_
  rintro e w1 ⟨rfl, hb⟩
  have H1 := hide (put_next H0.out hb)
  obtain ⟨⟨t0, t1, t2, t3⟩, ⟨r0, r1⟩, f0, f1⟩ := H1.out.2.2.facts
  clear hb H0
  go_wp2_with fail
  exact bodyPost_ret (v := .tuple #[.agg #[.int .i64 0, .int .i64 0], .int .i64 ce]) (by simp [results, Try.results16, go_sem, r0, r1]) rfl ⟨rfl, put_below H1.out _ _⟩

set_option maxHeartbeats 1000000 in
set_option maxRecDepth 100000 in
theorem put_e2 (hp : Nat) (k u : Int) (s : ByteArray) (a : Option Addr) (l c : Nat) (w : World)
    (HC : Hid (∀ w1, Below w.heap.size w w1 → Calls Try.prog 51 #[.agg #[.int .i64 k, .int .i64 u, .string s, .slice a l c]] w1 fun e w' => e = .returned (.int .i64 0) ∧ Below w1.heap.size w1 w'))
    (HL : Hid (∀ w1, Below w.heap.size w w1 → Calls Try.prog 52 #[.agg #[.int .i64 k, .int .i64 u, .string s, .slice a l c]] w1 fun e w' => e = .returned (.bool false) ∧ Below w1.heap.size w1 w')) :
    Calls Try.prog 16 #[.pointer (some ⟨hp, 0, none⟩), .agg #[.int .i64 k, .int .i64 u, .string s, .slice a l c]] w fun e w' => e = .returned (.tuple #[.agg #[.int .i64 0, .int .i64 0], .int .i64 5]) ∧ Below w.heap.size w w' := by
  go_enter Try.func16, Try.ntmps16
  go_wp2_with fail
  generalize hw0 : (w.alloc (Obj.cells #[.int .i64 k, .int .i64 u, .string s, .slice a l c] 24)).alloc (Obj.cells #[.int .i64 0, .int .i64 0] 37) = w0
  have H0 : Hid (Below w.heap.size w w0 ∧ w.heap.size + 2 ≤ w0.heap.size ∧ PutBox w.heap.size k u s a l c w0) := by
    subst hw0
    exact ⟨((Below.refl _ _).alloc (Nat.le_refl _) _).alloc (by simp) _, by simp, put_box _ _ _ _ _ _ _⟩
  clear hw0
  refine (HC.out _ H0.out.1).mono ?_
  rintro e w1 ⟨rfl, hb⟩
  have H1 := hide (put_next H0.out hb)
  obtain ⟨⟨t0, t1, t2, t3⟩, ⟨r0, r1⟩, f0, f1⟩ := H1.out.2.2.facts
  clear hb H0
  go_wp2_with fail
  clear t0 t1 t2 t3 r0 r1 f0 f1
  refine (HL.out _ H1.out.1).mono ?_
  rintro e w2 ⟨rfl, hb⟩
  have H2 := hide (put_next H1.out hb)
  obtain ⟨⟨t0, t1, t2, t3⟩, ⟨r0, r1⟩, f0, f1⟩ := H2.out.2.2.facts
  clear hb H1
  go_wp2_with fail
  exact bodyPost_ret (v := .tuple #[.agg #[.int .i64 0, .int .i64 0], .int .i64 5]) (by simp [results, Try.results16, go_sem, r0, r1]) rfl ⟨rfl, put_below H2.out _ _⟩

set_option maxHeartbeats 1000000 in
set_option maxRecDepth 100000 in
theorem put_e3 (hp : Nat) (k u : Int) (s : ByteArray) (a : Option Addr) (l c : Nat) (w : World) (z : Int)
    (HC : Hid (∀ w1, Below w.heap.size w w1 → Calls Try.prog 51 #[.agg #[.int .i64 k, .int .i64 u, .string s, .slice a l c]] w1 fun e w' => e = .returned (.int .i64 0) ∧ Below w1.heap.size w1 w'))
    (HL : Hid (∀ w1, Below w.heap.size w w1 → Calls Try.prog 52 #[.agg #[.int .i64 k, .int .i64 u, .string s, .slice a l c]] w1 fun e w' => e = .returned (.bool true) ∧ Below w1.heap.size w1 w'))
    (HS : Hid (∀ w1, Below w.heap.size w w1 → Calls Try.prog 54 #[.agg #[.int .i64 k, .int .i64 u, .string s, .slice a l c]] w1 fun e w' => e = .returned (.int .i64 z) ∧ Below w1.heap.size w1 w'))
    (HF : Hid (∀ w1, Below w.heap.size w w1 → Calls Try.prog 53 #[.pointer (some ⟨hp, 0, none⟩), .int .i64 z] w1 fun e w' => e = .returned (.bool false) ∧ Below w1.heap.size w1 w')) :
    Calls Try.prog 16 #[.pointer (some ⟨hp, 0, none⟩), .agg #[.int .i64 k, .int .i64 u, .string s, .slice a l c]] w fun e w' => e = .returned (.tuple #[.agg #[.int .i64 0, .int .i64 0], .int .i64 6]) ∧ Below w.heap.size w w' := by
  go_enter Try.func16, Try.ntmps16
  go_wp2_with fail
  generalize hw0 : (w.alloc (Obj.cells #[.int .i64 k, .int .i64 u, .string s, .slice a l c] 24)).alloc (Obj.cells #[.int .i64 0, .int .i64 0] 37) = w0
  have H0 : Hid (Below w.heap.size w w0 ∧ w.heap.size + 2 ≤ w0.heap.size ∧ PutBox w.heap.size k u s a l c w0) := by
    subst hw0
    exact ⟨((Below.refl _ _).alloc (Nat.le_refl _) _).alloc (by simp) _, by simp, put_box _ _ _ _ _ _ _⟩
  clear hw0
  refine (HC.out _ H0.out.1).mono ?_
  rintro e w1 ⟨rfl, hb⟩
  have H1 := hide (put_next H0.out hb)
  obtain ⟨⟨t0, t1, t2, t3⟩, ⟨r0, r1⟩, f0, f1⟩ := H1.out.2.2.facts
  clear hb H0
  go_wp2_with fail
  clear t0 t1 t2 t3 r0 r1 f0 f1
  refine (HL.out _ H1.out.1).mono ?_
  rintro e w2 ⟨rfl, hb⟩
  have H2 := hide (put_next H1.out hb)
  obtain ⟨⟨t0, t1, t2, t3⟩, ⟨r0, r1⟩, f0, f1⟩ := H2.out.2.2.facts
  clear hb H1
  go_wp2_with fail
  clear t0 t1 t2 t3 r0 r1 f0 f1
  refine (HS.out _ H2.out.1).mono ?_
  rintro e w3 ⟨rfl, hb⟩
  have H3 := hide (put_next H2.out hb)
  obtain ⟨⟨t0, t1, t2, t3⟩, ⟨r0, r1⟩, f0, f1⟩ := H3.out.2.2.facts
  clear hb H2
  go_wp2_with fail
  clear t0 t1 t2 t3 r0 r1 f0 f1
  refine (HF.out _ H3.out.1).mono ?_
  rintro e w4 ⟨rfl, hb⟩
  have H4 := hide (put_next H3.out hb)
  obtain ⟨⟨t0, t1, t2, t3⟩, ⟨r0, r1⟩, f0, f1⟩ := H4.out.2.2.facts
  clear hb H3
  go_wp2_with fail
  exact bodyPost_ret (v := .tuple #[.agg #[.int .i64 0, .int .i64 0], .int .i64 6]) (by simp [results, Try.results16, go_sem, r0, r1]) rfl ⟨rfl, put_below H4.out _ _⟩

set_option maxHeartbeats 1000000 in
set_option maxRecDepth 100000 in
theorem put_ok (hp : Nat) (k u : Int) (s : ByteArray) (a : Option Addr) (l c : Nat) (w : World) (z : Int) (V : Wd) (base : Nat) (room : Int) (ws : List Wd) (nm : List ByteArray) (M : Nat → Prop)
    (HC : Hid (∀ w1, Below w.heap.size w w1 → Calls Try.prog 51 #[.agg #[.int .i64 k, .int .i64 u, .string s, .slice a l c]] w1 fun e w' => e = .returned (.int .i64 0) ∧ Below w1.heap.size w1 w'))
    (HL : Hid (∀ w1, Below w.heap.size w w1 → Calls Try.prog 52 #[.agg #[.int .i64 k, .int .i64 u, .string s, .slice a l c]] w1 fun e w' => e = .returned (.bool true) ∧ Below w1.heap.size w1 w'))
    (HS : Hid (∀ w1, Below w.heap.size w w1 → Calls Try.prog 54 #[.agg #[.int .i64 k, .int .i64 u, .string s, .slice a l c]] w1 fun e w' => e = .returned (.int .i64 z) ∧ Below w1.heap.size w1 w'))
    (HF : Hid (∀ w1, Below w.heap.size w w1 → Calls Try.prog 53 #[.pointer (some ⟨hp, 0, none⟩), .int .i64 z] w1 fun e w' => e = .returned (.bool true) ∧ Below w1.heap.size w1 w'))
    (HY : Hid (∀ w1, Below w.heap.size w w1 → Calls Try.prog 55 #[.pointer (some ⟨hp, 0, none⟩), .agg #[.int .i64 k, .int .i64 u, .string s, .slice a l c]] w1 fun e w' => e = .returned (.agg #[.int .i64 V.1, .int .i64 V.2]) ∧ Hid (Laid base hp room ws nm (fun b => M b ∧ b < w.heap.size) w1 w'))) :
    Calls Try.prog 16 #[.pointer (some ⟨hp, 0, none⟩), .agg #[.int .i64 k, .int .i64 u, .string s, .slice a l c]] w fun e w' => e = .returned (.tuple #[.agg #[.int .i64 V.1, .int .i64 V.2], .int .i64 0]) ∧ Hid (Laid base hp room ws nm M w w') := by
  go_enter Try.func16, Try.ntmps16
  go_wp2_with fail
  generalize hw0 : (w.alloc (Obj.cells #[.int .i64 k, .int .i64 u, .string s, .slice a l c] 24)).alloc (Obj.cells #[.int .i64 0, .int .i64 0] 37) = w0
  have H0 : Hid (Below w.heap.size w w0 ∧ w.heap.size + 2 ≤ w0.heap.size ∧ PutBox w.heap.size k u s a l c w0) := by
    subst hw0
    exact ⟨((Below.refl _ _).alloc (Nat.le_refl _) _).alloc (by simp) _, by simp, put_box _ _ _ _ _ _ _⟩
  clear hw0
  refine (HC.out _ H0.out.1).mono ?_
  rintro e w1 ⟨rfl, hb⟩
  have H1 := hide (put_next H0.out hb)
  obtain ⟨⟨t0, t1, t2, t3⟩, ⟨r0, r1⟩, f0, f1⟩ := H1.out.2.2.facts
  clear hb H0
  go_wp2_with fail
  clear t0 t1 t2 t3 r0 r1 f0 f1
  refine (HL.out _ H1.out.1).mono ?_
  rintro e w2 ⟨rfl, hb⟩
  have H2 := hide (put_next H1.out hb)
  obtain ⟨⟨t0, t1, t2, t3⟩, ⟨r0, r1⟩, f0, f1⟩ := H2.out.2.2.facts
  clear hb H1
  go_wp2_with fail
  clear t0 t1 t2 t3 r0 r1 f0 f1
  refine (HS.out _ H2.out.1).mono ?_
  rintro e w3 ⟨rfl, hb⟩
  have H3 := hide (put_next H2.out hb)
  obtain ⟨⟨t0, t1, t2, t3⟩, ⟨r0, r1⟩, f0, f1⟩ := H3.out.2.2.facts
  clear hb H2
  go_wp2_with fail
  clear t0 t1 t2 t3 r0 r1 f0 f1
  refine (HF.out _ H3.out.1).mono ?_
  rintro e w4 ⟨rfl, hb⟩
  have H4 := hide (put_next H3.out hb)
  obtain ⟨⟨t0, t1, t2, t3⟩, ⟨r0, r1⟩, f0, f1⟩ := H4.out.2.2.facts
  clear hb H3
  go_wp2_with fail
  refine (HY.out _ H4.out.1).mono ?_
  rintro e w5 ⟨rfl, HLD⟩
  have hcc := laid_cells HLD.out
  have d0 := (hcc (w.heap.size + 1) (by omega) (by have := H4.out.2.1; omega) 0).1.trans r0
  have d1 := (hcc (w.heap.size + 1) (by omega) (by have := H4.out.2.1; omega) 1).1.trans r1
  have g0 := (hcc (w.heap.size + 1) (by omega) (by have := H4.out.2.1; omega) 0).2.trans f0
  have g1 := (hcc (w.heap.size + 1) (by omega) (by have := H4.out.2.1; omega) 1).2.trans f1
  have HE := hide (laid_box HLD.out H4.out.1 H4.out.2.1 (.int .i64 V.1) (.int .i64 V.2))
  clear hcc t0 t1 t2 t3 r0 r1 f0 f1 HLD
  go_wp2_with fail
  exact bodyPost_ret (v := .tuple #[.agg #[.int .i64 V.1, .int .i64 V.2], .int .i64 0]) (by simp [results, Try.results16, go_sem, d0, d1]) rfl ⟨rfl, HE.out⟩
end Go.Proofs.Ytpehdgbdinjbaab
namespace Go.Proofs.Ytpehdgbdinjbaab
open Go.RowKit

set_option maxHeartbeats 400000 in
theorem cmpI_any (x y : Int) (w : World) :
    Calls Try.prog 45 #[.int .i64 x, .int .i64 y] w fun e w' => e = .returned (.int .i64 (cmpI x y)) ∧ w' = w := by
  go_enter Try.func45, Try.ntmps45
  go_wp2
  all_goals go_ret
  all_goals refine ⟨ret_int ?_, rfl⟩
  all_goals unfold cmpI
  all_goals (repeat' split) <;> omega

set_option maxHeartbeats 400000 in
theorem cmpS_any (x y : ByteArray) (w : World) :
    Calls Try.prog 46 #[.string x, .string y] w fun e w' => e = .returned (.int .i64 (cmpS x y)) ∧ w' = w := by
  go_enter Try.func46, Try.ntmps46
  go_wp2
  all_goals go_ret
  all_goals refine ⟨ret_int ?_, rfl⟩
  all_goals unfold cmpS
  all_goals simp [*]

end Go.Proofs.Ytpehdgbdinjbaab
namespace Go.Proofs.Ytpehdgbdinjbaab
open Go.RowKit
attribute [local go_sem ↓] Go.wp_at_zero Go.wp_at_succ

/-- The value of a tree, its parts named. -/
def agg (k u : Int) (s : ByteArray) (a : Option Addr) (l c : Nat) : Value := .agg #[.int .i64 k, .int .i64 u, .string s, .slice a l c]

def F5 (n : Nat) : Prop := ∀ (x : Tm n) (m : Nat) (y : Tm m) (B : Nat) (w : World), In B w n x → In B w m y → B ≤ w.heap.size →
  Calls Try.prog 9 #[val n x, val m y] w fun e w' => e = .returned (.int .i64 (ord n x m y)) ∧ Below w.heap.size w w'

theorem args_ne (p q : Nat) (a c : Option Addr) (pc qc : Nat) (w : World) (_hpc : p ≤ 9223372036854775807) (_hqc : q ≤ 9223372036854775807) (hl : ((p : Int) == (q : Int)) = false) :
    Calls Try.prog 47 #[.slice a p pc, .slice c q qc] w fun e w' => e = .returned (.int .i64 (cmpI p q)) ∧ w' = w := by
  have hl' : ((p : Int) != (q : Int)) = true := by simpa using hl
  go_enter Try.func47, Try.ntmps47
  go_wp2_with (go_at_call 45; refine (cmpI_any _ _ _).mono ?_; rintro e w' ⟨rfl, rfl⟩)
  go_ret
  exact ⟨rfl, rfl⟩

set_option maxHeartbeats 400000 in
theorem args_eq (n m : Nat) (ih : F5 n) (p : List (Tm n)) (q : List (Tm m)) (len : Nat) (hpl : Hid (p.length = len)) (hql : Hid (q.length = len)) (pb po qb qo pc qc : Nat) (B : Nat) (w : World)
    (hlen : len ≤ 9223372036854775807) (hpb : pb < B) (hqb : qb < B)
    (hp : ∀ (i : Nat) (y : Tm n), p[i]? = some y → Held w pb (po + i * 4) n y ∧ In B w n y)
    (hq : ∀ (i : Nat) (y : Tm m), q[i]? = some y → Held w qb (qo + i * 4) m y ∧ In B w m y)
    (hB : B ≤ w.heap.size) :
    Calls Try.prog 47 #[.slice (some ⟨pb, po, none⟩) len pc, .slice (some ⟨qb, qo, none⟩) len qc] w fun e w' =>
      e = .returned (.int .i64 (ordL (fun a b => ord n a m b) p q)) ∧ Below w.heap.size w w' := by
  go_enter Try.func47, Try.ntmps47
  go_wp2_with fail
  go_loopw [19] (fun i wr => ∃ k : Nat, k ≤ len ∧ i = .int .i64 k ∧ Below w.heap.size w wr ∧ Hid (ordL (fun a b => ord n a m b) (p.drop k) (q.drop k) = ordL (fun a b => ord n a m b) p q)) (fun i _ => len - (intOf i).toNat)
  case atStart => exact ⟨0, by omega, rfl, Below.refl _ _, rfl⟩
  case round =>
    obtain ⟨k, hk, rfl, hb, hd⟩ := hrel
    by_cases hlt : k < len
    · obtain ⟨x, hx⟩ : ∃ x, p[k]? = some x := ⟨p[k]'(by rw [hpl.out]; exact hlt), List.getElem?_eq_getElem _⟩
      obtain ⟨y, hy⟩ : ∃ y, q[k]? = some y := ⟨q[k]'(by rw [hql.out]; exact hlt), List.getElem?_eq_getElem _⟩
      obtain ⟨hx1, hx2⟩ := hp k x hx
      obtain ⟨hy1, hy2⟩ := hq k y hy
      have HS : Hid (ordL (fun a b => ord n a m b) (p.drop k) (q.drop k) = if ord n x m y = 0 then ordL (fun a b => ord n a m b) (p.drop (k + 1)) (q.drop (k + 1)) else ord n x m y) := ordL_drop (fun a b => ord n a m b) p q k x y hx hy
      replace hx1 := hx1.below (hb.mono hB) hpb
      replace hy1 := hy1.below (hb.mono hB) hqb
      replace hx2 := hx2.below (hb.mono hB)
      replace hy2 := hy2.below (hb.mono hB)
      clear hp hq hx hy
      cases n with
      | zero => exact hx1.elim
      | succ n =>
      cases m with
      | zero => exact hy1.elim
      | succ m =>
      obtain ⟨x0, x1, x2, x3⟩ := hx1
      obtain ⟨y0, y1, y2, y3⟩ := hy1
      have hc : ∀ (w1 : World), In B w1 (n + 1) x → In B w1 (m + 1) y → B ≤ w1.heap.size → Calls Try.prog 9 #[.agg #[.int .i64 x.1.1, .int .i64 x.1.2.1, .string x.1.2.2, .slice x.2.1.1 x.2.2.length x.2.1.2], .agg #[.int .i64 y.1.1, .int .i64 y.1.2.1, .string y.1.2.2, .slice y.2.1.1 y.2.2.length y.2.1.2]] w1 fun e w' => e = .returned (.int .i64 (ord (n + 1) x (m + 1) y)) ∧ Below w1.heap.size w1 w' := fun w1 h1 h2 h3 => ih x (m + 1) y B w1 h1 h2 h3
      have HC := hide hc
      clear hc ih
      have HX := hide hx2
      have HY := hide hy2
      clear hx2 hy2
      generalize ord (n + 1) x (m + 1) y = r at *
      generalize x.2.2.length = xl at *
      generalize y.2.2.length = yl at *
      have hk1 : (0 : Int) ≤ (k : Int) := by omega
      have hk2 : (k : Int) < (len : Int) := by omega
      have hB' : B ≤ wr.heap.size := Nat.le_trans hB hb.size
      have HCD := hide (HC.out wr.drew (HX.out.below (Below.refl _ _).drew) (HY.out.below (Below.refl _ _).drew) hB')
      have hpw : pb < wr.heap.size := by omega
      have hqw : qb < wr.heap.size := by omega
      clear HC HX HY
      go_wp2_with fail
      go_region_held3 (fun w' => w'.cell? ⟨pb, po + k * 4, none⟩ = some (.int .i64 x.1.1) ∧ w'.cell? ⟨pb, po + k * 4 + 1, none⟩ = some (.int .i64 x.1.2.1) ∧ w'.cell? ⟨pb, po + k * 4 + 2, none⟩ = some (.string x.1.2.2) ∧ w'.cell? ⟨pb, po + k * 4 + 3, none⟩ = some (.slice x.2.1.1 xl x.2.1.2)
          ∧ w'.cell? ⟨qb, qo + k * 4, none⟩ = some (.int .i64 y.1.1) ∧ w'.cell? ⟨qb, qo + k * 4 + 1, none⟩ = some (.int .i64 y.1.2.1) ∧ w'.cell? ⟨qb, qo + k * 4 + 2, none⟩ = some (.string y.1.2.2) ∧ w'.cell? ⟨qb, qo + k * 4 + 3, none⟩ = some (.slice y.2.1.1 yl y.2.1.2))
        (go_keep) ((go_at_call 9; refine HCD.out.mono ?_; rintro e w1 ⟨rfl, hb1⟩; have hcc := below_cells (below_undrew hb1)))
      have hb2 : Below w.heap.size w w1 := hb.trans ((below_undrew hb1).mono hb.size)
      by_cases hr : r = 0
      · have HR : Hid (r = 0) := hr
        have hr1 : (r != 0) = false := by rw [hr]; rfl
        clear hr
        go_wp2_with fail
        go_roundw
        case rel => exact ⟨k + 1, by omega, by go_num, hb2, by rw [← hd.out, HS.out, if_pos HR.out]; rfl⟩
        case measure => simp [intOf]; omega
      · have HR : Hid (¬ r = 0) := hr
        have hr1 : (r != 0) = true := by simpa using hr
        clear hr
        go_wp2_with fail
        go_ret
        exact ⟨ret_int (by rw [← hd.out, HS.out, if_neg HR.out]), hb2⟩
    · go_wp2_with fail
      go_ret
      refine ⟨ret_int ?_, hb⟩
      rw [← hd.out, List.drop_eq_nil_of_le (by rw [hpl.out]; omega)]
      rfl

theorem args_nil (n m : Nat) (a c : Option Addr) (pc qc : Nat) (w : World) :
    Calls Try.prog 47 #[.slice a ([] : List (Tm n)).length pc, .slice c ([] : List (Tm m)).length qc] w fun e w' => e = .returned (.int .i64 (ordL (fun a b => ord n a m b) [] [])) ∧ Below w.heap.size w w' := by
  show Calls Try.prog 47 #[.slice a 0 pc, .slice c 0 qc] w fun e w' => e = .returned (.int .i64 0) ∧ Below w.heap.size w w'
  go_enter Try.func47, Try.ntmps47
  go_wp2_with fail
  go_loop [19] (fun i => i = .int .i64 0) (fun _ => 0)
  case atStart => rfl
  case round =>
    obtain rfl := hrel
    go_wp2_with fail
    go_ret
    exact ⟨rfl, Below.refl _ _⟩

theorem order_kind (w : World) (k k' u u' : Int) (s s' : ByteArray) (a a' : Option Addr) (pl ql pc qc : Nat) (e : ¬ k = k') :
    Calls Try.prog 9 #[.agg #[.int .i64 k, .int .i64 u, .string s, .slice a pl pc], .agg #[.int .i64 k', .int .i64 u', .string s', .slice a' ql qc]] w fun e w' => e = .returned (.int .i64 (cmpI k k')) ∧ Below w.heap.size w w' := by
  have hk : (k != k') = true := by simpa using e
  clear e
  go_enter Try.func9, Try.ntmps9
  go_wp2_with (go_at_call 45; refine (cmpI_any _ _ _).mono ?_; rintro e w' ⟨rfl, rfl⟩)
  go_ret
  exact ⟨rfl, ((Below.refl _ _).alloc (Nat.le_refl _) _).alloc (by simp) _⟩

theorem order_int (w : World) (k u u' : Int) (s s' : ByteArray) (a a' : Option Addr) (pl ql pc qc : Nat) (r : Int) (h : k = 1 ∨ k = 3 ∨ k = 5) :
    Calls Try.prog 9 #[.agg #[.int .i64 k, .int .i64 u, .string s, .slice a pl pc], .agg #[.int .i64 k, .int .i64 u', .string s', .slice a' ql qc]] w fun e w' => e = .returned (.int .i64 (if k = 1 ∨ k = 3 ∨ k = 5 then cmpI u u' else if k = 2 then cmpS s s' else if k = 4 then r else 0)) ∧ Below w.heap.size w w' := by
  rw [if_pos h]
  rcases h with rfl | rfl | rfl
  all_goals
    go_enter Try.func9, Try.ntmps9
    go_wp2_with (go_at_call 45; refine (cmpI_any _ _ _).mono ?_; rintro e w' ⟨rfl, rfl⟩)
    go_ret
    exact ⟨rfl, ((Below.refl _ _).alloc (Nat.le_refl _) _).alloc (by simp) _⟩

theorem order_str (w : World) (u u' : Int) (s s' : ByteArray) (a a' : Option Addr) (pl ql pc qc : Nat) :
    Calls Try.prog 9 #[.agg #[.int .i64 2, .int .i64 u, .string s, .slice a pl pc], .agg #[.int .i64 2, .int .i64 u', .string s', .slice a' ql qc]] w fun e w' => e = .returned (.int .i64 (cmpS s s')) ∧ Below w.heap.size w w' := by
  go_enter Try.func9, Try.ntmps9
  go_wp2_with (go_at_call 46; refine (cmpS_any _ _ _).mono ?_; rintro e w' ⟨rfl, rfl⟩)
  go_ret
  exact ⟨rfl, ((Below.refl _ _).alloc (Nat.le_refl _) _).alloc (by simp) _⟩

theorem order_else (w : World) (k u u' : Int) (s s' : ByteArray) (a a' : Option Addr) (pl ql pc qc : Nat) (e1 : ¬ k = 1) (e2 : ¬ k = 2) (e3 : ¬ k = 3) (e4 : ¬ k = 4) (e5 : ¬ k = 5) :
    Calls Try.prog 9 #[.agg #[.int .i64 k, .int .i64 u, .string s, .slice a pl pc], .agg #[.int .i64 k, .int .i64 u', .string s', .slice a' ql qc]] w fun e w' => e = .returned (.int .i64 0) ∧ Below w.heap.size w w' := by
  have h1 : (k == 1) = false := by simpa using e1
  have h2 : (k == 2) = false := by simpa using e2
  have h3 : (k == 3) = false := by simpa using e3
  have h4 : (k == 4) = false := by simpa using e4
  have h5 : (k == 5) = false := by simpa using e5
  clear e1 e2 e3 e4 e5
  go_enter Try.func9, Try.ntmps9
  go_wp2_with fail
  go_ret
  exact ⟨rfl, ((Below.refl _ _).alloc (Nat.le_refl _) _).alloc (by simp) _⟩

theorem order_tup (w : World) (u u' : Int) (s s' : ByteArray) (a a' : Option Addr) (pl ql pc qc : Nat) (r : Int)
    (h : ∀ w1 : World, Below w.heap.size w w1 → Calls Try.prog 47 #[.slice a pl pc, .slice a' ql qc] w1 fun e w' => e = .returned (.int .i64 r) ∧ Below w1.heap.size w1 w') :
    Calls Try.prog 9 #[.agg #[.int .i64 4, .int .i64 u, .string s, .slice a pl pc], .agg #[.int .i64 4, .int .i64 u', .string s', .slice a' ql qc]] w fun e w' => e = .returned (.int .i64 r) ∧ Below w.heap.size w w' := by
  have H := hide h
  clear h
  go_enter Try.func9, Try.ntmps9
  go_wp2_with fail
  refine (H.out _ (((Below.refl _ _).alloc (Nat.le_refl _) _).alloc (by simp) _)).mono ?_
  rintro e w' ⟨rfl, hb⟩
  go_wp2_with fail
  go_ret
  exact ⟨rfl, (((Below.refl _ _).alloc (Nat.le_refl _) _).alloc (by simp) _).trans (hb.mono (by simp; omega))⟩

set_option maxHeartbeats 400000 in
theorem order_any (n : Nat) : F5 n := by
  induction n with
  | zero => intro x m y B w hx; exact hx.elim
  | succ n ih =>
    intro x m y B w hx hy hB
    cases m with
    | zero => exact hy.elim
    | succ m =>
    obtain ⟨⟨k, u, s⟩, ⟨a, pc⟩, p⟩ := x
    obtain ⟨⟨k', u', s'⟩, ⟨a', qc⟩, q⟩ := y
    obtain ⟨⟨hk, hu, hs, hpl, hpc⟩, hp⟩ := hx
    obtain ⟨⟨hk', hu', hs', hql, hqc⟩, hq⟩ := hy
    simp only at hk hu hs hpl hpc hp hk' hu' hs' hql hqc hq
    show Calls Try.prog 9 #[.agg #[.int .i64 k, .int .i64 u, .string s, .slice a p.length pc], .agg #[.int .i64 k', .int .i64 u', .string s', .slice a' q.length qc]] w fun e w' => e = .returned (.int .i64 (if k = k' then
      if k = 1 ∨ k = 3 ∨ k = 5 then cmpI u u' else if k = 2 then cmpS s s' else if k = 4 then if p.length = q.length then ordL (fun a b => ord n a m b) p q else cmpI p.length q.length
      else 0 else cmpI k k')) ∧ Below w.heap.size w w'
    have hargs : ∀ w1 : World, Below w.heap.size w w1 → Calls Try.prog 47 #[.slice a p.length pc, .slice a' q.length qc] w1 fun e w' => e = .returned (.int .i64 (if p.length = q.length then ordL (fun a b => ord n a m b) p q else cmpI p.length q.length)) ∧ Below w1.heap.size w1 w' := by
      intro w1 hw
      unfold maxLen at hpc hqc
      by_cases hl : p.length = q.length
      · rw [if_pos hl]
        rcases hp with hp | ⟨pb, po, rfl, hpb, hp⟩
        · subst hp
          have hq0 : q = [] := List.eq_nil_of_length_eq_zero hl.symm
          subst hq0
          exact args_nil n m a a' pc qc w1
        · rcases hq with hq | ⟨qb, qo, rfl, hqb, hq⟩
          · subst hq
            have hp0 : p = [] := List.eq_nil_of_length_eq_zero hl
            subst hp0
            exact args_nil n m _ a' pc qc w1
          · have h := args_eq n m ih p q p.length rfl hl.symm pb po qb qo pc qc B w1 (by omega) hpb hqb (fun i y hy => ⟨(hp i y hy).1.below (hw.mono hB) hpb, (hp i y hy).2.below (hw.mono hB)⟩)
              (fun i y hy => ⟨(hq i y hy).1.below (hw.mono hB) hqb, (hq i y hy).2.below (hw.mono hB)⟩) (Nat.le_trans hB hw.size)
            rw [hl] at h
            rw [hl]
            exact h
      · rw [if_neg hl]
        refine (args_ne p.length q.length a a' pc qc w1 (by omega) (by omega) (by simp; omega)).mono ?_
        rintro e w' ⟨rfl, rfl⟩
        exact ⟨rfl, Below.refl _ _⟩
    generalize (if p.length = q.length then ordL (fun a b => ord n a m b) p q else cmpI p.length q.length) = r at *
    clear hp hq ih hpl hpc hql hqc hs hs' hB
    generalize p.length = pl at *
    generalize q.length = ql at *
    obtain ⟨hk1, hk2⟩ := hk
    obtain ⟨hk1', hk2'⟩ := hk'
    by_cases e : k = k'
    · subst e
      rw [if_pos rfl]
      by_cases e1 : k = 1
      · subst e1
        exact order_int w 1 u u' s s' a a' pl ql pc qc r (Or.inl rfl)
      by_cases e3 : k = 3
      · subst e3
        exact order_int w 3 u u' s s' a a' pl ql pc qc r (Or.inr (Or.inl rfl))
      by_cases e5 : k = 5
      · subst e5
        exact order_int w 5 u u' s s' a a' pl ql pc qc r (Or.inr (Or.inr rfl))
      rw [if_neg (by omega)]
      by_cases e2 : k = 2
      · subst e2
        exact order_str w u u' s s' a a' pl ql pc qc
      rw [if_neg e2]
      by_cases e4 : k = 4
      · subst e4
        exact order_tup w u u' s s' a a' pl ql pc qc r hargs
      rw [if_neg e4]
      exact order_else w k u u' s s' a a' pl ql pc qc e1 e2 e3 e4 e5
    · rw [if_neg e]
      exact order_kind w k k' u u' s s' a a' pl ql pc qc e
end Go.Proofs.Ytpehdgbdinjbaab
namespace Go.Proofs.Ytpehdgbdinjbaab
open Go.RowKit

theorem isBound_any (k u : Int) (s : ByteArray) (a : Option Addr) (l c : Nat) (w : World) :
    Calls Try.prog 92 #[.agg #[.int .i64 k, .int .i64 u, .string s, .slice a l c]] w fun e w' => e = .returned (.bool (!(k == 6))) ∧ Below w.heap.size w w' := by
  cases h : k == 6
  all_goals
    go_enter Try.func92, Try.ntmps92
    go_wp2_with fail
    go_ret
    exact ⟨ret_same (by simp [bne, h]), (Below.refl _ _).alloc (Nat.le_refl _) _⟩

theorem order_is (x : An) (y : An) (B : Nat) (w : World) (hx : InA B w x) (hy : InA B w y) (hB : B ≤ w.heap.size) (rx : RightA x) (ry : RightA y) :
    Calls Try.prog 9 #[val x.1 x.2, val y.1 y.2] w fun e w' => ∃ r, e = .returned (.int .i64 r) ∧ Hid ((r == 0) = sameA x y) ∧ Below w.heap.size w w' := by
  refine (order_any x.1 x.2 y.1 y.2 B w hx hy hB).mono ?_
  rintro e w' ⟨rfl, hb⟩
  refine ⟨_, rfl, ?_, hb⟩
  have h := ord_same x.1 x.2 y.1 y.2 rx ry
  unfold Hid sameA
  cases hs : same x.1 x.2 y.1 y.2
  · rw [hs] at h
    simp only [Bool.false_eq_true, iff_false] at h
    simpa using h
  · rw [hs] at h
    simp only [iff_true] at h
    simpa using h

theorem fvar_any (b : List An) (base g c B : Nat) (w : World) (k : Nat) (hk : k < 4) (m : Nat) (t : Tm (m + 1)) (hb : Bnd B w b) (ht : In B w (m + 1) t) (hr : RightA ⟨m + 1, t⟩) (hB : B ≤ base) (H : Has base g c b w) :
    Calls Try.prog 93 #[.slice (some ⟨g, 0, none⟩) 4 c, .int .i64 k, .agg #[.int .i64 t.1.1, .int .i64 t.1.2.1, .string t.1.2.2, .slice t.2.1.1 t.2.2.length t.2.1.2]] w (FitPost base g c (fitV b k ⟨m + 1, t⟩) w) := by
  obtain ⟨y, hy⟩ : ∃ y, b[k]? = some y := ⟨b[k]'(by rw [hb.1]; exact hk), List.getElem?_eq_getElem _⟩
  obtain ⟨hy1, hy2⟩ := hb.2 y (List.mem_of_getElem? hy)
  obtain ⟨n, y⟩ := y
  cases n with
  | zero => exact hy1.elim
  | succ n =>
  have HV : Hid (fitV b k ⟨m + 1, t⟩ = if y.1.1 = 6 then some (b.set k ⟨m + 1, t⟩) else if sameA ⟨n + 1, y⟩ ⟨m + 1, t⟩ then some b else none) := by simp only [Hid, fitV, hy, kindA]; rfl
  obtain ⟨c0, c1, c2, c3⟩ := H.cells k _ hy
  simp only [ndA, hdT, hdOf] at c0 c1 c2 c3
  have hk1 : (0 : Int) ≤ (k : Int) := by omega
  have hk2 : (k : Int) < 4 := by omega
  have HH := hide H
  have HY := hide hy
  have hgw : g < w.heap.size := H.lt.2
  clear hy H
  generalize fitV b k ⟨m + 1, t⟩ = o at *
  cases h6 : y.1.1 == 6
  case true =>
    go_enter Try.func93, Try.ntmps93
    go_wp2_with fail
    refine (isBound_any _ _ _ _ _ _ _).mono ?_
    rintro e w1 ⟨rfl, hb1⟩
    have HB1 := hide hb1
    clear c0 c1 c2 c3
    have H1 : Hid (Has base g c b w1) := (HH.out.kept (World.grownBy_alloc w _ none) (by simp)).below hb1
    have hf := fun j => H1.out.free j
    obtain ⟨⟨t0, t1, t2, t3⟩, _⟩ := boxed hb1
    obtain ⟨c0, c1, c2, c3⟩ := H1.out.cells k _ HY.out
    simp only [ndA, hdT, hdOf] at c0 c1 c2 c3
    clear hb1
    go_wp2_with fail
    go_ret
    have ho : o = some (b.set k ⟨m + 1, t⟩) := by rw [HV.out, if_pos (by simpa using h6)]
    subst ho
    exact ⟨rfl, grown_trans (grown_of_below (((Below.refl _ _).alloc (Nat.le_refl _) _).trans (HB1.out.mono (by simp))) _) (put4_grown _ _ _ _), fun b' e => by obtain rfl := Option.some.inj e; exact H1.out.put k ⟨m + 1, t⟩ (by rw [hb.1]; exact hk)⟩
  case false =>
    go_enter Try.func93, Try.ntmps93
    go_wp2_with fail
    refine (isBound_any _ _ _ _ _ _ _).mono ?_
    rintro e w1 ⟨rfl, hb1⟩
    clear c0 c1 c2 c3
    have HB1 : Hid (Below w.heap.size w w1) := ((Below.refl _ _).alloc (Nat.le_refl _) _).trans (hb1.mono (by simp))
    have H1 : Hid (Has base g c b w1) := (HH.out.kept (World.grownBy_alloc w _ none) (by simp)).below hb1
    obtain ⟨⟨t0, t1, t2, t3⟩, _⟩ := boxed hb1
    obtain ⟨c0, c1, c2, c3⟩ := H1.out.cells k _ HY.out
    simp only [ndA, hdT, hdOf] at c0 c1 c2 c3
    have HBB : Hid (B ≤ w.heap.size) := by have := HH.out.lt; unfold Hid; omega
    have HLT : Hid (w.heap.size < w1.heap.size) := by have := hb1.size; simp at this; unfold Hid; omega
    have HI : Hid (InA B w1 ⟨n + 1, y⟩ ∧ InA B w1 ⟨m + 1, t⟩) := ⟨hy1.below (HB1.out.mono HBB.out), InA.below (x := ⟨m + 1, t⟩) (HB1.out.mono HBB.out) ht⟩
    have HO := hide (order_is ⟨n + 1, y⟩ ⟨m + 1, t⟩ B w1.drew (HI.out.1.below (Below.refl _ _).drew) (HI.out.2.below (Below.refl _ _).drew) (Nat.le_trans HBB.out HB1.out.size) hy2 hr)
    clear hb1 ht hy1 hb hy2 hr
    go_wp2_with fail
    go_region_held3 (fun w' => w'.cell? ⟨g, k * 4, none⟩ = some (.int .i64 y.1.1) ∧ w'.cell? ⟨g, k * 4 + 1, none⟩ = some (.int .i64 y.1.2.1) ∧ w'.cell? ⟨g, k * 4 + 2, none⟩ = some (.string y.1.2.2) ∧ w'.cell? ⟨g, k * 4 + 3, none⟩ = some (.slice y.2.1.1 y.2.2.length y.2.1.2)
          ∧ w'.cell? ⟨w.heap.size, 0, none⟩ = some (.int .i64 t.1.1) ∧ w'.cell? ⟨w.heap.size, 1, none⟩ = some (.int .i64 t.1.2.1) ∧ w'.cell? ⟨w.heap.size, 2, none⟩ = some (.string t.1.2.2) ∧ w'.cell? ⟨w.heap.size, 3, none⟩ = some (.slice t.2.1.1 t.2.2.length t.2.1.2))
        (go_keep) ((go_at_call 9; refine HO.out.mono ?_; rintro e w2 ⟨r, rfl, HR, hb2⟩; have hcc := below_cells (below_undrew hb2); have hgg : g < w1.heap.size := Nat.lt_of_lt_of_le hgw HB1.out.size; have hgh : w.heap.size < w1.heap.size := HLT.out))
    replace hb2 := below_undrew hb2
    have HP : Hid (w.grownBy w2 (some g) ∧ Has base g c b w2) := ⟨grown_of_below (HB1.out.trans (hb2.mono HB1.out.size)) _, H1.out.below hb2⟩
    have ho : o = if sameA ⟨n + 1, y⟩ ⟨m + 1, t⟩ then some b else none := by rw [HV.out, if_neg (by simpa using h6)]
    rw [← HR.out] at ho
    clear HR HV
    cases h0 : r == 0
    all_goals
      rw [h0] at ho
      go_wp2_with fail
      go_ret
      simp only [Bool.false_eq_true, if_false, if_true] at ho
      subst ho
    · exact ⟨rfl, HP.out.1, fun b' e => by cases e⟩
    · exact ⟨rfl, HP.out.1, fun b' e => by obtain rfl := Option.some.inj e; exact HP.out.2⟩
end Go.Proofs.Ytpehdgbdinjbaab
