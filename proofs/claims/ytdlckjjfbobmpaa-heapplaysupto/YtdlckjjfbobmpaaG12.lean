/- What is proved here: plain facts and contracts that the claimed theorem stands on, several texts in one: heap.stands and heap.allStand: whether words stand for terms. No condition but sizes. Put of a heap: which error it tells, and what it lays. No condition but sizes, and that the term lies outside of the heap's own blocks. Put and Get of a heap, of terms and words: which error they tell, and what they lay or tell. No condition but sizes, and that the term lies outside of the heap's own blocks. plain facts on what words stand for: they go on to stand for it when words and names come behind, and what laying a term tells stands for it. No condition but that the term is right. Join of a heap: which error it tells, and what it lays. No condition but what its callees do. -/
import Derived.Test.YtdlckjjfbobmpaaG11
import Derived.Test.YtdlckjjfbobmpaaG05
import Derived.Test.YtdlckjjfbobmpaaG06
namespace Go.Proofs.Ytdlckjjfbobmpaa
open Go.RowKit

def standsB (ws : List Wd) (nm : List ByteArray) (v : Wd) : Bool :=
  if v.1 = 1 then inB v.2 (-1099511627776) 1099511627776 else if v.1 = 3 then inB v.2 1 99 else if v.1 = 2 then hasB nm.length v.2 else if v.1 = 4 then beginsB ws v.2 else false

def leaf (k u : Int) : Tm 1 := ((k, u, .empty), (none, 0), [])
theorem leaf_chk (k u : Int) (hk : k = 1 ∨ k = 3) : chk 1 (leaf k u) = if good (hdOf 0 (leaf k u)) then 0 else 5 := by
  rcases hk with rfl | rfl <;> simp [chk, leaf, nodes, deeps, chkL, sz, deeper, hdOf] <;> rfl
theorem leaf_good (ws : List Wd) (nm : List ByteArray) (k u : Int) (hk : k = 1 ∨ k = 3) : good (hdOf 0 (leaf k u)) = standsB ws nm (k, u) := by
  rcases hk with rfl | rfl <;> simp [good, leaf, hdOf, standsB]

set_option maxHeartbeats 1000000 in
set_option maxRecDepth 100000 in
theorem stands_num (hp : Nat) (ws : List Wd) (nm : List ByteArray) (k u : Int) (w : World) (hk : k = 1 ∨ k = 3) (hu : I64 u) :
    Calls Try.prog 33 #[.pointer (some ⟨hp, 0, none⟩), .agg #[.int .i64 k, .int .i64 u]] w fun e w' => e = .returned (.bool (standsB ws nm (k, u))) ∧ Below w.heap.size w w' := by
  have HC : Hid (∀ w1, Calls Try.prog 21 #[.agg #[.int .i64 k, .int .i64 u, .string .empty, .slice none 0 0]] w1 fun e w' => e = .returned (.int .i64 (if standsB ws nm (k, u) then 0 else 5)) ∧ Below w1.heap.size w1 w') := by
    intro w1
    have h := tcheck_any 1 (leaf k u) w1.heap.size w1 ⟨⟨by rcases hk with rfl | rfl <;> simp [leaf, I64], hu, by simp [leaf, maxLen], Nat.le_refl _, Nat.zero_le _⟩, Or.inl rfl⟩ (Nat.le_refl _) (by simp [nodes, leaf])
    rw [leaf_chk k u hk, leaf_good ws nm k u hk] at h
    exact h
  generalize standsB ws nm (k, u) = sb at *
  cases sb
  all_goals
    simp only [if_true, Bool.false_eq_true, if_false] at HC
    rcases hk with rfl | rfl
    all_goals
      go_enter Try.func33, Try.ntmps33
      go_wp2_with fail
      refine (HC.out _).mono ?_
      rintro e w2 ⟨rfl, hb⟩
      have HB := hide hb
      clear hb
      go_wp2_with fail
      go_ret
      exact ⟨rfl, ((Below.refl _ _).alloc (Nat.le_refl _) _).trans (HB.out.mono (by simp))⟩

set_option maxHeartbeats 1000000 in
set_option maxRecDepth 100000 in
theorem stands_atom (base hp : Nat) (room : Int) (ws : List Wd) (nm : List ByteArray) (M : Nat → Prop) (u : Int) (w : World) (h : Hid (HpAt base hp room ws nm M w)) :
    Calls Try.prog 33 #[.pointer (some ⟨hp, 0, none⟩), .agg #[.int .i64 2, .int .i64 u]] w fun e w' => e = .returned (.bool (hasB nm.length u)) ∧ Below w.heap.size w w' := by
  have HC : Hid (∀ wA, Below w.heap.size w wA → Calls Try.prog 40 #[.pointer (some ⟨hp, 2, none⟩), .int .i64 u] wA fun e w' => e = .returned (.bool (hasB nm.length u)) ∧ w' = wA) := by
    intro wA hA
    obtain ⟨tv, lv, mv, h1, h2, h3, _⟩ := h.out.later hA
    obtain ⟨la, lc, rfl⟩ : ∃ la lc, lv = .slice la nm.length lc := by
      rcases h3.1.2 with ⟨e, e0⟩ | ⟨g, c, cur, e, _⟩
      · exact ⟨none, 0, by rw [e, e0]⟩
      · exact ⟨_, c, e⟩
    exact has_any hp room tv la nm.length lc mv u wA h1
  clear h
  generalize hasB nm.length u = bb at *
  go_enter Try.func33, Try.ntmps33
  go_wp2_with fail
  generalize hwA : w.alloc (Obj.cells #[Value.int IntKind.i64 2, Value.int IntKind.i64 u] 38) = wA
  have HA : Hid (Below w.heap.size w wA.drew) := by subst hwA; exact ((Below.refl _ _).alloc (Nat.le_refl _) _).drew
  have e1 : wA.cell? ⟨w.heap.size, 1, none⟩ = some (.int .i64 u) := by subst hwA; simp [go_sem]
  clear hwA
  go_region_held3 (fun w' => w'.cell? ⟨w.heap.size, 1, none⟩ = some (.int .i64 u)) (go_keep) ((go_at_call 40; refine (HC.out _ HA.out).mono ?_; rintro e w2 ⟨rfl, rfl⟩))
  go_wp2_with fail
  go_ret
  exact ⟨rfl, HA.out⟩

set_option maxHeartbeats 1000000 in
set_option maxRecDepth 100000 in
theorem stands_tup (base hp : Nat) (room : Int) (ws : List Wd) (nm : List ByteArray) (M : Nat → Prop) (u : Int) (w : World) (h : Hid (HpAt base hp room ws nm M w)) (hw : ws.length ≤ 100000) :
    Calls Try.prog 33 #[.pointer (some ⟨hp, 0, none⟩), .agg #[.int .i64 4, .int .i64 u]] w fun e w' => e = .returned (.bool (beginsB ws u)) ∧ Below w.heap.size w w' := by
  obtain ⟨ta, tc, hhp, c1, HC⟩ : ∃ ta tc, hp < w.heap.size ∧ w.cell? ⟨hp, 1, none⟩ = some (.slice ta ws.length tc) ∧ Hid (∀ wA, Below w.heap.size w wA → Calls Try.prog 41 #[.slice ta ws.length tc, .int .i64 u] wA fun e w' => e = .returned (.bool (beginsB ws u)) ∧ w' = wA) := by
    obtain ⟨tv, lv, mv, h1, h2, h3, _⟩ := h.out
    obtain ⟨ta, tc, rfl⟩ : ∃ ta tc, tv = .slice ta ws.length tc := by
      rcases h2.2 with ⟨e, e0⟩ | ⟨g, c, cur, e, _⟩
      · exact ⟨none, 0, by rw [e, e0]⟩
      · exact ⟨_, c, e⟩
    exact ⟨ta, tc, h1.lt, h1.cells.1.2.1, fun wA hA => begins_any base ta ws.length tc ws u wA rfl hw (own_below h2 hA)⟩
  clear h
  generalize beginsB ws u = bb at *
  generalize ws.length = L at *
  go_enter Try.func33, Try.ntmps33
  go_wp2_with fail
  generalize hwA : w.alloc (Obj.cells #[Value.int IntKind.i64 4, Value.int IntKind.i64 u] 38) = wA
  have HA : Hid (Below w.heap.size w wA.drew) := by subst hwA; exact ((Below.refl _ _).alloc (Nat.le_refl _) _).drew
  have e1 : wA.cell? ⟨w.heap.size, 1, none⟩ = some (.int .i64 u) := by subst hwA; simp [go_sem]
  replace c1 : wA.cell? ⟨hp, 1, none⟩ = some (.slice ta L tc) := (below_cells HA.out hp 1 hhp).trans c1
  clear hwA
  go_region_held3 (fun w' => w'.cell? ⟨w.heap.size, 1, none⟩ = some (.int .i64 u) ∧ w'.cell? ⟨hp, 1, none⟩ = some (.slice ta L tc)) (go_keep) ((go_at_call 41; refine (HC.out _ HA.out).mono ?_; rintro e w2 ⟨rfl, rfl⟩))
  go_wp2_with fail
  go_ret
  exact ⟨rfl, HA.out⟩

set_option maxHeartbeats 1000000 in
set_option maxRecDepth 100000 in
theorem stands_else (hp : Nat) (k u : Int) (w : World) (h1 : ¬ k = 1) (h2 : ¬ k = 2) (h3 : ¬ k = 3) (h4 : ¬ k = 4) :
    Calls Try.prog 33 #[.pointer (some ⟨hp, 0, none⟩), .agg #[.int .i64 k, .int .i64 u]] w fun e w' => e = .returned (.bool false) ∧ Below w.heap.size w w' := by
  have b1 : (k == 1) = false := by simpa using h1
  have b2 : (k == 2) = false := by simpa using h2
  have b3 : (k == 3) = false := by simpa using h3
  have b4 : (k == 4) = false := by simpa using h4
  go_enter Try.func33, Try.ntmps33
  go_wp2_with fail
  go_ret
  exact ⟨rfl, by go_grown⟩

theorem stands_any (base hp : Nat) (room : Int) (ws : List Wd) (nm : List ByteArray) (M : Nat → Prop) (v : Wd) (w : World) (h : HpAt base hp room ws nm M w) (hw : ws.length ≤ 100000) (hv : I64 v.2) :
    Calls Try.prog 33 #[.pointer (some ⟨hp, 0, none⟩), wdV v] w fun e w' => e = .returned (.bool (standsB ws nm v)) ∧ Below w.heap.size w w' := by
  obtain ⟨k, u⟩ := v
  by_cases h1 : k = 1
  · exact stands_num hp ws nm k u w (Or.inl h1) hv
  · by_cases h3 : k = 3
    · exact stands_num hp ws nm k u w (Or.inr h3) hv
    · by_cases h2 : k = 2
      · subst h2
        have e : standsB ws nm (2, u) = hasB nm.length u := by simp [standsB]
        rw [e]
        exact stands_atom base hp room ws nm M u w h
      · by_cases h4 : k = 4
        · subst h4
          have e : standsB ws nm (4, u) = beginsB ws u := by simp [standsB]
          rw [e]
          exact stands_tup base hp room ws nm M u w h hw
        · have e : standsB ws nm (k, u) = false := by simp [standsB, h1, h2, h3, h4]
          rw [e]
          exact stands_else hp k u w h1 h2 h3 h4

set_option maxHeartbeats 1000000 in
theorem allStand_any (base hp : Nat) (room : Int) (ws : List Wd) (nm : List ByteArray) (M : Nat → Prop) (vs : List Wd) (a : Option Addr) (len pc : Nat) (w : World) (h : Hid (HpAt base hp room ws nm M w)) (hw : ws.length ≤ 100000) (hvl : Hid (vs.length = len)) (hlen : len ≤ 2000000) (hin : Hid (WordsIn w vs a)) (hi : Hid (∀ v ∈ vs, I64 v.2)) :
    Calls Try.prog 28 #[.pointer (some ⟨hp, 0, none⟩), .slice a len pc] w fun e w' => e = .returned (.bool (vs.all (standsB ws nm))) ∧ Below w.heap.size w w' := by
  go_enter Try.func28, Try.ntmps28
  go_wp2_with fail
  go_loopw [9] (fun i wr => ∃ k : Nat, k ≤ len ∧ i = .int .i64 k ∧ Hid (Below w.heap.size w wr ∧ (vs.take k).all (standsB ws nm) = true)) (fun i _ => len - (intOf i).toNat)
  case atStart => exact ⟨0, by omega, rfl, Below.refl _ _, by simp⟩
  case round =>
    obtain ⟨k, hk, rfl, HR⟩ := hrel
    by_cases hlt : k < len
    · obtain ⟨v, hv⟩ : ∃ v, vs[k]? = some v := ⟨vs[k]'(by rw [hvl.out]; exact hlt), List.getElem?_eq_getElem _⟩
      obtain ⟨b, o, rfl, hb, hvs⟩ : ∃ b o, a = some ⟨b, o, none⟩ ∧ b < w.heap.size ∧ ∀ (i : Nat) (v : Wd), vs[i]? = some v → w.cell? ⟨b, o + i * 2, none⟩ = some (.int .i64 v.1) ∧ w.cell? ⟨b, o + i * 2 + 1, none⟩ = some (.int .i64 v.2) := by
        rcases hin.out with e | e
        · rw [e] at hv; simp at hv
        · exact e
      obtain ⟨v0, v1⟩ := hvs k v hv
      replace v0 := (below_cells HR.out.1 b (o + k * 2) hb).trans v0
      replace v1 := (below_cells HR.out.1 b (o + k * 2 + 1) hb).trans v1
      have HC : Hid (∀ (w1 : World), Below wr.heap.size wr w1 → Calls Try.prog 33 #[.pointer (some ⟨hp, 0, none⟩), .agg #[.int .i64 v.1, .int .i64 v.2]] w1 fun e w' => e = .returned (.bool (standsB ws nm v)) ∧ Below w1.heap.size w1 w') :=
        fun w1 h1 => stands_any base hp room ws nm _ v w1 (h.out.later (HR.out.1.trans (h1.mono HR.out.1.size))) hw (hi.out v (List.mem_of_getElem? hv))
      have HN : Hid ((standsB ws nm v = true → (vs.take (k + 1)).all (standsB ws nm) = true) ∧ (standsB ws nm v = false → vs.all (standsB ws nm) = false)) := by
        refine ⟨fun e => ?_, fun e => ?_⟩
        · rw [List.take_add_one, hv, List.all_append, HR.out.2]
          simp [e]
        · cases ha : vs.all (standsB ws nm)
          · rfl
          · rw [List.all_eq_true] at ha
            rw [ha v (List.mem_of_getElem? hv)] at e
            exact e
      have HBr : Hid (Below w.heap.size w wr) := HR.out.1
      clear hv hvs hin h hi HR
      have hk1 : (0 : Int) ≤ (k : Int) := by omega
      have hk2 : (k : Int) < (len : Int) := by omega
      have hws := HBr.out.size
      have hpw : b < wr.heap.size := by omega
      clear hws
      cases hsb : standsB ws nm v
      · rw [hsb] at HC
        replace HN := hide (HN.out.2 hsb)
        clear hsb
        go_wp2_with fail
        refine (HC.out _ ((Below.refl _ _).alloc (Nat.le_refl _) _)).mono ?_
        rintro e w1 ⟨rfl, hb1⟩
        have HB1 : Hid (Below w.heap.size w w1) := HBr.out.trans ((((Below.refl _ _).alloc (Nat.le_refl _) _).trans (hb1.mono (by simp))).mono HBr.out.size)
        clear hb1 v0 v1 HC
        go_wp2_with fail
        go_ret
        exact ⟨ret_same HN.out.symm, HB1.out⟩
      · rw [hsb] at HC
        replace HN := hide (HN.out.1 hsb)
        clear hsb
        go_wp2_with fail
        refine (HC.out _ ((Below.refl _ _).alloc (Nat.le_refl _) _)).mono ?_
        rintro e w1 ⟨rfl, hb1⟩
        have HB1 : Hid (Below w.heap.size w w1) := HBr.out.trans ((((Below.refl _ _).alloc (Nat.le_refl _) _).trans (hb1.mono (by simp))).mono HBr.out.size)
        clear hb1 v0 v1 HC
        go_wp2_with fail
        go_roundw
        case rel => exact ⟨k + 1, by omega, by go_num, HB1.out, HN.out⟩
        case measure => simp [intOf]; omega
    · have HD : Hid (vs.all (standsB ws nm) = true) := by
        have h2 := HR.out.2
        rw [List.take_of_length_le (by have := hvl.out; omega)] at h2
        exact h2
      have HB1 : Hid (Below w.heap.size w wr) := HR.out.1
      clear HR
      go_wp2_with fail
      go_ret
      exact ⟨ret_same HD.out.symm, HB1.out⟩
end Go.Proofs.Ytdlckjjfbobmpaa
namespace Go.Proofs.Ytdlckjjfbobmpaa
open Go.RowKit

/-- The boxes of a call of Put: the term, and the word that is told. -/
def PutBox (q : Nat) (k u : Int) (s : ByteArray) (a : Option Addr) (l c : Nat) (w : World) : Prop :=
  w.heap[q]? = some (.cells #[.int .i64 k, .int .i64 u, .string s, .slice a l c] 32) ∧ w.heap[q + 1]? = some (.cells #[.int .i64 0, .int .i64 0] 38)
theorem put_box (w : World) (k u : Int) (s : ByteArray) (a : Option Addr) (l c : Nat) : PutBox w.heap.size k u s a l c ((w.alloc (Obj.cells #[.int .i64 k, .int .i64 u, .string s, .slice a l c] 32)).alloc (Obj.cells #[.int .i64 0, .int .i64 0] 38)) := by
  refine ⟨((World.grownBy_alloc (w.alloc (Obj.cells #[.int .i64 k, .int .i64 u, .string s, .slice a l c] 32)) (Obj.cells #[.int .i64 0, .int .i64 0] 38) none).block _ (by simp) (by simp)).trans (heap_alloc_new w _), ?_⟩
  have := heap_alloc_new (w.alloc (Obj.cells #[.int .i64 k, .int .i64 u, .string s, .slice a l c] 32)) (Obj.cells #[.int .i64 0, .int .i64 0] 38)
  have es : ∀ o, (w.alloc o).heap.size = w.heap.size + 1 := fun o => by simp
  rw [es] at this
  exact this
theorem PutBox.facts {q : Nat} {k u : Int} {s : ByteArray} {a : Option Addr} {l c : Nat} {w : World} (h : PutBox q k u s a l c w) :
    (w.cell? ⟨q, 0, none⟩ = some (.int .i64 k) ∧ w.cell? ⟨q, 1, none⟩ = some (.int .i64 u) ∧ w.cell? ⟨q, 2, none⟩ = some (.string s) ∧ w.cell? ⟨q, 3, none⟩ = some (.slice a l c)) ∧ (w.cell? ⟨q + 1, 0, none⟩ = some (.int .i64 0) ∧ w.cell? ⟨q + 1, 1, none⟩ = some (.int .i64 0)) ∧ w.frozen? ⟨q + 1, 0, none⟩ = false ∧ w.frozen? ⟨q + 1, 1, none⟩ = false := by
  obtain ⟨h1, h2⟩ := h
  refine ⟨⟨?_, ?_, ?_, ?_⟩, ⟨?_, ?_⟩, ?_, ?_⟩
  all_goals simp [World.cell?, World.frozen?, h1, h2]
theorem put_next {k u : Int} {s : ByteArray} {a : Option Addr} {l c : Nat} {w w1 w2 : World} (h : Below w.heap.size w w1 ∧ w.heap.size + 2 ≤ w1.heap.size ∧ PutBox w.heap.size k u s a l c w1) (hb : Below w1.heap.size w1 w2) : Below w.heap.size w w2 ∧ w.heap.size + 2 ≤ w2.heap.size ∧ PutBox w.heap.size k u s a l c w2 := by
  obtain ⟨h1, h2, h3⟩ := h
  have := hb.size
  exact ⟨h1.trans (hb.mono h1.size), by omega, (hb.block _ (by omega)).trans h3.1, (hb.block _ (by omega)).trans h3.2⟩
theorem put_below {k u : Int} {s : ByteArray} {a : Option Addr} {l c : Nat} {w w1 : World} (h : Below w.heap.size w w1 ∧ w.heap.size + 2 ≤ w1.heap.size ∧ PutBox w.heap.size k u s a l c w1) (v0 v1 : Value) : Below w.heap.size w ((w1.setCell ⟨w.heap.size + 1, 0, none⟩ v0).setCell ⟨w.heap.size + 1, 1, none⟩ v1) := by
  obtain ⟨h1, h2, h3⟩ := h
  have k1 := keep_set w1 (w.heap.size + 1) 0 v0
  have k2 := keep_set (w1.setCell ⟨w.heap.size + 1, 0, none⟩ v0) (w.heap.size + 1) 1 v1
  have k3 := (keep_below h1 (fun b => b = w.heap.size + 1)).trans (k1.trans k2 (fun b _ h => h)) (fun b _ h => h)
  exact ⟨k3.os, k3.tape, k3.output, k3.size, fun b hb => k3.block b hb (by omega)⟩

set_option maxHeartbeats 1000000 in
set_option maxRecDepth 100000 in
theorem put_e1 (hp : Nat) (k u : Int) (s : ByteArray) (a : Option Addr) (l c : Nat) (w : World) (ce : Int) (hce : (ce != 0) = true)
    (HC : Hid (∀ w1, Below w.heap.size w w1 → Calls Try.prog 21 #[.agg #[.int .i64 k, .int .i64 u, .string s, .slice a l c]] w1 fun e w' => e = .returned (.int .i64 ce) ∧ Below w1.heap.size w1 w')) :
    Calls Try.prog 9 #[.pointer (some ⟨hp, 0, none⟩), .agg #[.int .i64 k, .int .i64 u, .string s, .slice a l c]] w fun e w' => e = .returned (.tuple #[.agg #[.int .i64 0, .int .i64 0], .int .i64 ce]) ∧ Below w.heap.size w w' := by
  go_enter Try.func9, Try.ntmps9
  go_wp2_with fail
  generalize hw0 : (w.alloc (Obj.cells #[.int .i64 k, .int .i64 u, .string s, .slice a l c] 32)).alloc (Obj.cells #[.int .i64 0, .int .i64 0] 38) = w0
  have H0 : Hid (Below w.heap.size w w0 ∧ w.heap.size + 2 ≤ w0.heap.size ∧ PutBox w.heap.size k u s a l c w0) := by
    subst hw0
    exact ⟨((Below.refl _ _).alloc (Nat.le_refl _) _).alloc (by simp) _, by simp, put_box _ _ _ _ _ _ _⟩
  clear hw0
  refine (HC.out _ H0.out.1).mono ?_
  rintro e w1 ⟨rfl, hb⟩
  have H1 := hide (put_next H0.out hb)
  obtain ⟨⟨t0, t1, t2, t3⟩, ⟨r0, r1⟩, f0, f1⟩ := H1.out.2.2.facts
  clear hb H0
  go_wp2_with fail
  exact bodyPost_ret (v := .tuple #[.agg #[.int .i64 0, .int .i64 0], .int .i64 ce]) (by simp [results, Try.results9, go_sem, r0, r1]) rfl ⟨rfl, put_below H1.out _ _⟩

set_option maxHeartbeats 1000000 in
set_option maxRecDepth 100000 in
theorem put_e2 (hp : Nat) (k u : Int) (s : ByteArray) (a : Option Addr) (l c : Nat) (w : World)
    (HC : Hid (∀ w1, Below w.heap.size w w1 → Calls Try.prog 21 #[.agg #[.int .i64 k, .int .i64 u, .string s, .slice a l c]] w1 fun e w' => e = .returned (.int .i64 0) ∧ Below w1.heap.size w1 w'))
    (HL : Hid (∀ w1, Below w.heap.size w w1 → Calls Try.prog 22 #[.agg #[.int .i64 k, .int .i64 u, .string s, .slice a l c]] w1 fun e w' => e = .returned (.bool false) ∧ Below w1.heap.size w1 w')) :
    Calls Try.prog 9 #[.pointer (some ⟨hp, 0, none⟩), .agg #[.int .i64 k, .int .i64 u, .string s, .slice a l c]] w fun e w' => e = .returned (.tuple #[.agg #[.int .i64 0, .int .i64 0], .int .i64 5]) ∧ Below w.heap.size w w' := by
  go_enter Try.func9, Try.ntmps9
  go_wp2_with fail
  generalize hw0 : (w.alloc (Obj.cells #[.int .i64 k, .int .i64 u, .string s, .slice a l c] 32)).alloc (Obj.cells #[.int .i64 0, .int .i64 0] 38) = w0
  have H0 : Hid (Below w.heap.size w w0 ∧ w.heap.size + 2 ≤ w0.heap.size ∧ PutBox w.heap.size k u s a l c w0) := by
    subst hw0
    exact ⟨((Below.refl _ _).alloc (Nat.le_refl _) _).alloc (by simp) _, by simp, put_box _ _ _ _ _ _ _⟩
  clear hw0
  refine (HC.out _ H0.out.1).mono ?_
  rintro e w1 ⟨rfl, hb⟩
  have H1 := hide (put_next H0.out hb)
  obtain ⟨⟨t0, t1, t2, t3⟩, ⟨r0, r1⟩, f0, f1⟩ := H1.out.2.2.facts
  clear hb H0
  go_wp2_with fail
  clear t0 t1 t2 t3 r0 r1 f0 f1
  refine (HL.out _ H1.out.1).mono ?_
  rintro e w2 ⟨rfl, hb⟩
  have H2 := hide (put_next H1.out hb)
  obtain ⟨⟨t0, t1, t2, t3⟩, ⟨r0, r1⟩, f0, f1⟩ := H2.out.2.2.facts
  clear hb H1
  go_wp2_with fail
  exact bodyPost_ret (v := .tuple #[.agg #[.int .i64 0, .int .i64 0], .int .i64 5]) (by simp [results, Try.results9, go_sem, r0, r1]) rfl ⟨rfl, put_below H2.out _ _⟩

set_option maxHeartbeats 1000000 in
set_option maxRecDepth 100000 in
theorem put_e3 (hp : Nat) (k u : Int) (s : ByteArray) (a : Option Addr) (l c : Nat) (w : World) (z : Int)
    (HC : Hid (∀ w1, Below w.heap.size w w1 → Calls Try.prog 21 #[.agg #[.int .i64 k, .int .i64 u, .string s, .slice a l c]] w1 fun e w' => e = .returned (.int .i64 0) ∧ Below w1.heap.size w1 w'))
    (HL : Hid (∀ w1, Below w.heap.size w w1 → Calls Try.prog 22 #[.agg #[.int .i64 k, .int .i64 u, .string s, .slice a l c]] w1 fun e w' => e = .returned (.bool true) ∧ Below w1.heap.size w1 w'))
    (HS : Hid (∀ w1, Below w.heap.size w w1 → Calls Try.prog 24 #[.agg #[.int .i64 k, .int .i64 u, .string s, .slice a l c]] w1 fun e w' => e = .returned (.int .i64 z) ∧ Below w1.heap.size w1 w'))
    (HF : Hid (∀ w1, Below w.heap.size w w1 → Calls Try.prog 23 #[.pointer (some ⟨hp, 0, none⟩), .int .i64 z] w1 fun e w' => e = .returned (.bool false) ∧ Below w1.heap.size w1 w')) :
    Calls Try.prog 9 #[.pointer (some ⟨hp, 0, none⟩), .agg #[.int .i64 k, .int .i64 u, .string s, .slice a l c]] w fun e w' => e = .returned (.tuple #[.agg #[.int .i64 0, .int .i64 0], .int .i64 6]) ∧ Below w.heap.size w w' := by
  go_enter Try.func9, Try.ntmps9
  go_wp2_with fail
  generalize hw0 : (w.alloc (Obj.cells #[.int .i64 k, .int .i64 u, .string s, .slice a l c] 32)).alloc (Obj.cells #[.int .i64 0, .int .i64 0] 38) = w0
  have H0 : Hid (Below w.heap.size w w0 ∧ w.heap.size + 2 ≤ w0.heap.size ∧ PutBox w.heap.size k u s a l c w0) := by
    subst hw0
    exact ⟨((Below.refl _ _).alloc (Nat.le_refl _) _).alloc (by simp) _, by simp, put_box _ _ _ _ _ _ _⟩
  clear hw0
  refine (HC.out _ H0.out.1).mono ?_
  rintro e w1 ⟨rfl, hb⟩
  have H1 := hide (put_next H0.out hb)
  obtain ⟨⟨t0, t1, t2, t3⟩, ⟨r0, r1⟩, f0, f1⟩ := H1.out.2.2.facts
  clear hb H0
  go_wp2_with fail
  clear t0 t1 t2 t3 r0 r1 f0 f1
  refine (HL.out _ H1.out.1).mono ?_
  rintro e w2 ⟨rfl, hb⟩
  have H2 := hide (put_next H1.out hb)
  obtain ⟨⟨t0, t1, t2, t3⟩, ⟨r0, r1⟩, f0, f1⟩ := H2.out.2.2.facts
  clear hb H1
  go_wp2_with fail
  clear t0 t1 t2 t3 r0 r1 f0 f1
  refine (HS.out _ H2.out.1).mono ?_
  rintro e w3 ⟨rfl, hb⟩
  have H3 := hide (put_next H2.out hb)
  obtain ⟨⟨t0, t1, t2, t3⟩, ⟨r0, r1⟩, f0, f1⟩ := H3.out.2.2.facts
  clear hb H2
  go_wp2_with fail
  clear t0 t1 t2 t3 r0 r1 f0 f1
  refine (HF.out _ H3.out.1).mono ?_
  rintro e w4 ⟨rfl, hb⟩
  have H4 := hide (put_next H3.out hb)
  obtain ⟨⟨t0, t1, t2, t3⟩, ⟨r0, r1⟩, f0, f1⟩ := H4.out.2.2.facts
  clear hb H3
  go_wp2_with fail
  exact bodyPost_ret (v := .tuple #[.agg #[.int .i64 0, .int .i64 0], .int .i64 6]) (by simp [results, Try.results9, go_sem, r0, r1]) rfl ⟨rfl, put_below H4.out _ _⟩

set_option maxHeartbeats 1000000 in
set_option maxRecDepth 100000 in
theorem put_ok (hp : Nat) (k u : Int) (s : ByteArray) (a : Option Addr) (l c : Nat) (w : World) (z : Int) (V : Wd) (base : Nat) (room : Int) (ws : List Wd) (nm : List ByteArray) (M : Nat → Prop)
    (HC : Hid (∀ w1, Below w.heap.size w w1 → Calls Try.prog 21 #[.agg #[.int .i64 k, .int .i64 u, .string s, .slice a l c]] w1 fun e w' => e = .returned (.int .i64 0) ∧ Below w1.heap.size w1 w'))
    (HL : Hid (∀ w1, Below w.heap.size w w1 → Calls Try.prog 22 #[.agg #[.int .i64 k, .int .i64 u, .string s, .slice a l c]] w1 fun e w' => e = .returned (.bool true) ∧ Below w1.heap.size w1 w'))
    (HS : Hid (∀ w1, Below w.heap.size w w1 → Calls Try.prog 24 #[.agg #[.int .i64 k, .int .i64 u, .string s, .slice a l c]] w1 fun e w' => e = .returned (.int .i64 z) ∧ Below w1.heap.size w1 w'))
    (HF : Hid (∀ w1, Below w.heap.size w w1 → Calls Try.prog 23 #[.pointer (some ⟨hp, 0, none⟩), .int .i64 z] w1 fun e w' => e = .returned (.bool true) ∧ Below w1.heap.size w1 w'))
    (HY : Hid (∀ w1, Below w.heap.size w w1 → Calls Try.prog 25 #[.pointer (some ⟨hp, 0, none⟩), .agg #[.int .i64 k, .int .i64 u, .string s, .slice a l c]] w1 fun e w' => e = .returned (.agg #[.int .i64 V.1, .int .i64 V.2]) ∧ Hid (Laid base hp room ws nm (fun b => M b ∧ b < w.heap.size) w1 w'))) :
    Calls Try.prog 9 #[.pointer (some ⟨hp, 0, none⟩), .agg #[.int .i64 k, .int .i64 u, .string s, .slice a l c]] w fun e w' => e = .returned (.tuple #[.agg #[.int .i64 V.1, .int .i64 V.2], .int .i64 0]) ∧ Hid (Laid base hp room ws nm M w w') := by
  go_enter Try.func9, Try.ntmps9
  go_wp2_with fail
  generalize hw0 : (w.alloc (Obj.cells #[.int .i64 k, .int .i64 u, .string s, .slice a l c] 32)).alloc (Obj.cells #[.int .i64 0, .int .i64 0] 38) = w0
  have H0 : Hid (Below w.heap.size w w0 ∧ w.heap.size + 2 ≤ w0.heap.size ∧ PutBox w.heap.size k u s a l c w0) := by
    subst hw0
    exact ⟨((Below.refl _ _).alloc (Nat.le_refl _) _).alloc (by simp) _, by simp, put_box _ _ _ _ _ _ _⟩
  clear hw0
  refine (HC.out _ H0.out.1).mono ?_
  rintro e w1 ⟨rfl, hb⟩
  have H1 := hide (put_next H0.out hb)
  obtain ⟨⟨t0, t1, t2, t3⟩, ⟨r0, r1⟩, f0, f1⟩ := H1.out.2.2.facts
  clear hb H0
  go_wp2_with fail
  clear t0 t1 t2 t3 r0 r1 f0 f1
  refine (HL.out _ H1.out.1).mono ?_
  rintro e w2 ⟨rfl, hb⟩
  have H2 := hide (put_next H1.out hb)
  obtain ⟨⟨t0, t1, t2, t3⟩, ⟨r0, r1⟩, f0, f1⟩ := H2.out.2.2.facts
  clear hb H1
  go_wp2_with fail
  clear t0 t1 t2 t3 r0 r1 f0 f1
  refine (HS.out _ H2.out.1).mono ?_
  rintro e w3 ⟨rfl, hb⟩
  have H3 := hide (put_next H2.out hb)
  obtain ⟨⟨t0, t1, t2, t3⟩, ⟨r0, r1⟩, f0, f1⟩ := H3.out.2.2.facts
  clear hb H2
  go_wp2_with fail
  clear t0 t1 t2 t3 r0 r1 f0 f1
  refine (HF.out _ H3.out.1).mono ?_
  rintro e w4 ⟨rfl, hb⟩
  have H4 := hide (put_next H3.out hb)
  obtain ⟨⟨t0, t1, t2, t3⟩, ⟨r0, r1⟩, f0, f1⟩ := H4.out.2.2.facts
  clear hb H3
  go_wp2_with fail
  refine (HY.out _ H4.out.1).mono ?_
  rintro e w5 ⟨rfl, HLD⟩
  have hcc := laid_cells HLD.out
  have d0 := (hcc (w.heap.size + 1) (by omega) (by have := H4.out.2.1; omega) 0).1.trans r0
  have d1 := (hcc (w.heap.size + 1) (by omega) (by have := H4.out.2.1; omega) 1).1.trans r1
  have g0 := (hcc (w.heap.size + 1) (by omega) (by have := H4.out.2.1; omega) 0).2.trans f0
  have g1 := (hcc (w.heap.size + 1) (by omega) (by have := H4.out.2.1; omega) 1).2.trans f1
  have HE := hide (laid_box HLD.out H4.out.1 H4.out.2.1 (.int .i64 V.1) (.int .i64 V.2))
  clear hcc t0 t1 t2 t3 r0 r1 f0 f1 HLD
  go_wp2_with fail
  exact bodyPost_ret (v := .tuple #[.agg #[.int .i64 V.1, .int .i64 V.2], .int .i64 0]) (by simp [results, Try.results9, go_sem, d0, d1]) rfl ⟨rfl, HE.out⟩
end Go.Proofs.Ytdlckjjfbobmpaa
namespace Go.Proofs.Ytdlckjjfbobmpaa
open Go.RowKit

theorem nodes_le : (n : Nat) → (x : Tm n) → RightA ⟨n, x⟩ → ((nodes n x).length : Int) ≤ sz n x + 1
  | 0, _, _ => by simp [nodes, sz]
  | n + 1, x, h => by
    have gx := good_parts (hdOf n x) (h (hdOf n x) (by simp [nodes, hdOf]))
    by_cases h4 : x.1.1 = 4
    · have key : ∀ l : List (Tm n), (∀ y ∈ l, RightA ⟨n, y⟩) → ((l.flatMap fun y => nodes n y).length : Int) ≤ (l.map fun y => 1 + sz n y).sum := by
        intro l
        induction l with
        | nil => intro _; simp
        | cons y l ih =>
          intro hl
          have h1 := nodes_le n y (hl y (by simp))
          have h2 := ih (fun z hz => hl z (by simp [hz]))
          simp only [List.flatMap_cons, List.length_append, List.map_cons, List.sum_cons]
          omega
      have k := key x.2.2 (fun y hy => parts_right n x y h hy)
      simp only [nodes, List.length_cons, sz, if_pos h4]
      omega
    · have : x.2.2 = [] := List.eq_nil_of_length_eq_zero (gx.2.2.2.2 h4)
      simp [nodes, this, sz, h4]

theorem chk_form {n : Nat} {x : Tm n} (h : chk n x = 0) : formedB n x = true := by
  rw [← tchk_chk] at h
  unfold tchk at h
  cases hf : formedB n x
  · simp [hf] at h
  · rfl

/-- What Put says. -/
def putE (n : Nat) (x : Tm n) (room : Int) (ws : List Wd) : Int := if chk n x ≠ 0 then chk n x else if closedT n x = false then 5 else if decide (sz n x ≤ room - ws.length) = false then 6 else 0
def PutOut (n : Nat) (x : Tm n) (base hp : Nat) (room : Int) (ws : List Wd) (nm : List ByteArray) (M : Nat → Prop) (w : World) (e : Ending) (w' : World) : Prop :=
  (putE n x room ws ≠ 0 → e = .returned (.tuple #[wdV (0, 0), .int .i64 (putE n x room ws)]) ∧ Below w.heap.size w w') ∧
  (putE n x room ws = 0 → (chk n x = 0 ∧ closedT n x = true ∧ sz n x ≤ room - ws.length) ∧ e = .returned (.tuple #[wdV (layF n x ws nm).1, .int .i64 0]) ∧ Laid base hp room (layF n x ws nm).2.1 (layF n x ws nm).2.2 M w w')

theorem hput_any (n : Nat) (x : Tm n) (base hp : Nat) (room : Int) (ws : List Wd) (nm : List ByteArray) (M : Nat → Prop) (w : World) (h : HpAt base hp room ws nm M w) (hx : In w.heap.size w n x) (ho : Off (fun b => ¬ M b) n x) (hN : (nodes n x).length ≤ 2097152) (hbw : base ≤ w.heap.size) (hr0 : 0 ≤ room) (hr : room ≤ 1000) (hw : ws.length ≤ 1000) (hn : nm.length ≤ 50000) :
    Calls Try.prog 9 #[.pointer (some ⟨hp, 0, none⟩), val n x] w (PutOut n x base hp room ws nm M w) := by
  cases n with
  | zero => exact hx.elim
  | succ n =>
  have HC : ∀ w1, Below w.heap.size w w1 → Calls Try.prog 21 #[val (n + 1) x] w1 fun e w' => e = .returned (.int .i64 (chk (n + 1) x)) ∧ Below w1.heap.size w1 w' := fun w1 h1 => tcheck_any (n + 1) x w.heap.size w1 (hx.below h1) h1.size hN
  have HL : ∀ w1, Below w.heap.size w w1 → Calls Try.prog 22 #[val (n + 1) x] w1 fun e w' => e = .returned (.bool (closedT (n + 1) x)) ∧ Below w1.heap.size w1 w' := fun w1 h1 => closed_any (n + 1) x w.heap.size w1 (hx.below h1) h1.size
  have HS : ∀ w1, Below w.heap.size w w1 → Calls Try.prog 24 #[val (n + 1) x] w1 fun e w' => e = .returned (.int .i64 (sz (n + 1) x)) ∧ Below w1.heap.size w1 w' := fun w1 h1 => tsize_any (n + 1) x w.heap.size w1 (hx.below h1) h1.size hN
  have HF : ∀ w1, Below w.heap.size w w1 → Calls Try.prog 23 #[.pointer (some ⟨hp, 0, none⟩), .int .i64 (sz (n + 1) x)] w1 fun e w' => e = .returned (.bool (decide (sz (n + 1) x ≤ room - ws.length))) ∧ Below w1.heap.size w1 w' := by
    intro w1 h1
    obtain ⟨tv, lv, mv, k1, k2, k3, _⟩ := h.later h1
    obtain ⟨ta, tc, rfl⟩ : ∃ ta tc, tv = .slice ta ws.length tc := by
      rcases k2.2 with ⟨e, e0⟩ | ⟨g, c, cur, e, _⟩
      · exact ⟨none, 0, by rw [e, e0]⟩
      · exact ⟨_, c, e⟩
    exact hasFree_any hp room (sz (n + 1) x) ta ws.length tc lv mv w1 (by omega) hr0 hr k1
  by_cases hc : chk (n + 1) x = 0
  · rw [hc] at HC
    by_cases hl : closedT (n + 1) x = false
    · rw [hl] at HL
      have e : putE (n + 1) x room ws = 5 := by simp [putE, hc, hl]
      refine (put_e2 hp x.1.1 x.1.2.1 x.1.2.2 x.2.1.1 x.2.2.length x.2.1.2 w HC HL).mono ?_
      rintro e' w' ⟨rfl, hb⟩
      exact ⟨fun _ => ⟨by rw [e]; rfl, hb⟩, fun h0 => absurd (e.symm.trans h0) (by decide)⟩
    · have hl' : closedT (n + 1) x = true := by simpa using hl
      rw [hl'] at HL
      by_cases hz : sz (n + 1) x ≤ room - ws.length
      · have hd : decide (sz (n + 1) x ≤ room - ws.length) = true := by simpa using hz
        rw [hd] at HF
        have e : putE (n + 1) x room ws = 0 := by simp [putE, hc, hl', hz]
        have hrx : RightA ⟨n + 1, x⟩ := right_formed.2 (chk_form hc)
        have hnl := nodes_le (n + 1) x hrx
        have HY : ∀ w1, Below w.heap.size w w1 → Calls Try.prog 25 #[.pointer (some ⟨hp, 0, none⟩), val (n + 1) x] w1 fun e w' => e = .returned (wdV (layF (n + 1) x ws nm).1) ∧ Hid (Laid base hp room (layF (n + 1) x ws nm).2.1 (layF (n + 1) x ws nm).2.2 (fun b => M b ∧ b < w.heap.size) w1 w') := by
          intro w1 h1
          have hs := h1.size
          exact lay_any (n + 1) x base hp room ws nm _ w1 (h.later h1) ((hx.below h1).mono hs) (ho.mono fun b hb hm => hb hm.1) (by omega) hrx (by omega) (by omega)
        refine (put_ok hp x.1.1 x.1.2.1 x.1.2.2 x.2.1.1 x.2.2.length x.2.1.2 w (sz (n + 1) x) (layF (n + 1) x ws nm).1 base room (layF (n + 1) x ws nm).2.1 (layF (n + 1) x ws nm).2.2 M HC HL HS HF HY).mono ?_
        rintro e' w' ⟨rfl, hb⟩
        exact ⟨fun h0 => absurd e h0, fun _ => ⟨⟨hc, hl', hz⟩, rfl, hb.out⟩⟩
      · have hd : decide (sz (n + 1) x ≤ room - ws.length) = false := by simpa using hz
        rw [hd] at HF
        have e : putE (n + 1) x room ws = 6 := by simp [putE, hc, hl', hz]
        refine (put_e3 hp x.1.1 x.1.2.1 x.1.2.2 x.2.1.1 x.2.2.length x.2.1.2 w (sz (n + 1) x) HC HL HS HF).mono ?_
        rintro e' w' ⟨rfl, hb⟩
        exact ⟨fun _ => ⟨by rw [e]; rfl, hb⟩, fun h0 => absurd (e.symm.trans h0) (by decide)⟩
  · have e : putE (n + 1) x room ws = chk (n + 1) x := by simp [putE, hc]
    refine (put_e1 hp x.1.1 x.1.2.1 x.1.2.2 x.2.1.1 x.2.2.length x.2.1.2 w (chk (n + 1) x) (by simpa using hc) HC).mono ?_
    rintro e' w' ⟨rfl, hb⟩
    exact ⟨fun _ => ⟨by rw [e]; rfl, hb⟩, fun h0 => absurd (e.symm.trans h0) hc⟩

/-- The boxes of a call of Get: the word, and the term that is told. -/
def GetBox (q : Nat) (k u : Int) (w : World) : Prop := w.heap[q]? = some (.cells #[.int .i64 k, .int .i64 u] 38) ∧ Box4 (q + 1) w
theorem get_box (w : World) (k u : Int) : GetBox w.heap.size k u ((w.alloc (Obj.cells #[.int .i64 k, .int .i64 u] 38)).alloc (Obj.cells #[.int .i64 0, .int .i64 0, .string ⟨#[]⟩, .slice none 0 0] 32)) := by
  refine ⟨((World.grownBy_alloc (w.alloc (Obj.cells #[.int .i64 k, .int .i64 u] 38)) (Obj.cells #[.int .i64 0, .int .i64 0, .string ⟨#[]⟩, .slice none 0 0] 32) none).block _ (by simp) (by simp)).trans (heap_alloc_new w _), ?_⟩
  have := heap_alloc_new (w.alloc (Obj.cells #[.int .i64 k, .int .i64 u] 38)) (Obj.cells #[.int .i64 0, .int .i64 0, .string ⟨#[]⟩, .slice none 0 0] 32)
  have es : ∀ o, (w.alloc o).heap.size = w.heap.size + 1 := fun o => by simp
  rw [es] at this
  exact this
theorem get_next {k u : Int} {w w1 w2 : World} (h : Below w.heap.size w w1 ∧ w.heap.size + 2 ≤ w1.heap.size ∧ GetBox w.heap.size k u w1) (hb : Below w1.heap.size w1 w2) : Below w.heap.size w w2 ∧ w.heap.size + 2 ≤ w2.heap.size ∧ GetBox w.heap.size k u w2 := by
  obtain ⟨h1, h2, h3⟩ := h
  have := hb.size
  exact ⟨h1.trans (hb.mono h1.size), by omega, (hb.block _ (by omega)).trans h3.1, (hb.block _ (by omega)).trans h3.2⟩
theorem GetBox.cells {q : Nat} {k u : Int} {w : World} (h : GetBox q k u w) : w.cell? ⟨q, 0, none⟩ = some (.int .i64 k) ∧ w.cell? ⟨q, 1, none⟩ = some (.int .i64 u) := by
  obtain ⟨h1, _⟩ := h
  refine ⟨?_, ?_⟩
  all_goals simp [World.cell?, h1]

set_option maxHeartbeats 1000000 in
set_option maxRecDepth 100000 in
theorem get_bad (hp : Nat) (k u : Int) (w : World) (HC : Hid (∀ w1, Below w.heap.size w w1 → Calls Try.prog 33 #[.pointer (some ⟨hp, 0, none⟩), .agg #[.int .i64 k, .int .i64 u]] w1 fun e w' => e = .returned (.bool false) ∧ Below w1.heap.size w1 w')) :
    Calls Try.prog 18 #[.pointer (some ⟨hp, 0, none⟩), .agg #[.int .i64 k, .int .i64 u]] w fun e w' => e = .returned (.tuple #[.agg #[.int .i64 0, .int .i64 0, .string .empty, .slice none 0 0], .int .i64 1]) ∧ Below w.heap.size w w' := by
  go_enter Try.func18, Try.ntmps18
  go_wp2_with fail
  generalize hw0 : (w.alloc (Obj.cells #[.int .i64 k, .int .i64 u] 38)).alloc (Obj.cells #[.int .i64 0, .int .i64 0, .string ⟨#[]⟩, .slice none 0 0] 32) = w0
  have H0 : Hid (Below w.heap.size w w0 ∧ w.heap.size + 2 ≤ w0.heap.size ∧ GetBox w.heap.size k u w0) := by
    subst hw0
    exact ⟨((Below.refl _ _).alloc (Nat.le_refl _) _).alloc (by simp) _, by simp, get_box _ _ _⟩
  clear hw0
  refine (HC.out _ H0.out.1).mono ?_
  rintro e w1 ⟨rfl, hb⟩
  have H1 := hide (get_next H0.out hb)
  obtain ⟨⟨q0, q1, q2, q3⟩, f0⟩ := H1.out.2.2.2.cells
  have HE := hide (fun v0 v1 v2 v3 => box_put H0.out.1 hb v0 v1 v2 v3)
  clear hb H0
  go_wp2_with fail
  exact bodyPost_ret (v := .tuple #[.agg #[.int .i64 0, .int .i64 0, .string .empty, .slice none 0 0], .int .i64 1]) (by simp [results, Try.results18, go_sem, q0, q1, q2, q3]; rfl) rfl ⟨rfl, HE.out _ _ _ _⟩

set_option maxHeartbeats 1000000 in
set_option maxRecDepth 100000 in
theorem get_ok (n : Nat) (x : Tm (n + 1)) (hp : Nat) (k u : Int) (w : World) (HC : Hid (∀ w1, Below w.heap.size w w1 → Calls Try.prog 33 #[.pointer (some ⟨hp, 0, none⟩), .agg #[.int .i64 k, .int .i64 u]] w1 fun e w' => e = .returned (.bool true) ∧ Below w1.heap.size w1 w'))
    (HT : Hid (∀ w1, Below w.heap.size w w1 → Calls Try.prog 34 #[.pointer (some ⟨hp, 0, none⟩), .agg #[.int .i64 k, .int .i64 u]] w1 fun e w' => ∃ y : Tm (n + 1), e = .returned (val (n + 1) y) ∧ Hid (Below w1.heap.size w1 w' ∧ In w'.heap.size w' (n + 1) y ∧ Off (fun q => w1.heap.size ≤ q) (n + 1) y ∧ same (n + 1) y (n + 1) x = true))) :
    Calls Try.prog 18 #[.pointer (some ⟨hp, 0, none⟩), .agg #[.int .i64 k, .int .i64 u]] w fun e w' => ∃ y : Tm (n + 1), e = .returned (.tuple #[val (n + 1) y, .int .i64 0]) ∧ Hid (Below w.heap.size w w' ∧ In w'.heap.size w' (n + 1) y ∧ Off (fun q => w.heap.size ≤ q) (n + 1) y ∧ same (n + 1) y (n + 1) x = true) := by
  go_enter Try.func18, Try.ntmps18
  go_wp2_with fail
  generalize hw0 : (w.alloc (Obj.cells #[.int .i64 k, .int .i64 u] 38)).alloc (Obj.cells #[.int .i64 0, .int .i64 0, .string ⟨#[]⟩, .slice none 0 0] 32) = w0
  have H0 : Hid (Below w.heap.size w w0 ∧ w.heap.size + 2 ≤ w0.heap.size ∧ GetBox w.heap.size k u w0) := by
    subst hw0
    exact ⟨((Below.refl _ _).alloc (Nat.le_refl _) _).alloc (by simp) _, by simp, get_box _ _ _⟩
  clear hw0
  refine (HC.out _ H0.out.1).mono ?_
  rintro e w1 ⟨rfl, hb⟩
  have H1 := hide (get_next H0.out hb)
  obtain ⟨t0, t1⟩ := H1.out.2.2.cells
  clear hb H0
  go_wp2_with fail
  refine (HT.out _ H1.out.1).mono ?_
  rintro e w2 ⟨y, rfl, HY⟩
  have H2 := hide (get_next H1.out HY.out.1)
  obtain ⟨⟨q0, q1, q2, q3⟩, f0⟩ := H2.out.2.2.2.cells
  have HE : Hid (∀ v0 v1 v2 v3, Below w.heap.size w (put4 w2 (w.heap.size + 1) 0 v0 v1 v2 v3) ∧ In (put4 w2 (w.heap.size + 1) 0 v0 v1 v2 v3).heap.size (put4 w2 (w.heap.size + 1) 0 v0 v1 v2 v3) (n + 1) y ∧ Off (fun q => w.heap.size ≤ q) (n + 1) y ∧ same (n + 1) y (n + 1) x = true) := by
    intro v0 v1 v2 v3
    obtain ⟨k1, k2, k3, k4⟩ := HY.out
    have hs := H1.out.2.1
    refine ⟨box_put H1.out.1 k1 v0 v1 v2 v3, ?_, k3.mono fun q hq => by omega, k4⟩
    rw [put4_size]
    exact In.off (fun q hq => put4_block (by omega) _ _ _ _) k3 k2
  have e3 : val (n + 1) y = .agg #[.int .i64 y.1.1, .int .i64 y.1.2.1, .string y.1.2.2, .slice y.2.1.1 y.2.2.length y.2.1.2] := rfl
  rw [e3]
  clear t0 t1 HY H1 e3
  go_wp2_with fail
  exact bodyPost_ret (v := .tuple #[val (n + 1) y, .int .i64 0]) (by simp [results, Try.results18, go_sem, q0, q1, q2, q3, val]) rfl ⟨y, rfl, HE.out _ _ _ _⟩
end Go.Proofs.Ytdlckjjfbobmpaa
namespace Go.Proofs.Ytdlckjjfbobmpaa
open Go.RowKit

theorem pre_at {α : Type} {l l' : List α} (h : l <+: l') {i : Nat} {x : α} (hx : l[i]? = some x) : l'[i]? = some x := by
  obtain ⟨r, rfl⟩ := h
  rw [List.getElem?_append_left (List.getElem?_eq_some_iff.1 hx).1]
  exact hx
theorem Stands.mono {ws ws' : List Wd} {nm nm' : List ByteArray} (h1 : ws <+: ws') (h2 : nm <+: nm') : {n : Nat} → {x : Tm n} → {v : Wd} → Stands ws nm n x v → Stands ws' nm' n x v
  | 0, _, _, h => h
  | n + 1, x, v, h => by
    obtain ⟨a, b, c⟩ := h
    refine ⟨fun e => ?_, fun e => ?_, c⟩
    · obtain ⟨i, e1, e2⟩ := a e
      exact ⟨i, e1, pre_at h2 e2⟩
    · obtain ⟨p, e1, e2, e3, e4⟩ := b e
      refine ⟨p, e1, pre_at h1 e2, Nat.le_trans e3 h1.length_le, fun i y hy => ?_⟩
      obtain ⟨u, e5, e6⟩ := e4 i y hy
      exact ⟨u, pre_at h1 e5, e6.mono h1 h2⟩

theorem nmPut_pre (nm : List ByteArray) (s : ByteArray) : nm <+: nmPut nm s := by
  unfold nmPut
  split
  · exact List.prefix_refl _
  · exact List.prefix_append _ _
theorem layL_pre {n : Nat} (h : ∀ (x : Tm n) (ws : List Wd) (nm : List ByteArray), ws <+: (layF n x ws nm).2.1 ∧ nm <+: (layF n x ws nm).2.2) (l : List (Tm n)) (ws : List Wd) (nm : List ByteArray) : ws <+: (layL (layF n) l ws nm).2.1 ∧ nm <+: (layL (layF n) l ws nm).2.2 := by
  induction l generalizing ws nm with
  | nil => exact ⟨List.prefix_refl _, List.prefix_refl _⟩
  | cons y l ih =>
    obtain ⟨a, b⟩ := h y ws nm
    obtain ⟨c, d⟩ := ih (layF n y ws nm).2.1 (layF n y ws nm).2.2
    exact ⟨a.trans c, b.trans d⟩
theorem layF_pre : (n : Nat) → (x : Tm n) → (ws : List Wd) → (nm : List ByteArray) → ws <+: (layF n x ws nm).2.1 ∧ nm <+: (layF n x ws nm).2.2
  | 0, _, _, _ => ⟨List.prefix_refl _, List.prefix_refl _⟩
  | n + 1, x, ws, nm => by
    by_cases h2 : x.1.1 = 2
    · simp only [layF, if_pos h2]
      exact ⟨List.prefix_refl _, nmPut_pre _ _⟩
    · by_cases h4 : x.1.1 = 4
      · simp only [layF, if_neg h2, if_pos h4]
        obtain ⟨a, b⟩ := layL_pre (layF_pre n) x.2.2 ws nm
        exact ⟨a.trans (List.prefix_append _ _), b⟩
      · simp only [layF, if_neg h2, if_neg h4]
        exact ⟨List.prefix_refl _, List.prefix_refl _⟩

theorem nmPut_at (nm : List ByteArray) (s : ByteArray) : (nmPut nm s)[nmIdx (nmPut nm s) s]? = some s := by
  have hm : s ∈ nmPut nm s := by
    unfold nmPut
    split
    · rename_i h
      exact (nm_any nm s).1 h
    · simp
  have hlt : nmIdx (nmPut nm s) s < (nmPut nm s).length := by
    unfold nmIdx
    rw [List.findIdx_lt_length]
    exact ⟨s, hm, (eqN_iff s s).2 rfl⟩
  have he : (nmPut nm s)[nmIdx (nmPut nm s) s]'hlt = s := (eqN_iff s _).1 (List.findIdx_getElem (w := hlt))
  rw [List.getElem?_eq_getElem hlt, he]
theorem layL_stands {n : Nat} (h : ∀ (x : Tm n) (ws : List Wd) (nm : List ByteArray), RightA ⟨n, x⟩ → Stands (layF n x ws nm).2.1 (layF n x ws nm).2.2 n x (layF n x ws nm).1) (l : List (Tm n)) (ws : List Wd) (nm : List ByteArray) (hr : ∀ y ∈ l, RightA ⟨n, y⟩) :
    ∀ (i : Nat) (y : Tm n), l[i]? = some y → ∃ u, (layL (layF n) l ws nm).1[i]? = some u ∧ Stands (layL (layF n) l ws nm).2.1 (layL (layF n) l ws nm).2.2 n y u := by
  induction l generalizing ws nm with
  | nil => intro i y hy; simp at hy
  | cons z l ih =>
    intro i y hy
    cases i with
    | zero =>
      simp at hy
      subst hy
      obtain ⟨a, b⟩ := layL_pre (layF_pre n) l (layF n z ws nm).2.1 (layF n z ws nm).2.2
      exact ⟨(layF n z ws nm).1, rfl, (h z ws nm (hr z (by simp))).mono a b⟩
    | succ i =>
      obtain ⟨u, e1, e2⟩ := ih (layF n z ws nm).2.1 (layF n z ws nm).2.2 (fun y hy => hr y (by simp [hy])) i y (by simpa using hy)
      exact ⟨u, by simpa [layL] using e1, e2⟩
theorem layF_stands : (n : Nat) → (x : Tm n) → (ws : List Wd) → (nm : List ByteArray) → RightA ⟨n, x⟩ → Stands (layF n x ws nm).2.1 (layF n x ws nm).2.2 n x (layF n x ws nm).1
  | 0, _, _, _, h => (zero_bad h).elim
  | n + 1, x, ws, nm, h => by
    by_cases h2 : x.1.1 = 2
    · have h4 : ¬ x.1.1 = 4 := by omega
      simp only [layF, if_pos h2]
      exact ⟨fun _ => ⟨_, rfl, nmPut_at _ _⟩, fun e => absurd e h4, fun e => absurd h2 e⟩
    · by_cases h4 : x.1.1 = 4
      · simp only [layF, if_neg h2, if_pos h4]
        have hl := layL_length (layF n) x.2.2 ws nm
        refine ⟨fun e => absurd e h2, fun _ => ⟨_, rfl, ?_, ?_, fun i y hy => ?_⟩, fun _ e => absurd h4 e⟩
        · rw [List.getElem?_append_right (Nat.le_refl _), Nat.sub_self]
          rfl
        · simp only [List.length_append, List.length_cons, hl]
          omega
        · obtain ⟨u, e1, e2⟩ := layL_stands (layF_stands n) x.2.2 ws nm (fun y hy => parts_right n x y h hy) i y hy
          refine ⟨u, ?_, e2.mono (List.prefix_append _ _) (List.prefix_refl _)⟩
          rw [List.getElem?_append_right (by omega)]
          have : (layL (layF n) x.2.2 ws nm).2.1.length + 1 + i - (layL (layF n) x.2.2 ws nm).2.1.length = i + 1 := by omega
          rw [this]
          simpa using e1
      · simp only [layF, if_neg h2, if_neg h4]
        exact ⟨fun e => absurd e h2, fun e => absurd e h4, fun _ _ => rfl⟩
end Go.Proofs.Ytdlckjjfbobmpaa
namespace Go.Proofs.Ytdlckjjfbobmpaa
open Go.RowKit

def JBox (q : Nat) (w : World) : Prop := w.heap[q]? = some (.cells #[.int .i64 0, .int .i64 0] 38)
theorem JBox.facts {q : Nat} {w : World} (h : JBox q w) : (w.cell? ⟨q, 0, none⟩ = some (.int .i64 0) ∧ w.cell? ⟨q, 1, none⟩ = some (.int .i64 0)) ∧ w.frozen? ⟨q, 0, none⟩ = false ∧ w.frozen? ⟨q, 1, none⟩ = false := by
  unfold JBox at h
  refine ⟨⟨?_, ?_⟩, ?_, ?_⟩
  all_goals simp [World.cell?, World.frozen?, h]
theorem join_next {w w1 w2 : World} (h : Below w.heap.size w w1 ∧ w.heap.size < w1.heap.size ∧ JBox w.heap.size w1) (hb : Below w1.heap.size w1 w2) : Below w.heap.size w w2 ∧ w.heap.size < w2.heap.size ∧ JBox w.heap.size w2 := by
  obtain ⟨h1, h2, h3⟩ := h
  have := hb.size
  exact ⟨h1.trans (hb.mono h1.size), by omega, (hb.block _ (by omega)).trans h3⟩
theorem join_below {w w1 : World} (h : Below w.heap.size w w1 ∧ w.heap.size < w1.heap.size ∧ JBox w.heap.size w1) (v0 v1 : Value) : Below w.heap.size w ((w1.setCell ⟨w.heap.size, 0, none⟩ v0).setCell ⟨w.heap.size, 1, none⟩ v1) := by
  obtain ⟨h1, h2, h3⟩ := h
  have k1 := keep_set w1 w.heap.size 0 v0
  have k2 := keep_set (w1.setCell ⟨w.heap.size, 0, none⟩ v0) w.heap.size 1 v1
  have k3 := (keep_below h1 (fun b => b = w.heap.size)).trans (k1.trans k2 (fun b _ h => h)) (fun b _ h => h)
  exact ⟨k3.os, k3.tape, k3.output, k3.size, fun b hb => k3.block b hb (by omega)⟩
theorem laid_box0 {base hp : Nat} {room : Int} {ws : List Wd} {nm : List ByteArray} {M : Nat → Prop} {w wA w2 : World} (h : Laid base hp room ws nm (fun b => M b ∧ b < w.heap.size) wA w2) (hA : Below w.heap.size w wA) (hs : w.heap.size < wA.heap.size) (v0 v1 : Value) :
    Laid base hp room ws nm M w ((w2.setCell ⟨w.heap.size, 0, none⟩ v0).setCell ⟨w.heap.size, 1, none⟩ v1) := by
  obtain ⟨h1, h2⟩ := h
  have k1 := keep_set w2 w.heap.size 0 v0
  have k2 := keep_set (w2.setCell ⟨w.heap.size, 0, none⟩ v0) w.heap.size 1 v1
  have k3 := k1.trans k2 (fun b _ h => h)
  refine ⟨(h1.kept k3 ?_).mono ?_, ?_⟩
  · rintro b (⟨_, hb⟩ | hb) _ e <;> omega
  · rintro b (⟨hm, _⟩ | hb)
    · exact Or.inl hm
    · exact Or.inr (by omega)
  · refine ((keep_below hA M).trans h2 ?_).trans k3 ?_
    · exact fun b _ h => h.1
    · intro b hb h
      omega

set_option maxHeartbeats 1000000 in
set_option maxRecDepth 100000 in
theorem join_e0 (hp : Nat) (a : Option Addr) (len pc : Nat) (w : World) (h8 : decide ((8 : Int) < (len : Int)) = true) :
    Calls Try.prog 12 #[.pointer (some ⟨hp, 0, none⟩), .slice a len pc] w fun e w' => e = .returned (.tuple #[.agg #[.int .i64 0, .int .i64 0], .int .i64 1]) ∧ Below w.heap.size w w' := by
  go_enter Try.func12, Try.ntmps12
  go_wp2_with fail
  exact bodyPost_ret (v := .tuple #[.agg #[.int .i64 0, .int .i64 0], .int .i64 1]) (by simp [results, Try.results12, go_sem]) rfl ⟨rfl, by go_grown⟩

set_option maxHeartbeats 1000000 in
set_option maxRecDepth 100000 in
theorem join_e1 (hp : Nat) (a : Option Addr) (len pc : Nat) (w : World) (h8 : decide ((8 : Int) < (len : Int)) = false)
    (HA : Hid (∀ w1, Below w.heap.size w w1 → Calls Try.prog 28 #[.pointer (some ⟨hp, 0, none⟩), .slice a len pc] w1 fun e w' => e = .returned (.bool false) ∧ Below w1.heap.size w1 w')) :
    Calls Try.prog 12 #[.pointer (some ⟨hp, 0, none⟩), .slice a len pc] w fun e w' => e = .returned (.tuple #[.agg #[.int .i64 0, .int .i64 0], .int .i64 1]) ∧ Below w.heap.size w w' := by
  go_enter Try.func12, Try.ntmps12
  go_wp2_with fail
  generalize hw0 : w.alloc (Obj.cells #[.int .i64 0, .int .i64 0] 38) = w0
  have H0 : Hid (Below w.heap.size w w0 ∧ w.heap.size < w0.heap.size ∧ JBox w.heap.size w0) := by
    subst hw0
    exact ⟨(Below.refl _ _).alloc (Nat.le_refl _) _, by simp, heap_alloc_new w _⟩
  clear hw0
  refine (HA.out _ H0.out.1).mono ?_
  rintro e w1 ⟨rfl, hb⟩
  have H1 := hide (join_next H0.out hb)
  obtain ⟨⟨r0, r1⟩, f0, f1⟩ := H1.out.2.2.facts
  clear hb H0
  go_wp2_with fail
  exact bodyPost_ret (v := .tuple #[.agg #[.int .i64 0, .int .i64 0], .int .i64 1]) (by simp [results, Try.results12, go_sem, r0, r1]) rfl ⟨rfl, join_below H1.out _ _⟩

set_option maxHeartbeats 1000000 in
set_option maxRecDepth 100000 in
theorem join_e2 (hp : Nat) (a : Option Addr) (len pc : Nat) (w : World) (h8 : decide ((8 : Int) < (len : Int)) = false) (hlen : len ≤ 8)
    (HA : Hid (∀ w1, Below w.heap.size w w1 → Calls Try.prog 28 #[.pointer (some ⟨hp, 0, none⟩), .slice a len pc] w1 fun e w' => e = .returned (.bool true) ∧ Below w1.heap.size w1 w'))
    (HF : Hid (∀ w1, Below w.heap.size w w1 → Calls Try.prog 23 #[.pointer (some ⟨hp, 0, none⟩), .int .i64 (1 + (len : Int))] w1 fun e w' => e = .returned (.bool false) ∧ Below w1.heap.size w1 w')) :
    Calls Try.prog 12 #[.pointer (some ⟨hp, 0, none⟩), .slice a len pc] w fun e w' => e = .returned (.tuple #[.agg #[.int .i64 0, .int .i64 0], .int .i64 6]) ∧ Below w.heap.size w w' := by
  go_enter Try.func12, Try.ntmps12
  go_wp2_with fail
  generalize hw0 : w.alloc (Obj.cells #[.int .i64 0, .int .i64 0] 38) = w0
  have H0 : Hid (Below w.heap.size w w0 ∧ w.heap.size < w0.heap.size ∧ JBox w.heap.size w0) := by
    subst hw0
    exact ⟨(Below.refl _ _).alloc (Nat.le_refl _) _, by simp, heap_alloc_new w _⟩
  clear hw0
  refine (HA.out _ H0.out.1).mono ?_
  rintro e w1 ⟨rfl, hb⟩
  have H1 := hide (join_next H0.out hb)
  obtain ⟨⟨r0, r1⟩, f0, f1⟩ := H1.out.2.2.facts
  clear hb H0
  go_wp2_with fail
  clear r0 r1 f0 f1
  refine (HF.out _ H1.out.1).mono ?_
  rintro e w2 ⟨rfl, hb⟩
  have H2 := hide (join_next H1.out hb)
  obtain ⟨⟨r0, r1⟩, f0, f1⟩ := H2.out.2.2.facts
  clear hb H1
  go_wp2_with fail
  exact bodyPost_ret (v := .tuple #[.agg #[.int .i64 0, .int .i64 0], .int .i64 6]) (by simp [results, Try.results12, go_sem, r0, r1]) rfl ⟨rfl, join_below H2.out _ _⟩

set_option maxHeartbeats 1000000 in
set_option maxRecDepth 100000 in
theorem join_e3 (hp : Nat) (a : Option Addr) (len pc : Nat) (w : World) (h8 : decide ((8 : Int) < (len : Int)) = false) (hlen : len ≤ 8) (ce : Int) (hce : (ce != 0) = true)
    (HA : Hid (∀ w1, Below w.heap.size w w1 → Calls Try.prog 28 #[.pointer (some ⟨hp, 0, none⟩), .slice a len pc] w1 fun e w' => e = .returned (.bool true) ∧ Below w1.heap.size w1 w'))
    (HF : Hid (∀ w1, Below w.heap.size w w1 → Calls Try.prog 23 #[.pointer (some ⟨hp, 0, none⟩), .int .i64 (1 + (len : Int))] w1 fun e w' => e = .returned (.bool true) ∧ Below w1.heap.size w1 w'))
    (HT : Hid (∀ w1, Below w.heap.size w w1 → Calls Try.prog 29 #[.pointer (some ⟨hp, 0, none⟩), .slice a len pc] w1 fun e w' => ∃ a' c', e = .returned (.agg #[.int .i64 4, .int .i64 0, .string .empty, .slice a' len c']) ∧ Hid (Below w1.heap.size w1 w' ∧ Calls Try.prog 21 #[.agg #[.int .i64 4, .int .i64 0, .string .empty, .slice a' len c']] w' fun e w2 => e = .returned (.int .i64 ce) ∧ Below w'.heap.size w' w2))) :
    Calls Try.prog 12 #[.pointer (some ⟨hp, 0, none⟩), .slice a len pc] w fun e w' => e = .returned (.tuple #[.agg #[.int .i64 0, .int .i64 0], .int .i64 ce]) ∧ Below w.heap.size w w' := by
  go_enter Try.func12, Try.ntmps12
  go_wp2_with fail
  generalize hw0 : w.alloc (Obj.cells #[.int .i64 0, .int .i64 0] 38) = w0
  have H0 : Hid (Below w.heap.size w w0 ∧ w.heap.size < w0.heap.size ∧ JBox w.heap.size w0) := by
    subst hw0
    exact ⟨(Below.refl _ _).alloc (Nat.le_refl _) _, by simp, heap_alloc_new w _⟩
  clear hw0
  refine (HA.out _ H0.out.1).mono ?_
  rintro e w1 ⟨rfl, hb⟩
  have H1 := hide (join_next H0.out hb)
  obtain ⟨⟨r0, r1⟩, f0, f1⟩ := H1.out.2.2.facts
  clear hb H0
  go_wp2_with fail
  clear r0 r1 f0 f1
  refine (HF.out _ H1.out.1).mono ?_
  rintro e w2 ⟨rfl, hb⟩
  have H2 := hide (join_next H1.out hb)
  obtain ⟨⟨r0, r1⟩, f0, f1⟩ := H2.out.2.2.facts
  clear hb H1
  go_wp2_with fail
  clear r0 r1 f0 f1
  refine (HT.out _ H2.out.1).mono ?_
  rintro e w3 ⟨a', c', rfl, hb⟩
  have H3 := hide (join_next H2.out hb.out.1)
  have HK := hide hb.out.2
  clear hb H2
  go_wp2_with fail
  refine HK.out.mono ?_
  rintro e w4 ⟨rfl, hb⟩
  have H4 := hide (join_next H3.out hb)
  obtain ⟨⟨r0, r1⟩, f0, f1⟩ := H4.out.2.2.facts
  clear hb H3 HK
  go_wp2_with fail
  exact bodyPost_ret (v := .tuple #[.agg #[.int .i64 0, .int .i64 0], .int .i64 ce]) (by simp [results, Try.results12, go_sem, r0, r1]) rfl ⟨rfl, join_below H4.out _ _⟩

set_option maxHeartbeats 1000000 in
set_option maxRecDepth 100000 in
theorem join_ok (hp : Nat) (a : Option Addr) (len pc : Nat) (w : World) (h8 : decide ((8 : Int) < (len : Int)) = false) (hlen : len ≤ 8) (V : Wd) (base : Nat) (room : Int) (ws : List Wd) (nm : List ByteArray) (M : Nat → Prop)
    (HA : Hid (∀ w1, Below w.heap.size w w1 → Calls Try.prog 28 #[.pointer (some ⟨hp, 0, none⟩), .slice a len pc] w1 fun e w' => e = .returned (.bool true) ∧ Below w1.heap.size w1 w'))
    (HF : Hid (∀ w1, Below w.heap.size w w1 → Calls Try.prog 23 #[.pointer (some ⟨hp, 0, none⟩), .int .i64 (1 + (len : Int))] w1 fun e w' => e = .returned (.bool true) ∧ Below w1.heap.size w1 w'))
    (HT : Hid (∀ w1, Below w.heap.size w w1 → Calls Try.prog 29 #[.pointer (some ⟨hp, 0, none⟩), .slice a len pc] w1 fun e w' => ∃ a' c', e = .returned (.agg #[.int .i64 4, .int .i64 0, .string .empty, .slice a' len c']) ∧ Hid (Below w1.heap.size w1 w' ∧ Calls Try.prog 21 #[.agg #[.int .i64 4, .int .i64 0, .string .empty, .slice a' len c']] w' fun e w2 => e = .returned (.int .i64 0) ∧ Below w'.heap.size w' w2)))
    (HY : Hid (∀ w1, Below w.heap.size w w1 → Calls Try.prog 30 #[.pointer (some ⟨hp, 1, none⟩), .slice a len pc] w1 fun e w' => e = .returned (.agg #[.int .i64 V.1, .int .i64 V.2]) ∧ Hid (Laid base hp room ws nm (fun b => M b ∧ b < w.heap.size) w1 w'))) :
    Calls Try.prog 12 #[.pointer (some ⟨hp, 0, none⟩), .slice a len pc] w fun e w' => e = .returned (.tuple #[.agg #[.int .i64 V.1, .int .i64 V.2], .int .i64 0]) ∧ Hid (Laid base hp room ws nm M w w') := by
  go_enter Try.func12, Try.ntmps12
  go_wp2_with fail
  generalize hw0 : w.alloc (Obj.cells #[.int .i64 0, .int .i64 0] 38) = w0
  have H0 : Hid (Below w.heap.size w w0 ∧ w.heap.size < w0.heap.size ∧ JBox w.heap.size w0) := by
    subst hw0
    exact ⟨(Below.refl _ _).alloc (Nat.le_refl _) _, by simp, heap_alloc_new w _⟩
  clear hw0
  refine (HA.out _ H0.out.1).mono ?_
  rintro e w1 ⟨rfl, hb⟩
  have H1 := hide (join_next H0.out hb)
  obtain ⟨⟨r0, r1⟩, f0, f1⟩ := H1.out.2.2.facts
  clear hb H0
  go_wp2_with fail
  clear r0 r1 f0 f1
  refine (HF.out _ H1.out.1).mono ?_
  rintro e w2 ⟨rfl, hb⟩
  have H2 := hide (join_next H1.out hb)
  obtain ⟨⟨r0, r1⟩, f0, f1⟩ := H2.out.2.2.facts
  clear hb H1
  go_wp2_with fail
  clear r0 r1 f0 f1
  refine (HT.out _ H2.out.1).mono ?_
  rintro e w3 ⟨a', c', rfl, hb⟩
  have H3 := hide (join_next H2.out hb.out.1)
  have HK := hide hb.out.2
  clear hb H2
  go_wp2_with fail
  refine HK.out.mono ?_
  rintro e w4 ⟨rfl, hb⟩
  have H4 := hide (join_next H3.out hb)
  obtain ⟨⟨r0, r1⟩, f0, f1⟩ := H4.out.2.2.facts
  clear hb H3 HK
  go_wp2_with fail
  refine (HY.out _ H4.out.1).mono ?_
  rintro e w5 ⟨rfl, HLD⟩
  have hcc := laid_cells HLD.out
  have d0 := (hcc w.heap.size (Nat.le_refl _) H4.out.2.1 0).1.trans r0
  have d1 := (hcc w.heap.size (Nat.le_refl _) H4.out.2.1 1).1.trans r1
  have g0 := (hcc w.heap.size (Nat.le_refl _) H4.out.2.1 0).2.trans f0
  have g1 := (hcc w.heap.size (Nat.le_refl _) H4.out.2.1 1).2.trans f1
  have HE := hide (laid_box0 HLD.out H4.out.1 H4.out.2.1 (.int .i64 V.1) (.int .i64 V.2))
  clear hcc r0 r1 f0 f1 HLD
  go_wp2_with fail
  exact bodyPost_ret (v := .tuple #[.agg #[.int .i64 V.1, .int .i64 V.2], .int .i64 0]) (by simp [results, Try.results12, go_sem, d0, d1]) rfl ⟨rfl, HE.out⟩
end Go.Proofs.Ytdlckjjfbobmpaa
