/- What is proved here: heap.term and heap.tupleOf: the term that a word stands for, in new memory. No condition but that the word stands for a right term. -/
import Derived.Test.YtfaoeccnhbcjgabHp6
namespace Go.Proofs.Ytfaoeccnhbcjgab
open Go.RowKit

/-- A word stands for a term. -/
def Stands (ws : List Wd) (nm : List ByteArray) : (n : Nat) → Tm n → Wd → Prop
  | 0, _, _ => False
  | n + 1, x, v => (x.1.1 = 2 → ∃ i : Nat, v = (2, (i : Int)) ∧ nm[i]? = some x.1.2.2) ∧
      (x.1.1 = 4 → ∃ p : Nat, v = (4, (p : Int)) ∧ ws[p]? = some (0, (x.2.2.length : Int)) ∧ p + 1 + x.2.2.length ≤ ws.length ∧ ∀ (i : Nat) (y : Tm n), x.2.2[i]? = some y → ∃ u, ws[p + 1 + i]? = some u ∧ Stands ws nm n y u) ∧
      (x.1.1 ≠ 2 → x.1.1 ≠ 4 → v = (x.1.1, x.1.2.1))

/-- Words, in memory. -/
def WordsIn (w : World) (vs : List Wd) (a : Option Addr) : Prop := vs = [] ∨ ∃ b o, a = some ⟨b, o, none⟩ ∧ b < w.heap.size ∧ ∀ (i : Nat) (v : Wd), vs[i]? = some v → w.cell? ⟨b, o + i * 2, none⟩ = some (.int .i64 v.1) ∧ w.cell? ⟨b, o + i * 2 + 1, none⟩ = some (.int .i64 v.2)

def FTm (n : Nat) : Prop := ∀ (x : Tm n) (v : Wd) (base hp : Nat) (room : Int) (ws : List Wd) (nm : List ByteArray) (M : Nat → Prop) (w : World), HpAt base hp room ws nm M w → ws.length ≤ 100000 → nm.length ≤ 100000 → Stands ws nm n x v → RightA ⟨n, x⟩ →
  Calls Try.prog 52 #[.pointer (some ⟨hp, 0, none⟩), wdV v] w fun e w' => ∃ y : Tm n, e = .returned (val n y) ∧ Hid (Below w.heap.size w w' ∧ In w'.heap.size w' n y ∧ Off (fun q => w.heap.size ≤ q) n y ∧ same n y n x = true)

/-- A box of a term that is all zero. -/
def Box4 (q : Nat) (w : World) : Prop := w.heap[q]? = some (.cells #[.int .i64 0, .int .i64 0, .string .empty, .slice none 0 0] 24)
theorem Box4.kept {q : Nat} {w w' : World} (h : Box4 q w) (k : w'.heap[q]? = w.heap[q]?) : Box4 q w' := k.trans h
theorem Box4.cells {q : Nat} {w : World} (h : Box4 q w) : (w.cell? ⟨q, 0, none⟩ = some (.int .i64 0) ∧ w.cell? ⟨q, 1, none⟩ = some (.int .i64 0) ∧ w.cell? ⟨q, 2, none⟩ = some (.string .empty) ∧ w.cell? ⟨q, 3, none⟩ = some (.slice none 0 0)) ∧ ∀ j, w.frozen? ⟨q, j, none⟩ = false := by
  unfold Box4 at h
  refine ⟨⟨?_, ?_, ?_, ?_⟩, fun j => ?_⟩
  all_goals simp [World.cell?, World.frozen?, h]
theorem tup_made {n : Nat} {p : List (Tm n)} {len : Nat} {w w0 : World}
    (ho : w0.ownsRow (w.heap.size + 1) 24 4 (.slice (some ⟨(w.alloc (.cells #[.int .i64 0, .int .i64 0, .string .empty, .slice none 0 0] 24)).heap.size, 0, none⟩) len len) len (madeCells (Value.agg #[.int .i64 0, .int .i64 0, .string .empty, .slice none 0 0]).cells (len * 4)).toList)
    (hg : (w.alloc (.cells #[.int .i64 0, .int .i64 0, .string .empty, .slice none 0 0] 24)).grownBy w0 none) :
    Below w.heap.size w w0 ∧ CpP n p len (w.heap.size + 1) 0 [] w0 ∧ Box4 w.heap.size w0 := by
  have e : (w.alloc (.cells #[.int .i64 0, .int .i64 0, .string .empty, .slice none 0 0] 24)).heap.size = w.heap.size + 1 := by simp
  have hb1 : Below w.heap.size w (w.alloc (.cells #[.int .i64 0, .int .i64 0, .string .empty, .slice none 0 0] 24)) := (Below.refl _ _).alloc (Nat.le_refl _) _
  have hb2 : Below (w.heap.size + 1) (w.alloc (.cells #[.int .i64 0, .int .i64 0, .string .empty, .slice none 0 0] 24)) w0 := ⟨hg.os, hg.tape, hg.output, hg.size, fun b hb => hg.block b (by omega) (by simp)⟩
  have hcp := cp_start (w := w.alloc (.cells #[.int .i64 0, .int .i64 0, .string .empty, .slice none 0 0] 24)) n p len (by rw [e] at ho ⊢; exact ho)
  rw [e] at hcp
  exact ⟨hb1.trans (hb2.mono (by omega)), hcp, (hb2.block _ (by omega)).trans (heap_alloc_new w _)⟩
theorem CpP.end {n : Nat} {p : List (Tm n)} {len g : Nat} {l : List (Tm n)} {w wr : World} (h : CpP n p len g len l wr) (hl : p.length = len) (hg : g = w.heap.size + 1) (hb : Below w.heap.size w wr) (hm : len ≤ maxLen) :
    ∀ v0 v1 v2 v3, CpRow n p w (put4 wr w.heap.size 0 v0 v1 v2 v3) (some ⟨g, 0, none⟩) len l := by
  intro v0 v1 v2 v3
  obtain ⟨h1, h2, h3, h4⟩ := h
  rw [List.take_of_length_le (by omega)] at h4
  rw [Nat.sub_self, List.replicate_zero, List.append_nil] at h2
  refine ⟨⟨hb.os, hb.tape, hb.output, Nat.le_trans hb.size (Nat.le_of_eq (put4_size _ _ _ _).symm), fun q hq => (put4_block (by omega) _ _ _ _).trans (hb.block q hq)⟩, by omega, by omega, hm, h4, Or.inr ⟨g, 0, rfl, by omega, by rw [put4_size]; exact h2.lt.2, fun i y hy => ?_⟩⟩
  have hc := h2.cells i ⟨n, y⟩ (by simp [hy])
  have hin := (h3 y (List.mem_of_getElem? hy)).1
  have hoff := (h3 y (List.mem_of_getElem? hy)).2
  refine ⟨?_, ?_, hoff.mono fun q hq => by omega⟩
  · cases n with
    | zero => exact hin.elim
    | succ n =>
      rw [Nat.zero_add]
      exact Held.block (put4_block (by omega) _ _ _ _) (n := n + 1) (x := y) hc
  · rw [put4_size]
    exact In.off (fun q hq => put4_block (by omega) _ _ _ _) hoff hin

set_option maxHeartbeats 1000000 in
set_option maxRecDepth 100000 in
theorem tupleOf_loop (n : Nat) (ih : FTm n) (base hp : Nat) (room : Int) (ws : List Wd) (nm : List ByteArray) (M : Nat → Prop) (a : Option Addr) (len pc : Nat) (p : List (Tm n)) (vs : List Wd) (hpl : Hid (p.length = len)) (hvl : Hid (vs.length = len)) (w : World) (h : Hid (HpAt base hp room ws nm M w)) (hlen : len ≤ 8) (hw : Hid (ws.length ≤ 100000)) (hn : Hid (nm.length ≤ 100000))
    (hin : Hid (WordsIn w vs a)) (hst : Hid (∀ (i : Nat) (y : Tm n) (v : Wd), p[i]? = some y → vs[i]? = some v → Stands ws nm n y v)) (hrp : Hid (∀ y ∈ p, RightA ⟨n, y⟩)) :
    Calls Try.prog 47 #[.pointer (some ⟨hp, 0, none⟩), .slice a len pc] w fun e w' => ∃ a' c' l, e = .returned (.agg #[.int .i64 4, .int .i64 0, .string .empty, .slice a' len c']) ∧ Hid (CpRow n p w w' a' c' l) := by
  obtain ⟨it, hit, htz0, htz1, htz2⟩ := info_parts infoTerm
  go_enter Try.func47, Try.ntmps47
  go_wp2_with (at_make; refine wpList_make_full _ rfl _ _ 22 rfl (w.heap.size + 1) 24 it _ 4 Try.underlying22 hit htz0 htz1 _ _ _ _ len rfl rfl rfl rfl (by rw [htz2]; omega) (by unfold maxLen; omega) (by simp) ?_; intro w0 hown0 hgrow0; have HT := hide (tup_made (p := p) hown0 hgrow0); clear hown0 hgrow0)
  clear hit htz0 htz1 htz2
  obtain ⟨g, hg⟩ : ∃ g, w.heap.size + 1 = g := ⟨_, rfl⟩
  rw [hg] at HT ⊢
  obtain ⟨HB0, HP0, HR0⟩ : Hid (Below w.heap.size w w0) ∧ Hid (CpP n p len g 0 [] w0) ∧ Hid (Box4 w.heap.size w0) := HT.out
  clear HT
  go_loopw [13] (fun i wr => ∃ k : Nat, k ≤ len ∧ i = .int .i64 k ∧ Hid (Below w.heap.size w wr ∧ Box4 w.heap.size wr ∧ ∃ l, CpP n p len g k l wr)) (fun i _ => len - (intOf i).toNat)
  case atStart => exact ⟨0, by omega, rfl, HB0.out, HR0.out, [], HP0.out⟩
  case round =>
    clear HP0 HR0
    obtain ⟨k, hk, rfl, HR⟩ := hrel
    obtain ⟨HBr, HBx, l, HL⟩ : Hid (Below w.heap.size w wr) ∧ Hid (Box4 w.heap.size wr) ∧ ∃ l, Hid (CpP n p len g k l wr) := HR.out
    clear HR
    by_cases hlt : k < len
    · obtain ⟨x, hx⟩ : ∃ x, p[k]? = some x := ⟨p[k]'(by rw [hpl.out]; exact hlt), List.getElem?_eq_getElem _⟩
      obtain ⟨v, hv⟩ : ∃ v, vs[k]? = some v := ⟨vs[k]'(by rw [hvl.out]; exact hlt), List.getElem?_eq_getElem _⟩
      obtain ⟨b, o, rfl, hb, hvs⟩ : ∃ b o, a = some ⟨b, o, none⟩ ∧ b < w.heap.size ∧ ∀ (i : Nat) (v : Wd), vs[i]? = some v → w.cell? ⟨b, o + i * 2, none⟩ = some (.int .i64 v.1) ∧ w.cell? ⟨b, o + i * 2 + 1, none⟩ = some (.int .i64 v.2) := by
        rcases hin.out with e | e
        · rw [e] at hv; simp at hv
        · exact e
      obtain ⟨v0, v1⟩ := hvs k v hv
      replace v0 := (below_cells HBr.out b (o + k * 2) hb).trans v0
      replace v1 := (below_cells HBr.out b (o + k * 2 + 1) hb).trans v1
      have HX := hide hx
      have hgr : g < wr.heap.size := HL.out.2.1.lt.2
      have HC : Hid (∀ (w1 : World), Below wr.heap.size wr w1 → Calls Try.prog 52 #[.pointer (some ⟨hp, 0, none⟩), .agg #[.int .i64 v.1, .int .i64 v.2]] w1 fun e w' => ∃ y : Tm n, e = .returned (val n y) ∧ Hid (Below w1.heap.size w1 w' ∧ In w'.heap.size w' n y ∧ Off (fun q => w1.heap.size ≤ q) n y ∧ same n y n x = true)) :=
        fun w1 h1 => ih x v base hp room ws nm _ w1 (h.out.later (HBr.out.trans (h1.mono HBr.out.size))) hw.out hn.out (hst.out k x v hx hv) (hrp.out x (List.mem_of_getElem? hx))
      clear ih hx hv hvs hin hst hrp h hw hn
      have hk1 : (0 : Int) ≤ (k : Int) := by omega
      have hk2 : (k : Int) < (len : Int) := by omega
      have hpw : b < wr.heap.size := by omega
      go_wp2_with fail
      refine (HC.out _ ((Below.refl _ _).alloc (Nat.le_refl _) _)).mono ?_
      rintro e w1 ⟨y, rfl, HY⟩
      have HB1 : Hid (Below wr.heap.size wr w1) := ((Below.refl _ _).alloc (Nat.le_refl _) _).trans (HY.out.1.mono (by simp))
      have HST := hide (HL.out.step hlt x HX.out HB1.out y HY.out.2.1 (HY.out.2.2.1.mono fun q hq => by simp at hq; omega) HY.out.2.2.2)
      have HH1 := hide (HL.out.2.1.below HB1.out)
      have HIY := HY.out.2.1
      cases n with
      | zero => exact HIY.elim
      | succ n =>
      clear HIY
      have HB2 : Hid (Below w.heap.size w (putNd w1 g (k * 4) (hdT (n + 1) y))) := by
        have h1 := HBr.out.trans (HB1.out.mono HBr.out.size)
        exact ⟨h1.os, h1.tape, h1.output, Nat.le_trans h1.size (Nat.le_of_eq (put4_size _ _ _ _).symm), fun q hq => (put4_block (by omega) _ _ _ _).trans (h1.block q hq)⟩
      have HBx2 : Hid (Box4 w.heap.size (putNd w1 g (k * 4) (hdT (n + 1) y))) := HBx.out.kept ((put4_block (by omega) _ _ _ _).trans (HB1.out.block _ (by omega)))
      obtain ⟨z, hz⟩ : ∃ z, (l.map (fun x => (⟨n + 1, x⟩ : An)) ++ List.replicate (len - k) zA)[k]? = some z := ⟨_, List.getElem?_eq_getElem (by simp [HL.out.1]; omega)⟩
      obtain ⟨c0, c1, c2, c3⟩ := HH1.out.cells k z hz
      have hf := fun j => HH1.out.free j
      have e3 : val (n + 1) y = .agg #[.int .i64 y.1.1, .int .i64 y.1.2.1, .string y.1.2.2, .slice y.2.1.1 y.2.2.length y.2.1.2] := rfl
      rw [e3]
      clear HC HL HBr HY HB1 HH1 HBx v0 v1 hz e3
      go_wp2_with fail
      go_roundw
      case rel => exact ⟨k + 1, by omega, by go_num, HB2.out, HBx2.out, l ++ [y], HST.out⟩
      case measure => simp [intOf]; omega
    · obtain rfl : k = len := by omega
      have HD := hide (HL.out.end hpl.out hg.symm HBr.out (by unfold maxLen; omega))
      obtain ⟨⟨q0, q1, q2, q3⟩, f0⟩ := HBx.out.cells
      clear HL ih HBx
      go_wp2_with fail
      exact bodyPost_ret (v := .agg #[.int .i64 4, .int .i64 0, .string .empty, .slice (some ⟨g, 0, none⟩) k k]) (by simp [results, Try.results47, go_sem, q0, q1, q2, q3]; rfl) rfl ⟨_, _, l, rfl, HD.out _ _ _ _⟩

theorem box_put {w wA w2 : World} (hA : Below w.heap.size w wA) (hb : Below wA.heap.size wA w2) (v0 v1 v2 v3 : Value) : Below w.heap.size w (put4 w2 (w.heap.size + 1) 0 v0 v1 v2 v3) := by
  have h1 := hA.trans (hb.mono hA.size)
  exact ⟨h1.os, h1.tape, h1.output, Nat.le_trans h1.size (Nat.le_of_eq (put4_size _ _ _ _).symm), fun q hq => (put4_block (by omega) _ _ _ _).trans (h1.block q hq)⟩

set_option maxHeartbeats 1000000 in
set_option maxRecDepth 100000 in
theorem term_else (hp : Nat) (k u : Int) (w : World) (h2 : ¬ k = 2) (h4 : ¬ k = 4) :
    Calls Try.prog 52 #[.pointer (some ⟨hp, 0, none⟩), .agg #[.int .i64 k, .int .i64 u]] w fun e w' => e = .returned (.agg #[.int .i64 k, .int .i64 u, .string .empty, .slice none 0 0]) ∧ Below w.heap.size w w' := by
  have b2 : (k == 2) = false := by simpa using h2
  have b4 : (k == 4) = false := by simpa using h4
  go_enter Try.func52, Try.ntmps52
  go_wp2_with fail
  exact bodyPost_ret (v := .agg #[.int .i64 k, .int .i64 u, .string .empty, .slice none 0 0]) (by simp [results, Try.results52, go_sem]; rfl) rfl ⟨rfl, by go_grown⟩

set_option maxHeartbeats 1000000 in
set_option maxRecDepth 100000 in
theorem term_atom (base hp : Nat) (room : Int) (ws : List Wd) (nm : List ByteArray) (M : Nat → Prop) (i : Nat) (s : ByteArray) (w : World) (h : Hid (HpAt base hp room ws nm M w)) (hL : nm.length ≤ 100000) (hi : Hid (nm[i]? = some s)) (hsz : s.size ≤ 2048) :
    Calls Try.prog 52 #[.pointer (some ⟨hp, 0, none⟩), .agg #[.int .i64 2, .int .i64 i]] w fun e w' => e = .returned (.agg #[.int .i64 2, .int .i64 0, .string s, .slice none 0 0]) ∧ Below w.heap.size w w' := by
  go_enter Try.func52, Try.ntmps52
  go_wp2_with fail
  generalize hwA : (w.alloc (Obj.cells #[Value.int IntKind.i64 2, Value.int IntKind.i64 i] 37)).alloc (Obj.cells #[.int .i64 0, .int .i64 0, .string ⟨#[]⟩, .slice none 0 0] 24) = wA
  have HA : Hid (Below w.heap.size w wA.drew ∧ wA.drew.heap.size = w.heap.size + 2) := by
    subst hwA
    exact ⟨(((Below.refl _ _).alloc (Nat.le_refl _) _).alloc (by simp) _).drew, by simp [World.drew]⟩
  have e1 : wA.cell? ⟨w.heap.size, 1, none⟩ = some (.int .i64 i) := by subst hwA; simp [go_sem]
  have HR : Hid (Box4 (w.heap.size + 1) wA.drew) := by
    subst hwA
    have := heap_alloc_new (w.alloc (Obj.cells #[Value.int IntKind.i64 2, Value.int IntKind.i64 i] 37)) (Obj.cells #[.int .i64 0, .int .i64 0, .string ⟨#[]⟩, .slice none 0 0] 24)
    have es : ∀ o, (w.alloc o).heap.size = w.heap.size + 1 := fun o => by simp
    rw [es] at this
    exact this
  have HC : Hid (Calls Try.prog 69 #[.pointer (some ⟨hp, 2, none⟩), .int .i64 i] wA.drew fun e w' => e = .returned (.string s) ∧ Below wA.drew.heap.size wA.drew w') := by
    obtain ⟨tv, lv, mv, h1, h2, h3, _⟩ := h.out.later HA.out.1
    exact nameOf_any base hp room tv lv mv nm i s wA.drew h1 h3.1 hi hL hsz
  clear hwA
  go_region_held3 (fun w' => w'.cell? ⟨w.heap.size, 1, none⟩ = some (.int .i64 i)) (go_keep) ((go_at_call 69; refine HC.out.mono ?_; rintro e w2 ⟨rfl, hb2⟩; have HB2 := hide hb2; have hcc := fun o => below_cells hb2 w.heap.size o (by have := HA.out.2; omega); have HBX := hide (HR.out.kept (hb2.block _ (by have := HA.out.2; omega))); obtain ⟨⟨q0, q1, q2, q3⟩, f0⟩ := HBX.out.cells; clear hb2))
  have HF := hide (box_put HA.out.1 HB2.out (.int .i64 2) (.int .i64 0) (.string s) (.slice none 0 0))
  go_wp2_with fail
  exact bodyPost_ret (v := .agg #[.int .i64 2, .int .i64 0, .string s, .slice none 0 0]) (by simp [results, Try.results52, go_sem, q0, q1, q2, q3]) rfl ⟨rfl, HF.out⟩

theorem add_off (g o j : Nat) : (⟨g, o, none⟩ : Addr).add j = ⟨g, o + j, none⟩ := by
  unfold Addr.add
  by_cases h : j = 0 <;> simp [h]
theorem words_in {w : World} {vs : List Wd} {g o : Nat} (h : WordsAt w vs (some ⟨g, o, none⟩)) (hg : g < w.heap.size) : WordsIn w vs (some ⟨g, o, none⟩) := by
  rcases h with h | ⟨ad, e, hc⟩
  · exact Or.inl h
  · injection e with e
    subst e
    refine Or.inr ⟨g, o, rfl, hg, fun i v hv => ⟨?_, ?_⟩⟩
    · have := hc (i * 2 + 0) (.int .i64 v.1) (by rw [wCells_at vs i v hv 0 (by omega)]; rfl)
      rw [add_off] at this
      exact this
    · have := hc (i * 2 + 1) (.int .i64 v.2) (by rw [wCells_at vs i v hv 1 (by omega)]; rfl)
      rw [add_off] at this
      exact this

set_option maxHeartbeats 1000000 in
set_option maxRecDepth 100000 in
theorem term_tup (n : Nat) (ih : FTm n) (base hp : Nat) (room : Int) (ws : List Wd) (nm : List ByteArray) (M : Nat → Prop) (k len : Nat) (p : List (Tm n)) (hpl : Hid (p.length = len)) (w : World) (h : Hid (HpAt base hp room ws nm M w)) (hlen : len ≤ 8) (hw : Hid (ws.length ≤ 100000)) (hn : Hid (nm.length ≤ 100000))
    (hk : Hid (ws[k]? = some (0, (len : Int)))) (hkl : Hid (k + 1 + len ≤ ws.length)) (hst : Hid (∀ (i : Nat) (y : Tm n), p[i]? = some y → ∃ u, ws[k + 1 + i]? = some u ∧ Stands ws nm n y u)) (hrp : Hid (∀ y ∈ p, RightA ⟨n, y⟩)) :
    Calls Try.prog 52 #[.pointer (some ⟨hp, 0, none⟩), .agg #[.int .i64 4, .int .i64 k]] w fun e w' => ∃ a' c' l, e = .returned (.agg #[.int .i64 4, .int .i64 0, .string .empty, .slice a' len c']) ∧ Hid (CpRow n p w w' a' c' l) := by
  go_enter Try.func52, Try.ntmps52
  go_wp2_with fail
  generalize hwA : (w.alloc (Obj.cells #[Value.int IntKind.i64 4, Value.int IntKind.i64 k] 37)).alloc (Obj.cells #[.int .i64 0, .int .i64 0, .string ⟨#[]⟩, .slice none 0 0] 24) = wA
  have HA : Hid (Below w.heap.size w wA.drew ∧ wA.drew.heap.size = w.heap.size + 2) := by
    subst hwA
    exact ⟨(((Below.refl _ _).alloc (Nat.le_refl _) _).alloc (by simp) _).drew, by simp [World.drew]⟩
  have e1 : wA.cell? ⟨w.heap.size, 1, none⟩ = some (.int .i64 k) := by subst hwA; simp [go_sem]
  have HR : Hid (Box4 (w.heap.size + 1) wA.drew) := by
    subst hwA
    have := heap_alloc_new (w.alloc (Obj.cells #[Value.int IntKind.i64 4, Value.int IntKind.i64 k] 37)) (Obj.cells #[.int .i64 0, .int .i64 0, .string ⟨#[]⟩, .slice none 0 0] 24)
    have es : ∀ o, (w.alloc o).heap.size = w.heap.size + 1 := fun o => by simp
    rw [es] at this
    exact this
  have HH := hide (h.out.later HA.out.1)
  obtain ⟨g, L, tc, c1, HCP⟩ : ∃ g L tc, wA.cell? ⟨hp, 1, none⟩ = some (.slice (some ⟨g, 0, none⟩) L tc) ∧ Hid (hp < w.heap.size ∧ Calls Try.prog 70 #[.slice (some ⟨g, 0, none⟩) L tc, .int .i64 k] wA.drew fun e w' => ∃ o pc, e = .returned (.slice (some ⟨g, o, none⟩) len pc) ∧ w' = wA.drew ∧ Hid (WordsIn wA.drew ((ws.drop (k + 1)).take len) (some ⟨g, o, none⟩))) := by
    obtain ⟨tv, lv, mv, h1, h2, h3, h4, _⟩ := HH.out
    obtain ⟨⟨c0, c1, c2, c3⟩, hf⟩ := h1.cells
    have hkl' := hkl.out
    obtain ⟨g, tc, rfl, _, _⟩ := h2.form (by omega)
    refine ⟨g, _, tc, c1, h4.2, ?_⟩
    refine (parts_any base g ws.length tc k len ws wA.drew hw.out h2 hk hkl').mono ?_
    rintro e w' ⟨rfl, pa, pc, rfl, _, hwd, o, rfl⟩
    exact ⟨o, pc, rfl, rfl, words_in hwd (h2.lt g rfl).2⟩
  have HCT : Hid (∀ o pc, WordsIn wA.drew ((ws.drop (k + 1)).take len) (some ⟨g, o, none⟩) → Calls Try.prog 47 #[.pointer (some ⟨hp, 0, none⟩), .slice (some ⟨g, o, none⟩) len pc] wA.drew fun e w' => ∃ a' c' l, e = .returned (.agg #[.int .i64 4, .int .i64 0, .string .empty, .slice a' len c']) ∧ Hid (CpRow n p wA.drew w' a' c' l)) := by
    intro o pc hin
    refine tupleOf_loop n ih base hp room ws nm _ (some ⟨g, o, none⟩) len pc p ((ws.drop (k + 1)).take len) hpl ?_ wA.drew HH hlen hw hn hin ?_ hrp
    · have := hkl.out
      unfold Hid
      rw [List.length_take, List.length_drop]
      omega
    · intro i y v hy hv
      obtain ⟨u, hu, hs⟩ := hst.out i y hy
      have hi : i < len := by have := (List.getElem?_eq_some_iff.1 hy).1; have := hpl.out; omega
      rw [List.getElem?_take_of_lt hi, List.getElem?_drop, hu] at hv
      obtain rfl := Option.some.inj hv
      exact hs
  clear hwA ih hst hrp h HH hk hkl hw hn
  have hhp : hp < w.heap.size := HCP.out.1
  have hne : w.heap.size + 1 ≠ hp := by omega
  have HK : Hid (∀ (w2 : World) (v0 v1 v2 v3 : Value), (w2.cell? ⟨w.heap.size, 1, none⟩ = some (.int .i64 k) ∧ w2.cell? ⟨hp, 1, none⟩ = some (.slice (some ⟨g, 0, none⟩) L tc)) → ((((w2.setCell ⟨w.heap.size + 1, 0, none⟩ v0).setCell ⟨w.heap.size + 1, 1, none⟩ v1).setCell ⟨w.heap.size + 1, 2, none⟩ v2).setCell ⟨w.heap.size + 1, 3, none⟩ v3).cell? ⟨w.heap.size, 1, none⟩ = some (.int .i64 k) ∧ ((((w2.setCell ⟨w.heap.size + 1, 0, none⟩ v0).setCell ⟨w.heap.size + 1, 1, none⟩ v1).setCell ⟨w.heap.size + 1, 2, none⟩ v2).setCell ⟨w.heap.size + 1, 3, none⟩ v3).cell? ⟨hp, 1, none⟩ = some (.slice (some ⟨g, 0, none⟩) L tc)) := by
    intro w2 v0 v1 v2 v3 hh
    exact ⟨(block_cell (put4_block (o := 0) (w := w2) (show w.heap.size ≠ w.heap.size + 1 by omega) v0 v1 v2 v3) 1).trans hh.1, (block_cell (put4_block (o := 0) (w := w2) (show hp ≠ w.heap.size + 1 by omega) v0 v1 v2 v3) 1).trans hh.2⟩
  go_region_held3 (fun w' => w'.cell? ⟨w.heap.size, 1, none⟩ = some (.int .i64 k) ∧ w'.cell? ⟨hp, 1, none⟩ = some (.slice (some ⟨g, 0, none⟩) L tc)) (first | (go_keep; done) | exact HK.out _ _ _ _ _ hcp) ((first
    | (go_at_call 70; refine HCP.out.2.mono ?_; rintro e w2 ⟨o, pc, rfl, rfl, HW⟩)
    | (go_at_call 47; refine (HCT.out _ _ HW.out).mono ?_; rintro e w2 ⟨a', c', l, rfl, HCR⟩; have hcc := fun b o (hb : b < w.heap.size + 1) => below_cells HCR.out.1 b o (by have := HA.out.2; omega); have hcp : w2.cell? ⟨w.heap.size, 1, none⟩ = some (.int .i64 k) ∧ w2.cell? ⟨hp, 1, none⟩ = some (.slice (some ⟨g, 0, none⟩) L tc) := ⟨(hcc w.heap.size 1 (by omega)).trans e1, (hcc hp 1 (by omega)).trans c1⟩; have HBX := hide (HR.out.kept (HCR.out.1.block _ (by have := HA.out.2; omega))); obtain ⟨⟨q0, q1, q2, q3⟩, f0⟩ := HBX.out.cells)))
  have HF := hide (HCR.out.box HA.out.1 (by have := HA.out.2; omega) (.int .i64 4) (.int .i64 0) (.string .empty) (.slice a' len c'))
  go_wp2_with fail
  exact bodyPost_ret (v := .agg #[.int .i64 4, .int .i64 0, .string .empty, .slice a' len c']) (by simp [results, Try.results52, go_sem, q0, q1, q2, q3]) rfl ⟨a', c', l, rfl, HF.out⟩

theorem good_i64 (x : Nd) (h : good x = true) : I64 x.1.1 ∧ I64 x.1.2.1 := by
  have hk := good_kind x h
  unfold good inB at h
  unfold I64
  rcases hk with g | g | g | g | g | ⟨g, g0⟩
  all_goals (rw [g] at h ⊢; simp at h; refine ⟨by omega, by omega⟩)

theorem term_any (n : Nat) : FTm n := by
  induction n with
  | zero => intro x v base hp room ws nm M w _ _ _ hs; exact hs.elim
  | succ n ih =>
    intro x v base hp room ws nm M w h hw hn hs hr
    have hg := hr (hdOf n x) (by simp [nodes, hdOf])
    have hlen : x.2.2.length ≤ 8 := good_len (hdOf n x) hg
    have hname : x.1.2.2.size ≤ 2048 := by have := good_name (hdOf n x) hg; simp only [hdOf] at this; omega
    obtain ⟨s2, s4, s0⟩ := hs
    have gp := good_parts (hdOf n x) hg
    have in0 : ∀ (w' : World) (k u : Int) (s : ByteArray), I64 k → I64 u → s.size ≤ 2048 → In w'.heap.size w' (n + 1) ((k, u, s), (none, 0), []) := fun w' k u s h1 h2 h3 => ⟨⟨h1, h2, by unfold maxLen; show s.size ≤ _; omega, Nat.le_refl _, Nat.zero_le _⟩, Or.inl rfl⟩
    by_cases h2 : x.1.1 = 2
    · obtain ⟨i, rfl, hi⟩ := s2 h2
      have hx0 : x.2.2 = [] := List.eq_nil_of_length_eq_zero (gp.2.2.2.2 (by show x.1.1 ≠ 4; omega))
      refine (term_atom base hp room ws nm M i x.1.2.2 w h hn hi hname).mono ?_
      rintro e w' ⟨rfl, hb⟩
      refine ⟨((2, 0, x.1.2.2), (none, 0), []), rfl, hb, in0 w' 2 0 _ (by unfold I64; omega) (by unfold I64; omega) hname, Or.inl rfl, ?_⟩
      have h20 : x.1.2.1 = 0 := gp.2.1 h2
      simp [same, h2, h20, hx0, sameL]
    · by_cases h4 : x.1.1 = 4
      · obtain ⟨k, rfl, hk, hkl, hst⟩ := s4 h4
        refine (term_tup n ih base hp room ws nm M k x.2.2.length x.2.2 rfl w h hlen hw hn hk hkl hst (fun y hy => parts_right n x y hr hy)).mono ?_
        rintro e w' ⟨a', c', l, rfl, H⟩
        obtain ⟨k1, k2, k3, k4, k5, k6⟩ := H.out
        have h40 : x.1.2.1 = 0 := gp.2.2.1 h4
        have hnm : x.1.2.2.toList = [] := gp.1 h2
        refine ⟨((4, 0, .empty), (a', c'), l), by rw [← k2]; rfl, k1, ⟨⟨by unfold I64; show (-9223372036854775808 : Int) ≤ 4 ∧ (4 : Int) ≤ 9223372036854775807; omega, by unfold I64; show (-9223372036854775808 : Int) ≤ 0 ∧ (0 : Int) ≤ 9223372036854775807; omega, by unfold maxLen; show (0 : Nat) ≤ _; omega, k3, k4⟩, ?_⟩, ?_, ?_⟩
        · rcases k6 with k6 | ⟨b, o, e, hb1, hb2, k6⟩
          · exact Or.inl k6
          · exact Or.inr ⟨b, o, e, hb2, fun i y hy => ⟨(k6 i y hy).1, (k6 i y hy).2.1⟩⟩
        · rcases k6 with k6 | ⟨b, o, e, hb1, hb2, k6⟩
          · exact Or.inl k6
          · exact Or.inr ⟨b, o, e, hb1, fun i y hy => (k6 i y hy).2.2⟩
        · simp only [same]
          rw [h4, h40, hnm, k5]
          simp
      · have hv := s0 h2 h4
        subst hv
        have hx0 : x.2.2 = [] := List.eq_nil_of_length_eq_zero (gp.2.2.2.2 h4)
        have hnm : x.1.2.2.toList = [] := gp.1 h2
        refine (term_else hp x.1.1 x.1.2.1 w h2 h4).mono ?_
        rintro e w' ⟨rfl, hb⟩
        refine ⟨((x.1.1, x.1.2.1, .empty), (none, 0), []), rfl, hb, in0 w' _ _ _ ?_ ?_ (by show (0 : Nat) ≤ _; omega), Or.inl rfl, ?_⟩
        · exact (good_i64 _ hg).1
        · exact (good_i64 _ hg).2
        · simp only [same]
          rw [hnm, hx0]
          simp [sameL]
end Go.Proofs.Ytfaoeccnhbcjgab
