/- What is proved here: plain facts and contracts that the claimed theorem stands on, several texts in one: heap.term and heap.tupleOf: the term that a word stands for, in new memory. No condition but that the word stands for a right term. term.depth, term.Size and term.Check of a term that lies in memory return what plain functions say, and turn no memory that was there; Check is the document's Check. Condition: at most 2097152 terms in it. -/
import Derived.Test.YtpehdgbdinjbaabG09
import Derived.Test.YtpehdgbdinjbaabG04
namespace Go.Proofs.Ytpehdgbdinjbaab
open Go.RowKit

/-- A word stands for a term. -/
def Stands (ws : List Wd) (nm : List ByteArray) : (n : Nat) → Tm n → Wd → Prop
  | 0, _, _ => False
  | n + 1, x, v => (x.1.1 = 2 → ∃ i : Nat, v = (2, (i : Int)) ∧ nm[i]? = some x.1.2.2) ∧
      (x.1.1 = 4 → ∃ p : Nat, v = (4, (p : Int)) ∧ ws[p]? = some (0, (x.2.2.length : Int)) ∧ p + 1 + x.2.2.length ≤ ws.length ∧ ∀ (i : Nat) (y : Tm n), x.2.2[i]? = some y → ∃ u, ws[p + 1 + i]? = some u ∧ Stands ws nm n y u) ∧
      (x.1.1 ≠ 2 → x.1.1 ≠ 4 → v = (x.1.1, x.1.2.1))

/-- Words, in memory. -/
def WordsIn (w : World) (vs : List Wd) (a : Option Addr) : Prop := vs = [] ∨ ∃ b o, a = some ⟨b, o, none⟩ ∧ b < w.heap.size ∧ ∀ (i : Nat) (v : Wd), vs[i]? = some v → w.cell? ⟨b, o + i * 2, none⟩ = some (.int .i64 v.1) ∧ w.cell? ⟨b, o + i * 2 + 1, none⟩ = some (.int .i64 v.2)

def FTm (n : Nat) : Prop := ∀ (x : Tm n) (v : Wd) (base hp : Nat) (room : Int) (ws : List Wd) (nm : List ByteArray) (M : Nat → Prop) (w : World), HpAt base hp room ws nm M w → ws.length ≤ 100000 → nm.length ≤ 100000 → Stands ws nm n x v → RightA ⟨n, x⟩ →
  Calls Try.prog 62 #[.pointer (some ⟨hp, 0, none⟩), wdV v] w fun e w' => ∃ y : Tm n, e = .returned (val n y) ∧ Hid (Below w.heap.size w w' ∧ In w'.heap.size w' n y ∧ Off (fun q => w.heap.size ≤ q) n y ∧ same n y n x = true)

/-- A box of a term that is all zero. -/
def Box4 (q : Nat) (w : World) : Prop := w.heap[q]? = some (.cells #[.int .i64 0, .int .i64 0, .string .empty, .slice none 0 0] 24)
theorem Box4.kept {q : Nat} {w w' : World} (h : Box4 q w) (k : w'.heap[q]? = w.heap[q]?) : Box4 q w' := k.trans h
theorem Box4.cells {q : Nat} {w : World} (h : Box4 q w) : (w.cell? ⟨q, 0, none⟩ = some (.int .i64 0) ∧ w.cell? ⟨q, 1, none⟩ = some (.int .i64 0) ∧ w.cell? ⟨q, 2, none⟩ = some (.string .empty) ∧ w.cell? ⟨q, 3, none⟩ = some (.slice none 0 0)) ∧ ∀ j, w.frozen? ⟨q, j, none⟩ = false := by
  unfold Box4 at h
  refine ⟨⟨?_, ?_, ?_, ?_⟩, fun j => ?_⟩
  all_goals simp [World.cell?, World.frozen?, h]
theorem tup_made {n : Nat} {p : List (Tm n)} {len : Nat} {w w0 : World}
    (ho : w0.ownsRow (w.heap.size + 1) 24 4 (.slice (some ⟨(w.alloc (.cells #[.int .i64 0, .int .i64 0, .string .empty, .slice none 0 0] 24)).heap.size, 0, none⟩) len len) len (madeCells (Value.agg #[.int .i64 0, .int .i64 0, .string .empty, .slice none 0 0]).cells (len * 4)).toList)
    (hg : (w.alloc (.cells #[.int .i64 0, .int .i64 0, .string .empty, .slice none 0 0] 24)).grownBy w0 none) :
    Below w.heap.size w w0 ∧ CpP n p len (w.heap.size + 1) 0 [] w0 ∧ Box4 w.heap.size w0 := by
  have e : (w.alloc (.cells #[.int .i64 0, .int .i64 0, .string .empty, .slice none 0 0] 24)).heap.size = w.heap.size + 1 := by simp
  have hb1 : Below w.heap.size w (w.alloc (.cells #[.int .i64 0, .int .i64 0, .string .empty, .slice none 0 0] 24)) := (Below.refl _ _).alloc (Nat.le_refl _) _
  have hb2 : Below (w.heap.size + 1) (w.alloc (.cells #[.int .i64 0, .int .i64 0, .string .empty, .slice none 0 0] 24)) w0 := ⟨hg.os, hg.tape, hg.output, hg.size, fun b hb => hg.block b (by omega) (by simp)⟩
  have hcp := cp_start (w := w.alloc (.cells #[.int .i64 0, .int .i64 0, .string .empty, .slice none 0 0] 24)) n p len (by rw [e] at ho ⊢; exact ho)
  rw [e] at hcp
  exact ⟨hb1.trans (hb2.mono (by omega)), hcp, (hb2.block _ (by omega)).trans (heap_alloc_new w _)⟩
theorem CpP.end {n : Nat} {p : List (Tm n)} {len g : Nat} {l : List (Tm n)} {w wr : World} (h : CpP n p len g len l wr) (hl : p.length = len) (hg : g = w.heap.size + 1) (hb : Below w.heap.size w wr) (hm : len ≤ maxLen) :
    ∀ v0 v1 v2 v3, CpRow n p w (put4 wr w.heap.size 0 v0 v1 v2 v3) (some ⟨g, 0, none⟩) len l := by
  intro v0 v1 v2 v3
  obtain ⟨h1, h2, h3, h4⟩ := h
  rw [List.take_of_length_le (by omega)] at h4
  rw [Nat.sub_self, List.replicate_zero, List.append_nil] at h2
  refine ⟨⟨hb.os, hb.tape, hb.output, Nat.le_trans hb.size (Nat.le_of_eq (put4_size _ _ _ _).symm), fun q hq => (put4_block (by omega) _ _ _ _).trans (hb.block q hq)⟩, by omega, by omega, hm, h4, Or.inr ⟨g, 0, rfl, by omega, by rw [put4_size]; exact h2.lt.2, fun i y hy => ?_⟩⟩
  have hc := h2.cells i ⟨n, y⟩ (by simp [hy])
  have hin := (h3 y (List.mem_of_getElem? hy)).1
  have hoff := (h3 y (List.mem_of_getElem? hy)).2
  refine ⟨?_, ?_, hoff.mono fun q hq => by omega⟩
  · cases n with
    | zero => exact hin.elim
    | succ n =>
      rw [Nat.zero_add]
      exact Held.block (put4_block (by omega) _ _ _ _) (n := n + 1) (x := y) hc
  · rw [put4_size]
    exact In.off (fun q hq => put4_block (by omega) _ _ _ _) hoff hin

set_option maxHeartbeats 1000000 in
set_option maxRecDepth 100000 in
theorem tupleOf_loop (n : Nat) (ih : FTm n) (base hp : Nat) (room : Int) (ws : List Wd) (nm : List ByteArray) (M : Nat → Prop) (a : Option Addr) (len pc : Nat) (p : List (Tm n)) (vs : List Wd) (hpl : Hid (p.length = len)) (hvl : Hid (vs.length = len)) (w : World) (h : Hid (HpAt base hp room ws nm M w)) (hlen : len ≤ 8) (hw : Hid (ws.length ≤ 100000)) (hn : Hid (nm.length ≤ 100000))
    (hin : Hid (WordsIn w vs a)) (hst : Hid (∀ (i : Nat) (y : Tm n) (v : Wd), p[i]? = some y → vs[i]? = some v → Stands ws nm n y v)) (hrp : Hid (∀ y ∈ p, RightA ⟨n, y⟩)) :
    Calls Try.prog 57 #[.pointer (some ⟨hp, 0, none⟩), .slice a len pc] w fun e w' => ∃ a' c' l, e = .returned (.agg #[.int .i64 4, .int .i64 0, .string .empty, .slice a' len c']) ∧ Hid (CpRow n p w w' a' c' l) := by
  obtain ⟨it, hit, htz0, htz1, htz2⟩ := info_parts infoTerm
  go_enter Try.func57, Try.ntmps57
  go_wp2_with (at_make; refine wpList_make_full _ rfl _ _ 22 rfl (w.heap.size + 1) 24 it _ 4 Try.underlying22 hit htz0 htz1 _ _ _ _ len rfl rfl rfl rfl (by rw [htz2]; omega) (by unfold maxLen; omega) (by simp) ?_; intro w0 hown0 hgrow0; have HT := hide (tup_made (p := p) hown0 hgrow0); clear hown0 hgrow0)
  clear hit htz0 htz1 htz2
  obtain ⟨g, hg⟩ : ∃ g, w.heap.size + 1 = g := ⟨_, rfl⟩
  rw [hg] at HT ⊢
  obtain ⟨HB0, HP0, HR0⟩ : Hid (Below w.heap.size w w0) ∧ Hid (CpP n p len g 0 [] w0) ∧ Hid (Box4 w.heap.size w0) := HT.out
  clear HT
  go_loopw [13] (fun i wr => ∃ k : Nat, k ≤ len ∧ i = .int .i64 k ∧ Hid (Below w.heap.size w wr ∧ Box4 w.heap.size wr ∧ ∃ l, CpP n p len g k l wr)) (fun i _ => len - (intOf i).toNat)
  case atStart => exact ⟨0, by omega, rfl, HB0.out, HR0.out, [], HP0.out⟩
  case round =>
    clear HP0 HR0
    obtain ⟨k, hk, rfl, HR⟩ := hrel
    obtain ⟨HBr, HBx, l, HL⟩ : Hid (Below w.heap.size w wr) ∧ Hid (Box4 w.heap.size wr) ∧ ∃ l, Hid (CpP n p len g k l wr) := HR.out
    clear HR
    by_cases hlt : k < len
    · obtain ⟨x, hx⟩ : ∃ x, p[k]? = some x := ⟨p[k]'(by rw [hpl.out]; exact hlt), List.getElem?_eq_getElem _⟩
      obtain ⟨v, hv⟩ : ∃ v, vs[k]? = some v := ⟨vs[k]'(by rw [hvl.out]; exact hlt), List.getElem?_eq_getElem _⟩
      obtain ⟨b, o, rfl, hb, hvs⟩ : ∃ b o, a = some ⟨b, o, none⟩ ∧ b < w.heap.size ∧ ∀ (i : Nat) (v : Wd), vs[i]? = some v → w.cell? ⟨b, o + i * 2, none⟩ = some (.int .i64 v.1) ∧ w.cell? ⟨b, o + i * 2 + 1, none⟩ = some (.int .i64 v.2) := by
        rcases hin.out with e | e
        · rw [e] at hv; simp at hv
        · exact e
      obtain ⟨v0, v1⟩ := hvs k v hv
      replace v0 := (below_cells HBr.out b (o + k * 2) hb).trans v0
      replace v1 := (below_cells HBr.out b (o + k * 2 + 1) hb).trans v1
      have HX := hide hx
      have hgr : g < wr.heap.size := HL.out.2.1.lt.2
      have HC : Hid (∀ (w1 : World), Below wr.heap.size wr w1 → Calls Try.prog 62 #[.pointer (some ⟨hp, 0, none⟩), .agg #[.int .i64 v.1, .int .i64 v.2]] w1 fun e w' => ∃ y : Tm n, e = .returned (val n y) ∧ Hid (Below w1.heap.size w1 w' ∧ In w'.heap.size w' n y ∧ Off (fun q => w1.heap.size ≤ q) n y ∧ same n y n x = true)) :=
        fun w1 h1 => ih x v base hp room ws nm _ w1 (h.out.later (HBr.out.trans (h1.mono HBr.out.size))) hw.out hn.out (hst.out k x v hx hv) (hrp.out x (List.mem_of_getElem? hx))
      clear ih hx hv hvs hin hst hrp h hw hn
      have hk1 : (0 : Int) ≤ (k : Int) := by omega
      have hk2 : (k : Int) < (len : Int) := by omega
      have hpw : b < wr.heap.size := by omega
      go_wp2_with fail
      refine (HC.out _ ((Below.refl _ _).alloc (Nat.le_refl _) _)).mono ?_
      rintro e w1 ⟨y, rfl, HY⟩
      have HB1 : Hid (Below wr.heap.size wr w1) := ((Below.refl _ _).alloc (Nat.le_refl _) _).trans (HY.out.1.mono (by simp))
      have HST := hide (HL.out.step hlt x HX.out HB1.out y HY.out.2.1 (HY.out.2.2.1.mono fun q hq => by simp at hq; omega) HY.out.2.2.2)
      have HH1 := hide (HL.out.2.1.below HB1.out)
      have HIY := HY.out.2.1
      cases n with
      | zero => exact HIY.elim
      | succ n =>
      clear HIY
      have HB2 : Hid (Below w.heap.size w (putNd w1 g (k * 4) (hdT (n + 1) y))) := by
        have h1 := HBr.out.trans (HB1.out.mono HBr.out.size)
        exact ⟨h1.os, h1.tape, h1.output, Nat.le_trans h1.size (Nat.le_of_eq (put4_size _ _ _ _).symm), fun q hq => (put4_block (by omega) _ _ _ _).trans (h1.block q hq)⟩
      have HBx2 : Hid (Box4 w.heap.size (putNd w1 g (k * 4) (hdT (n + 1) y))) := HBx.out.kept ((put4_block (by omega) _ _ _ _).trans (HB1.out.block _ (by omega)))
      obtain ⟨z, hz⟩ : ∃ z, (l.map (fun x => (⟨n + 1, x⟩ : An)) ++ List.replicate (len - k) zA)[k]? = some z := ⟨_, List.getElem?_eq_getElem (by simp [HL.out.1]; omega)⟩
      obtain ⟨c0, c1, c2, c3⟩ := HH1.out.cells k z hz
      have hf := fun j => HH1.out.free j
      have e3 : val (n + 1) y = .agg #[.int .i64 y.1.1, .int .i64 y.1.2.1, .string y.1.2.2, .slice y.2.1.1 y.2.2.length y.2.1.2] := rfl
      rw [e3]
      clear HC HL HBr HY HB1 HH1 HBx v0 v1 hz e3
      go_wp2_with fail
      go_roundw
      case rel => exact ⟨k + 1, by omega, by go_num, HB2.out, HBx2.out, l ++ [y], HST.out⟩
      case measure => simp [intOf]; omega
    · obtain rfl : k = len := by omega
      have HD := hide (HL.out.end hpl.out hg.symm HBr.out (by unfold maxLen; omega))
      obtain ⟨⟨q0, q1, q2, q3⟩, f0⟩ := HBx.out.cells
      clear HL ih HBx
      go_wp2_with fail
      exact bodyPost_ret (v := .agg #[.int .i64 4, .int .i64 0, .string .empty, .slice (some ⟨g, 0, none⟩) k k]) (by simp [results, Try.results57, go_sem, q0, q1, q2, q3]; rfl) rfl ⟨_, _, l, rfl, HD.out _ _ _ _⟩

theorem box_put {w wA w2 : World} (hA : Below w.heap.size w wA) (hb : Below wA.heap.size wA w2) (v0 v1 v2 v3 : Value) : Below w.heap.size w (put4 w2 (w.heap.size + 1) 0 v0 v1 v2 v3) := by
  have h1 := hA.trans (hb.mono hA.size)
  exact ⟨h1.os, h1.tape, h1.output, Nat.le_trans h1.size (Nat.le_of_eq (put4_size _ _ _ _).symm), fun q hq => (put4_block (by omega) _ _ _ _).trans (h1.block q hq)⟩

set_option maxHeartbeats 1000000 in
set_option maxRecDepth 100000 in
theorem term_else (hp : Nat) (k u : Int) (w : World) (h2 : ¬ k = 2) (h4 : ¬ k = 4) :
    Calls Try.prog 62 #[.pointer (some ⟨hp, 0, none⟩), .agg #[.int .i64 k, .int .i64 u]] w fun e w' => e = .returned (.agg #[.int .i64 k, .int .i64 u, .string .empty, .slice none 0 0]) ∧ Below w.heap.size w w' := by
  have b2 : (k == 2) = false := by simpa using h2
  have b4 : (k == 4) = false := by simpa using h4
  go_enter Try.func62, Try.ntmps62
  go_wp2_with fail
  exact bodyPost_ret (v := .agg #[.int .i64 k, .int .i64 u, .string .empty, .slice none 0 0]) (by simp [results, Try.results62, go_sem]; rfl) rfl ⟨rfl, by go_grown⟩

set_option maxHeartbeats 1000000 in
set_option maxRecDepth 100000 in
theorem term_atom (base hp : Nat) (room : Int) (ws : List Wd) (nm : List ByteArray) (M : Nat → Prop) (i : Nat) (s : ByteArray) (w : World) (h : Hid (HpAt base hp room ws nm M w)) (hL : nm.length ≤ 100000) (hi : Hid (nm[i]? = some s)) (hsz : s.size ≤ 2048) :
    Calls Try.prog 62 #[.pointer (some ⟨hp, 0, none⟩), .agg #[.int .i64 2, .int .i64 i]] w fun e w' => e = .returned (.agg #[.int .i64 2, .int .i64 0, .string s, .slice none 0 0]) ∧ Below w.heap.size w w' := by
  go_enter Try.func62, Try.ntmps62
  go_wp2_with fail
  generalize hwA : (w.alloc (Obj.cells #[Value.int IntKind.i64 2, Value.int IntKind.i64 i] 37)).alloc (Obj.cells #[.int .i64 0, .int .i64 0, .string ⟨#[]⟩, .slice none 0 0] 24) = wA
  have HA : Hid (Below w.heap.size w wA.drew ∧ wA.drew.heap.size = w.heap.size + 2) := by
    subst hwA
    exact ⟨(((Below.refl _ _).alloc (Nat.le_refl _) _).alloc (by simp) _).drew, by simp [World.drew]⟩
  have e1 : wA.cell? ⟨w.heap.size, 1, none⟩ = some (.int .i64 i) := by subst hwA; simp [go_sem]
  have HR : Hid (Box4 (w.heap.size + 1) wA.drew) := by
    subst hwA
    have := heap_alloc_new (w.alloc (Obj.cells #[Value.int IntKind.i64 2, Value.int IntKind.i64 i] 37)) (Obj.cells #[.int .i64 0, .int .i64 0, .string ⟨#[]⟩, .slice none 0 0] 24)
    have es : ∀ o, (w.alloc o).heap.size = w.heap.size + 1 := fun o => by simp
    rw [es] at this
    exact this
  have HC : Hid (Calls Try.prog 90 #[.pointer (some ⟨hp, 2, none⟩), .int .i64 i] wA.drew fun e w' => e = .returned (.string s) ∧ Below wA.drew.heap.size wA.drew w') := by
    obtain ⟨tv, lv, mv, h1, h2, h3, _⟩ := h.out.later HA.out.1
    exact nameOf_any base hp room tv lv mv nm i s wA.drew h1 h3.1 hi hL hsz
  clear hwA
  go_region_held3 (fun w' => w'.cell? ⟨w.heap.size, 1, none⟩ = some (.int .i64 i)) (go_keep) ((go_at_call 90; refine HC.out.mono ?_; rintro e w2 ⟨rfl, hb2⟩; have HB2 := hide hb2; have hcc := fun o => below_cells hb2 w.heap.size o (by have := HA.out.2; omega); have HBX := hide (HR.out.kept (hb2.block _ (by have := HA.out.2; omega))); obtain ⟨⟨q0, q1, q2, q3⟩, f0⟩ := HBX.out.cells; clear hb2))
  have HF := hide (box_put HA.out.1 HB2.out (.int .i64 2) (.int .i64 0) (.string s) (.slice none 0 0))
  go_wp2_with fail
  exact bodyPost_ret (v := .agg #[.int .i64 2, .int .i64 0, .string s, .slice none 0 0]) (by simp [results, Try.results62, go_sem, q0, q1, q2, q3]) rfl ⟨rfl, HF.out⟩

theorem add_off (g o j : Nat) : (⟨g, o, none⟩ : Addr).add j = ⟨g, o + j, none⟩ := by
  unfold Addr.add
  by_cases h : j = 0 <;> simp [h]
theorem words_in {w : World} {vs : List Wd} {g o : Nat} (h : WordsAt w vs (some ⟨g, o, none⟩)) (hg : g < w.heap.size) : WordsIn w vs (some ⟨g, o, none⟩) := by
  rcases h with h | ⟨ad, e, hc⟩
  · exact Or.inl h
  · injection e with e
    subst e
    refine Or.inr ⟨g, o, rfl, hg, fun i v hv => ⟨?_, ?_⟩⟩
    · have := hc (i * 2 + 0) (.int .i64 v.1) (by rw [wCells_at vs i v hv 0 (by omega)]; rfl)
      rw [add_off] at this
      exact this
    · have := hc (i * 2 + 1) (.int .i64 v.2) (by rw [wCells_at vs i v hv 1 (by omega)]; rfl)
      rw [add_off] at this
      exact this

set_option maxHeartbeats 1000000 in
set_option maxRecDepth 100000 in
theorem term_tup (n : Nat) (ih : FTm n) (base hp : Nat) (room : Int) (ws : List Wd) (nm : List ByteArray) (M : Nat → Prop) (k len : Nat) (p : List (Tm n)) (hpl : Hid (p.length = len)) (w : World) (h : Hid (HpAt base hp room ws nm M w)) (hlen : len ≤ 8) (hw : Hid (ws.length ≤ 100000)) (hn : Hid (nm.length ≤ 100000))
    (hk : Hid (ws[k]? = some (0, (len : Int)))) (hkl : Hid (k + 1 + len ≤ ws.length)) (hst : Hid (∀ (i : Nat) (y : Tm n), p[i]? = some y → ∃ u, ws[k + 1 + i]? = some u ∧ Stands ws nm n y u)) (hrp : Hid (∀ y ∈ p, RightA ⟨n, y⟩)) :
    Calls Try.prog 62 #[.pointer (some ⟨hp, 0, none⟩), .agg #[.int .i64 4, .int .i64 k]] w fun e w' => ∃ a' c' l, e = .returned (.agg #[.int .i64 4, .int .i64 0, .string .empty, .slice a' len c']) ∧ Hid (CpRow n p w w' a' c' l) := by
  go_enter Try.func62, Try.ntmps62
  go_wp2_with fail
  generalize hwA : (w.alloc (Obj.cells #[Value.int IntKind.i64 4, Value.int IntKind.i64 k] 37)).alloc (Obj.cells #[.int .i64 0, .int .i64 0, .string ⟨#[]⟩, .slice none 0 0] 24) = wA
  have HA : Hid (Below w.heap.size w wA.drew ∧ wA.drew.heap.size = w.heap.size + 2) := by
    subst hwA
    exact ⟨(((Below.refl _ _).alloc (Nat.le_refl _) _).alloc (by simp) _).drew, by simp [World.drew]⟩
  have e1 : wA.cell? ⟨w.heap.size, 1, none⟩ = some (.int .i64 k) := by subst hwA; simp [go_sem]
  have HR : Hid (Box4 (w.heap.size + 1) wA.drew) := by
    subst hwA
    have := heap_alloc_new (w.alloc (Obj.cells #[Value.int IntKind.i64 4, Value.int IntKind.i64 k] 37)) (Obj.cells #[.int .i64 0, .int .i64 0, .string ⟨#[]⟩, .slice none 0 0] 24)
    have es : ∀ o, (w.alloc o).heap.size = w.heap.size + 1 := fun o => by simp
    rw [es] at this
    exact this
  have HH := hide (h.out.later HA.out.1)
  obtain ⟨g, L, tc, c1, HCP⟩ : ∃ g L tc, wA.cell? ⟨hp, 1, none⟩ = some (.slice (some ⟨g, 0, none⟩) L tc) ∧ Hid (hp < w.heap.size ∧ Calls Try.prog 91 #[.slice (some ⟨g, 0, none⟩) L tc, .int .i64 k] wA.drew fun e w' => ∃ o pc, e = .returned (.slice (some ⟨g, o, none⟩) len pc) ∧ w' = wA.drew ∧ Hid (WordsIn wA.drew ((ws.drop (k + 1)).take len) (some ⟨g, o, none⟩))) := by
    obtain ⟨tv, lv, mv, h1, h2, h3, h4, _⟩ := HH.out
    obtain ⟨⟨c0, c1, c2, c3⟩, hf⟩ := h1.cells
    have hkl' := hkl.out
    obtain ⟨g, tc, rfl, _, _⟩ := h2.form (by omega)
    refine ⟨g, _, tc, c1, h4.2, ?_⟩
    refine (parts_any base g ws.length tc k len ws wA.drew hw.out h2 hk hkl').mono ?_
    rintro e w' ⟨rfl, pa, pc, rfl, _, hwd, o, rfl⟩
    exact ⟨o, pc, rfl, rfl, words_in hwd (h2.lt g rfl).2⟩
  have HCT : Hid (∀ o pc, WordsIn wA.drew ((ws.drop (k + 1)).take len) (some ⟨g, o, none⟩) → Calls Try.prog 57 #[.pointer (some ⟨hp, 0, none⟩), .slice (some ⟨g, o, none⟩) len pc] wA.drew fun e w' => ∃ a' c' l, e = .returned (.agg #[.int .i64 4, .int .i64 0, .string .empty, .slice a' len c']) ∧ Hid (CpRow n p wA.drew w' a' c' l)) := by
    intro o pc hin
    refine tupleOf_loop n ih base hp room ws nm _ (some ⟨g, o, none⟩) len pc p ((ws.drop (k + 1)).take len) hpl ?_ wA.drew HH hlen hw hn hin ?_ hrp
    · have := hkl.out
      unfold Hid
      rw [List.length_take, List.length_drop]
      omega
    · intro i y v hy hv
      obtain ⟨u, hu, hs⟩ := hst.out i y hy
      have hi : i < len := by have := (List.getElem?_eq_some_iff.1 hy).1; have := hpl.out; omega
      rw [List.getElem?_take_of_lt hi, List.getElem?_drop, hu] at hv
      obtain rfl := Option.some.inj hv
      exact hs
  clear hwA ih hst hrp h HH hk hkl hw hn
  have hhp : hp < w.heap.size := HCP.out.1
  have hne : w.heap.size + 1 ≠ hp := by omega
  have HK : Hid (∀ (w2 : World) (v0 v1 v2 v3 : Value), (w2.cell? ⟨w.heap.size, 1, none⟩ = some (.int .i64 k) ∧ w2.cell? ⟨hp, 1, none⟩ = some (.slice (some ⟨g, 0, none⟩) L tc)) → ((((w2.setCell ⟨w.heap.size + 1, 0, none⟩ v0).setCell ⟨w.heap.size + 1, 1, none⟩ v1).setCell ⟨w.heap.size + 1, 2, none⟩ v2).setCell ⟨w.heap.size + 1, 3, none⟩ v3).cell? ⟨w.heap.size, 1, none⟩ = some (.int .i64 k) ∧ ((((w2.setCell ⟨w.heap.size + 1, 0, none⟩ v0).setCell ⟨w.heap.size + 1, 1, none⟩ v1).setCell ⟨w.heap.size + 1, 2, none⟩ v2).setCell ⟨w.heap.size + 1, 3, none⟩ v3).cell? ⟨hp, 1, none⟩ = some (.slice (some ⟨g, 0, none⟩) L tc)) := by
    intro w2 v0 v1 v2 v3 hh
    exact ⟨(block_cell (put4_block (o := 0) (w := w2) (show w.heap.size ≠ w.heap.size + 1 by omega) v0 v1 v2 v3) 1).trans hh.1, (block_cell (put4_block (o := 0) (w := w2) (show hp ≠ w.heap.size + 1 by omega) v0 v1 v2 v3) 1).trans hh.2⟩
  go_region_held3 (fun w' => w'.cell? ⟨w.heap.size, 1, none⟩ = some (.int .i64 k) ∧ w'.cell? ⟨hp, 1, none⟩ = some (.slice (some ⟨g, 0, none⟩) L tc)) (first | (go_keep; done) | exact HK.out _ _ _ _ _ hcp) ((first
    | (go_at_call 91; refine HCP.out.2.mono ?_; rintro e w2 ⟨o, pc, rfl, rfl, HW⟩)
    | (go_at_call 57; refine (HCT.out _ _ HW.out).mono ?_; rintro e w2 ⟨a', c', l, rfl, HCR⟩; have hcc := fun b o (hb : b < w.heap.size + 1) => below_cells HCR.out.1 b o (by have := HA.out.2; omega); have hcp : w2.cell? ⟨w.heap.size, 1, none⟩ = some (.int .i64 k) ∧ w2.cell? ⟨hp, 1, none⟩ = some (.slice (some ⟨g, 0, none⟩) L tc) := ⟨(hcc w.heap.size 1 (by omega)).trans e1, (hcc hp 1 (by omega)).trans c1⟩; have HBX := hide (HR.out.kept (HCR.out.1.block _ (by have := HA.out.2; omega))); obtain ⟨⟨q0, q1, q2, q3⟩, f0⟩ := HBX.out.cells)))
  have HF := hide (HCR.out.box HA.out.1 (by have := HA.out.2; omega) (.int .i64 4) (.int .i64 0) (.string .empty) (.slice a' len c'))
  go_wp2_with fail
  exact bodyPost_ret (v := .agg #[.int .i64 4, .int .i64 0, .string .empty, .slice a' len c']) (by simp [results, Try.results62, go_sem, q0, q1, q2, q3]) rfl ⟨a', c', l, rfl, HF.out⟩

theorem good_i64 (x : Nd) (h : good x = true) : I64 x.1.1 ∧ I64 x.1.2.1 := by
  have hk := good_kind x h
  unfold good inB at h
  unfold I64
  rcases hk with g | g | g | g | g | ⟨g, g0⟩
  all_goals (rw [g] at h ⊢; simp at h; refine ⟨by omega, by omega⟩)

theorem term_any (n : Nat) : FTm n := by
  induction n with
  | zero => intro x v base hp room ws nm M w _ _ _ hs; exact hs.elim
  | succ n ih =>
    intro x v base hp room ws nm M w h hw hn hs hr
    have hg := hr (hdOf n x) (by simp [nodes, hdOf])
    have hlen : x.2.2.length ≤ 8 := good_len (hdOf n x) hg
    have hname : x.1.2.2.size ≤ 2048 := by have := good_name (hdOf n x) hg; simp only [hdOf] at this; omega
    obtain ⟨s2, s4, s0⟩ := hs
    have gp := good_parts (hdOf n x) hg
    have in0 : ∀ (w' : World) (k u : Int) (s : ByteArray), I64 k → I64 u → s.size ≤ 2048 → In w'.heap.size w' (n + 1) ((k, u, s), (none, 0), []) := fun w' k u s h1 h2 h3 => ⟨⟨h1, h2, by unfold maxLen; show s.size ≤ _; omega, Nat.le_refl _, Nat.zero_le _⟩, Or.inl rfl⟩
    by_cases h2 : x.1.1 = 2
    · obtain ⟨i, rfl, hi⟩ := s2 h2
      have hx0 : x.2.2 = [] := List.eq_nil_of_length_eq_zero (gp.2.2.2.2 (by show x.1.1 ≠ 4; omega))
      refine (term_atom base hp room ws nm M i x.1.2.2 w h hn hi hname).mono ?_
      rintro e w' ⟨rfl, hb⟩
      refine ⟨((2, 0, x.1.2.2), (none, 0), []), rfl, hb, in0 w' 2 0 _ (by unfold I64; omega) (by unfold I64; omega) hname, Or.inl rfl, ?_⟩
      have h20 : x.1.2.1 = 0 := gp.2.1 h2
      simp [same, h2, h20, hx0, sameL]
    · by_cases h4 : x.1.1 = 4
      · obtain ⟨k, rfl, hk, hkl, hst⟩ := s4 h4
        refine (term_tup n ih base hp room ws nm M k x.2.2.length x.2.2 rfl w h hlen hw hn hk hkl hst (fun y hy => parts_right n x y hr hy)).mono ?_
        rintro e w' ⟨a', c', l, rfl, H⟩
        obtain ⟨k1, k2, k3, k4, k5, k6⟩ := H.out
        have h40 : x.1.2.1 = 0 := gp.2.2.1 h4
        have hnm : x.1.2.2.toList = [] := gp.1 h2
        refine ⟨((4, 0, .empty), (a', c'), l), by rw [← k2]; rfl, k1, ⟨⟨by unfold I64; show (-9223372036854775808 : Int) ≤ 4 ∧ (4 : Int) ≤ 9223372036854775807; omega, by unfold I64; show (-9223372036854775808 : Int) ≤ 0 ∧ (0 : Int) ≤ 9223372036854775807; omega, by unfold maxLen; show (0 : Nat) ≤ _; omega, k3, k4⟩, ?_⟩, ?_, ?_⟩
        · rcases k6 with k6 | ⟨b, o, e, hb1, hb2, k6⟩
          · exact Or.inl k6
          · exact Or.inr ⟨b, o, e, hb2, fun i y hy => ⟨(k6 i y hy).1, (k6 i y hy).2.1⟩⟩
        · rcases k6 with k6 | ⟨b, o, e, hb1, hb2, k6⟩
          · exact Or.inl k6
          · exact Or.inr ⟨b, o, e, hb1, fun i y hy => (k6 i y hy).2.2⟩
        · simp only [same]
          rw [h4, h40, hnm, k5]
          simp
      · have hv := s0 h2 h4
        subst hv
        have hx0 : x.2.2 = [] := List.eq_nil_of_length_eq_zero (gp.2.2.2.2 h4)
        have hnm : x.1.2.2.toList = [] := gp.1 h2
        refine (term_else hp x.1.1 x.1.2.1 w h2 h4).mono ?_
        rintro e w' ⟨rfl, hb⟩
        refine ⟨((x.1.1, x.1.2.1, .empty), (none, 0), []), rfl, hb, in0 w' _ _ _ ?_ ?_ (by show (0 : Nat) ≤ _; omega), Or.inl rfl, ?_⟩
        · exact (good_i64 _ hg).1
        · exact (good_i64 _ hg).2
        · simp only [same]
          rw [hnm, hx0]
          simp [sameL]
end Go.Proofs.Ytpehdgbdinjbaab
namespace Go.Proofs.Ytpehdgbdinjbaab
open Go.RowKit

def dep : (n : Nat) → Tm n → Int
  | 0, _ => 0
  | n + 1, x => if x.1.1 = 4 then 1 + x.2.2.foldl (fun m y => max m (dep n y)) 0 else 0
def depTo (n : Nat) (p : List (Tm n)) (k : Nat) : Int := (p.take k).foldl (fun m y => max m (dep n y)) 0
theorem depTo_succ (n : Nat) (p : List (Tm n)) (k : Nat) (x : Tm n) (h : p[k]? = some x) : depTo n p (k + 1) = max (depTo n p k) (dep n x) := by
  obtain ⟨h1, e1⟩ := List.getElem?_eq_some_iff.1 h
  unfold depTo
  rw [List.take_succ_eq_append_getElem h1, e1, List.foldl_append]
  rfl
theorem fold_bound {n : Nat} (N : Int) : (l : List (Tm n)) → (m : Int) → 0 ≤ m → m ≤ N → (∀ y ∈ l, 0 ≤ dep n y ∧ dep n y ≤ N) → 0 ≤ l.foldl (fun m y => max m (dep n y)) m ∧ l.foldl (fun m y => max m (dep n y)) m ≤ N
  | [], _, h0, h1, _ => ⟨h0, h1⟩
  | y :: l, m, h0, h1, h => by
    have hy := h y (by simp)
    exact fold_bound N l (max m (dep n y)) (by omega) (by omega) (fun z hz => h z (by simp [hz]))
theorem mem_nodes_le {n : Nat} (l : List (Tm n)) (y : Tm n) (h : y ∈ l) : (nodes n y).length ≤ (l.flatMap fun y => nodes n y).length := by
  obtain ⟨i, hi⟩ := List.getElem?_of_mem h
  have e4 := take_le (fun y => nodes n y) l (i + 1)
  rw [take_flat _ l i y hi, List.length_append] at e4
  omega
theorem dep_bound : (n : Nat) → (x : Tm n) → 0 ≤ dep n x ∧ dep n x ≤ (nodes n x).length
  | 0, _ => by simp [dep]
  | n + 1, x => by
    have hb := fold_bound ((x.2.2.flatMap fun y => nodes n y).length : Int) x.2.2 0 (by omega) (by omega) (fun y hy => by
      have h1 := dep_bound n y
      have h2 := mem_nodes_le x.2.2 y hy
      omega)
    simp only [dep, nodes, List.length_cons]
    by_cases h4 : x.1.1 = 4
    · rw [if_pos h4]; omega
    · rw [if_neg h4]; omega
theorem depTo_bound (n : Nat) (p : List (Tm n)) (k : Nat) : 0 ≤ depTo n p k ∧ depTo n p k ≤ (p.flatMap fun y => nodes n y).length :=
  fold_bound _ (p.take k) 0 (by omega) (by omega) (fun y hy => by
    have h1 := dep_bound n y
    have h2 := mem_nodes_le p y (List.mem_of_mem_take hy)
    omega)

def FDep (n : Nat) : Prop := ∀ (x : Tm n) (B : Nat) (w : World), In B w n x → B ≤ w.heap.size → (nodes n x).length ≤ 2097152 →
  Calls Try.prog 83 #[val n x] w fun e w' => e = .returned (.int .i64 (dep n x)) ∧ Below w.heap.size w w'

theorem depth_else (k0 u0 : Int) (s : ByteArray) (a : Option Addr) (len pc : Nat) (w : World) (h : ¬ k0 = 4) :
    Calls Try.prog 83 #[.agg #[.int .i64 k0, .int .i64 u0, .string s, .slice a len pc]] w fun e w' => e = .returned (.int .i64 0) ∧ Below w.heap.size w w' := by
  have h4 : (k0 != 4) = true := by simpa using h
  clear h
  go_enter Try.func83, Try.ntmps83
  go_wp2_with fail
  go_ret
  exact ⟨rfl, (Below.refl _ _).alloc (Nat.le_refl _) _⟩

set_option maxHeartbeats 400000 in
theorem depth_tup (n : Nat) (ih : FDep n) (u0 : Int) (s : ByteArray) (a : Option Addr) (pc len : Nat) (p : List (Tm n)) (hpl : Hid (p.length = len)) (B : Nat) (w : World)
    (hp : Hid (p = [] ∨ ∃ b o, a = some ⟨b, o, none⟩ ∧ b < B ∧ ∀ (i : Nat) (y : Tm n), p[i]? = some y → Held w b (o + i * 4) n y ∧ In B w n y))
    (hlen : len ≤ 9223372036854775807) (hB : B ≤ w.heap.size) (hsum : Hid (1 + (p.flatMap fun y => nodes n y).length ≤ 2097152)) :
    Calls Try.prog 83 #[.agg #[.int .i64 4, .int .i64 u0, .string s, .slice a len pc]] w fun e w' =>
      e = .returned (.int .i64 (1 + p.foldl (fun m y => max m (dep n y)) 0)) ∧ Below w.heap.size w w' := by
  go_enter Try.func83, Try.ntmps83
  go_wp2_with fail
  go_loopw [3, 12] (fun t i wr => ∃ k : Nat, ∃ r : Int, k ≤ len ∧ i = .int .i64 k ∧ t = .int .i64 r ∧ Hid (r = depTo n p k) ∧ Below w.heap.size w wr) (fun _ i _ => len - (intOf i).toNat)
  case atStart => exact ⟨0, 0, by omega, rfl, rfl, by simp [Hid, depTo], (Below.refl _ _).alloc (Nat.le_refl _) _⟩
  case round =>
    obtain ⟨k, r, hk, rfl, rfl, hr, hb⟩ := hrel
    have e1 := depTo_bound n p k
    rw [← hr.out] at e1
    have e5 := hsum.out
    have r1 : 0 ≤ r := e1.1
    have r2 : r ≤ 2097152 := by omega
    clear e1
    by_cases hlt : k < len
    · obtain ⟨x, hx⟩ : ∃ x, p[k]? = some x := ⟨p[k]'(by rw [hpl.out]; exact hlt), List.getElem?_eq_getElem _⟩
      have HS := hide (depTo_succ n p k x hx)
      have e3 := mem_nodes_le p x (List.mem_of_getElem? hx)
      have hx9 : (nodes n x).length ≤ 2097152 := by omega
      clear e3 e5
      rcases hp.out with hp | ⟨pb, po, rfl, hpb, hp⟩
      · subst hp; simp at hx
      obtain ⟨hx1, hx2⟩ := hp k x hx
      replace hx1 := hx1.below (hb.mono hB) hpb
      replace hx2 := hx2.below (hb.mono hB)
      clear hp hx
      cases n with
      | zero => exact hx1.elim
      | succ n =>
      obtain ⟨x0, x1, x2, x3⟩ := hx1
      have hB' : B ≤ wr.heap.size := Nat.le_trans hB hb.size
      have HC : Hid (∀ w1, Below wr.heap.size wr w1 → Calls Try.prog 83 #[.agg #[.int .i64 x.1.1, .int .i64 x.1.2.1, .string x.1.2.2, .slice x.2.1.1 x.2.2.length x.2.1.2]] w1 fun e w' => e = .returned (.int .i64 (dep (n + 1) x)) ∧ Below w1.heap.size w1 w') :=
        fun w1 h1 => ih x B w1 (hx2.below (h1.mono hB')) (Nat.le_trans hB' h1.size) hx9
      clear ih hx2 hx9
      generalize x.2.2.length = xl at *
      generalize dep (n + 1) x = z at *
      have hk1 : (0 : Int) ≤ (k : Int) := by omega
      have hk2 : (k : Int) < (len : Int) := by omega
      go_wp2_with fail
      refine (HC.out _ ((Below.refl _ _).alloc (Nat.le_refl _) _)).mono ?_
      rintro e w1 ⟨rfl, hb1⟩
      have hb2 : Below w.heap.size w w1 := (hb.trans (((Below.refl _ _).alloc (Nat.le_refl _) _).mono hb.size)).trans (hb1.mono (by have := hb.size; simp; omega))
      clear hb1
      have hmx : max r z = if r < z then z else r := by split <;> omega
      have HMX := hide hmx
      clear hmx
      go_wp2_with fail
      go_roundw
      case rel => exact ⟨k + 1, _, by omega, by go_num, rfl, by simp only [Hid]; rw [HS.out, ← hr.out, HMX.out], hb2⟩
      case measure => simp [intOf]; omega
    · go_wp2_with fail
      go_ret
      refine ⟨ret_int ?_, hb⟩
      rw [hr.out]
      unfold depTo
      rw [List.take_of_length_le (by rw [hpl.out]; omega)]

theorem depth_any (n : Nat) : FDep n := by
  induction n with
  | zero => intro x B w hx; exact hx.elim
  | succ n ih =>
    intro x B w hx hB hsum
    obtain ⟨⟨k, u, s⟩, ⟨a, pc⟩, p⟩ := x
    obtain ⟨⟨_, _, _, hpl, hpc⟩, hp⟩ := hx
    simp only at hpl hpc hp
    unfold maxLen at hpc
    have hL : (nodes (n + 1) ((k, u, s), (a, pc), p)).length = 1 + (p.flatMap fun y => nodes n y).length := by simp only [nodes, List.length_cons]; omega
    rw [hL] at hsum
    show Calls Try.prog 83 #[.agg #[.int .i64 k, .int .i64 u, .string s, .slice a p.length pc]] w fun e w' => e = .returned (.int .i64 (if k = 4 then 1 + p.foldl (fun m y => max m (dep n y)) 0 else 0)) ∧ Below w.heap.size w w'
    by_cases h4 : k = 4
    · subst h4
      exact depth_tup n ih u s a pc p.length p rfl B w hp (by omega) hB hsum
    · rw [if_neg h4]
      exact depth_else k u s a p.length pc w h4

/-- So many words behind k of the parts, as term.Size counts them. -/
def tszTo (n : Nat) (p : List (Tm n)) (k : Nat) : Int := 1 + p.length + ((p.take k).map fun y => sz n y).sum
theorem tszTo_succ (n : Nat) (p : List (Tm n)) (k : Nat) (x : Tm n) (h : p[k]? = some x) : tszTo n p (k + 1) = tszTo n p k + sz n x := by
  obtain ⟨h1, e1⟩ := List.getElem?_eq_some_iff.1 h
  unfold tszTo
  rw [List.take_succ_eq_append_getElem h1, e1]
  simp
  omega
theorem sum_split (n : Nat) (l : List (Tm n)) : (l.map fun y => 1 + sz n y).sum = l.length + (l.map fun y => sz n y).sum := by
  induction l with
  | nil => simp
  | cons y l ih => simp only [List.map_cons, List.sum_cons, List.length_cons, ih]; omega
theorem tszTo_all (n : Nat) (p : List (Tm n)) (k : Nat) (h : p.length ≤ k) : tszTo n p k = 1 + (p.map fun y => 1 + sz n y).sum := by
  unfold tszTo
  rw [List.take_of_length_le h, sum_split]
  omega
theorem len_nodes (n : Nat) (p : List (Tm n)) : p.length ≤ (p.flatMap fun y => nodes n y).length := by
  induction p with
  | nil => simp
  | cons y l ih =>
    have : 1 ≤ (nodes n y).length := by cases n <;> simp [nodes]
    simp only [List.flatMap_cons, List.length_append, List.length_cons]
    omega
theorem tszTo_bound (n : Nat) (p : List (Tm n)) (k : Nat) : 0 ≤ tszTo n p k ∧ tszTo n p k ≤ 3 * (1 + (p.flatMap fun y => nodes n y).length : Int) := by
  have h0 := len_nodes n p
  have h := take_le (fun y => nodes n y) p k
  have key : ∀ l : List (Tm n), 0 ≤ (l.map fun y => sz n y).sum ∧ (l.map fun y => sz n y).sum ≤ 2 * ((l.flatMap fun y => nodes n y).length : Int) := by
    intro l
    induction l with
    | nil => exact ⟨by simp, by simp⟩
    | cons y l ih =>
      have hy := sz_bound n y
      simp only [List.map_cons, List.sum_cons, List.flatMap_cons, List.length_append]
      exact ⟨by omega, by omega⟩
  have k := key (p.take k)
  unfold tszTo
  exact ⟨by omega, by omega⟩

def FSz (n : Nat) : Prop := ∀ (x : Tm n) (B : Nat) (w : World), In B w n x → B ≤ w.heap.size → (nodes n x).length ≤ 2097152 →
  Calls Try.prog 54 #[val n x] w fun e w' => e = .returned (.int .i64 (sz n x)) ∧ Below w.heap.size w w'

theorem tsize_else (k0 u0 : Int) (s : ByteArray) (a : Option Addr) (len pc : Nat) (w : World) (h : ¬ k0 = 4) :
    Calls Try.prog 54 #[.agg #[.int .i64 k0, .int .i64 u0, .string s, .slice a len pc]] w fun e w' => e = .returned (.int .i64 0) ∧ Below w.heap.size w w' := by
  have h4 : (k0 != 4) = true := by simpa using h
  clear h
  go_enter Try.func54, Try.ntmps54
  go_wp2_with fail
  go_ret
  exact ⟨rfl, (Below.refl _ _).alloc (Nat.le_refl _) _⟩

set_option maxHeartbeats 400000 in
theorem tsize_tup (n : Nat) (ih : FSz n) (u0 : Int) (s : ByteArray) (a : Option Addr) (pc len : Nat) (p : List (Tm n)) (hpl : Hid (p.length = len)) (B : Nat) (w : World)
    (hp : Hid (p = [] ∨ ∃ b o, a = some ⟨b, o, none⟩ ∧ b < B ∧ ∀ (i : Nat) (y : Tm n), p[i]? = some y → Held w b (o + i * 4) n y ∧ In B w n y))
    (hB : B ≤ w.heap.size) (hsum : Hid (1 + (p.flatMap fun y => nodes n y).length ≤ 2097152)) :
    Calls Try.prog 54 #[.agg #[.int .i64 4, .int .i64 u0, .string s, .slice a len pc]] w fun e w' =>
      e = .returned (.int .i64 (1 + (p.map fun y => 1 + sz n y).sum)) ∧ Below w.heap.size w w' := by
  have hlen : len ≤ 2097152 := by have h1 := len_nodes n p; have h2 := hsum.out; rw [← hpl.out]; omega
  go_enter Try.func54, Try.ntmps54
  go_wp2_with fail
  go_loopw [3, 16] (fun t i wr => ∃ k : Nat, ∃ r : Int, k ≤ len ∧ i = .int .i64 k ∧ t = .int .i64 r ∧ Hid (r = tszTo n p k) ∧ Below w.heap.size w wr) (fun _ i _ => len - (intOf i).toNat)
  case atStart => exact ⟨0, 1 + len, by omega, rfl, rfl, by simp only [Hid, tszTo]; rw [hpl.out]; simp, (Below.refl _ _).alloc (Nat.le_refl _) _⟩
  case round =>
    obtain ⟨k, r, hk, rfl, rfl, hr, hb⟩ := hrel
    have e1 := tszTo_bound n p k
    rw [← hr.out] at e1
    have e5 := hsum.out
    have r1 : 0 ≤ r := e1.1
    have r2 : r ≤ 6291456 := by omega
    clear e1
    by_cases hlt : k < len
    · obtain ⟨x, hx⟩ : ∃ x, p[k]? = some x := ⟨p[k]'(by rw [hpl.out]; exact hlt), List.getElem?_eq_getElem _⟩
      have HS := hide (tszTo_succ n p k x hx)
      have e3 := mem_nodes_le p x (List.mem_of_getElem? hx)
      have hx9 : (nodes n x).length ≤ 2097152 := by omega
      have e2 := sz_bound n x
      have z1 : 0 ≤ sz n x := e2.1
      have z2 : sz n x ≤ 4194304 := by omega
      clear e3 e5 e2
      rcases hp.out with hp | ⟨pb, po, rfl, hpb, hp⟩
      · subst hp; simp at hx
      obtain ⟨hx1, hx2⟩ := hp k x hx
      replace hx1 := hx1.below (hb.mono hB) hpb
      replace hx2 := hx2.below (hb.mono hB)
      clear hp hx
      cases n with
      | zero => exact hx1.elim
      | succ n =>
      obtain ⟨x0, x1, x2, x3⟩ := hx1
      have hB' : B ≤ wr.heap.size := Nat.le_trans hB hb.size
      have HC : Hid (∀ w1, Below wr.heap.size wr w1 → Calls Try.prog 54 #[.agg #[.int .i64 x.1.1, .int .i64 x.1.2.1, .string x.1.2.2, .slice x.2.1.1 x.2.2.length x.2.1.2]] w1 fun e w' => e = .returned (.int .i64 (sz (n + 1) x)) ∧ Below w1.heap.size w1 w') :=
        fun w1 h1 => ih x B w1 (hx2.below (h1.mono hB')) (Nat.le_trans hB' h1.size) hx9
      clear ih hx2 hx9
      generalize x.2.2.length = xl at *
      generalize sz (n + 1) x = z at *
      have hk1 : (0 : Int) ≤ (k : Int) := by omega
      have hk2 : (k : Int) < (len : Int) := by omega
      go_wp2_with fail
      refine (HC.out _ ((Below.refl _ _).alloc (Nat.le_refl _) _)).mono ?_
      rintro e w1 ⟨rfl, hb1⟩
      have hb2 : Below w.heap.size w w1 := (hb.trans (((Below.refl _ _).alloc (Nat.le_refl _) _).mono hb.size)).trans (hb1.mono (by have := hb.size; simp; omega))
      clear hb1
      go_wp2_with fail
      go_roundw
      case rel => exact ⟨k + 1, r + z, by omega, by go_num, by go_num, by simp only [Hid]; rw [HS.out, ← hr.out], hb2⟩
      case measure => simp [intOf]; omega
    · go_wp2_with fail
      go_ret
      refine ⟨ret_int ?_, hb⟩
      rw [hr.out, tszTo_all n p k (by rw [hpl.out]; omega)]

theorem tsize_any (n : Nat) : FSz n := by
  induction n with
  | zero => intro x B w hx; exact hx.elim
  | succ n ih =>
    intro x B w hx hB hsum
    obtain ⟨⟨k, u, s⟩, ⟨a, pc⟩, p⟩ := x
    obtain ⟨⟨_, _, _, hpl, hpc⟩, hp⟩ := hx
    simp only at hpl hpc hp
    have hL : (nodes (n + 1) ((k, u, s), (a, pc), p)).length = 1 + (p.flatMap fun y => nodes n y).length := by simp only [nodes, List.length_cons]; omega
    rw [hL] at hsum
    show Calls Try.prog 54 #[.agg #[.int .i64 k, .int .i64 u, .string s, .slice a p.length pc]] w fun e w' => e = .returned (.int .i64 (if k = 4 then 1 + (p.map fun y => 1 + sz n y).sum else 0)) ∧ Below w.heap.size w w'
    by_cases h4 : k = 4
    · subst h4
      exact tsize_tup n ih u s a pc p.length p rfl B w hp hB hsum
    · rw [if_neg h4]
      exact tsize_else k u s a p.length pc w h4

set_option maxHeartbeats 400000 in
theorem tcheck_walk (w : World) (k u : Int) (s : ByteArray) (a : Option Addr) (l c : Nat) (fb : Bool) (d z : Int)
    (HF : Hid (∀ w1, Below w.heap.size w w1 → Calls Try.prog 82 #[.agg #[.int .i64 k, .int .i64 u, .string s, .slice a l c]] w1 fun e w' => e = .returned (.bool fb) ∧ Below w1.heap.size w1 w'))
    (HD : Hid (∀ w1, Below w.heap.size w w1 → Calls Try.prog 83 #[.agg #[.int .i64 k, .int .i64 u, .string s, .slice a l c]] w1 fun e w' => e = .returned (.int .i64 d) ∧ Below w1.heap.size w1 w'))
    (HZ : Hid (∀ w1, Below w.heap.size w w1 → Calls Try.prog 54 #[.agg #[.int .i64 k, .int .i64 u, .string s, .slice a l c]] w1 fun e w' => e = .returned (.int .i64 z) ∧ Below w1.heap.size w1 w')) :
    Calls Try.prog 51 #[.agg #[.int .i64 k, .int .i64 u, .string s, .slice a l c]] w fun e w' => e = .returned (.int .i64 (if fb then if 12 < d ∨ 200 < z then 2 else 0 else 5)) ∧ Below w.heap.size w w' := by
  generalize hr : (if fb then if 12 < d ∨ 200 < z then (2 : Int) else 0 else 5) = r
  have HR := hide hr
  clear hr
  go_enter Try.func51, Try.ntmps51
  go_wp2_with fail
  refine (HF.out _ ((Below.refl _ _).alloc (Nat.le_refl _) _)).mono ?_
  rintro e w1 ⟨rfl, hb1⟩
  have HB1 : Hid (Below w.heap.size w w1 ∧ w.heap.size + 1 ≤ w1.heap.size) := ⟨((Below.refl _ _).alloc (Nat.le_refl _) _).trans (hb1.mono (by simp)), by have := hb1.size; simpa using this⟩
  have hcc := below_cells hb1
  simp only [World.size_alloc] at hcc
  have a0 := (hcc w.heap.size 0 (by omega)).trans (by simp [go_sem] : _ = some (Value.int .i64 k))
  have a1 := (hcc w.heap.size 1 (by omega)).trans (by simp [go_sem] : _ = some (Value.int .i64 u))
  have a2 := (hcc w.heap.size 2 (by omega)).trans (by simp [go_sem] : _ = some (Value.string s))
  have a3 := (hcc w.heap.size 3 (by omega)).trans (by simp [go_sem] : _ = some (Value.slice a l c))
  clear hcc hb1
  cases fb with
  | false =>
    go_wp2_with fail
    go_ret
    exact ⟨ret_int (by rw [← HR.out]; rfl), HB1.out.1⟩
  | true =>
    go_wp2_with fail
    refine (HD.out _ HB1.out.1).mono ?_
    rintro e w2 ⟨rfl, hb2⟩
    have HB2 : Hid (Below w.heap.size w w2) := HB1.out.1.trans (hb2.mono HB1.out.1.size)
    have hcc := below_cells hb2
    have hz1 := HB1.out.2
    replace a0 := (hcc w.heap.size 0 (by omega)).trans a0
    replace a1 := (hcc w.heap.size 1 (by omega)).trans a1
    replace a2 := (hcc w.heap.size 2 (by omega)).trans a2
    replace a3 := (hcc w.heap.size 3 (by omega)).trans a3
    clear hcc hb2 hz1
    by_cases h12 : 12 < d
    · have H12 := hide h12
      go_wp2_with fail
      go_ret
      exact ⟨ret_int (by rw [← HR.out, if_pos trivial, if_pos (Or.inl H12.out)]), HB2.out⟩
    · have H12 := hide h12
      go_wp2_with fail
      refine (HZ.out _ HB2.out).mono ?_
      rintro e w3 ⟨rfl, hb3⟩
      have HB3 : Hid (Below w.heap.size w w3) := HB2.out.trans (hb3.mono HB2.out.size)
      clear hb3
      by_cases hz : 200 < z
      · have HZ2 := hide hz
        go_wp2_with fail
        go_ret
        exact ⟨ret_int (by rw [← HR.out, if_pos trivial, if_pos (Or.inr HZ2.out)]), HB3.out⟩
      · have HZ2 := hide hz
        go_wp2_with fail
        go_ret
        exact ⟨ret_int (by rw [← HR.out, if_pos trivial, if_neg (by have := H12.out; have := HZ2.out; omega)]), HB3.out⟩

def tchk (n : Nat) (x : Tm n) : Int := if formedB n x then if 12 < dep n x ∨ 200 < sz n x then 2 else 0 else 5
theorem tcheck_tchk (n : Nat) (x : Tm n) (B : Nat) (w : World) (hx : In B w n x) (hB : B ≤ w.heap.size) (hN : (nodes n x).length ≤ 2097152) :
    Calls Try.prog 51 #[val n x] w fun e w' => e = .returned (.int .i64 (tchk n x)) ∧ Below w.heap.size w w' := by
  cases n with
  | zero => exact hx.elim
  | succ n =>
  exact tcheck_walk w x.1.1 x.1.2.1 x.1.2.2 x.2.1.1 x.2.2.length x.2.1.2 (formedB (n + 1) x) (dep (n + 1) x) (sz (n + 1) x)
    (fun w1 hw => formed_any (n + 1) x B w1 (hx.below (hw.mono hB)) (Nat.le_trans hB hw.size))
    (fun w1 hw => depth_any (n + 1) x B w1 (hx.below (hw.mono hB)) (Nat.le_trans hB hw.size) hN)
    (fun w1 hw => tsize_any (n + 1) x B w1 (hx.below (hw.mono hB)) (Nat.le_trans hB hw.size) hN)

/-- That each term in it is right by itself: the one way and the other. -/
theorem formed_good : (n : Nat) → (x : Tm n) → formedB n x = (nodes n x).all good
  | 0, _ => by simp [formedB, nodes, good]
  | n + 1, x => by
    have e : (nodes (n + 1) x).all good = (good (hdOf n x) && (x.2.2.flatMap fun y => nodes n y).all good) := rfl
    rw [e]
    simp only [formedB]
    cases hg : good (hdOf n x)
    · rfl
    · rw [Bool.true_and, Bool.true_and]
      by_cases h4 : x.1.1 = 4
      · rw [h4]
        have key : ∀ l : List (Tm n), (l.all fun y => formedB n y) = (l.flatMap fun y => nodes n y).all good := by
          intro l
          induction l with
          | nil => rfl
          | cons y l ih => simp only [List.all_cons, List.flatMap_cons, List.all_append, ih, formed_good n y]
        rw [key]
        simp
      · have hl : x.2.2 = [] := by
          unfold good at hg
          simp only [Bool.and_eq_true, Bool.or_eq_true, beq_iff_eq] at hg
          rcases hg.2 with h | h
          · exact (h4 h).elim
          · have : ¬ (0 : Int) < (x.2.2.length : Int) := by simpa [hdOf] using h
            exact List.eq_nil_of_length_eq_zero (by omega)
        rw [hl]
        simp

/-- How deep it is, of what is still to be looked at. -/
def deepL : List Nd → List Int → Int → Int
  | x :: l, d :: ds, m => deepL l ds (deeper x d m)
  | _, _, m => m
theorem chkL_all (z : Int) : (l : List Nd) → (ds : List Int) → (m : Int) → l.length = ds.length → chkL z l ds m = if l.all good then (if 12 < deepL l ds m ∨ 200 < z then 2 else 0) else 5
  | [], _, _, _ => rfl
  | x :: l, [], _, h => by simp at h
  | x :: l, d :: ds, m, h => by
    have ih := chkL_all z l ds (deeper x d m) (by simpa using h)
    simp only [chkL, deepL]
    by_cases hg : good x = true
    · have e : (x :: l).all good = l.all good := by simp [hg]
      rw [if_pos hg, ih]
      by_cases ha : l.all good = true
      · rw [if_pos ha, if_pos (e.trans ha)]; rfl
      · rw [if_neg ha, if_neg (fun h => ha (e.symm.trans h))]
    · rw [if_neg hg, if_neg (fun h => hg (List.all_eq_true.1 h x (by simp)))]

theorem deepL_append : (l r : List Nd) → (ds es : List Int) → (m : Int) → l.length = ds.length → deepL (l ++ r) (ds ++ es) m = deepL r es (deepL l ds m)
  | [], _, [], _, _, _ => rfl
  | [], _, _ :: _, _, _, h => by simp at h
  | _ :: _, _, [], _, _, h => by simp at h
  | x :: l, r, d :: ds, es, m, h => by
    simp only [List.cons_append, deepL]
    exact deepL_append l r ds es _ (by simpa using h)
theorem fold_max {n : Nat} (c : Int) : (p : List (Tm n)) → (m e : Int) → p.foldl (fun m y => max m (c + dep n y)) (max m (c + e)) = max m (c + p.foldl (fun m y => max m (dep n y)) e)
  | [], _, _ => rfl
  | y :: p, m, e => by
    simp only [List.foldl_cons]
    have h : max (max m (c + e)) (c + dep n y) = max m (c + max e (dep n y)) := by omega
    rw [h]
    exact fold_max c p m (max e (dep n y))
theorem deep_dep : (n : Nat) → (x : Tm n) → (d m : Int) → (∀ a ∈ nodes n x, good a = true) → d ≤ m → deepL (nodes n x) (deeps n x d) m = max m (d + dep n x)
  | 0, x, _, _, h, _ => by
    have := h ((0, 0, .empty), (none, 0, 0)) (by simp [nodes])
    rcases good_kind _ this with g | g | g | g | g | ⟨g, _⟩ <;> simp at g
  | n + 1, x, d, m, h, hm => by
    have hg := h (hdOf n x) (by simp [nodes, hdOf])
    have key : ∀ (p : List (Tm n)) (m : Int), (∀ y ∈ p, y ∈ x.2.2) → d + 1 ≤ m → deepL (p.flatMap fun y => nodes n y) (p.flatMap fun y => deeps n y (d + 1)) m = p.foldl (fun m y => max m (d + 1 + dep n y)) m := by
      intro p
      induction p with
      | nil => intro m _ _; rfl
      | cons y p ih =>
        intro m hp hm
        simp only [List.flatMap_cons, List.foldl_cons]
        rw [deepL_append _ _ _ _ _ (deeps_length n y (d + 1)).symm, deep_dep n y (d + 1) m (fun a ha => h a (nodes_mem (hp y (by simp)) ha)) hm]
        exact ih _ (fun z hz => hp z (by simp [hz])) (by omega)
    have e : deepL (nodes (n + 1) x) (deeps (n + 1) x d) m = deepL (x.2.2.flatMap fun y => nodes n y) (x.2.2.flatMap fun y => deeps n y (d + 1)) (deeper (hdOf n x) d m) := rfl
    rw [e]
    simp only [dep]
    by_cases h4 : x.1.1 = 4
    · rw [if_pos h4]
      have e1 : deeper (hdOf n x) d m = max m (d + 1 + 0) := by
        unfold deeper hdOf
        by_cases hlt : m < d + 1
        · rw [if_pos ⟨h4, hlt⟩]; omega
        · rw [if_neg (fun hh => hlt hh.2)]; omega
      rw [e1, key x.2.2 _ (fun _ hy => hy) (by omega), fold_max]
      omega
    · rw [if_neg h4]
      have hl : x.2.2 = [] := by
        unfold good at hg
        simp only [Bool.and_eq_true, Bool.or_eq_true, beq_iff_eq] at hg
        rcases hg.2 with h' | h'
        · exact (h4 h').elim
        · have : ¬ (0 : Int) < (x.2.2.length : Int) := by simpa [hdOf] using h'
          exact List.eq_nil_of_length_eq_zero (by omega)
      have e1 : deeper (hdOf n x) d m = m := deeper_no _ (fun hh => h4 hh.1)
      rw [hl, e1]
      simp only [List.flatMap_nil, deepL]
      omega
theorem tchk_chk (n : Nat) (x : Tm n) : tchk n x = chk n x := by
  unfold tchk chk
  rw [chkL_all _ _ _ _ (deeps_length n x 0).symm, ← formed_good n x]
  by_cases hf : formedB n x = true
  · rw [if_pos hf, if_pos hf]
    have hg : ∀ a ∈ nodes n x, good a = true := by
      rw [formed_good n x] at hf
      exact fun a ha => List.all_eq_true.1 hf a ha
    have hd := dep_bound n x
    rw [deep_dep n x 0 0 hg (by omega)]
    have : max (0 : Int) (0 + dep n x) = dep n x := by omega
    rw [this]
  · rw [if_neg hf, if_neg hf]

/-- term.Check is the document's Check. -/
theorem tcheck_any (n : Nat) (x : Tm n) (B : Nat) (w : World) (hx : In B w n x) (hB : B ≤ w.heap.size) (hN : (nodes n x).length ≤ 2097152) :
    Calls Try.prog 51 #[val n x] w fun e w' => e = .returned (.int .i64 (chk n x)) ∧ Below w.heap.size w w' := by
  rw [← tchk_chk]
  exact tcheck_tchk n x B w hx hB hN
end Go.Proofs.Ytpehdgbdinjbaab
