/- What is proved here: plain facts and contracts that the claimed theorem stands on, several texts in one: plain facts on how a heap lies in memory: its box, the row of its words, the row of its names, and the map from a name to its number; what keeps them. No condition. heap.names' number: the name's number if it has one, else the next one, which it has from then on. Condition: at most 100000 names. heap.tuples' add: the words of a tuple, behind those that are there. Condition: at most 100000 words. the small functions of a heap: New, Used, hasFree, begins, has, name: what they return; they turn no memory that was there. No other condition than the sizes. the small functions of a heap that only read: has, name, parts, hasFree: what they return. No other condition than the sizes. -/
import Derived.Test.YtpehdgbdinjbaabG07
import Derived.Maps.OwnSet
import Derived.Deep.AppendLies
import Derived.WalkSpells
import Derived.StringKeys
import Derived.Maps.AppendAt
import Derived.Deep.QuietTactic
import Derived.BigQuiet
namespace Go.Proofs.Ytpehdgbdinjbaab
open Go.RowKit Go.Maps

/-- The heap's box: room, the words, the names, the numbers of the names. -/
def HB (hp : Nat) (room : Int) (tv lv mv : Value) (w : World) : Prop := w.heap[hp]? = some (.cells #[.int .i64 room, tv, lv, mv] 99)
theorem HB.lt {hp : Nat} {room : Int} {tv lv mv : Value} {w : World} (h : HB hp room tv lv mv w) : hp < w.heap.size := (Array.getElem?_eq_some_iff.1 h).1
theorem HB.cells {hp : Nat} {room : Int} {tv lv mv : Value} {w : World} (h : HB hp room tv lv mv w) :
    (w.cell? ⟨hp, 0, none⟩ = some (.int .i64 room) ∧ w.cell? ⟨hp, 1, none⟩ = some tv ∧ w.cell? ⟨hp, 2, none⟩ = some lv ∧ w.cell? ⟨hp, 3, none⟩ = some mv) ∧ ∀ j, w.frozen? ⟨hp, j, none⟩ = false := by
  unfold HB at h
  refine ⟨⟨?_, ?_, ?_, ?_⟩, fun j => ?_⟩
  all_goals simp [World.cell?, World.frozen?, h]
theorem HB.set1 {hp : Nat} {room : Int} {tv lv mv : Value} {w : World} (h : HB hp room tv lv mv w) (v : Value) : HB hp room v lv mv (w.setCell ⟨hp, 1, none⟩ v) := by
  unfold HB at *
  simp [World.setCell, Array.getElem?_modify, h]
theorem HB.set2 {hp : Nat} {room : Int} {tv lv mv : Value} {w : World} (h : HB hp room tv lv mv w) (v : Value) : HB hp room tv v mv (w.setCell ⟨hp, 2, none⟩ v) := by
  unfold HB at *
  simp [World.setCell, Array.getElem?_modify, h]
theorem HB.set3 {hp : Nat} {room : Int} {tv lv mv : Value} {w : World} (h : HB hp room tv lv mv w) (v : Value) : HB hp room tv lv v (w.setCell ⟨hp, 3, none⟩ v) := by
  unfold HB at *
  simp [World.setCell, Array.getElem?_modify, h]
theorem HB.kept {hp : Nat} {room : Int} {tv lv mv : Value} {w w' : World} (h : HB hp room tv lv mv w) (k : w'.heap[hp]? = w.heap[hp]?) : HB hp room tv lv mv w' := k.trans h

/-- All but the blocks of which S holds are as they were; new ones may be there. -/
structure Keep (S : Nat → Prop) (w w' : World) : Prop where
  os : w'.os = w.os
  tape : w'.tape = w.tape
  output : w'.output = w.output
  size : w.heap.size ≤ w'.heap.size
  block : ∀ b, b < w.heap.size → ¬ S b → w'.heap[b]? = w.heap[b]?
theorem Keep.refl (S : Nat → Prop) (w : World) : Keep S w w := ⟨rfl, rfl, rfl, Nat.le_refl _, fun _ _ _ => rfl⟩
theorem Keep.trans {S T : Nat → Prop} {w w1 w2 : World} (h : Keep S w w1) (k : Keep T w1 w2) (hT : ∀ b, b < w.heap.size → T b → S b) : Keep S w w2 :=
  ⟨k.os.trans h.os, k.tape.trans h.tape, k.output.trans h.output, Nat.le_trans h.size k.size, fun b hb hs => (k.block b (Nat.lt_of_lt_of_le hb h.size) (fun ht => hs (hT b hb ht))).trans (h.block b hb hs)⟩
theorem Keep.mono {S T : Nat → Prop} {w w1 : World} (h : Keep S w w1) (hT : ∀ b, S b → T b) : Keep T w w1 := ⟨h.os, h.tape, h.output, h.size, fun b hb hs => h.block b hb fun k => hs (hT b k)⟩
theorem keep_below {w w' : World} (h : Below w.heap.size w w') (S : Nat → Prop) : Keep S w w' := ⟨h.os, h.tape, h.output, h.size, fun b hb _ => h.block b hb⟩
theorem keep_grown {w w' : World} {row : Option Nat} (h : w.grownBy w' row) : Keep (fun b => row = some b) w w' := ⟨h.os, h.tape, h.output, h.size, fun b hb hs => h.block b hb fun e => hs e.symm⟩
theorem keep_set (w : World) (q o : Nat) (v : Value) : Keep (fun b => b = q) w (w.setCell ⟨q, o, none⟩ v) :=
  ⟨rfl, rfl, rfl, by simp [World.setCell], fun b _ hne => by
    have : ¬ q = b := fun e => hne e.symm
    simp [World.setCell, Array.getElem?_modify, this]⟩

/-- A map's own block. -/
def mapBlock : Value → Option Nat
  | .map (some b) => some b
  | _ => none
theorem strLaw : Keyed Try.prog 9 := string_keyed Try.underlying9
theorem zeroInt (w : World) : (zeroValue 3).run Try.prog w = .ok (.int .i64 0) w := by kernel_rfl
def strCells (l : List ByteArray) : List Value := l.map .string
/-- D tells each name's number. -/
def NumsOf (D : DataW Unit) (nm : List ByteArray) : Prop := ∀ s : ByteArray, (Maps.has D (.string s.data.toList) = true ↔ s ∈ nm) ∧ ∀ i : Nat, nm[i]? = some s → D.atKey (.string s.data.toList) (.lit (.int .i64 0)) = .lit (.int .i64 i)
/-- The names, in memory. -/
def NamesAt (base : Nat) (nm : List ByteArray) (lv mv : Value) (w : World) : Prop :=
  w.ownsRow base 9 1 lv nm.length (strCells nm) ∧ nm.Nodup ∧
  ((mv = .map none ∧ nm = [] ∧ lv = .slice none 0 0) ∨ ∃ mb D, mv = .map (some mb) ∧ base ≤ mb ∧ w.ownsMap Try.prog 9 (plainElem Try.prog 3) mb nm.length D ∧ NumsOf D nm ∧ lv.ownBlock ≠ some mb)
theorem NamesAt.kept {base : Nat} {nm : List ByteArray} {lv mv : Value} {w w' : World} {S : Nat → Prop} (h : NamesAt base nm lv mv w) (k : Keep S w w') (h1 : ∀ b, lv.ownBlock = some b → ¬ S b) (h2 : ∀ b, mapBlock mv = some b → ¬ S b) : NamesAt base nm lv mv w' := by
  obtain ⟨k1, k2, k3⟩ := h
  have hrow : w'.ownsRow base 9 1 lv nm.length (strCells nm) := by
    refine ⟨k1.1, ?_⟩
    rcases k1.2 with ⟨e, e0⟩ | ⟨g, cap, cur, e, hg, hh, hr⟩
    · exact Or.inl ⟨e, e0⟩
    · exact Or.inr ⟨g, cap, cur, e, hg, (k.block g (Array.getElem?_eq_some_iff.1 hh).1 (h1 g (by rw [e]; rfl))).trans hh, hr⟩
  refine ⟨hrow, k2, ?_⟩
  rcases k3 with k3 | ⟨mb, D, rfl, hb, hm, hn, hne⟩
  · exact Or.inl k3
  · refine Or.inr ⟨mb, D, rfl, hb, ?_, hn, hne⟩
    obtain ⟨es, clock, hh, hr⟩ := hm
    exact ⟨es, clock, (k.block mb (Array.getElem?_eq_some_iff.1 hh).1 (h2 mb rfl)).trans hh, hr⟩
end Go.Proofs.Ytpehdgbdinjbaab
namespace Go.Proofs.Ytpehdgbdinjbaab
open Go.RowKit Go.Maps

theorem nums_index {D : DataW Unit} {nm : List ByteArray} (h : NumsOf D nm) {s : ByteArray} {c : Int} (hs : s ∈ nm) (hc : D.atKey (.string s.data.toList) (.lit (.int .i64 0)) = .lit (.int .i64 c)) : ∃ i : Nat, nm[i]? = some s ∧ c = i := by
  obtain ⟨i, hi⟩ := List.getElem?_of_mem hs
  have := (h s).2 i hi
  rw [this] at hc
  simp at hc
  exact ⟨i, hi, hc.symm⟩

set_option maxHeartbeats 1000000 in
set_option maxRecDepth 100000 in
theorem number_old (hp : Nat) (room : Int) (tv lv : Value) (mb : Nat) (D : DataW Unit) (nm : List ByteArray) (s : ByteArray) (w : World) (HBX : Hid (HB hp room tv lv (.map (some mb)) w)) (HM : Hid (w.ownsMap Try.prog 9 (plainElem Try.prog 3) mb nm.length D)) (HN : Hid (NumsOf D nm)) (hs : Hid (s ∈ nm)) (hsz : s.size ≤ 2048) :
    Calls Try.prog 84 #[.pointer (some ⟨hp, 2, none⟩), .string s] w fun e w' => ∃ i : Nat, e = .returned (.int .i64 i) ∧ Hid (nm[i]? = some s) ∧ w' = w := by
  have hhas : Maps.has D (.string s.data.toList) = true := ((HN.out s).1).2 hs.out
  obtain ⟨⟨c0, c1, c2, c3⟩, hf⟩ := HBX.out.cells
  go_enter Try.func84, Try.ntmps84
  go_wp2_with (at_lookup; refine wpList_lookup_own_ok_int _ rfl _ _ 95 rfl 9 3 .i64 strLaw Try.underlying95 Try.underlying3 (zeroInt _) mb nm.length D rfl HM.out _ _ rfl (Go.WideMaps.keyOf_string_mk Try.underlying9 (by unfold maxLen; omega)) ?_; intro c hat hwc; have HI := hide (nums_index HN.out hs.out hat); clear hat hwc; rw [hhas])
  obtain ⟨i, hi, rfl⟩ := HI.out
  go_ret
  exact ⟨i, rfl, hi, rfl⟩

/-- What a new name leaves. -/
def NewName (base hp : Nat) (room : Int) (tv lv mv : Value) (nm : List ByteArray) (s : ByteArray) (w w' : World) (lv' mv' : Value) : Prop :=
  HB hp room tv lv' mv' w' ∧ NamesAt base (nm ++ [s]) lv' mv' w' ∧ Keep (fun b => b = hp ∨ lv.ownBlock = some b ∨ mapBlock mv = some b) w w' ∧
  (∀ b, lv'.ownBlock = some b → lv.ownBlock = some b ∨ w.heap.size ≤ b) ∧ ∀ b, mapBlock mv' = some b → mapBlock mv = some b ∨ w.heap.size ≤ b

theorem infoString : (Try.prog.info? 9).map (fun i => (i.zero, i.size, i.bytes)) = some (some (.string .empty), 1, 16) := by kernel_rfl

theorem key_str (l : List UInt8) : WideAt.IsKeyLit (.string l) := by first | trivial | simp [WideAt.IsKeyLit] | decide
theorem new_name {base hp : Nat} {room : Int} {tv lv : Value} {mb : Nat} {D : DataW Unit} {nm : List ByteArray} {s : ByteArray} {w w1 w2 w4 : World} {o : Obj} {g c : Nat} (hB : HB hp room tv lv (.map (some mb)) w) (hmb : base ≤ mb) (hnd : nm.Nodup) (hn : NumsOf D nm) (hs : s ∉ nm) (hsz : s.size ≤ maxLen) (hlm : lv.ownBlock ≠ some mb)
    (hrow : w.ownsRow base 9 1 lv nm.length (strCells nm)) (hm : w.ownsMap Try.prog 9 (plainElem Try.prog 3) mb nm.length D)
    (hb : Below w.heap.size w w1) (hown : w2.ownsRow base 9 1 (.slice (some ⟨g, 0, none⟩) (nm.length + 1) c) (nm.length + 1) (strCells nm ++ [.string s])) (hg : (w1.alloc o).grownBy w2 lv.ownBlock) (hat : lv.ownBlock = some g ∨ g = w1.heap.size + 1)
    (hm4 : w4.ownsMap Try.prog 9 (plainElem Try.prog 3) mb (nm.length + 1) (D.put (.string s.data.toList) (.lit (.int .i64 nm.length)))) (hg4 : (w2.setCell ⟨hp, 2, none⟩ (.slice (some ⟨g, 0, none⟩) (nm.length + 1) c)).grownBy w4 (some mb)) :
    NewName base hp room tv lv (.map (some mb)) nm s w w4 (.slice (some ⟨g, 0, none⟩) (nm.length + 1) c) (.map (some mb)) := by
  have hhp := hB.lt
  have hmbl := hm.lt
  have hs1 := hb.size
  have es : (w1.alloc o).heap.size = w1.heap.size + 1 := by simp
  have hgs := hg.size
  have hpm : hp ≠ mb := by
    rintro rfl
    obtain ⟨es, clock, hh, _⟩ := hm
    have h2 : w.heap[hp]? = _ := hB
    rw [hh] at h2
    cases h2
  have hpl : lv.ownBlock ≠ some hp := fun e => by
    rcases hrow.2 with ⟨rfl, _⟩ | ⟨g', cap, cur, rfl, _, hh, _⟩
    · simp [Value.ownBlock] at e
    · simp [Value.ownBlock] at e
      subst e
      have h2 : w.heap[g']? = _ := hB
      rw [hh] at h2
      injection h2 with h2
      injection h2 with h2 h3
      cases h3
  have hlt : ∀ b, lv.ownBlock = some b → b < w.heap.size := fun b e => (hrow.lt b e).2
  have hgp : g ≠ hp := by
    rintro rfl
    rcases hat with e | e
    · exact hpl e
    · omega
  have hgm : g ≠ mb := by
    rintro rfl
    rcases hat with e | e
    · exact hlm e
    · omega
  have h2 : ∀ b, b < w.heap.size → lv.ownBlock ≠ some b → w2.heap[b]? = w.heap[b]? := fun b hb' hne => ((hg.block b (by omega) (fun e => hne e.symm)).trans ((World.grownBy_alloc w1 o none).block b (by omega) (by simp))).trans (hb.block b hb')
  have k3 := keep_set w2 hp 2 (.slice (some ⟨g, 0, none⟩) (nm.length + 1) c)
  have k3s := k3.size
  have k4s := hg4.size
  have hB2 : HB hp room tv lv (.map (some mb)) w2 := hB.kept (h2 hp hhp hpl)
  have hB3 := hB2.set2 (.slice (some ⟨g, 0, none⟩) (nm.length + 1) c)
  have hB4 : HB hp room tv (.slice (some ⟨g, 0, none⟩) (nm.length + 1) c) (.map (some mb)) w4 := hB3.kept (hg4.block hp (by omega) (fun e => hpm (Option.some.inj e)))
  refine ⟨hB4, ⟨?_, ?_, Or.inr ⟨mb, _, rfl, hmb, by simpa using hm4, ?_, ?_⟩⟩, ⟨?_, ?_, ?_, ?_, ?_⟩, ?_, ?_⟩
  · have e : strCells (nm ++ [s]) = strCells nm ++ [.string s] := by simp [strCells]
    rw [e, List.length_append]
    have hk3 : w2.grownBy (w2.setCell ⟨hp, 2, none⟩ (.slice (some ⟨g, 0, none⟩) (nm.length + 1) c)) (some hp) := ⟨rfl, rfl, rfl, k3s, fun b hb' hne => k3.block b hb' (fun e => hne (by rw [e]))⟩
    refine World.ownsRow.kept (World.ownsRow.kept hown hk3 (Or.inr ?_)) hg4 (Or.inr ?_)
    · simp only [Value.ownBlock]
      exact fun e => hgp (Option.some.inj e)
    · simp only [Value.ownBlock]
      exact fun e => hgm (Option.some.inj e)
  · rw [List.nodup_append]
    refine ⟨hnd, by simp, fun a ha b hb' => ?_⟩
    simp at hb'
    subst hb'
    exact fun e => hs (e ▸ ha)
  · intro t
    by_cases ht : t = s
    · subst ht
      refine ⟨?_, fun i hi => ?_⟩
      · rw [has_put_same hm.isMap (key_str _)]
        simp
      · rw [atKey_put_same hm.isMap (key_str _)]
        have : i = nm.length := by
          by_cases hlt : i < nm.length
          · rw [List.getElem?_append_left hlt] at hi
            exact absurd (List.mem_of_getElem? hi) hs
          · have := (List.getElem?_eq_some_iff.1 hi).1
            simp at this
            omega
        rw [this]
    · have hne : (Lit.string t.data.toList) ≠ (Lit.string s.data.toList) := fun e => ht (by
        injection e with e
        cases t; cases s
        simp only at e
        rw [Array.toList_inj.1 e])
      refine ⟨?_, fun i hi => ?_⟩
      · rw [has_put_other hne, (hn t).1]
        simp [ht]
      · rw [atKey_put_other hne]
        refine (hn t).2 i ?_
        by_cases hlt : i < nm.length
        · rw [List.getElem?_append_left hlt] at hi
          exact hi
        · have h1 := (List.getElem?_eq_some_iff.1 hi).1
          simp at h1
          have : i = nm.length := by omega
          subst this
          simp at hi
          exact absurd hi.symm ht
  · simp only [Value.ownBlock]
    exact fun e => hgm (Option.some.inj e)
  · exact (hg4.os.trans hg.os).trans hb.os
  · exact (hg4.tape.trans hg.tape).trans hb.tape
  · exact (hg4.output.trans hg.output).trans hb.output
  · omega
  · intro b hb' hne
    simp only [mapBlock, not_or] at hne
    exact (hg4.block b (by omega) (fun e => hne.2.2 e.symm)).trans ((k3.block b (by omega) hne.1).trans (h2 b hb' hne.2.1))
  · intro b e
    simp only [Value.ownBlock] at e
    obtain rfl := Option.some.inj e
    rcases hat with e | e
    · exact Or.inl e
    · exact Or.inr (by omega)
  · exact fun b e => Or.inl e

theorem one_string (w : World) (s : ByteArray) : ∀ j u, [Value.string s][j]? = some u → (w.alloc (.cells #[.string s] 9)).cell? ((⟨w.heap.size, 0, none⟩ : Addr).add j) = some u := by
  intro j u hj
  rw [add_none]
  cases j with
  | zero => simp at hj; subst hj; simp [go_sem]
  | succ j => simp at hj

theorem names_apart {base hp : Nat} {room : Int} {tv lv lv' mv : Value} {nm : List Value} {n : Nat} {w : World} (hrow : w.ownsRow base 9 1 lv n nm) (hB : HB hp room tv lv' mv w) : lv.ownBlock ≠ some hp := fun e => by
  rcases hrow.2 with ⟨rfl, _⟩ | ⟨g', cap, cur, rfl, _, hh, _⟩
  · simp [Value.ownBlock] at e
  · simp [Value.ownBlock] at e
    subst e
    have h2 : w.heap[g']? = _ := hB
    rw [hh] at h2
    injection h2 with h2
    injection h2 with h2 h3
    cases h3
theorem names_cells {hp : Nat} {lv v : Value} {w1 w2 : World} {o : Obj} (hlt : hp < w1.heap.size) (hne : lv.ownBlock ≠ some hp) (hg : (w1.alloc o).grownBy w2 lv.ownBlock) (hf : ∀ j, w1.frozen? ⟨hp, j, none⟩ = false) (hc : w1.cell? ⟨hp, 2, none⟩ = some v) : w2.cell? ⟨hp, 2, none⟩ = some v ∧ w2.frozen? ⟨hp, 2, none⟩ = false := by
  have h : w2.heap[hp]? = w1.heap[hp]? := (hg.block hp (by simp; omega) (fun e => hne e.symm)).trans ((World.grownBy_alloc w1 o none).block hp hlt (by simp))
  exact ⟨(block_cell h 2).trans hc, (World.frozen?_of_block (a := ⟨hp, 2, none⟩) h).trans (hf 2)⟩
theorem names_cell3 {hp : Nat} {lv v : Value} {w1 w2 : World} {o : Obj} (hlt : hp < w1.heap.size) (hne : lv.ownBlock ≠ some hp) (hg : (w1.alloc o).grownBy w2 lv.ownBlock) (hc : w1.cell? ⟨hp, 3, none⟩ = some v) : w2.cell? ⟨hp, 3, none⟩ = some v := by
  have h : w2.heap[hp]? = w1.heap[hp]? := (hg.block hp (by simp; omega) (fun e => hne e.symm)).trans ((World.grownBy_alloc w1 o none).block hp hlt (by simp))
  exact (block_cell h 3).trans hc
theorem names_map {hp mb L : Nat} {lv : Value} {D : DataW Unit} {w1 w2 : World} {o : Obj} (hm : w1.ownsMap Try.prog 9 (plainElem Try.prog 3) mb L D) (hpm : hp ≠ mb) (hlm : lv.ownBlock ≠ some mb) (hg : (w1.alloc o).grownBy w2 lv.ownBlock) (v : Value) : (w2.setCell ⟨hp, 2, none⟩ v).ownsMap Try.prog 9 (plainElem Try.prog 3) mb L D :=
  (((hm.alloc o).kept hg (fun e => hlm e.symm))).setCell (a := ⟨hp, 2, none⟩) (fun e => hpm e.symm) v

set_option maxHeartbeats 1000000 in
set_option maxRecDepth 100000 in
theorem number_new (base hp : Nat) (room : Int) (tv lv : Value) (la : Option Addr) (lc L : Nat) (mb : Nat) (D : DataW Unit) (nm : List ByteArray) (s : ByteArray) (w : World) (hlv : lv = .slice la L lc) (HL : Hid (nm.length = L)) (hL : L ≤ 100000) (HBX : Hid (HB hp room tv lv (.map (some mb)) w)) (hmb : Hid (base ≤ mb)) (hbw : base ≤ w.heap.size) (hnd : Hid (nm.Nodup)) (HM : Hid (w.ownsMap Try.prog 9 (plainElem Try.prog 3) mb L D)) (HN : Hid (NumsOf D nm)) (hs : Hid (s ∉ nm)) (hsz : s.size ≤ 2048) (hlm : Hid (lv.ownBlock ≠ some mb)) (HR : Hid (w.ownsRow base 9 1 lv L (strCells nm))) :
    Calls Try.prog 84 #[.pointer (some ⟨hp, 2, none⟩), .string s] w fun e w' => e = .returned (.int .i64 L) ∧ ∃ lv' mv', Hid (NewName base hp room tv lv (.map (some mb)) nm s w w' lv' mv') := by
  subst hlv
  have hhas : Maps.has D (.string s.data.toList) = false := by
    cases h : Maps.has D (.string s.data.toList)
    · rfl
    · exact absurd (((HN.out s).1).1 h) hs.out
  obtain ⟨it, hit, htz0, htz1, htz2⟩ := info_parts infoString
  have HT := hide (⟨hit, htz0, htz1, htz2⟩ : _ ∧ _ ∧ _ ∧ _)
  clear hit htz0 htz1 htz2
  obtain ⟨⟨c0, c1, c2, c3⟩, hf⟩ := HBX.out.cells
  have hq : ∀ (w : World) (r : Option Nat), (binOp .eql 95 (.map r) (.map none)).run Try.prog w = .ok (.bool r.isNone) w := fun w r => run_eql_map_nil w _ _ _ r Try.underlying95
  go_enter Try.func84, Try.ntmps84
  go_wp2_with (at_lookup; refine wpList_lookup_own_ok_int _ rfl _ _ 95 rfl 9 3 .i64 strLaw Try.underlying95 Try.underlying3 (zeroInt _) mb L D rfl HM.out _ _ rfl (Go.WideMaps.keyOf_string_mk Try.underlying9 (by unfold maxLen; omega)) ?_; intro c hat hwc; clear hat hwc; rw [hhas])
  refine (strcopy_any s _ hsz).mono ?_
  rintro e w1 ⟨rfl, hb1⟩
  have hhp : hp < w.heap.size := HBX.out.lt
  have HB1 := hide hb1
  obtain ⟨⟨d0, d1, d2, d3⟩, hf1⟩ := (HBX.out.kept (hb1.block hp hhp)).cells
  have hhp1 : hp < w1.heap.size := Nat.lt_of_lt_of_le hhp hb1.size
  have HMP : Hid (hp ≠ mb) := by
    rintro rfl
    obtain ⟨es, clock, hh, _⟩ := HM.out
    have h2 : w.heap[hp]? = _ := HBX.out
    rw [hh] at h2
    cases h2
  have HPL : Hid ((Value.slice la L lc).ownBlock ≠ some hp) := names_apart HR.out HBX.out
  have HM1 : Hid (w1.ownsMap Try.prog 9 (plainElem Try.prog 3) mb L D) := HM.out.kept (grown_of_below hb1 none) (by simp)
  clear hb1 c0 c1 c2 c3 hf
  go_wp2_with (first
    | (at_builtin; refine wpList_append_lies _ rfl _ _ 94 rfl base 9 it _ 1 16 Try.underlying94 HT.out.1 HT.out.2.1 HT.out.2.2.1 HT.out.2.2.2 rfl (by decide) _ L _ rfl ((own_below HR.out HB1.out).alloc _) ⟨w1.heap.size, 0, none⟩ 1 1 [.string s] rfl rfl (one_string w1 s) (by intro u hu; simp at hu; subst hu; rfl) (by decide) (by unfold maxLen; omega) (by omega) (by have := HB1.out.size; simp; omega) (w1.heap.size + 1) (by simp) ?_; intro g2 c2 w2 hown2 hgrow2 hat2 hlt2; have H2 := hide (⟨hown2, hgrow2, hat2, hlt2⟩ : _ ∧ _ ∧ _ ∧ _); obtain ⟨e2, f2⟩ := names_cells hhp1 HPL.out hgrow2 hf1 d2; have e3 := names_cell3 hhp1 HPL.out hgrow2 d3; have HM2 := hide (names_map HM1.out HMP.out hlm.out hgrow2 (.slice (some ⟨g2, 0, none⟩) (L + 1) c2)); clear hown2 hgrow2 hat2 hlt2)
    | (at_mapUpdate; refine wpList_mapUpdate_own _ rfl _ _ _ 95 rfl 9 3 strLaw Try.underlying95 (plainElem Try.prog 3) mb L D rfl HM2.out (by unfold maxLen; omega) _ _ _ rfl rfl (Go.WideMaps.keyOf_string_mk Try.underlying9 (by unfold maxLen; omega)) (.lit (.int .i64 L)) [] (plainElem_int Try.underlying3 (WalkArith.wf_i64 (by omega))) ?_; intro w4 hown4 hgrow4; have H4 := hide (⟨hown4, hgrow4⟩ : _ ∧ _); clear hown4 hgrow4))
  go_ret
  have hl := HL.out
  subst hl
  exact ⟨rfl, _, _, new_name HBX.out hmb.out hnd.out HN.out hs.out (by unfold maxLen; omega) hlm.out HR.out HM.out HB1.out H2.out.1 H2.out.2.1 H2.out.2.2.1 H4.out.1 H4.out.2⟩

theorem first_name {base hp : Nat} {room : Int} {tv lv lv' mv' : Value} {s : ByteArray} {w wA w4 : World} (h : NewName base hp room tv lv (.map (some w.heap.size)) [] s wA w4 lv' mv') (k : Keep (fun b => b = hp) w wA) (hs : wA.heap.size = w.heap.size + 1) : NewName base hp room tv lv (.map none) [] s w w4 lv' mv' := by
  obtain ⟨h1, h2, h3, h4, h5⟩ := h
  refine ⟨h1, h2, ?_, ?_, ?_⟩
  · refine (k.mono fun b hb => Or.inl hb).trans h3 fun b hb hT => ?_
    rcases hT with e | e | e
    · exact Or.inl e
    · exact Or.inr (Or.inl e)
    · simp only [mapBlock] at e
      have := Option.some.inj e
      omega
  · intro b e
    rcases h4 b e with e | e
    · exact Or.inl e
    · exact Or.inr (by omega)
  · intro b e
    rcases h5 b e with e | e
    · simp only [mapBlock] at e
      have := Option.some.inj e
      exact Or.inr (by omega)
    · exact Or.inr (by omega)
theorem nums_nil : NumsOf (.map []) [] := fun s => ⟨by simp [Maps.has], fun i hi => by simp at hi⟩

set_option maxHeartbeats 1000000 in
set_option maxRecDepth 100000 in
theorem number_first (base hp : Nat) (room : Int) (tv lv : Value) (s : ByteArray) (w : World) (hlv : lv = .slice none 0 0) (HBX : Hid (HB hp room tv lv (.map none) w)) (hbw : base ≤ w.heap.size) (hsz : s.size ≤ 2048) :
    Calls Try.prog 84 #[.pointer (some ⟨hp, 2, none⟩), .string s] w fun e w' => e = .returned (.int .i64 0) ∧ ∃ lv' mv', Hid (NewName base hp room tv lv (.map none) [] s w w' lv' mv') := by
  subst hlv
  obtain ⟨it, hit, htz0, htz1, htz2⟩ := info_parts infoString
  have HT := hide (⟨hit, htz0, htz1, htz2⟩ : _ ∧ _ ∧ _ ∧ _)
  clear hit htz0 htz1 htz2
  obtain ⟨⟨c0, c1, c2, c3⟩, hf⟩ := HBX.out.cells
  have hhp : hp < w.heap.size := HBX.out.lt
  have hq : ∀ (w : World) (r : Option Nat), (binOp .eql 95 (.map r) (.map none)).run Try.prog w = .ok (.bool r.isNone) w := fun w r => run_eql_map_nil w _ _ _ r Try.underlying95
  have hln : (Instr.lookup 95 (.map none) (.string s) true).run Try.prog w = .ok (.tuple #[.int .i64 0, .bool false]) w := by
    simpa using Maps.look_nil (w := w) true strLaw Try.underlying95 (zeroInt _) (Go.WideMaps.keyOf_string_mk Try.underlying9 (show s.size ≤ maxLen by unfold maxLen; omega))
  have hmm := @run_makeMap Try.prog
  go_enter Try.func84, Try.ntmps84
  go_wp2_with fail
  generalize hwA : (w.setCell ⟨hp, 3, none⟩ (.map (some w.heap.size))).alloc (.map #[] 0) = wA
  have HWA : Hid (HB hp room tv (.slice none 0 0) (.map (some w.heap.size)) wA ∧ wA.ownsMap Try.prog 9 (plainElem (H := Unit) Try.prog 3) w.heap.size 0 (.map []) ∧ Keep (fun b => b = hp) w wA ∧ wA.heap.size = w.heap.size + 1) := by
    subst hwA
    have es : (w.setCell ⟨hp, 3, none⟩ (.map (some w.heap.size))).heap.size = w.heap.size := by simp [World.setCell]
    have hm := World.ownsMap_made (w.setCell ⟨hp, 3, none⟩ (.map (some w.heap.size))) Try.prog 9 (plainElem (H := Unit) Try.prog 3)
    rw [es] at hm
    refine ⟨(HBX.out.set3 (.map (some w.heap.size))).kept ((World.grownBy_alloc _ _ none).block hp (by rw [es]; exact hhp) (by simp)), hm, ⟨rfl, rfl, rfl, by simp [World.setCell], fun b hb hne => ?_⟩, by simp [World.setCell]⟩
    exact ((World.grownBy_alloc _ _ none).block b (by rw [es]; exact hb) (by simp)).trans ((keep_set w hp 3 (.map (some w.heap.size))).block b hb hne)
  clear hwA c0 c1 c2 c3 hf hln hmm
  refine (strcopy_any s _ hsz).mono ?_
  rintro e w1 ⟨rfl, hb1⟩
  have hhpA : hp < wA.heap.size := HWA.out.1.lt
  have HB1 := hide hb1
  obtain ⟨⟨d0, d1, d2, d3⟩, hf1⟩ := (HWA.out.1.kept (hb1.block hp hhpA)).cells
  have hhp1 : hp < w1.heap.size := Nat.lt_of_lt_of_le hhpA hb1.size
  have HMP : Hid (hp ≠ w.heap.size) := by unfold Hid; omega
  have HPL : Hid ((Value.slice none 0 0).ownBlock ≠ some hp) := by simp [Hid, Value.ownBlock]
  have HM1 : Hid (w1.ownsMap Try.prog 9 (plainElem (H := Unit) Try.prog 3) w.heap.size 0 (.map [])) := HWA.out.2.1.kept (grown_of_below hb1 none) (by simp)
  have HBS : Hid (base ≤ w1.heap.size) := by have h1 := HWA.out.2.2.2; have h2 := hb1.size; unfold Hid; omega
  clear hb1
  go_wp2_with (first
    | (at_builtin; refine wpList_append_lies _ rfl _ _ 94 rfl base 9 it _ 1 16 Try.underlying94 HT.out.1 HT.out.2.1 HT.out.2.2.1 HT.out.2.2.2 rfl (by decide) _ 0 [] rfl (World.ownsRow_nil _ _ _ _) ⟨w1.heap.size, 0, none⟩ 1 1 [.string s] rfl rfl (one_string w1 s) (by intro u hu; simp at hu; subst hu; rfl) (by decide) (by unfold maxLen; omega) (by omega) (by have := HBS.out; simp; omega) (w1.heap.size + 1) (by simp) ?_; intro g2 c2 w2 hown2 hgrow2 hat2 hlt2; have H2 := hide (⟨hown2, hgrow2, hat2, hlt2⟩ : _ ∧ _ ∧ _ ∧ _); obtain ⟨e2, f2⟩ := names_cells hhp1 HPL.out hgrow2 hf1 d2; have e3 := names_cell3 hhp1 HPL.out hgrow2 d3; have HM2 := hide (names_map (lv := .slice none 0 0) HM1.out HMP.out (by simp [Value.ownBlock]) hgrow2 (.slice (some ⟨g2, 0, none⟩) (0 + 1) c2)); clear hown2 hgrow2 hat2 hlt2)
    | (at_mapUpdate; refine wpList_mapUpdate_own _ rfl _ _ _ 95 rfl 9 3 strLaw Try.underlying95 (plainElem Try.prog 3) w.heap.size 0 (.map []) rfl HM2.out (by unfold maxLen; omega) _ _ _ rfl rfl (Go.WideMaps.keyOf_string_mk Try.underlying9 (by unfold maxLen; omega)) (.lit (.int .i64 0)) [] (plainElem_int Try.underlying3 (WalkArith.wf_i64 (by omega))) ?_; intro w4 hown4 hgrow4; have H4 := hide (⟨hown4, hgrow4⟩ : _ ∧ _); clear hown4 hgrow4))
  go_ret
  have hnn := new_name (nm := []) HWA.out.1 hbw (by simp) nums_nil (by simp) (show s.size ≤ maxLen by unfold maxLen; omega) (by simp [Value.ownBlock]) (World.ownsRow_nil _ _ _ _) HWA.out.2.1 HB1.out H2.out.1 H2.out.2.1 H2.out.2.2.1 H4.out.1 H4.out.2
  exact ⟨rfl, _, _, first_name hnn HWA.out.2.2.1 HWA.out.2.2.2⟩

/-- Whatever name: its number, and the names as they are then. -/
theorem number_any (base hp : Nat) (room : Int) (tv lv mv : Value) (nm : List ByteArray) (s : ByteArray) (w : World) (hB : HB hp room tv lv mv w) (hN : NamesAt base nm lv mv w) (hbw : base ≤ w.heap.size) (hL : nm.length ≤ 100000) (hsz : s.size ≤ 2048) :
    Calls Try.prog 84 #[.pointer (some ⟨hp, 2, none⟩), .string s] w fun e w' => ∃ i : Nat, e = .returned (.int .i64 i) ∧ ∃ nm' lv' mv', Hid (nm'[i]? = some s ∧ (nm' = nm ∨ nm' = nm ++ [s]) ∧ HB hp room tv lv' mv' w' ∧ NamesAt base nm' lv' mv' w' ∧ Keep (fun b => b = hp ∨ lv.ownBlock = some b ∨ mapBlock mv = some b) w w' ∧
      (∀ b, lv'.ownBlock = some b → lv.ownBlock = some b ∨ w.heap.size ≤ b) ∧ ∀ b, mapBlock mv' = some b → mapBlock mv = some b ∨ w.heap.size ≤ b) := by
  obtain ⟨h1, h2, h3⟩ := hN
  rcases h3 with ⟨rfl, rfl, hlv⟩ | ⟨mb, D, rfl, hmb, hm, hn, hlm⟩
  · refine (number_first base hp room tv lv s w hlv hB hbw hsz).mono ?_
    rintro e w' ⟨rfl, lv', mv', H⟩
    obtain ⟨k1, k2, k3, k4, k5⟩ := H.out
    exact ⟨0, rfl, [s], lv', mv', rfl, Or.inr rfl, k1, k2, k3, k4, k5⟩
  · by_cases hs : s ∈ nm
    · refine (number_old hp room tv lv mb D nm s w hB hm hn hs hsz).mono ?_
      rintro e w' ⟨i, rfl, hi, rfl⟩
      exact ⟨i, rfl, nm, lv, .map (some mb), hi.out, Or.inl rfl, hB, ⟨h1, h2, Or.inr ⟨mb, D, rfl, hmb, hm, hn, hlm⟩⟩, Keep.refl _ _, fun b e => Or.inl e, fun b e => Or.inl e⟩
    · obtain ⟨la, lc, hlv⟩ : ∃ la lc, lv = .slice la nm.length lc := by
        rcases h1.2 with ⟨e, e0⟩ | ⟨g, c, cur, e, _⟩
        · exact ⟨none, 0, by rw [e, e0]⟩
        · exact ⟨_, c, e⟩
      refine (number_new base hp room tv lv la lc nm.length mb D nm s w hlv rfl hL hB hmb hbw h2 hm hn hs hsz hlm h1).mono ?_
      rintro e w' ⟨rfl, lv', mv', H⟩
      obtain ⟨k1, k2, k3, k4, k5⟩ := H.out
      exact ⟨nm.length, rfl, nm ++ [s], lv', mv', by simp, Or.inr rfl, k1, k2, k3, k4, k5⟩
end Go.Proofs.Ytpehdgbdinjbaab
namespace Go.Proofs.Ytpehdgbdinjbaab
open Go.RowKit

/-- A word: its kind, its number. -/
abbrev Wd := Int × Int
def wd2 (x : Wd) : List Value := [.int .i64 x.1, .int .i64 x.2]
def wCells (l : List Wd) : List Value := l.flatMap wd2
theorem wCells_length (l : List Wd) : (wCells l).length = l.length * 2 := by
  induction l with
  | nil => rfl
  | cons a l ih =>
    have : wCells (a :: l) = wd2 a ++ wCells l := rfl
    rw [this, List.length_append, ih, List.length_cons]
    have : (wd2 a).length = 2 := rfl
    omega
theorem wCells_append (l r : List Wd) : wCells (l ++ r) = wCells l ++ wCells r := by simp [wCells]
theorem wCells_one (l : List Wd) : ∀ u ∈ wCells l, u.oneCell' = true := by
  intro u hu
  simp only [wCells, List.mem_flatMap] at hu
  obtain ⟨a, _, hu⟩ := hu
  simp [wd2] at hu
  rcases hu with rfl | rfl <;> rfl
theorem wCells_at (l : List Wd) (k : Nat) (x : Wd) (hx : l[k]? = some x) (j : Nat) (hj : j < 2) : (wCells l)[k * 2 + j]? = (wd2 x)[j]? := by
  induction l generalizing k with
  | nil => simp at hx
  | cons y l ih =>
    have e : wCells (y :: l) = wd2 y ++ wCells l := rfl
    have hy : (wd2 y).length = 2 := rfl
    rw [e]
    cases k with
    | zero =>
      simp at hx
      subst hx
      rw [List.getElem?_append_left (by omega)]
      simp
    | succ k =>
      rw [List.getElem?_append_right (by omega), hy, show (k + 1) * 2 + j - 2 = k * 2 + j by omega]
      exact ih k (by simpa using hx)
theorem infoWord : (Try.prog.info? 37).map (fun i => (i.zero, i.size, i.bytes)) = some (some (.agg #[.int .i64 0, .int .i64 0]), 2, 16) := by kernel_rfl
theorem two_news (w : World) (x : Wd) : ∀ j u, (wd2 x)[j]? = some u → (w.alloc (.cells #[.int .i64 x.1, .int .i64 x.2] 37)).cell? ((⟨w.heap.size, 0, none⟩ : Addr).add j) = some u := by
  intro j u hj
  rw [add_none]
  have : j < 2 := (List.getElem?_eq_some_iff.1 hj).1
  have h4 : j = 0 ∨ j = 1 := by omega
  rcases h4 with rfl | rfl <;> simp [wd2] at hj <;> subst hj <;> simp [go_sem]
theorem wd2_one (x : Wd) : ∀ u ∈ wd2 x, u.oneCell' = true := by
  intro u hu
  simp [wd2] at hu
  rcases hu with rfl | rfl <;> rfl

theorem run_append_types {P : Program} (w : World) (t u ty e e' : TypeId) (ht : P.underlying t = some (.slice e)) (hu : P.underlying u = some (.slice e')) (i : TypeInfo) (hi : P.info? e = some i) (b xa : Option Addr) (n c m xc : Nat) : (Builtin.append_ #[t, u] ty #[.slice b n c, .slice xa m xc]).run P w = (Builtin.append_ #[t, t] ty #[.slice b n c, .slice xa m xc]).run P w := by
  simp [Builtin.append_, run_underlying ht, run_underlying hu, sizeOf, typeInfo, hi, Builtin.lenOf]
theorem run_append_zero {P : Program} (w : World) (t u ty e e' : TypeId) (i : TypeInfo) (ht : P.underlying t = some (.slice e)) (hu : P.underlying u = some (.slice e')) (hi : P.info? e = some i) (b xa : Option Addr) (n cap xc : Nat) (hle : n ≤ cap) :
    (Builtin.append_ #[t, u] ty #[.slice b n cap, .slice xa 0 xc]).run P w = .ok (.slice b n cap) w := by
  have hld : ∀ a : Addr, (loadCells a 0).run P w = .ok #[] w := fun a => run_loadCells_list (P := P) w a [] (fun j v h => by simp at h)
  cases b <;> cases xa <;> simp [Builtin.append_, run_underlying ht, run_underlying hu, sizeOf, typeInfo, hi, Builtin.lenOf, Builtin.firstCells, hle, storeCells, hld]

/-- Words that a value leads to. -/
def WordsAt (w : World) (ps : List Wd) (xa : Option Addr) : Prop := ps = [] ∨ ∃ ad, xa = some ad ∧ ∀ j u, (wCells ps)[j]? = some u → w.cell? (ad.add j) = some u
theorem run_append_words {base : Nat} {v : Value} {n m xc : Nat} {xs : List Value} {ps : List Wd} {xa : Option Addr} {w : World} (ty : TypeId) (hown : w.ownsRow base 37 2 v n xs) (hs : WordsAt w ps xa) (hm : ps.length = m) (h63 : n + m ≤ 200000) (hbase : base ≤ w.heap.size) :
    ∃ v' w', (Builtin.append_ #[93, 42] ty #[v, .slice xa m xc]).run Try.prog w = .ok v' w' ∧ w'.ownsRow base 37 2 v' (n + m) (xs ++ wCells ps) ∧ w.grownBy w' v.ownBlock ∧ (v'.ownBlock = v.ownBlock ∨ v'.ownBlock = some w.heap.size) := by
  obtain ⟨it, hit, htz0, htz1, htz2⟩ := info_parts infoWord
  rcases hs with rfl | ⟨ad, rfl, hc⟩
  · obtain rfl : m = 0 := hm.symm
    obtain ⟨b, cap, hv, hle⟩ : ∃ b cap, v = .slice b n cap ∧ n ≤ cap := by
      rcases hown.2 with ⟨rfl, rfl⟩ | ⟨g, cap, cur, rfl, _, _, h, _⟩
      · exact ⟨none, 0, rfl, Nat.le_refl _⟩
      · exact ⟨_, cap, rfl, h⟩
    subst hv
    refine ⟨_, w, run_append_zero w _ _ ty _ _ it Try.underlying93 Try.underlying42 hit b xa n cap xc hle, by simpa [wCells] using hown, World.grownBy.refl _ _, Or.inl rfl⟩
  · obtain ⟨b, cap, hv⟩ : ∃ b cap, v = .slice b n cap := by
      rcases hown.2 with ⟨rfl, rfl⟩ | ⟨g, cap, cur, rfl, _⟩
      · exact ⟨none, 0, rfl⟩
      · exact ⟨_, cap, rfl⟩
    subst hv
    rw [run_append_types w _ _ ty _ _ Try.underlying93 Try.underlying42 it hit]
    obtain ⟨v', w', h1, h2, h3, _, h5⟩ := run_append_own_at (P := Try.prog) w base 93 ty 37 it _ 2 16 Try.underlying93 hit htz0 htz1 htz2 rfl (by decide) _ n xs hown ad m xc (wCells ps) (by rw [wCells_length, hm]) hc (wCells_one _) (by unfold maxLen; omega) (by omega) hbase
    exact ⟨v', w', h1, h2, h3, h5⟩

theorem wpList_append_words {w : World} {ops : Array Oper} {rest : List Oper} {o : Oper} {a : Act} {Q : Exit → Act → World → Prop} (hgd : o.guard = none) (s x : Operand) (ho : o.op = .call { callee := .builtin .append, args := #[s, x], argTypes := #[93, 42] })
    {base : Nat} {v : Value} {n m xc : Nat} {xs : List Value} {ps : List Wd} {xa : Option Addr} (hs : a.eval s = v) (hx : a.eval x = .slice xa m xc) (hown : w.ownsRow base 37 2 v n xs) (hw : WordsAt w ps xa) (hm : ps.length = m) (h63 : n + m ≤ 200000) (hbase : base ≤ w.heap.size)
    (hK : ∀ v' w', w'.ownsRow base 37 2 v' (n + m) (xs ++ wCells ps) → w.grownBy w' v.ownBlock → (v'.ownBlock = v.ownBlock ∨ v'.ownBlock = some w.heap.size) → wpList Try.prog ops Q rest (a.put o.dst v') w') : wpList Try.prog ops Q (o :: rest) a w :=
  wpList_plain hgd fun K hK' => by
    obtain ⟨v', w', hr, h2, h3, h5⟩ := run_append_words (xc := xc) o.type hown hw hm h63 hbase
    unfold Oper.wp execOp
    simp only [ho, resolve, invoke, builtin, Sem.run_bind, Sem.run_pure, Result.andThen_ok, List.map_toArray, List.map_cons, List.map_nil, hs, hx, hr]
    exact hK' _ _ (hK v' w' h2 h3 h5)

/-- What adding a tuple leaves. -/
def Added (base pb po : Nat) (tv : Value) (ws ps : List Wd) (w w' : World) (tv' : Value) : Prop :=
  w'.ownsRow base 37 2 tv' (ws.length + 1 + ps.length) (wCells (ws ++ (0, (ps.length : Int)) :: ps)) ∧ w'.heap[pb]? = (w.setCell ⟨pb, po, none⟩ tv').heap[pb]? ∧
  Keep (fun b => b = pb ∨ tv.ownBlock = some b) w w' ∧ ∀ b, tv'.ownBlock = some b → (tv.ownBlock = some b ∨ w.heap.size ≤ b)

theorem add_cells {pb po : Nat} {v : Value} {w w2 : World} {o o1 : Obj} {row : Option Nat} (hlt : pb < w.heap.size) (hne : row ≠ some pb) (hg : ((w.alloc o).alloc o1).grownBy w2 row) (hc : w.cell? ⟨pb, po, none⟩ = some v) (hf : w.frozen? ⟨pb, po, none⟩ = false) : w2.cell? ⟨pb, po, none⟩ = some v ∧ w2.frozen? ⟨pb, po, none⟩ = false ∧ pb < w2.heap.size := by
  have e : ((w.alloc o).alloc o1).heap.size = w.heap.size + 2 := by simp
  have h : w2.heap[pb]? = w.heap[pb]? := ((hg.block pb (by omega) (fun e => hne e.symm)).trans ((World.grownBy_alloc (w.alloc o) o1 none).block pb (by simp; omega) (by simp))).trans ((World.grownBy_alloc w o none).block pb hlt (by simp))
  have := hg.size
  exact ⟨(block_cell h po).trans hc, (World.frozen?_of_block (a := ⟨pb, po, none⟩) h).trans hf, by omega⟩

theorem add_mid {base pb : Nat} {tv : Value} {L g2 c2 : Nat} {ys : List Value} {ps : List Wd} {pa : Option Addr} {w w2 : World} {o o1 : Obj} (hpb : pb < w.heap.size) (hbw : base ≤ w.heap.size) (hne : tv.ownBlock ≠ some pb)
    (hown : w2.ownsRow base 37 2 (.slice (some ⟨g2, 0, none⟩) (L + 1) c2) (L + 1) ys) (hg : ((w.alloc o).alloc o1).grownBy w2 tv.ownBlock) (hat : tv.ownBlock = some g2 ∨ g2 = w.heap.size + 2) (po : Nat)
    (hs : ∀ w1, Keep (fun b => b = pb ∨ tv.ownBlock = some b) w w1 → WordsAt w1 ps pa) :
    (w2.setCell ⟨pb, po, none⟩ (.slice (some ⟨g2, 0, none⟩) (L + 1) c2)).ownsRow base 37 2 (.slice (some ⟨g2, 0, none⟩) (L + 1) c2) (L + 1) ys ∧ WordsAt (w2.setCell ⟨pb, po, none⟩ (.slice (some ⟨g2, 0, none⟩) (L + 1) c2)) ps pa ∧ base ≤ (w2.setCell ⟨pb, po, none⟩ (.slice (some ⟨g2, 0, none⟩) (L + 1) c2)).heap.size := by
  have hgp : g2 ≠ pb := by
    rintro rfl
    rcases hat with e | e
    · exact hne e
    · omega
  have e : ((w.alloc o).alloc o1).heap.size = w.heap.size + 2 := by simp
  have hgs := hg.size
  have k3 := keep_set w2 pb po (.slice (some ⟨g2, 0, none⟩) (L + 1) c2)
  have hk : Keep (fun b => b = pb ∨ tv.ownBlock = some b) w (w2.setCell ⟨pb, po, none⟩ (.slice (some ⟨g2, 0, none⟩) (L + 1) c2)) := by
    refine ⟨?_, ?_, ?_, ?_, ?_⟩
    · exact hg.os
    · exact hg.tape
    · exact hg.output
    · have := k3.size; omega
    · intro b hb hnb
      simp only [not_or] at hnb
      exact (k3.block b (by omega) hnb.1).trans (((hg.block b (by omega) (fun e => hnb.2 e.symm)).trans ((World.grownBy_alloc (w.alloc o) o1 none).block b (by simp; omega) (by simp))).trans ((World.grownBy_alloc w o none).block b hb (by simp)))
  refine ⟨World.ownsRow.kept hown (row := some pb) ⟨rfl, rfl, rfl, k3.size, fun b hb' hne => k3.block b hb' (fun e => hne (by rw [e]))⟩ (Or.inr ?_), hs _ hk, by have := k3.size; omega⟩
  simp only [Value.ownBlock]
  exact fun e => hgp (Option.some.inj e)

theorem add_last {base pb po : Nat} {tv : Value} {L g2 c2 : Nat} {xs : List Value} {w w2 w4 : World} {o1 : Obj} {v0 v1 u : Value} {n2 : Nat} (hpb : pb < w.heap.size) (hr : w.ownsRow base 37 2 tv L xs) (hne : tv.ownBlock ≠ some pb) (hg : ((w.alloc (.cells #[v0, v1] 37)).alloc o1).grownBy w2 tv.ownBlock) (hat : tv.ownBlock = some g2 ∨ g2 = w.heap.size + 2)
    (hg4 : (w2.setCell ⟨pb, po, none⟩ (.slice (some ⟨g2, 0, none⟩) n2 c2)).grownBy w4 (Value.slice (some ⟨g2, 0, none⟩) n2 c2).ownBlock) (hc : w2.cell? ⟨pb, po, none⟩ = some u) (hf : w2.frozen? ⟨pb, po, none⟩ = false) :
    (w4.cell? ⟨w.heap.size, 0, none⟩ = some v0 ∧ w4.cell? ⟨w.heap.size, 1, none⟩ = some v1) ∧ (w4.frozen? ⟨w.heap.size, 0, none⟩ = false ∧ w4.frozen? ⟨w.heap.size, 1, none⟩ = false) ∧ w4.cell? ⟨pb, po, none⟩ = some (.slice (some ⟨g2, 0, none⟩) n2 c2) ∧ w4.frozen? ⟨pb, po, none⟩ = false := by
  have hlt : ∀ b, tv.ownBlock = some b → b < w.heap.size := fun b e => (hr.lt b e).2
  have e : ((w.alloc (.cells #[v0, v1] 37)).alloc o1).heap.size = w.heap.size + 2 := by simp
  have hgs := hg.size
  have k3 := keep_set w2 pb po (.slice (some ⟨g2, 0, none⟩) n2 c2)
  have k3s := k3.size
  have hgw : g2 ≠ w.heap.size := by
    rintro rfl
    rcases hat with e | e
    · have := hlt _ e; omega
    · omega
  have hgp : g2 ≠ pb := by
    rintro rfl
    rcases hat with e | e
    · exact hne e
    · omega
  have h4 : ∀ b, b < w2.heap.size → b ≠ g2 → w4.heap[b]? = (w2.setCell ⟨pb, po, none⟩ (.slice (some ⟨g2, 0, none⟩) n2 c2)).heap[b]? := fun b hb hn => hg4.block b (by omega) (fun e => hn (Option.some.inj e))
  have hbox : w4.heap[w.heap.size]? = some (.cells #[v0, v1] 37) := by
    refine (h4 _ (by omega) (fun e => hgw e.symm)).trans ((k3.block _ (by omega) (by omega)).trans ((hg.block _ (by omega) (fun e => by have := hlt _ e.symm; omega)).trans (((World.grownBy_alloc (w.alloc (.cells #[v0, v1] 37)) o1 none).block _ (by simp) (by simp)).trans (heap_alloc_new w _))))
  have hp4 := h4 pb (by omega) (fun e => hgp e.symm)
  refine ⟨⟨by simp [World.cell?, hbox], by simp [World.cell?, hbox]⟩, ⟨by simp [World.frozen?, hbox], by simp [World.frozen?, hbox]⟩, ?_, ?_⟩
  · rw [block_cell hp4 po]
    simp [go_sem, hc]
  · rw [World.frozen?_of_block (a := ⟨pb, po, none⟩) hp4]
    simp [go_sem, hf]

theorem set_same (w : World) (q o : Nat) (u v : Value) : ((w.setCell ⟨q, o, none⟩ u).setCell ⟨q, o, none⟩ v).heap[q]? = (w.setCell ⟨q, o, none⟩ v).heap[q]? := by
  simp only [World.setCell, Array.getElem?_modify, if_true]
  cases w.heap[q]? with
  | none => rfl
  | some x => cases x <;> simp
theorem set_block {w w' : World} {q : Nat} (h : w'.heap[q]? = w.heap[q]?) (o : Nat) (v : Value) : (w'.setCell ⟨q, o, none⟩ v).heap[q]? = (w.setCell ⟨q, o, none⟩ v).heap[q]? := by
  simp only [World.setCell, Array.getElem?_modify, if_true, h]
theorem add_end {base pb po : Nat} {tv : Value} {g2 c2 g4 c4 : Nat} {ws ps : List Wd} {w w2 w4 : World} {o0 o1 : Obj} {u0 u1 : Value} (hpb : pb < w.heap.size) (hr : w.ownsRow base 37 2 tv ws.length (wCells ws)) (hne : tv.ownBlock ≠ some pb)
    (hg : ((w.alloc o0).alloc o1).grownBy w2 tv.ownBlock) (hat : tv.ownBlock = some g2 ∨ g2 = w.heap.size + 2)
    (hown : w4.ownsRow base 37 2 (.slice (some ⟨g4, 0, none⟩) (ws.length + 1 + ps.length) c4) (ws.length + 1 + ps.length) (wCells ws ++ wd2 (0, (ps.length : Int)) ++ wCells ps))
    (hg4 : (w2.setCell ⟨pb, po, none⟩ (.slice (some ⟨g2, 0, none⟩) (ws.length + 1) c2)).grownBy w4 (Value.slice (some ⟨g2, 0, none⟩) (ws.length + 1) c2).ownBlock)
    (hat4 : (Value.slice (some ⟨g4, 0, none⟩) (ws.length + 1 + ps.length) c4).ownBlock = (Value.slice (some ⟨g2, 0, none⟩) (ws.length + 1) c2).ownBlock ∨ (Value.slice (some ⟨g4, 0, none⟩) (ws.length + 1 + ps.length) c4).ownBlock = some (w2.setCell ⟨pb, po, none⟩ (.slice (some ⟨g2, 0, none⟩) (ws.length + 1) c2)).heap.size) :
    Added base pb po tv ws ps w (((w4.setCell ⟨pb, po, none⟩ (.slice (some ⟨g4, 0, none⟩) (ws.length + 1 + ps.length) c4)).setCell ⟨w.heap.size, 0, none⟩ u0).setCell ⟨w.heap.size, 1, none⟩ u1) (.slice (some ⟨g4, 0, none⟩) (ws.length + 1 + ps.length) c4) := by
  have hlt : ∀ b, tv.ownBlock = some b → b < w.heap.size := fun b e => (hr.lt b e).2
  have e : ((w.alloc o0).alloc o1).heap.size = w.heap.size + 2 := by simp
  have hgs := hg.size
  have k3 := keep_set w2 pb po (.slice (some ⟨g2, 0, none⟩) (ws.length + 1) c2)
  have k3s := k3.size
  have hg4s := hg4.size
  have hgw : g2 ≠ w.heap.size := by
    rintro rfl
    rcases hat with e | e
    · have := hlt _ e; omega
    · omega
  have hgp : g2 ≠ pb := by
    rintro rfl
    rcases hat with e | e
    · exact hne e
    · omega
  have h44 : g4 = g2 ∨ w.heap.size + 2 ≤ g4 := by
    rcases hat4 with e4 | e4
    · exact Or.inl (by simpa [Value.ownBlock] using e4)
    · have e5 : g4 = (w2.setCell ⟨pb, po, none⟩ (.slice (some ⟨g2, 0, none⟩) (ws.length + 1) c2)).heap.size := by
        simp only [Value.ownBlock] at e4
        exact Option.some.inj e4
      exact Or.inr (by omega)
  have h4w : g4 ≠ w.heap.size := by omega
  have h4p : g4 ≠ pb := by omega
  have h2 : ∀ b, b < w.heap.size → tv.ownBlock ≠ some b → w2.heap[b]? = w.heap[b]? := fun b hb hn => ((hg.block b (by omega) (fun e => hn e.symm)).trans ((World.grownBy_alloc (w.alloc o0) o1 none).block b (by simp; omega) (by simp))).trans ((World.grownBy_alloc w o0 none).block b hb (by simp))
  have h4 : ∀ b, b < w2.heap.size → b ≠ g2 → w4.heap[b]? = (w2.setCell ⟨pb, po, none⟩ (.slice (some ⟨g2, 0, none⟩) (ws.length + 1) c2)).heap[b]? := fun b hb hn => hg4.block b (by omega) (fun e => hn (Option.some.inj e))
  have k5 := keep_set w4 pb po (.slice (some ⟨g4, 0, none⟩) (ws.length + 1 + ps.length) c4)
  have k6 := keep_set (w4.setCell ⟨pb, po, none⟩ (.slice (some ⟨g4, 0, none⟩) (ws.length + 1 + ps.length) c4)) w.heap.size 0 u0
  have k7 := keep_set ((w4.setCell ⟨pb, po, none⟩ (.slice (some ⟨g4, 0, none⟩) (ws.length + 1 + ps.length) c4)).setCell ⟨w.heap.size, 0, none⟩ u0) w.heap.size 1 u1
  have s5 := k5.size
  have s6 := k6.size
  have s7 := k7.size
  have h7 : ∀ b, b < w4.heap.size → b ≠ w.heap.size → (((w4.setCell ⟨pb, po, none⟩ (.slice (some ⟨g4, 0, none⟩) (ws.length + 1 + ps.length) c4)).setCell ⟨w.heap.size, 0, none⟩ u0).setCell ⟨w.heap.size, 1, none⟩ u1).heap[b]? = (w4.setCell ⟨pb, po, none⟩ (.slice (some ⟨g4, 0, none⟩) (ws.length + 1 + ps.length) c4)).heap[b]? := fun b hb hn => (k7.block b (by omega) hn).trans (k6.block b (by omega) hn)
  refine ⟨?_, ?_, ⟨?_, ?_, ?_, ?_, ?_⟩, ?_⟩
  · have ec : wCells (ws ++ (0, (ps.length : Int)) :: ps) = wCells ws ++ wd2 (0, (ps.length : Int)) ++ wCells ps := by simp [wCells]
    rw [ec]
    obtain ⟨x1, x2⟩ := hown
    refine ⟨x1, ?_⟩
    rcases x2 with ⟨x2, _⟩ | ⟨g', cap, cur, hv, hb, hh, hr'⟩
    · simp at x2
    · injection hv with e1 e2 e3
      injection e1 with e1
      injection e1 with e1 _
      subst e1 e3
      have hlt4 := (Array.getElem?_eq_some_iff.1 hh).1
      exact Or.inr ⟨g4, c4, cur, rfl, hb, (h7 g4 hlt4 h4w).trans ((k5.block g4 hlt4 h4p).trans hh), hr'⟩
  · refine (h7 pb (by omega) (by omega)).trans ((set_block (h4 pb (by omega) (fun e => hgp e.symm)) po _).trans ((set_same w2 pb po _ _).trans (set_block (h2 pb hpb hne) po _)))
  · exact hg4.os.trans hg.os
  · exact hg4.tape.trans hg.tape
  · exact hg4.output.trans hg.output
  · omega
  · intro b hb hn
    simp only [not_or] at hn
    have hb2 : b ≠ g2 := by
      rintro rfl
      rcases hat with e | e
      · exact hn.2 e
      · omega
    exact (h7 b (by omega) (by omega)).trans ((k5.block b (by omega) hn.1).trans ((h4 b (by omega) hb2).trans ((k3.block b (by omega) hn.1).trans (h2 b hb hn.2))))
  · intro b eb
    simp only [Value.ownBlock] at eb
    obtain rfl := Option.some.inj eb
    rcases h44 with e | e
    · rw [e]
      rcases hat with e' | e'
      · exact Or.inl e'
      · exact Or.inr (by omega)
    · exact Or.inr (by omega)

set_option maxHeartbeats 1000000 in
set_option maxRecDepth 100000 in
theorem add_walk (base pb po : Nat) (tv : Value) (ta : Option Addr) (tc L : Nat) (ws ps : List Wd) (m pc : Nat) (pa : Option Addr) (w : World) (htv : tv = .slice ta L tc) (HL : Hid (ws.length = L)) (HM : Hid (ps.length = m)) (hL : L ≤ 100000) (hM : m ≤ 1000) (hbw : base ≤ w.heap.size)
    (c0 : w.cell? ⟨pb, po, none⟩ = some tv) (f0 : w.frozen? ⟨pb, po, none⟩ = false) (hpb : pb < w.heap.size) (hne : Hid (tv.ownBlock ≠ some pb)) (HR : Hid (w.ownsRow base 37 2 tv L (wCells ws)))
    (HS : Hid (∀ w1, Keep (fun b => b = pb ∨ tv.ownBlock = some b) w w1 → WordsAt w1 ps pa)) :
    Calls Try.prog 58 #[.pointer (some ⟨pb, po, none⟩), .slice pa m pc] w fun e w' => e = .returned (.agg #[.int .i64 4, .int .i64 L]) ∧ ∃ tv', Hid (Added base pb po tv ws ps w w' tv') := by
  subst htv
  obtain ⟨it, hit, htz0, htz1, htz2⟩ := info_parts infoWord
  have HT := hide (⟨hit, htz0, htz1, htz2⟩ : _ ∧ _ ∧ _ ∧ _)
  clear hit htz0 htz1 htz2
  go_enter Try.func58, Try.ntmps58
  go_wp2_with (first
    | (at_builtin; refine wpList_append_lies _ rfl _ _ 93 rfl base 37 it _ 2 16 Try.underlying93 HT.out.1 HT.out.2.1 HT.out.2.2.1 HT.out.2.2.2 rfl (by decide) _ L _ rfl ((HR.out.alloc _).alloc _) ⟨w.heap.size + 1, 0, none⟩ 1 1 (wd2 (0, (m : Int))) rfl rfl (by have := two_news (w.alloc (.cells #[.int .i64 0, .int .i64 0] 37)) (0, (m : Int)); simpa using this) (wd2_one _) (by decide) (by unfold maxLen; omega) (by omega) (by simp; omega) (w.heap.size + 2) (by simp) ?_; intro g2 c2 w2 hown2 hgrow2 hat2 hlt2; have H2 := hide (⟨hown2, hgrow2, hat2, hlt2⟩ : _ ∧ _ ∧ _ ∧ _); obtain ⟨e2, f2, hlt2'⟩ := add_cells hpb hne.out hgrow2 c0 f0; have H3 := hide (add_mid hpb hbw hne.out hown2 hgrow2 hat2 po HS.out); clear hown2 hgrow2 hat2 hlt2)
    | (at_builtin; refine wpList_append_words rfl _ _ rfl (base := base) (n := L + 1) rfl rfl H3.out.1 H3.out.2.1 HM.out (by omega) H3.out.2.2 ?_; intro tv4 w4 hown4 hgrow4 hat4; obtain ⟨g4, c4, rfl, _, _⟩ := hown4.form (by omega); have H4 := hide (⟨hown4, hgrow4, hat4⟩ : _ ∧ _ ∧ _); obtain ⟨⟨k0, k1⟩, kf, e4, f4⟩ := add_last hpb HR.out hne.out H2.out.2.1 H2.out.2.2.1 hgrow4 e2 f2; clear hown4 hgrow4 hat4))
  have hl := HL.out
  have hm := HM.out
  subst hl hm
  exact bodyPost_ret (v := .agg #[.int .i64 4, .int .i64 ws.length]) (by simp [results, Try.results58, go_sem, k0, k1]) rfl ⟨rfl, _, add_end hpb HR.out hne.out H2.out.2.1 H2.out.2.2.1 H4.out.1 H4.out.2.1 H4.out.2.2⟩
end Go.Proofs.Ytpehdgbdinjbaab
namespace Go.Proofs.Ytpehdgbdinjbaab
open Go.RowKit

/-- What New leaves. -/
def NewOut (room : Int) (w : World) (e : Ending) (w' : World) : Prop :=
    (¬ (0 ≤ room ∧ room ≤ 1000) → e = .returned (.tuple #[.pointer none, .int .i64 1]) ∧ w' = w) ∧
    (0 ≤ room ∧ room ≤ 1000 → e = .returned (.tuple #[.pointer (some ⟨w.heap.size, 0, none⟩), .int .i64 0]) ∧ HB w.heap.size room (.slice none 0 0) (.slice none 0 0) (.map none) w' ∧ w'.heap.size = w.heap.size + 1 ∧ Below w.heap.size w w')
theorem new_any (room : Int) (w : World) : Calls Try.prog 15 #[.int .i64 room] w (NewOut room w) := by
  by_cases h0 : room < 0
  · have b0 : decide (room < 0) = true := by simpa using h0
    go_enter Try.func15, Try.ntmps15
    go_wp2_with fail
    go_ret2
    exact ⟨fun _ => ⟨rfl, rfl⟩, fun h => by omega⟩
  · by_cases h1 : 1000 < room
    · have b0 : decide (room < 0) = false := by simpa using h0
      have b1 : decide (1000 < room) = true := by simpa using h1
      go_enter Try.func15, Try.ntmps15
      go_wp2_with fail
      go_ret2
      exact ⟨fun _ => ⟨rfl, rfl⟩, fun h => by omega⟩
    · have b0 : decide (room < 0) = false := by simpa using h0
      have b1 : decide (1000 < room) = false := by simpa using h1
      go_enter Try.func15, Try.ntmps15
      go_wp2_with fail
      go_ret2
      exact ⟨fun h => by omega, fun _ => ⟨rfl, heap_alloc_new w _, by simp, (Below.refl _ _).alloc (Nat.le_refl _) _⟩⟩

theorem used_any (hp : Nat) (room : Int) (ta : Option Addr) (L tc : Nat) (lv mv : Value) (w : World) (HBX : Hid (HB hp room (.slice ta L tc) lv mv w)) :
    Calls Try.prog 24 #[.pointer (some ⟨hp, 0, none⟩)] w fun e w' => e = .returned (.int .i64 L) ∧ w' = w := by
  obtain ⟨⟨c0, c1, c2, c3⟩, hf⟩ := HBX.out.cells
  go_enter Try.func24, Try.ntmps24
  go_wp2_with fail
  go_ret
  exact ⟨rfl, rfl⟩

def beginsB (ws : List Wd) (i : Int) : Bool := decide (0 ≤ i) && match ws[i.toNat]? with
  | some x => x.1 == 0
  | none => false

theorem word_cells {base g c L : Nat} {ws : List Wd} {w : World} (h : w.ownsRow base 37 2 (.slice (some ⟨g, 0, none⟩) L c) L (wCells ws)) (k : Nat) (x : Wd) (hx : ws[k]? = some x) : w.cell? ⟨g, k * 2, none⟩ = some (.int .i64 x.1) ∧ w.cell? ⟨g, k * 2 + 1, none⟩ = some (.int .i64 x.2) := by
  have hc := h.cells (g := g) rfl
  refine ⟨?_, ?_⟩
  · have := hc (k * 2 + 0) (.int .i64 x.1) (by rw [wCells_at ws k x hx 0 (by omega)]; rfl)
    rw [add_none] at this; exact this
  · have := hc (k * 2 + 1) (.int .i64 x.2) (by rw [wCells_at ws k x hx 1 (by omega)]; rfl)
    rw [add_none] at this; exact this

theorem begins_any (base : Nat) (ta : Option Addr) (L tc : Nat) (ws : List Wd) (i : Int) (w : World) (HL : Hid (ws.length = L)) (hL : L ≤ 100000) (HR : Hid (w.ownsRow base 37 2 (.slice ta L tc) L (wCells ws))) :
    Calls Try.prog 89 #[.slice ta L tc, .int .i64 i] w fun e w' => e = .returned (.bool (beginsB ws i)) ∧ w' = w := by
  by_cases h0 : 0 ≤ i
  · obtain ⟨k, rfl⟩ : ∃ k : Nat, i = k := ⟨i.toNat, by omega⟩
    by_cases hlt : k < L
    · obtain ⟨x, hx⟩ : ∃ x, ws[k]? = some x := ⟨ws[k]'(by rw [HL.out]; exact hlt), List.getElem?_eq_getElem _⟩
      obtain ⟨g, c, hv, _, _⟩ := HR.out.form (by omega)
      simp at hv
      obtain ⟨rfl, rfl⟩ := hv
      obtain ⟨x0, x1⟩ := word_cells HR.out k x hx
      have HB : Hid (beginsB ws k = (x.1 == 0)) := by simp [Hid, beginsB, hx]
      have b0 : decide ((0 : Int) ≤ (k : Int)) = true := by simp
      have b1 : decide ((k : Int) < (L : Int)) = true := by simp; omega
      have hk1 : (0 : Int) ≤ (k : Int) := by omega
      have hk2 : (k : Int) < (L : Int) := by omega
      clear hx
      go_enter Try.func89, Try.ntmps89
      go_wp2_with fail
      go_ret
      exact ⟨ret_same HB.out.symm, rfl⟩
    · have HB : Hid (beginsB ws k = false) := by
        have : ws[k]? = none := List.getElem?_eq_none (by rw [HL.out]; omega)
        simp [Hid, beginsB, this]
      have b0 : decide ((0 : Int) ≤ (k : Int)) = true := by simp
      have b1 : decide ((k : Int) < (L : Int)) = false := by simp; omega
      go_enter Try.func89, Try.ntmps89
      go_wp2_with fail
      go_ret
      exact ⟨ret_same HB.out.symm, rfl⟩
  · have HB : Hid (beginsB ws i = false) := by simp [Hid, beginsB, h0]
    have b0 : decide (0 ≤ i) = false := by simpa using h0
    go_enter Try.func89, Try.ntmps89
    go_wp2_with fail
    go_ret
    exact ⟨ret_same HB.out.symm, rfl⟩
end Go.Proofs.Ytpehdgbdinjbaab
namespace Go.Proofs.Ytpehdgbdinjbaab
open Go.RowKit

def hasB (L : Nat) (i : Int) : Bool := decide (0 ≤ i) && decide (i < L)
theorem has_any (hp : Nat) (room : Int) (tv : Value) (la : Option Addr) (L lc : Nat) (mv : Value) (i : Int) (w : World) (HBX : Hid (HB hp room tv (.slice la L lc) mv w)) :
    Calls Try.prog 88 #[.pointer (some ⟨hp, 2, none⟩), .int .i64 i] w fun e w' => e = .returned (.bool (hasB L i)) ∧ w' = w := by
  obtain ⟨⟨c0, c1, c2, c3⟩, hf⟩ := HBX.out.cells
  by_cases h0 : 0 ≤ i
  · have HB : Hid (hasB L i = decide (i < L)) := by simp [Hid, hasB, h0]
    have b0 : decide (0 ≤ i) = true := by simpa using h0
    go_enter Try.func88, Try.ntmps88
    go_wp2_with fail
    go_ret
    exact ⟨ret_same HB.out.symm, rfl⟩
  · have HB : Hid (hasB L i = false) := by simp [Hid, hasB, h0]
    have b0 : decide (0 ≤ i) = false := by simpa using h0
    go_enter Try.func88, Try.ntmps88
    go_wp2_with fail
    go_ret
    exact ⟨ret_same HB.out.symm, rfl⟩

theorem str_at (l : List ByteArray) (k : Nat) (s : ByteArray) (h : l[k]? = some s) : (strCells l)[k]? = some (.string s) := by simp [strCells, h]

set_option maxHeartbeats 1000000 in
theorem nameOf_any (base hp : Nat) (room : Int) (tv lv mv : Value) (nm : List ByteArray) (i : Nat) (s : ByteArray) (w : World) (HBX : Hid (HB hp room tv lv mv w)) (HR : Hid (w.ownsRow base 9 1 lv nm.length (strCells nm))) (hi : Hid (nm[i]? = some s)) (hL : nm.length ≤ 100000) (hsz : s.size ≤ 2048) :
    Calls Try.prog 90 #[.pointer (some ⟨hp, 2, none⟩), .int .i64 i] w fun e w' => e = .returned (.string s) ∧ Below w.heap.size w w' := by
  have hlt : i < nm.length := (List.getElem?_eq_some_iff.1 hi.out).1
  obtain ⟨g, c, rfl, _, _⟩ := HR.out.form (by omega)
  have x0 : w.cell? ⟨g, i, none⟩ = some (.string s) := by
    have := HR.out.cells (g := g) rfl i (.string s) (str_at nm i s hi.out)
    rw [add_none] at this; exact this
  obtain ⟨⟨c0, c1, c2, c3⟩, hf⟩ := HBX.out.cells
  generalize nm.length = L at *
  have hk1 : (0 : Int) ≤ (i : Int) := by omega
  have hk2 : (i : Int) < (L : Int) := by omega
  go_enter Try.func90, Try.ntmps90
  go_wp2_with fail
  refine (strcopy_any s _ hsz).mono ?_
  rintro e w1 ⟨rfl, hb1⟩
  go_wp2_with fail
  go_ret
  exact ⟨rfl, hb1⟩

theorem hasFree_any (hp : Nat) (room n : Int) (ta : Option Addr) (L tc : Nat) (lv mv : Value) (w : World) (hL : L ≤ 100000) (hr0 : 0 ≤ room) (hr : room ≤ 1000) (HBX : Hid (HB hp room (.slice ta L tc) lv mv w)) :
    Calls Try.prog 53 #[.pointer (some ⟨hp, 0, none⟩), .int .i64 n] w fun e w' => e = .returned (.bool (decide (n ≤ room - L))) ∧ Below w.heap.size w w' := by
  obtain ⟨⟨c0, c1, c2, c3⟩, hf⟩ := HBX.out.cells
  go_enter Try.func53, Try.ntmps53
  go_wp2_with fail
  go_quiet (fail)
  go_wp2_with fail
  go_ret
  exact ⟨rfl, ⟨rfl, rfl, rfl, Nat.le_refl _, fun _ _ => rfl⟩⟩

theorem wCells_part (ws : List Wd) (k n j : Nat) (hj : j < n * 2) : (wCells ((ws.drop k).take n))[j]? = (wCells ws)[k * 2 + j]? := by
  by_cases hl : k + j / 2 < ws.length
  · obtain ⟨x, hx⟩ : ∃ x, ws[k + j / 2]? = some x := ⟨_, List.getElem?_eq_getElem hl⟩
    have h1 : ((ws.drop k).take n)[j / 2]? = some x := by
      rw [List.getElem?_take_of_lt (by omega), List.getElem?_drop]
      exact hx
    have e1 : j = j / 2 * 2 + j % 2 := by omega
    have e2 : k * 2 + j = (k + j / 2) * 2 + j % 2 := by omega
    rw [e2, wCells_at ws (k + j / 2) x hx (j % 2) (by omega)]
    conv => lhs; rw [e1]
    rw [wCells_at _ (j / 2) x h1 (j % 2) (by omega)]
  · rw [List.getElem?_eq_none (l := wCells ws) (by rw [wCells_length]; omega), List.getElem?_eq_none (by rw [wCells_length, List.length_take, List.length_drop]; omega)]

/-- Where the parts of a tuple at k lie. -/
def PartsAt (ws : List Wd) (k n g : Nat) (w : World) (e : Ending) (w' : World) : Prop := w' = w ∧ ∃ pa pc, e = .returned (.slice (some pa) n pc) ∧ pa.block = g ∧ WordsAt w ((ws.drop (k + 1)).take n) (some pa) ∧ ∃ o, pa = ⟨g, o, none⟩

theorem row_cap {base g L c : Nat} {xs : List Value} {ty : TypeId} {sz : Nat} {w : World} (h : w.ownsRow base ty sz (.slice (some ⟨g, 0, none⟩) L c) L xs) : L ≤ c ∧ c ≤ maxLen := by
  rcases h.2 with ⟨h, _⟩ | ⟨g', cap, cur, h, _, _, h3, h4, _⟩
  · simp at h
  · injection h with _ _ h
    subst h
    exact ⟨h3, h4⟩

theorem parts_any (base : Nat) (g L tc k n : Nat) (ws : List Wd) (w : World) (hL : L ≤ 100000) (HR : Hid (w.ownsRow base 37 2 (.slice (some ⟨g, 0, none⟩) L tc) L (wCells ws))) (hx : Hid (ws[k]? = some (0, (n : Int)))) (hk : k + 1 + n ≤ L) :
    Calls Try.prog 91 #[.slice (some ⟨g, 0, none⟩) L tc, .int .i64 k] w (PartsAt ws k n g w) := by
  obtain ⟨x0, x1⟩ := word_cells HR.out k _ hx.out
  obtain ⟨htc, hmx⟩ := row_cap HR.out
  have HW : Hid (∀ o, (n = 0 ∨ o = (k + 1) * 2) → WordsAt w ((ws.drop (k + 1)).take n) (some ⟨g, o, none⟩)) := by
    rintro o (rfl | rfl)
    · exact Or.inl (by simp)
    · refine Or.inr ⟨_, rfl, fun j u hj => ?_⟩
      have hjn : j < n * 2 := by
        have := (List.getElem?_eq_some_iff.1 hj).1
        rw [wCells_length, List.length_take] at this
        omega
      rw [wCells_part ws (k + 1) n j hjn] at hj
      have := HR.out.cells (g := g) rfl _ u hj
      rw [add_none] at this
      have e : (⟨g, (k + 1) * 2, none⟩ : Addr).add j = ⟨g, (k + 1) * 2 + j, none⟩ := by
        unfold Addr.add
        by_cases h : j = 0 <;> simp [h]
      rw [e]
      exact this
  have hmx' : (tc : Int) ≤ 9223372036854775807 := by unfold maxLen at hmx; omega
  clear hmx
  by_cases hc : tc = k + 1
  · subst hc
    have hn : n = 0 := by omega
    subst hn
    go_enter Try.func91, Try.ntmps91
    go_wp2_with fail
    go_ret
    exact ⟨rfl, _, _, rfl, rfl, HW.out _ (by simp), _, rfl⟩
  · go_enter Try.func91, Try.ntmps91
    go_wp2_with fail
    go_ret
    exact ⟨rfl, _, _, rfl, rfl, HW.out _ (Or.inr rfl), _, rfl⟩
end Go.Proofs.Ytpehdgbdinjbaab
