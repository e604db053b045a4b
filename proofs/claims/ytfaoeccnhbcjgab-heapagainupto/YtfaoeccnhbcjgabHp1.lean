/- What is proved here: heap.names' number: the name's number if it has one, else the next one, which it has from then on. Condition: at most 100000 names. -/
import Derived.Test.YtfaoeccnhbcjgabHp0
import Derived.Deep.AppendLies
import Derived.WalkSpells
import Derived.StringKeys
namespace Go.Proofs.Ytfaoeccnhbcjgab
open Go.RowKit Go.Maps

theorem nums_index {D : DataW Unit} {nm : List ByteArray} (h : NumsOf D nm) {s : ByteArray} {c : Int} (hs : s ∈ nm) (hc : D.atKey (.string s.data.toList) (.lit (.int .i64 0)) = .lit (.int .i64 c)) : ∃ i : Nat, nm[i]? = some s ∧ c = i := by
  obtain ⟨i, hi⟩ := List.getElem?_of_mem hs
  have := (h s).2 i hi
  rw [this] at hc
  simp at hc
  exact ⟨i, hi, hc.symm⟩

set_option maxHeartbeats 1000000 in
set_option maxRecDepth 100000 in
theorem number_old (hp : Nat) (room : Int) (tv lv : Value) (mb : Nat) (D : DataW Unit) (nm : List ByteArray) (s : ByteArray) (w : World) (HBX : Hid (HB hp room tv lv (.map (some mb)) w)) (HM : Hid (w.ownsMap Try.prog 9 (plainElem Try.prog 3) mb nm.length D)) (HN : Hid (NumsOf D nm)) (hs : Hid (s ∈ nm)) (hsz : s.size ≤ 2048) :
    Calls Try.prog 63 #[.pointer (some ⟨hp, 2, none⟩), .string s] w fun e w' => ∃ i : Nat, e = .returned (.int .i64 i) ∧ Hid (nm[i]? = some s) ∧ w' = w := by
  have hhas : Maps.has D (.string s.data.toList) = true := ((HN.out s).1).2 hs.out
  obtain ⟨⟨c0, c1, c2, c3⟩, hf⟩ := HBX.out.cells
  go_enter Try.func63, Try.ntmps63
  go_wp2_with (at_lookup; refine wpList_lookup_own_ok_int _ rfl _ _ 77 rfl 9 3 .i64 strLaw Try.underlying77 Try.underlying3 (zeroInt _) mb nm.length D rfl HM.out _ _ rfl (Go.WideMaps.keyOf_string_mk Try.underlying9 (by unfold maxLen; omega)) ?_; intro c hat hwc; have HI := hide (nums_index HN.out hs.out hat); clear hat hwc; rw [hhas])
  obtain ⟨i, hi, rfl⟩ := HI.out
  go_ret
  exact ⟨i, rfl, hi, rfl⟩

/-- What a new name leaves. -/
def NewName (base hp : Nat) (room : Int) (tv lv mv : Value) (nm : List ByteArray) (s : ByteArray) (w w' : World) (lv' mv' : Value) : Prop :=
  HB hp room tv lv' mv' w' ∧ NamesAt base (nm ++ [s]) lv' mv' w' ∧ Keep (fun b => b = hp ∨ lv.ownBlock = some b ∨ mapBlock mv = some b) w w' ∧
  (∀ b, lv'.ownBlock = some b → lv.ownBlock = some b ∨ w.heap.size ≤ b) ∧ ∀ b, mapBlock mv' = some b → mapBlock mv = some b ∨ w.heap.size ≤ b

theorem infoString : (Try.prog.info? 9).map (fun i => (i.zero, i.size, i.bytes)) = some (some (.string .empty), 1, 16) := by kernel_rfl

theorem key_str (l : List UInt8) : WideAt.IsKeyLit (.string l) := by first | trivial | simp [WideAt.IsKeyLit] | decide
theorem new_name {base hp : Nat} {room : Int} {tv lv : Value} {mb : Nat} {D : DataW Unit} {nm : List ByteArray} {s : ByteArray} {w w1 w2 w4 : World} {o : Obj} {g c : Nat} (hB : HB hp room tv lv (.map (some mb)) w) (hmb : base ≤ mb) (hnd : nm.Nodup) (hn : NumsOf D nm) (hs : s ∉ nm) (hsz : s.size ≤ maxLen) (hlm : lv.ownBlock ≠ some mb)
    (hrow : w.ownsRow base 9 1 lv nm.length (strCells nm)) (hm : w.ownsMap Try.prog 9 (plainElem Try.prog 3) mb nm.length D)
    (hb : Below w.heap.size w w1) (hown : w2.ownsRow base 9 1 (.slice (some ⟨g, 0, none⟩) (nm.length + 1) c) (nm.length + 1) (strCells nm ++ [.string s])) (hg : (w1.alloc o).grownBy w2 lv.ownBlock) (hat : lv.ownBlock = some g ∨ g = w1.heap.size + 1)
    (hm4 : w4.ownsMap Try.prog 9 (plainElem Try.prog 3) mb (nm.length + 1) (D.put (.string s.data.toList) (.lit (.int .i64 nm.length)))) (hg4 : (w2.setCell ⟨hp, 2, none⟩ (.slice (some ⟨g, 0, none⟩) (nm.length + 1) c)).grownBy w4 (some mb)) :
    NewName base hp room tv lv (.map (some mb)) nm s w w4 (.slice (some ⟨g, 0, none⟩) (nm.length + 1) c) (.map (some mb)) := by
  have hhp := hB.lt
  have hmbl := hm.lt
  have hs1 := hb.size
  have es : (w1.alloc o).heap.size = w1.heap.size + 1 := by simp
  have hgs := hg.size
  have hpm : hp ≠ mb := by
    rintro rfl
    obtain ⟨es, clock, hh, _⟩ := hm
    have h2 : w.heap[hp]? = _ := hB
    rw [hh] at h2
    cases h2
  have hpl : lv.ownBlock ≠ some hp := fun e => by
    rcases hrow.2 with ⟨rfl, _⟩ | ⟨g', cap, cur, rfl, _, hh, _⟩
    · simp [Value.ownBlock] at e
    · simp [Value.ownBlock] at e
      subst e
      have h2 : w.heap[g']? = _ := hB
      rw [hh] at h2
      injection h2 with h2
      injection h2 with h2 h3
      cases h3
  have hlt : ∀ b, lv.ownBlock = some b → b < w.heap.size := fun b e => (hrow.lt b e).2
  have hgp : g ≠ hp := by
    rintro rfl
    rcases hat with e | e
    · exact hpl e
    · omega
  have hgm : g ≠ mb := by
    rintro rfl
    rcases hat with e | e
    · exact hlm e
    · omega
  have h2 : ∀ b, b < w.heap.size → lv.ownBlock ≠ some b → w2.heap[b]? = w.heap[b]? := fun b hb' hne => ((hg.block b (by omega) (fun e => hne e.symm)).trans ((World.grownBy_alloc w1 o none).block b (by omega) (by simp))).trans (hb.block b hb')
  have k3 := keep_set w2 hp 2 (.slice (some ⟨g, 0, none⟩) (nm.length + 1) c)
  have k3s := k3.size
  have k4s := hg4.size
  have hB2 : HB hp room tv lv (.map (some mb)) w2 := hB.kept (h2 hp hhp hpl)
  have hB3 := hB2.set2 (.slice (some ⟨g, 0, none⟩) (nm.length + 1) c)
  have hB4 : HB hp room tv (.slice (some ⟨g, 0, none⟩) (nm.length + 1) c) (.map (some mb)) w4 := hB3.kept (hg4.block hp (by omega) (fun e => hpm (Option.some.inj e)))
  refine ⟨hB4, ⟨?_, ?_, Or.inr ⟨mb, _, rfl, hmb, by simpa using hm4, ?_, ?_⟩⟩, ⟨?_, ?_, ?_, ?_, ?_⟩, ?_, ?_⟩
  · have e : strCells (nm ++ [s]) = strCells nm ++ [.string s] := by simp [strCells]
    rw [e, List.length_append]
    have hk3 : w2.grownBy (w2.setCell ⟨hp, 2, none⟩ (.slice (some ⟨g, 0, none⟩) (nm.length + 1) c)) (some hp) := ⟨rfl, rfl, rfl, k3s, fun b hb' hne => k3.block b hb' (fun e => hne (by rw [e]))⟩
    refine World.ownsRow.kept (World.ownsRow.kept hown hk3 (Or.inr ?_)) hg4 (Or.inr ?_)
    · simp only [Value.ownBlock]
      exact fun e => hgp (Option.some.inj e)
    · simp only [Value.ownBlock]
      exact fun e => hgm (Option.some.inj e)
  · rw [List.nodup_append]
    refine ⟨hnd, by simp, fun a ha b hb' => ?_⟩
    simp at hb'
    subst hb'
    exact fun e => hs (e ▸ ha)
  · intro t
    by_cases ht : t = s
    · subst ht
      refine ⟨?_, fun i hi => ?_⟩
      · rw [has_put_same hm.isMap (key_str _)]
        simp
      · rw [atKey_put_same hm.isMap (key_str _)]
        have : i = nm.length := by
          by_cases hlt : i < nm.length
          · rw [List.getElem?_append_left hlt] at hi
            exact absurd (List.mem_of_getElem? hi) hs
          · have := (List.getElem?_eq_some_iff.1 hi).1
            simp at this
            omega
        rw [this]
    · have hne : (Lit.string t.data.toList) ≠ (Lit.string s.data.toList) := fun e => ht (by
        injection e with e
        cases t; cases s
        simp only at e
        rw [Array.toList_inj.1 e])
      refine ⟨?_, fun i hi => ?_⟩
      · rw [has_put_other hne, (hn t).1]
        simp [ht]
      · rw [atKey_put_other hne]
        refine (hn t).2 i ?_
        by_cases hlt : i < nm.length
        · rw [List.getElem?_append_left hlt] at hi
          exact hi
        · have h1 := (List.getElem?_eq_some_iff.1 hi).1
          simp at h1
          have : i = nm.length := by omega
          subst this
          simp at hi
          exact absurd hi.symm ht
  · simp only [Value.ownBlock]
    exact fun e => hgm (Option.some.inj e)
  · exact (hg4.os.trans hg.os).trans hb.os
  · exact (hg4.tape.trans hg.tape).trans hb.tape
  · exact (hg4.output.trans hg.output).trans hb.output
  · omega
  · intro b hb' hne
    simp only [mapBlock, not_or] at hne
    exact (hg4.block b (by omega) (fun e => hne.2.2 e.symm)).trans ((k3.block b (by omega) hne.1).trans (h2 b hb' hne.2.1))
  · intro b e
    simp only [Value.ownBlock] at e
    obtain rfl := Option.some.inj e
    rcases hat with e | e
    · exact Or.inl e
    · exact Or.inr (by omega)
  · exact fun b e => Or.inl e

theorem one_string (w : World) (s : ByteArray) : ∀ j u, [Value.string s][j]? = some u → (w.alloc (.cells #[.string s] 9)).cell? ((⟨w.heap.size, 0, none⟩ : Addr).add j) = some u := by
  intro j u hj
  rw [add_none]
  cases j with
  | zero => simp at hj; subst hj; simp [go_sem]
  | succ j => simp at hj

theorem names_apart {base hp : Nat} {room : Int} {tv lv lv' mv : Value} {nm : List Value} {n : Nat} {w : World} (hrow : w.ownsRow base 9 1 lv n nm) (hB : HB hp room tv lv' mv w) : lv.ownBlock ≠ some hp := fun e => by
  rcases hrow.2 with ⟨rfl, _⟩ | ⟨g', cap, cur, rfl, _, hh, _⟩
  · simp [Value.ownBlock] at e
  · simp [Value.ownBlock] at e
    subst e
    have h2 : w.heap[g']? = _ := hB
    rw [hh] at h2
    injection h2 with h2
    injection h2 with h2 h3
    cases h3
theorem names_cells {hp : Nat} {lv v : Value} {w1 w2 : World} {o : Obj} (hlt : hp < w1.heap.size) (hne : lv.ownBlock ≠ some hp) (hg : (w1.alloc o).grownBy w2 lv.ownBlock) (hf : ∀ j, w1.frozen? ⟨hp, j, none⟩ = false) (hc : w1.cell? ⟨hp, 2, none⟩ = some v) : w2.cell? ⟨hp, 2, none⟩ = some v ∧ w2.frozen? ⟨hp, 2, none⟩ = false := by
  have h : w2.heap[hp]? = w1.heap[hp]? := (hg.block hp (by simp; omega) (fun e => hne e.symm)).trans ((World.grownBy_alloc w1 o none).block hp hlt (by simp))
  exact ⟨(block_cell h 2).trans hc, (World.frozen?_of_block (a := ⟨hp, 2, none⟩) h).trans (hf 2)⟩
theorem names_cell3 {hp : Nat} {lv v : Value} {w1 w2 : World} {o : Obj} (hlt : hp < w1.heap.size) (hne : lv.ownBlock ≠ some hp) (hg : (w1.alloc o).grownBy w2 lv.ownBlock) (hc : w1.cell? ⟨hp, 3, none⟩ = some v) : w2.cell? ⟨hp, 3, none⟩ = some v := by
  have h : w2.heap[hp]? = w1.heap[hp]? := (hg.block hp (by simp; omega) (fun e => hne e.symm)).trans ((World.grownBy_alloc w1 o none).block hp hlt (by simp))
  exact (block_cell h 3).trans hc
theorem names_map {hp mb L : Nat} {lv : Value} {D : DataW Unit} {w1 w2 : World} {o : Obj} (hm : w1.ownsMap Try.prog 9 (plainElem Try.prog 3) mb L D) (hpm : hp ≠ mb) (hlm : lv.ownBlock ≠ some mb) (hg : (w1.alloc o).grownBy w2 lv.ownBlock) (v : Value) : (w2.setCell ⟨hp, 2, none⟩ v).ownsMap Try.prog 9 (plainElem Try.prog 3) mb L D :=
  (((hm.alloc o).kept hg (fun e => hlm e.symm))).setCell (a := ⟨hp, 2, none⟩) (fun e => hpm e.symm) v

set_option maxHeartbeats 1000000 in
set_option maxRecDepth 100000 in
theorem number_new (base hp : Nat) (room : Int) (tv lv : Value) (la : Option Addr) (lc L : Nat) (mb : Nat) (D : DataW Unit) (nm : List ByteArray) (s : ByteArray) (w : World) (hlv : lv = .slice la L lc) (HL : Hid (nm.length = L)) (hL : L ≤ 100000) (HBX : Hid (HB hp room tv lv (.map (some mb)) w)) (hmb : Hid (base ≤ mb)) (hbw : base ≤ w.heap.size) (hnd : Hid (nm.Nodup)) (HM : Hid (w.ownsMap Try.prog 9 (plainElem Try.prog 3) mb L D)) (HN : Hid (NumsOf D nm)) (hs : Hid (s ∉ nm)) (hsz : s.size ≤ 2048) (hlm : Hid (lv.ownBlock ≠ some mb)) (HR : Hid (w.ownsRow base 9 1 lv L (strCells nm))) :
    Calls Try.prog 63 #[.pointer (some ⟨hp, 2, none⟩), .string s] w fun e w' => e = .returned (.int .i64 L) ∧ ∃ lv' mv', Hid (NewName base hp room tv lv (.map (some mb)) nm s w w' lv' mv') := by
  subst hlv
  have hhas : Maps.has D (.string s.data.toList) = false := by
    cases h : Maps.has D (.string s.data.toList)
    · rfl
    · exact absurd (((HN.out s).1).1 h) hs.out
  obtain ⟨it, hit, htz0, htz1, htz2⟩ := info_parts infoString
  have HT := hide (⟨hit, htz0, htz1, htz2⟩ : _ ∧ _ ∧ _ ∧ _)
  clear hit htz0 htz1 htz2
  obtain ⟨⟨c0, c1, c2, c3⟩, hf⟩ := HBX.out.cells
  have hq : ∀ (w : World) (r : Option Nat), (binOp .eql 77 (.map r) (.map none)).run Try.prog w = .ok (.bool r.isNone) w := fun w r => run_eql_map_nil w _ _ _ r Try.underlying77
  go_enter Try.func63, Try.ntmps63
  go_wp2_with (at_lookup; refine wpList_lookup_own_ok_int _ rfl _ _ 77 rfl 9 3 .i64 strLaw Try.underlying77 Try.underlying3 (zeroInt _) mb L D rfl HM.out _ _ rfl (Go.WideMaps.keyOf_string_mk Try.underlying9 (by unfold maxLen; omega)) ?_; intro c hat hwc; clear hat hwc; rw [hhas])
  refine (strcopy_any s _ hsz).mono ?_
  rintro e w1 ⟨rfl, hb1⟩
  have hhp : hp < w.heap.size := HBX.out.lt
  have HB1 := hide hb1
  obtain ⟨⟨d0, d1, d2, d3⟩, hf1⟩ := (HBX.out.kept (hb1.block hp hhp)).cells
  have hhp1 : hp < w1.heap.size := Nat.lt_of_lt_of_le hhp hb1.size
  have HMP : Hid (hp ≠ mb) := by
    rintro rfl
    obtain ⟨es, clock, hh, _⟩ := HM.out
    have h2 : w.heap[hp]? = _ := HBX.out
    rw [hh] at h2
    cases h2
  have HPL : Hid ((Value.slice la L lc).ownBlock ≠ some hp) := names_apart HR.out HBX.out
  have HM1 : Hid (w1.ownsMap Try.prog 9 (plainElem Try.prog 3) mb L D) := HM.out.kept (grown_of_below hb1 none) (by simp)
  clear hb1 c0 c1 c2 c3 hf
  go_wp2_with (first
    | (at_builtin; refine wpList_append_lies _ rfl _ _ 76 rfl base 9 it _ 1 16 Try.underlying76 HT.out.1 HT.out.2.1 HT.out.2.2.1 HT.out.2.2.2 rfl (by decide) _ L _ rfl ((own_below HR.out HB1.out).alloc _) ⟨w1.heap.size, 0, none⟩ 1 1 [.string s] rfl rfl (one_string w1 s) (by intro u hu; simp at hu; subst hu; rfl) (by decide) (by unfold maxLen; omega) (by omega) (by have := HB1.out.size; simp; omega) (w1.heap.size + 1) (by simp) ?_; intro g2 c2 w2 hown2 hgrow2 hat2 hlt2; have H2 := hide (⟨hown2, hgrow2, hat2, hlt2⟩ : _ ∧ _ ∧ _ ∧ _); obtain ⟨e2, f2⟩ := names_cells hhp1 HPL.out hgrow2 hf1 d2; have e3 := names_cell3 hhp1 HPL.out hgrow2 d3; have HM2 := hide (names_map HM1.out HMP.out hlm.out hgrow2 (.slice (some ⟨g2, 0, none⟩) (L + 1) c2)); clear hown2 hgrow2 hat2 hlt2)
    | (at_mapUpdate; refine wpList_mapUpdate_own _ rfl _ _ _ 77 rfl 9 3 strLaw Try.underlying77 (plainElem Try.prog 3) mb L D rfl HM2.out (by unfold maxLen; omega) _ _ _ rfl rfl (Go.WideMaps.keyOf_string_mk Try.underlying9 (by unfold maxLen; omega)) (.lit (.int .i64 L)) [] (plainElem_int Try.underlying3 (WalkArith.wf_i64 (by omega))) ?_; intro w4 hown4 hgrow4; have H4 := hide (⟨hown4, hgrow4⟩ : _ ∧ _); clear hown4 hgrow4))
  go_ret
  have hl := HL.out
  subst hl
  exact ⟨rfl, _, _, new_name HBX.out hmb.out hnd.out HN.out hs.out (by unfold maxLen; omega) hlm.out HR.out HM.out HB1.out H2.out.1 H2.out.2.1 H2.out.2.2.1 H4.out.1 H4.out.2⟩

theorem first_name {base hp : Nat} {room : Int} {tv lv lv' mv' : Value} {s : ByteArray} {w wA w4 : World} (h : NewName base hp room tv lv (.map (some w.heap.size)) [] s wA w4 lv' mv') (k : Keep (fun b => b = hp) w wA) (hs : wA.heap.size = w.heap.size + 1) : NewName base hp room tv lv (.map none) [] s w w4 lv' mv' := by
  obtain ⟨h1, h2, h3, h4, h5⟩ := h
  refine ⟨h1, h2, ?_, ?_, ?_⟩
  · refine (k.mono fun b hb => Or.inl hb).trans h3 fun b hb hT => ?_
    rcases hT with e | e | e
    · exact Or.inl e
    · exact Or.inr (Or.inl e)
    · simp only [mapBlock] at e
      have := Option.some.inj e
      omega
  · intro b e
    rcases h4 b e with e | e
    · exact Or.inl e
    · exact Or.inr (by omega)
  · intro b e
    rcases h5 b e with e | e
    · simp only [mapBlock] at e
      have := Option.some.inj e
      exact Or.inr (by omega)
    · exact Or.inr (by omega)
theorem nums_nil : NumsOf (.map []) [] := fun s => ⟨by simp [Maps.has], fun i hi => by simp at hi⟩

set_option maxHeartbeats 1000000 in
set_option maxRecDepth 100000 in
theorem number_first (base hp : Nat) (room : Int) (tv lv : Value) (s : ByteArray) (w : World) (hlv : lv = .slice none 0 0) (HBX : Hid (HB hp room tv lv (.map none) w)) (hbw : base ≤ w.heap.size) (hsz : s.size ≤ 2048) :
    Calls Try.prog 63 #[.pointer (some ⟨hp, 2, none⟩), .string s] w fun e w' => e = .returned (.int .i64 0) ∧ ∃ lv' mv', Hid (NewName base hp room tv lv (.map none) [] s w w' lv' mv') := by
  subst hlv
  obtain ⟨it, hit, htz0, htz1, htz2⟩ := info_parts infoString
  have HT := hide (⟨hit, htz0, htz1, htz2⟩ : _ ∧ _ ∧ _ ∧ _)
  clear hit htz0 htz1 htz2
  obtain ⟨⟨c0, c1, c2, c3⟩, hf⟩ := HBX.out.cells
  have hhp : hp < w.heap.size := HBX.out.lt
  have hq : ∀ (w : World) (r : Option Nat), (binOp .eql 77 (.map r) (.map none)).run Try.prog w = .ok (.bool r.isNone) w := fun w r => run_eql_map_nil w _ _ _ r Try.underlying77
  have hln : (Instr.lookup 77 (.map none) (.string s) true).run Try.prog w = .ok (.tuple #[.int .i64 0, .bool false]) w := by
    simpa using Maps.look_nil (w := w) true strLaw Try.underlying77 (zeroInt _) (Go.WideMaps.keyOf_string_mk Try.underlying9 (show s.size ≤ maxLen by unfold maxLen; omega))
  have hmm := @run_makeMap Try.prog
  go_enter Try.func63, Try.ntmps63
  go_wp2_with fail
  generalize hwA : (w.setCell ⟨hp, 3, none⟩ (.map (some w.heap.size))).alloc (.map #[] 0) = wA
  have HWA : Hid (HB hp room tv (.slice none 0 0) (.map (some w.heap.size)) wA ∧ wA.ownsMap Try.prog 9 (plainElem (H := Unit) Try.prog 3) w.heap.size 0 (.map []) ∧ Keep (fun b => b = hp) w wA ∧ wA.heap.size = w.heap.size + 1) := by
    subst hwA
    have es : (w.setCell ⟨hp, 3, none⟩ (.map (some w.heap.size))).heap.size = w.heap.size := by simp [World.setCell]
    have hm := World.ownsMap_made (w.setCell ⟨hp, 3, none⟩ (.map (some w.heap.size))) Try.prog 9 (plainElem (H := Unit) Try.prog 3)
    rw [es] at hm
    refine ⟨(HBX.out.set3 (.map (some w.heap.size))).kept ((World.grownBy_alloc _ _ none).block hp (by rw [es]; exact hhp) (by simp)), hm, ⟨rfl, rfl, rfl, by simp [World.setCell], fun b hb hne => ?_⟩, by simp [World.setCell]⟩
    exact ((World.grownBy_alloc _ _ none).block b (by rw [es]; exact hb) (by simp)).trans ((keep_set w hp 3 (.map (some w.heap.size))).block b hb hne)
  clear hwA c0 c1 c2 c3 hf hln hmm
  refine (strcopy_any s _ hsz).mono ?_
  rintro e w1 ⟨rfl, hb1⟩
  have hhpA : hp < wA.heap.size := HWA.out.1.lt
  have HB1 := hide hb1
  obtain ⟨⟨d0, d1, d2, d3⟩, hf1⟩ := (HWA.out.1.kept (hb1.block hp hhpA)).cells
  have hhp1 : hp < w1.heap.size := Nat.lt_of_lt_of_le hhpA hb1.size
  have HMP : Hid (hp ≠ w.heap.size) := by unfold Hid; omega
  have HPL : Hid ((Value.slice none 0 0).ownBlock ≠ some hp) := by simp [Hid, Value.ownBlock]
  have HM1 : Hid (w1.ownsMap Try.prog 9 (plainElem (H := Unit) Try.prog 3) w.heap.size 0 (.map [])) := HWA.out.2.1.kept (grown_of_below hb1 none) (by simp)
  have HBS : Hid (base ≤ w1.heap.size) := by have h1 := HWA.out.2.2.2; have h2 := hb1.size; unfold Hid; omega
  clear hb1
  go_wp2_with (first
    | (at_builtin; refine wpList_append_lies _ rfl _ _ 76 rfl base 9 it _ 1 16 Try.underlying76 HT.out.1 HT.out.2.1 HT.out.2.2.1 HT.out.2.2.2 rfl (by decide) _ 0 [] rfl (World.ownsRow_nil _ _ _ _) ⟨w1.heap.size, 0, none⟩ 1 1 [.string s] rfl rfl (one_string w1 s) (by intro u hu; simp at hu; subst hu; rfl) (by decide) (by unfold maxLen; omega) (by omega) (by have := HBS.out; simp; omega) (w1.heap.size + 1) (by simp) ?_; intro g2 c2 w2 hown2 hgrow2 hat2 hlt2; have H2 := hide (⟨hown2, hgrow2, hat2, hlt2⟩ : _ ∧ _ ∧ _ ∧ _); obtain ⟨e2, f2⟩ := names_cells hhp1 HPL.out hgrow2 hf1 d2; have e3 := names_cell3 hhp1 HPL.out hgrow2 d3; have HM2 := hide (names_map (lv := .slice none 0 0) HM1.out HMP.out (by simp [Value.ownBlock]) hgrow2 (.slice (some ⟨g2, 0, none⟩) (0 + 1) c2)); clear hown2 hgrow2 hat2 hlt2)
    | (at_mapUpdate; refine wpList_mapUpdate_own _ rfl _ _ _ 77 rfl 9 3 strLaw Try.underlying77 (plainElem Try.prog 3) w.heap.size 0 (.map []) rfl HM2.out (by unfold maxLen; omega) _ _ _ rfl rfl (Go.WideMaps.keyOf_string_mk Try.underlying9 (by unfold maxLen; omega)) (.lit (.int .i64 0)) [] (plainElem_int Try.underlying3 (WalkArith.wf_i64 (by omega))) ?_; intro w4 hown4 hgrow4; have H4 := hide (⟨hown4, hgrow4⟩ : _ ∧ _); clear hown4 hgrow4))
  go_ret
  have hnn := new_name (nm := []) HWA.out.1 hbw (by simp) nums_nil (by simp) (show s.size ≤ maxLen by unfold maxLen; omega) (by simp [Value.ownBlock]) (World.ownsRow_nil _ _ _ _) HWA.out.2.1 HB1.out H2.out.1 H2.out.2.1 H2.out.2.2.1 H4.out.1 H4.out.2
  exact ⟨rfl, _, _, first_name hnn HWA.out.2.2.1 HWA.out.2.2.2⟩

/-- Whatever name: its number, and the names as they are then. -/
theorem number_any (base hp : Nat) (room : Int) (tv lv mv : Value) (nm : List ByteArray) (s : ByteArray) (w : World) (hB : HB hp room tv lv mv w) (hN : NamesAt base nm lv mv w) (hbw : base ≤ w.heap.size) (hL : nm.length ≤ 100000) (hsz : s.size ≤ 2048) :
    Calls Try.prog 63 #[.pointer (some ⟨hp, 2, none⟩), .string s] w fun e w' => ∃ i : Nat, e = .returned (.int .i64 i) ∧ ∃ nm' lv' mv', Hid (nm'[i]? = some s ∧ (nm' = nm ∨ nm' = nm ++ [s]) ∧ HB hp room tv lv' mv' w' ∧ NamesAt base nm' lv' mv' w' ∧ Keep (fun b => b = hp ∨ lv.ownBlock = some b ∨ mapBlock mv = some b) w w' ∧
      (∀ b, lv'.ownBlock = some b → lv.ownBlock = some b ∨ w.heap.size ≤ b) ∧ ∀ b, mapBlock mv' = some b → mapBlock mv = some b ∨ w.heap.size ≤ b) := by
  obtain ⟨h1, h2, h3⟩ := hN
  rcases h3 with ⟨rfl, rfl, hlv⟩ | ⟨mb, D, rfl, hmb, hm, hn, hlm⟩
  · refine (number_first base hp room tv lv s w hlv hB hbw hsz).mono ?_
    rintro e w' ⟨rfl, lv', mv', H⟩
    obtain ⟨k1, k2, k3, k4, k5⟩ := H.out
    exact ⟨0, rfl, [s], lv', mv', rfl, Or.inr rfl, k1, k2, k3, k4, k5⟩
  · by_cases hs : s ∈ nm
    · refine (number_old hp room tv lv mb D nm s w hB hm hn hs hsz).mono ?_
      rintro e w' ⟨i, rfl, hi, rfl⟩
      exact ⟨i, rfl, nm, lv, .map (some mb), hi.out, Or.inl rfl, hB, ⟨h1, h2, Or.inr ⟨mb, D, rfl, hmb, hm, hn, hlm⟩⟩, Keep.refl _ _, fun b e => Or.inl e, fun b e => Or.inl e⟩
    · obtain ⟨la, lc, hlv⟩ : ∃ la lc, lv = .slice la nm.length lc := by
        rcases h1.2 with ⟨e, e0⟩ | ⟨g, c, cur, e, _⟩
        · exact ⟨none, 0, by rw [e, e0]⟩
        · exact ⟨_, c, e⟩
      refine (number_new base hp room tv lv la lc nm.length mb D nm s w hlv rfl hL hB hmb hbw h2 hm hn hs hsz hlm h1).mono ?_
      rintro e w' ⟨rfl, lv', mv', H⟩
      obtain ⟨k1, k2, k3, k4, k5⟩ := H.out
      exact ⟨nm.length, rfl, nm ++ [s], lv', mv', by simp, Or.inr rfl, k1, k2, k3, k4, k5⟩
end Go.Proofs.Ytfaoeccnhbcjgab
