/- What is proved here: plain facts and contracts that the claimed theorem stands on, several texts in one: plain facts on a map from pairs of numbers to nothing, and on one to true and false: what is looked up in it, what a store and a delete leave. No condition. what bond's pair, isProcess and Of do. No condition but that all lies in memory. what bond's New, Of and Link do, for bonds that lie in memory. No condition but that. what Link and part do, for bonds that lie in memory, and what slices.Contains and slices.Equal say of rows of numbers. No condition but that. what part does, for bonds that lie in memory, and plain facts on who is told round by round. No condition but that. what End does, for bonds that lie in memory: who is told, and which pairs are left. No condition but that. -/
import Derived.Test.YtdfpjpmdldigdabG05
namespace Go.Proofs.Ytdfpjpmdldigdab
open Go.RowKit Go.Maps

/-- Block mb is a set of pairs: those of which g holds. -/
structure SM (base mb n : Nat) (g : Int × Int → Bool) (w : World) : Prop where
  lo : base ≤ mb
  map : ∃ D : DataW Value, w.ownsMap Try.prog 97 unitElem mb n D ∧ ∀ k, I2 k → has D (kl k) = g k
variable {base mb n : Nat} {g : Int × Int → Bool} {w : World}
theorem SM.lt (h : SM base mb n g w) : base ≤ mb ∧ mb < w.heap.size := by
  obtain ⟨D, h1, _⟩ := h.map
  exact ⟨h.lo, h1.lt⟩
theorem SM.kee {S : Nat → Prop} {w' : World} (h : SM base mb n g w) (k : Kee S w w') (hS : ¬ S mb) : SM base mb n g w' := by
  obtain ⟨D, h1, h2⟩ := h.map
  refine ⟨h.lo, D, ?_, h2⟩
  have hlt := h1.lt
  obtain ⟨es, clock, hb, hr⟩ := h1
  exact ⟨es, clock, (k.block mb hlt hS).trans hb, hr⟩
theorem SM.later {w' : World} (h : SM base mb n g w) (k : Below w.heap.size w w') : SM base mb n g w' := h.kee (kee_below k fun _ => False) id
theorem SM.rebase {base' : Nat} (h : SM base mb n g w) (hb : base' ≤ base) : SM base' mb n g w := ⟨Nat.le_trans hb h.lo, h.map⟩
theorem SM.mono (h : SM base mb n g w) {m : Nat} (hm : n ≤ m) : SM base mb m g w := by
  obtain ⟨h1, D, h2, h3⟩ := h
  exact ⟨h1, D, h2.mono hm, h3⟩
theorem SM.new (w : World) : SM w.heap.size w.heap.size 0 (fun _ => false) (w.alloc (.map #[] 0)) :=
  ⟨Nat.le_refl _, .map [], World.ownsMap_made w _ _ _, fun k _ => by simp [has]⟩
set_option maxRecDepth 100000 in
theorem zeroUnit (w : World) : (zeroValue 179).run Try.prog w = .ok (.agg #[]) w := by kernel_rfl
set_option maxRecDepth 100000 in
theorem SM.look (h : SM base mb n g w) {k : Int × Int} (hk : I2 k) : (Instr.lookup 176 (.map (some mb)) (pk k) true).run Try.prog w = .ok (.tuple #[.agg #[], .bool (g k)]) w := by
  obtain ⟨D, h1, h2⟩ := h.map
  obtain ⟨v, ps, hrun, hv⟩ := h1.look_ok pairLaw Try.underlying176 (zeroUnit w) unitElem_mk (pk_key hk)
  obtain ⟨rfl, _⟩ := unitElem_inv hv
  rw [hrun, h2 k hk]
set_option maxRecDepth 100000 in
theorem slook_none (w : World) {k : Int × Int} (hk : I2 k) : (Instr.lookup 176 (.map none) (pk k) true).run Try.prog w = .ok (.tuple #[.agg #[], .bool false]) w := by
  have h := look_nil (P := Try.prog) (w := w) true pairLaw Try.underlying176 (zeroUnit w) (pk_key hk)
  simpa using h
theorem SM.put (h : SM base mb n g w) {k : Int × Int} (hk : I2 k) (hn : n < 1000000) :
    ∃ w2, (Instr.mapUpdate 176 (.map (some mb)) (pk k) (.agg #[])).run Try.prog w = .ok () w2 ∧ SM base mb (n + 1) (upd g k true) w2 ∧ Kee (fun b => b = mb) w w2 ∧ w2.heap.size = w.heap.size := by
  obtain ⟨D, h1, h2⟩ := h.map
  obtain ⟨w2, hrun, hown, ht⟩ := h1.store pairLaw Try.underlying176 (by unfold maxLen; omega) (pk_key hk) unitElem_mk
  obtain ⟨hkk, hsz⟩ := turned_kee ht
  refine ⟨w2, hrun, ⟨h.lo, _, hown, fun j hj => ?_⟩, hkk, hsz⟩
  by_cases e : j = k
  · rw [e, upd_same, has_put_same h1.isMap (pairLaw.key (pk_key hk))]
  · rw [upd_other _ _ e, has_put_other fun e' => e (kl_inj hj hk e')]
    exact h2 j hj
theorem SM.drop (h : SM base mb n g w) {k : Int × Int} (hk : I2 k) (ty : TypeId) :
    ∃ w2, (Builtin.delete_ #[176, 97] ty #[.map (some mb), pk k]).run Try.prog w = .ok (.tuple #[]) w2 ∧ SM base mb n (upd g k false) w2 ∧ Kee (fun b => b = mb) w w2 ∧ w2.heap.size = w.heap.size := by
  obtain ⟨D, h1, h2⟩ := h.map
  obtain ⟨w2, hrun, hown, ht⟩ := h1.drop pairLaw Try.underlying176 (pk_key hk) ty
  obtain ⟨hkk, hsz⟩ := turned_kee ht
  refine ⟨w2, hrun, ⟨h.lo, _, hown, fun j hj => ?_⟩, hkk, hsz⟩
  by_cases e : j = k
  · rw [e, upd_same, has_del_same]
  · rw [upd_other _ _ e, has_del_other fun e' => e (kl_inj hj hk e')]
    exact h2 j hj

/-! ### rows of numbers -/
def iCells (l : List Int) : List Value := l.map (Value.int .i64)
theorem iCells_length (l : List Int) : (iCells l).length = l.length := by simp [iCells]
theorem iCells_snoc (l : List Int) (k : Int) : iCells (l ++ [k]) = iCells l ++ [.int .i64 k] := by simp [iCells]
/-- A row of numbers of its own. -/
def NRow (base : Nat) (v : Value) (l : List Int) (w : World) : Prop := w.ownsRow base 3 1 v l.length (iCells l)
/-- A row of numbers, wherever it lies. -/
def IRow (v : Value) (l : List Int) (w : World) : Prop := ∃ a c, v = .slice a l.length c ∧ (l = [] ∨ ∃ g o, a = some ⟨g, o, none⟩ ∧ g < w.heap.size ∧ ∀ (i : Nat) (k : Int), l[i]? = some k → w.cell? ⟨g, o + i, none⟩ = some (.int .i64 k))
theorem NRow.row {v : Value} {l : List Int} (h : NRow base v l w) : IRow v l w := by
  have h' := h
  rcases h.2 with ⟨rfl, e⟩ | ⟨g, cap, cur, rfl, _, hh, _⟩
  · exact ⟨none, 0, by rw [e], Or.inl (List.eq_nil_of_length_eq_zero e)⟩
  · refine ⟨some ⟨g, 0, none⟩, cap, rfl, Or.inr ⟨g, 0, rfl, (Array.getElem?_eq_some_iff.1 hh).1, fun i k hk => ?_⟩⟩
    have c1 := h'.cells (g := g) rfl i (.int .i64 k) (by simp [iCells, hk])
    rw [Addr.add_lit, Nat.zero_add] at c1
    rw [Nat.zero_add]
    exact c1
theorem NRow.nil (base : Nat) (w : World) : NRow base (.slice none 0 0) [] w := ⟨rfl, Or.inl ⟨rfl, rfl⟩⟩
theorem NRow.later {v : Value} {l : List Int} {w' : World} (h : NRow base v l w) (k : Below w.heap.size w w') : NRow base v l w' := row_kee h (kee_below k fun _ => False) fun _ _ h => h
theorem IRow.later {v : Value} {l : List Int} {w' : World} (h : IRow v l w) (k : Below w.heap.size w w') : IRow v l w' := by
  obtain ⟨a, c, e, h⟩ := h
  refine ⟨a, c, e, ?_⟩
  rcases h with h | ⟨g, o, e, hg, h⟩
  · exact Or.inl h
  · exact Or.inr ⟨g, o, e, Nat.lt_of_lt_of_le hg k.size, fun i y hy => (k.cell (p := ⟨g, o + i, none⟩) hg).trans (h i y hy)⟩
theorem NRow.lt' {v : Value} {l : List Int} (h : NRow base v l w) (b : Nat) (hb : v.ownBlock = some b) : base ≤ b ∧ b < w.heap.size := h.lt b hb
end Go.Proofs.Ytdfpjpmdldigdab
namespace Go.Proofs.Ytdfpjpmdldigdab
open Go.RowKit Go.Maps

def numB (a : Int) : Bool := decide (1 ≤ a) && decide (a ≤ 99)
theorem numB_iff {a : Int} : numB a = true ↔ 1 ≤ a ∧ a ≤ 99 := by simp [numB]
theorem bisp_any (a : Int) (w : World) : Calls Try.prog 101 #[.int .i64 a] w fun e w' => e = .returned (.bool (numB a)) ∧ w' = w := by
  go_enter Try.func101, Try.ntmps101
  by_cases h1 : 1 ≤ a
  · go_wp2_with fail
    go_ret
    exact ⟨ret_bool (by simp [numB, h1]), rfl⟩
  · go_wp2_with fail
    go_ret
    exact ⟨ret_bool (by simp [numB]; omega), rfl⟩
theorem bpair_any (x y : Int) (w : World) : Calls Try.prog 102 #[.int .i64 x, .int .i64 y] w fun e w' => e = .returned (.agg #[.int .i64 (prN x y).1, .int .i64 (prN x y).2]) ∧ Below w.heap.size w w' := by
  go_enter Try.func102, Try.ntmps102
  go_wp2_with fail
  all_goals
    exact bodyPost_ret (v := .agg #[.int .i64 (prN x y).1, .int .i64 (prN x y).2]) (by simp [results, Try.results102, go_sem, prN]; omega) rfl ⟨rfl, (Below.refl _ _).alloc (Nat.le_refl _) _⟩
theorem below_grown' {base e sz n : Nat} {v : Value} {xs : List Value} {w w5 : World} {o : Obj} (h : w.ownsRow base e sz v n xs) (hg : (w.alloc o).grownBy w5 v.ownBlock) (hb : base ≤ w.heap.size) : Below base w w5 := by
  have h0 : Below base w (w.alloc o) := (Below.refl _ _).alloc hb _
  refine ⟨hg.os.trans h0.os, hg.tape.trans h0.tape, hg.output.trans h0.output, Nat.le_trans h0.size hg.size, fun b hb' => (hg.block b (by simp; omega) fun e => ?_).trans (h0.block b hb')⟩
  have := (h.lt b e.symm).1
  omega
theorem prN_i2 {x y : Int} (hx : I64 x) (hy : I64 y) : I2 (prN x y) := by
  rcases prN_cases x y with ⟨e, _⟩ | ⟨e, _⟩ <;> rw [e]
  · exact ⟨hx, hy⟩
  · exact ⟨hy, hx⟩
theorem num64 (b : Nat) (h : b ≤ 1000) : I64 (b : Int) := by unfold I64; omega
set_option maxRecDepth 100000 in
set_option maxHeartbeats 2000000 in
theorem bof_walk (g : Int × Int → Bool) (bp : Nat) (mo : Option Nat) (x : Int) (w : World) (hbp : bp < w.heap.size) (HX : Hid (I64 x)) (HC : Hid (w.cell? ⟨bp, 0, none⟩ = some (.map mo)))
    (HL : Hid (∀ k, I2 k → ∀ W, Below w.heap.size w W → (Instr.lookup 176 (.map mo) (pk k) true).run Try.prog W = .ok (.tuple #[.agg #[], .bool (g k)]) W)) :
    Calls Try.prog 56 #[.pointer (some ⟨bp, 0, none⟩), .int .i64 x] w fun e w' => ∃ v, e = .returned v ∧ Hid (NRow w.heap.size v (ofL g x) w' ∧ Below w.heap.size w w') := by
  obtain ⟨it, hit, htz0, htz1, htz2⟩ := info_parts infoInt
  have HIT : Hid (Try.prog.info? 3 = some it ∧ it.zero = some (.int .i64 0) ∧ it.size = 1 ∧ it.bytes = 8) := ⟨hit, htz0, htz1, htz2⟩
  clear hit htz0 htz1 htz2
  go_enter Try.func56, Try.ntmps56
  go_wp2_with fail
  go_loopw [5, 6] (fun v i wr => ∃ (b : Nat), 1 ≤ b ∧ b ≤ 100 ∧ i = .int .i64 b ∧ (∃ a L c, v = .slice a L c ∧ L ≤ 99 ∧ Hid ((ofTo g x (b - 1)).length = L ∧ wr.ownsRow w.heap.size 3 1 (.slice a L c) L (iCells (ofTo g x (b - 1))) ∧ Below w.heap.size w wr))) (fun _ i _ => 100 - (intOf i).toNat)
  case atStart => exact ⟨1, by omega, by omega, rfl, none, 0, 0, rfl, by omega, rfl, ⟨rfl, Or.inl ⟨rfl, rfl⟩⟩, Below.refl _ _⟩
  case round =>
    obtain ⟨b, hb1, hb2, rfl, a, L, c, rfl, hL, HR⟩ := hrel
    by_cases hb : b ≤ 99
    · have hb' : (b : Int) ≤ 99 := by omega
      have c0 : wr.cell? ⟨bp, 0, none⟩ = some (.map mo) := (HR.out.2.2.cell (p := ⟨bp, 0, none⟩) hbp).trans HC.out
      have HI : Hid (I2 (prN x b)) := prN_i2 HX.out (num64 b (by omega))
      have HG : Hid (ofTo g x b = ofTo g x (b - 1) ++ if g (prN x b) then [(b : Int)] else []) := by
        have h := ofTo_next g x (b - 1) (by omega)
        have e1 : b - 1 + 1 = b := by omega
        have e2 : ((b - 1 : Nat) : Int) + 1 = (b : Int) := by omega
        rw [e1, e2] at h
        exact h
      have hl := fun W hW => HL.out (prN x b) HI.out W (HR.out.2.2.trans (Below.mono hW HR.out.2.2.size))
      have hpair := fun W => bpair_any x b W
      obtain ⟨t, ht⟩ : ∃ t, t = g (prN x b) := ⟨_, rfl⟩
      rw [← ht] at hl HG
      have HLN := hide (show L ≤ b - 1 by have := ofTo_length g x (b - 1); have := HR.out.1; omega)
      unfold pk at hl
      obtain ⟨⟨p0, p1⟩, hp⟩ : ∃ p, p = prN x b := ⟨_, rfl⟩
      rw [← hp] at hl hpair
      have HPR := hide hpair
      replace HL := hide hl
      have HCB : Hid (∀ W, Below wr.heap.size wr W → W.cell? ⟨bp, 0, none⟩ = some (.map mo)) := fun W hW => ((HR.out.2.2.trans (Below.mono hW HR.out.2.2.size)).cell (p := ⟨bp, 0, none⟩) hbp).trans HC.out
      have HD0 : Hid (Below wr.heap.size wr wr.drew) := (Below.refl _ _).drew
      have HDA : Hid (∀ o : Obj, Below wr.heap.size wr (wr.alloc o).drew) := fun o => ((Below.refl _ _).alloc (Nat.le_refl _) o).drew
      clear ht hl hpair HI
      go_wp2_with fail
      go_region_held3 (fun W => W.cell? ⟨bp, 0, none⟩ = some (.map mo)) (first | (go_keep; done) | exact HCB.out _ HD0.out | exact HCB.out _ (HDA.out _) | exact HCB.out _ (HB2.out.alloc HB2.out.size _) | exact HCB.out _ HB2.out) ((first
        | (go_at_call 102; refine (HPR.out _).mono ?_; rintro e w2 ⟨rfl, hb2⟩; have HB2 := hide (HD0.out.trans (hb2.mono HD0.out.size)); have hl2 := HL.out _ HB2.out; have hl3 := HL.out _ (HB2.out.alloc HB2.out.size (.cells #[] 179)); clear hb2)
        | (go_at_call 102; refine (HPR.out _).mono ?_; rintro e w2 ⟨rfl, hb2⟩; have HB2 := hide ((HDA.out _).trans (hb2.mono (HDA.out _).size)); have hl2 := HL.out _ HB2.out; clear hb2)))
      · obtain ⟨wz, hwz⟩ : ∃ wz, wz = w2.alloc (.cells #[] 179) := ⟨_, rfl⟩
        rw [← hwz]
        have HZ : Hid (Below wr.heap.size wr wz) := by rw [hwz]; exact HB2.out.alloc HB2.out.size _
        obtain ⟨pz, hpz⟩ : ∃ pz, pz = w2.heap.size := ⟨_, rfl⟩
        rw [← hpz]
        clear hwz hl3 hpz
        have HB := hide (HR.out.2.2.trans (HZ.out.mono HR.out.2.2.size))
        have HO := hide (row_kee HR.out.2.1 (kee_below HZ.out fun _ => False) fun _ _ h => h)
        have HS := hide HR.out.1
        have HSZ := hide HB.out.size
        clear HR HB2 HZ HL HPR HCB HD0 HDA hl2 c0
        cases t
        · go_wp2_with fail
          go_roundw
          case rel => exact ⟨b + 1, by omega, by omega, by go_num, a, L, c, rfl, hL, by rw [Nat.add_sub_cancel, HG.out]; simpa using HS.out, by rw [Nat.add_sub_cancel, HG.out]; simpa using HO.out, HB.out⟩
          case measure => simp [intOf]; omega
        · go_wp2_with (first
            | (at_builtin; refine wpList_append_lies _ rfl _ _ 54 rfl w.heap.size 3 it _ 1 8 Try.underlying54 HIT.out.1 HIT.out.2.1 HIT.out.2.2.1 HIT.out.2.2.2 rfl (by decide) (.slice a L c) L (iCells (ofTo g x (b - 1))) rfl (HO.out.alloc _) ⟨wz.heap.size, 0, none⟩ 1 1 [.int .i64 b] rfl rfl (World.news_of_block (cs := #[.int .i64 b]) (t := 3) (fr := (0, 0)) (heap_alloc_new wz _)) (by simp [Value.oneCell']) (by decide) (by unfold maxLen; omega) (by omega) (by have := HSZ.out; simp; omega) _ rfl ?_; intro g5 c5 w5 hown5 hgrow5 hat5 hlt5; have HO5 := hide hown5; have HB5 := hide (HB.out.trans (below_grown' HO.out hgrow5 HB.out.size)); clear hown5 hgrow5 hat5 hlt5))
          go_roundw
          case rel =>
            refine ⟨b + 1, by omega, by omega, by go_num, some ⟨g5, 0, none⟩, L + 1, c5, rfl, by have := HLN.out; omega, ?_, ?_, HB5.out⟩
            · rw [Nat.add_sub_cancel, HG.out]
              simpa using HS.out
            · rw [Nat.add_sub_cancel, HG.out, if_pos rfl, iCells_snoc]
              exact HO5.out
          case measure => simp [intOf]; omega
      · obtain ⟨wz, hwz⟩ : ∃ wz, wz = w2.alloc (.cells #[] 179) := ⟨_, rfl⟩
        rw [← hwz]
        have HZ : Hid (Below wr.heap.size wr wz) := by rw [hwz]; exact HB2.out.alloc HB2.out.size _
        obtain ⟨pz, hpz⟩ : ∃ pz, pz = w2.heap.size := ⟨_, rfl⟩
        rw [← hpz]
        clear hwz hpz
        have HB := hide (HR.out.2.2.trans (HZ.out.mono HR.out.2.2.size))
        have HO := hide (row_kee HR.out.2.1 (kee_below HZ.out fun _ => False) fun _ _ h => h)
        have HS := hide HR.out.1
        have HSZ := hide HB.out.size
        clear HR HB2 HZ HL HPR HCB HD0 HDA hl2 hl3 c0
        cases t
        · go_wp2_with fail
          go_roundw
          case rel => exact ⟨b + 1, by omega, by omega, by go_num, a, L, c, rfl, hL, by rw [Nat.add_sub_cancel, HG.out]; simpa using HS.out, by rw [Nat.add_sub_cancel, HG.out]; simpa using HO.out, HB.out⟩
          case measure => simp [intOf]; omega
        · go_wp2_with (first
            | (at_builtin; refine wpList_append_lies _ rfl _ _ 54 rfl w.heap.size 3 it _ 1 8 Try.underlying54 HIT.out.1 HIT.out.2.1 HIT.out.2.2.1 HIT.out.2.2.2 rfl (by decide) (.slice a L c) L (iCells (ofTo g x (b - 1))) rfl (HO.out.alloc _) ⟨wz.heap.size, 0, none⟩ 1 1 [.int .i64 b] rfl rfl (World.news_of_block (cs := #[.int .i64 b]) (t := 3) (fr := (0, 0)) (heap_alloc_new wz _)) (by simp [Value.oneCell']) (by decide) (by unfold maxLen; omega) (by omega) (by have := HSZ.out; simp; omega) _ rfl ?_; intro g5 c5 w5 hown5 hgrow5 hat5 hlt5; have HO5 := hide hown5; have HB5 := hide (HB.out.trans (below_grown' HO.out hgrow5 HB.out.size)); clear hown5 hgrow5 hat5 hlt5))
          go_roundw
          case rel =>
            refine ⟨b + 1, by omega, by omega, by go_num, some ⟨g5, 0, none⟩, L + 1, c5, rfl, by have := HLN.out; omega, ?_, ?_, HB5.out⟩
            · rw [Nat.add_sub_cancel, HG.out]
              simpa using HS.out
            · rw [Nat.add_sub_cancel, HG.out, if_pos rfl, iCells_snoc]
              exact HO5.out
          case measure => simp [intOf]; omega
      · obtain ⟨wz, hwz⟩ : ∃ wz, wz = w2 := ⟨_, rfl⟩
        subst hwz
        have HZ := hide HB2.out
        have HB := hide (HR.out.2.2.trans (HZ.out.mono HR.out.2.2.size))
        have HO := hide (row_kee HR.out.2.1 (kee_below HZ.out fun _ => False) fun _ _ h => h)
        have HS := hide HR.out.1
        have HSZ := hide HB.out.size
        clear HR HB2 HZ HL HPR HCB HD0 HDA hl2 c0
        cases t
        · go_wp2_with fail
          go_roundw
          case rel => exact ⟨b + 1, by omega, by omega, by go_num, a, L, c, rfl, hL, by rw [Nat.add_sub_cancel, HG.out]; simpa using HS.out, by rw [Nat.add_sub_cancel, HG.out]; simpa using HO.out, HB.out⟩
          case measure => simp [intOf]; omega
        · go_wp2_with (first
            | (at_builtin; refine wpList_append_lies _ rfl _ _ 54 rfl w.heap.size 3 it _ 1 8 Try.underlying54 HIT.out.1 HIT.out.2.1 HIT.out.2.2.1 HIT.out.2.2.2 rfl (by decide) (.slice a L c) L (iCells (ofTo g x (b - 1))) rfl (HO.out.alloc _) ⟨wz.heap.size, 0, none⟩ 1 1 [.int .i64 b] rfl rfl (World.news_of_block (cs := #[.int .i64 b]) (t := 3) (fr := (0, 0)) (heap_alloc_new wz _)) (by simp [Value.oneCell']) (by decide) (by unfold maxLen; omega) (by omega) (by have := HSZ.out; simp; omega) _ rfl ?_; intro g5 c5 w5 hown5 hgrow5 hat5 hlt5; have HO5 := hide hown5; have HB5 := hide (HB.out.trans (below_grown' HO.out hgrow5 HB.out.size)); clear hown5 hgrow5 hat5 hlt5))
          go_roundw
          case rel =>
            refine ⟨b + 1, by omega, by omega, by go_num, some ⟨g5, 0, none⟩, L + 1, c5, rfl, by have := HLN.out; omega, ?_, ?_, HB5.out⟩
            · rw [Nat.add_sub_cancel, HG.out]
              simpa using HS.out
            · rw [Nat.add_sub_cancel, HG.out, if_pos rfl, iCells_snoc]
              exact HO5.out
          case measure => simp [intOf]; omega
    · obtain rfl : b = 100 := by omega
      have hR := HR.out
      go_wp2_with fail
      go_ret
      refine ⟨_, rfl, ?_, hR.2.2⟩
      have e := ofTo_all g x
      rw [show 100 - 1 = 99 from rfl] at hR
      rw [← e]
      unfold NRow
      rw [hR.1]
      exact hR.2.1
end Go.Proofs.Ytdfpjpmdldigdab
namespace Go.Proofs.Ytdfpjpmdldigdab
open Go.RowKit Go.Maps

/-- Block bp is a Bonds: its pairs are those of which g holds. -/
def BdAt (base bp : Nat) (mo : Option Nat) (n : Nat) (g : Int × Int → Bool) (w : World) : Prop :=
  base ≤ bp ∧ w.heap[bp]? = some (.cells #[.map mo] 178 (0, 0)) ∧ ((mo = none ∧ g = fun _ => false) ∨ ∃ mb, mo = some mb ∧ SM base mb n g w)
def bdM (bp : Nat) (mo : Option Nat) (b : Nat) : Prop := b = bp ∨ mo = some b
variable {base bp n : Nat} {mo : Option Nat} {g : Int × Int → Bool} {w : World}
theorem BdAt.lt (h : BdAt base bp mo n g w) (b : Nat) (hb : bdM bp mo b) : base ≤ b ∧ b < w.heap.size := by
  rcases hb with rfl | hb
  · exact ⟨h.1, (Array.getElem?_eq_some_iff.1 h.2.1).1⟩
  · rcases h.2.2 with ⟨e, _⟩ | ⟨mb, e, hs⟩
    · rw [e] at hb
      cases hb
    · rw [e] at hb
      injection hb with hb
      subst hb
      exact hs.lt
theorem BdAt.kee {S : Nat → Prop} {w' : World} (h : BdAt base bp mo n g w) (k : Kee S w w') (hS : ∀ b, bdM bp mo b → ¬ S b) : BdAt base bp mo n g w' := by
  refine ⟨h.1, (k.block bp (h.lt bp (Or.inl rfl)).2 (hS bp (Or.inl rfl))).trans h.2.1, ?_⟩
  rcases h.2.2 with e | ⟨mb, e, hs⟩
  · exact Or.inl e
  · exact Or.inr ⟨mb, e, hs.kee k (hS mb (Or.inr e))⟩
theorem BdAt.later {w' : World} (h : BdAt base bp mo n g w) (k : Below w.heap.size w w') : BdAt base bp mo n g w' := h.kee (kee_below k fun _ => False) fun _ _ h => h
theorem BdAt.cell (h : BdAt base bp mo n g w) : w.cell? ⟨bp, 0, none⟩ = some (.map mo) ∧ w.frozen? ⟨bp, 0, none⟩ = false := ⟨cell_row h.2.1 0, by simp [World.frozen?, h.2.1]⟩
theorem BdAt.look (h : BdAt base bp mo n g w) {k : Int × Int} (hk : I2 k) : (Instr.lookup 176 (.map mo) (pk k) true).run Try.prog w = .ok (.tuple #[.agg #[], .bool (g k)]) w := by
  rcases h.2.2 with ⟨rfl, rfl⟩ | ⟨mb, rfl, hs⟩
  · exact slook_none w hk
  · exact hs.look hk
theorem BdAt.ne {mb : Nat} (h : BdAt base bp (some mb) n g w) : bp ≠ mb := by
  intro e
  rcases h.2.2 with ⟨e', _⟩ | ⟨mb', e', hs⟩
  · cases e'
  · injection e' with e'
    subst e' e
    obtain ⟨D, ⟨es, clock, hb, _⟩, _⟩ := hs.map
    rw [h.2.1] at hb
    cases hb
theorem bnew_any (w : World) : Calls Try.prog 52 #[] w fun e w' => e = .returned (.pointer (some ⟨w.heap.size, 0, none⟩)) ∧ w' = w.alloc (.cells #[.map none] 178) := by
  go_enter Try.func52, Try.ntmps52
  go_wp2_with fail
  go_ret
  exact ⟨rfl, rfl⟩
theorem bof_any (h : BdAt base bp mo n g w) {x : Int} (hx : I64 x) : Calls Try.prog 56 #[.pointer (some ⟨bp, 0, none⟩), .int .i64 x] w fun e w' => ∃ v, e = .returned v ∧ Hid (NRow w.heap.size v (ofL g x) w' ∧ Below w.heap.size w w') :=
  bof_walk g bp mo x w (h.lt bp (Or.inl rfl)).2 hx h.cell.1 fun _ hk _ hW => (h.later hW).look hk
theorem bq_some (mb : Nat) (W : World) : (binOp .eql 176 (.map (some mb)) (.map none)).run Try.prog W = .ok (.bool false) W := by kernel_rfl
theorem bq_none (W : World) : (binOp .eql 176 (.map none) (.map none)).run Try.prog W = .ok (.bool true) W := by kernel_rfl
set_option maxRecDepth 100000 in
set_option maxHeartbeats 2000000 in
theorem blink_in (bp mb : Nat) (x y : Int) (w : World) (G : World → Prop) (hbp : bp < w.heap.size) (HC : Hid (w.cell? ⟨bp, 0, none⟩ = some (.map (some mb)))) (HV : Hid (numB x = true ∧ numB y = true)) (hne : x ≠ y)
    (HP : Hid (∀ W, Below w.heap.size w W → ∃ w2, (Instr.mapUpdate 176 (.map (some mb)) (.agg #[.int .i64 (prN x y).1, .int .i64 (prN x y).2]) (.agg #[])).run Try.prog W = .ok () w2 ∧ w2.cell? ⟨bp, 0, none⟩ = some (.map (some mb)) ∧ Hid (G w2))) :
    Calls Try.prog 53 #[.pointer (some ⟨bp, 0, none⟩), .int .i64 x, .int .i64 y] w fun e w' => e = .returned (.int .i64 0) ∧ G w' := by
  have c0 := HC.out
  have h1 := fun W => bisp_any x W
  have h2 := fun W => bisp_any y W
  have hq := bq_some mb
  rw [HV.out.1] at h1
  rw [HV.out.2] at h2
  have H1 := hide h1
  have H2 := hide h2
  clear h1 h2
  have hp := fun W => bpair_any x y W
  obtain ⟨⟨p0, p1⟩, hpe⟩ : ∃ p, p = prN x y := ⟨_, rfl⟩
  rw [← hpe] at hp HP
  have HPR := hide hp
  clear hp
  have HCB : Hid (∀ W, Below w.heap.size w W → W.cell? ⟨bp, 0, none⟩ = some (.map (some mb))) := fun W hW => (hW.cell (p := ⟨bp, 0, none⟩) hbp).trans HC.out
  have HD0 : Hid (Below w.heap.size w w.drew) := (Below.refl _ _).drew
  go_enter Try.func53, Try.ntmps53
  go_wp2_with fail
  refine (H1.out _).mono ?_
  rintro e w1 ⟨rfl, rfl⟩
  go_wp2_with fail
  refine (H2.out _).mono ?_
  rintro e w2 ⟨rfl, rfl⟩
  go_wp2_with fail
  go_region_held3 (fun W => W.cell? ⟨bp, 0, none⟩ = some (.map (some mb))) (first | (go_keep; done) | exact HCB.out _ HD0.out | exact HCB.out _ HB3.out | exact HC4.out) ((first
        | (go_at_call 102; refine (HPR.out _).mono ?_; rintro e w3 ⟨rfl, hb3⟩; have HB3 := hide (HD0.out.trans (hb3.mono HD0.out.size)); obtain ⟨w4, hu4, hc4, HG4⟩ := HP.out _ HB3.out; have HC4 := hide hc4; clear hb3)))
  go_wp2_with fail
  go_ret
  exact ⟨rfl, HG4.out⟩
set_option maxRecDepth 100000 in
set_option maxHeartbeats 2000000 in
theorem blink_nil (bp : Nat) (x y : Int) (w w0 : World) (G : World → Prop) (hbp : bp < w.heap.size) (HC : Hid (w.cell? ⟨bp, 0, none⟩ = some (.map none) ∧ w.frozen? ⟨bp, 0, none⟩ = false)) (HV : Hid (numB x = true ∧ numB y = true)) (hne : x ≠ y)
    (hw0 : w0 = (w.setCell ⟨bp, 0, none⟩ (.map (some w.heap.size))).alloc (.map #[] 0)) (HC0 : Hid (w0.cell? ⟨bp, 0, none⟩ = some (.map (some w.heap.size)))) (hb0 : bp < w0.heap.size)
    (HP : Hid (∀ W, Below w0.heap.size w0 W → ∃ w2, (Instr.mapUpdate 176 (.map (some w.heap.size)) (.agg #[.int .i64 (prN x y).1, .int .i64 (prN x y).2]) (.agg #[])).run Try.prog W = .ok () w2 ∧ w2.cell? ⟨bp, 0, none⟩ = some (.map (some w.heap.size)) ∧ Hid (G w2))) :
    Calls Try.prog 53 #[.pointer (some ⟨bp, 0, none⟩), .int .i64 x, .int .i64 y] w fun e w' => e = .returned (.int .i64 0) ∧ G w' := by
  obtain ⟨c0, f0⟩ := HC.out
  have h1 := fun W => bisp_any x W
  have h2 := fun W => bisp_any y W
  have hq := bq_none
  have hmm := @run_makeMap Try.prog
  rw [HV.out.1] at h1
  rw [HV.out.2] at h2
  have H1 := hide h1
  have H2 := hide h2
  clear h1 h2
  have hp := fun W => bpair_any x y W
  obtain ⟨⟨p0, p1⟩, hpe⟩ : ∃ p, p = prN x y := ⟨_, rfl⟩
  rw [← hpe] at hp HP
  have HPR := hide hp
  have HW0 := hide hw0
  clear hp hw0
  have HCB : Hid (∀ W, Below w0.heap.size w0 W → W.cell? ⟨bp, 0, none⟩ = some (.map (some w.heap.size))) := fun W hW => (hW.cell (p := ⟨bp, 0, none⟩) hb0).trans HC0.out
  have HD0 : Hid (Below w0.heap.size w0 w0.drew) := (Below.refl _ _).drew
  go_enter Try.func53, Try.ntmps53
  go_wp2_with fail
  refine (H1.out _).mono ?_
  rintro e w1 ⟨rfl, rfl⟩
  go_wp2_with fail
  refine (H2.out _).mono ?_
  rintro e w2 ⟨rfl, rfl⟩
  go_wp2_with fail
  rw [← HW0.out]
  have d0 := HC0.out
  go_region_held3 (fun W => W.cell? ⟨bp, 0, none⟩ = some (.map (some w2.heap.size))) (first | (go_keep; done) | exact HCB.out _ HD0.out | exact HCB.out _ HB3.out | exact HC4.out) ((first
        | (go_at_call 102; refine (HPR.out _).mono ?_; rintro e w3 ⟨rfl, hb3⟩; have HB3 := hide (HD0.out.trans (hb3.mono HD0.out.size)); obtain ⟨w4, hu4, hc4, HG4⟩ := HP.out _ HB3.out; have HC4 := hide hc4; clear hb3)))
  go_wp2_with fail
  go_ret
  exact ⟨rfl, HG4.out⟩
set_option maxRecDepth 100000 in
set_option maxHeartbeats 2000000 in
theorem blink_bad (bp : Nat) (x y : Int) (w : World) (hv : numB x = false ∨ numB y = false ∨ x = y) :
    Calls Try.prog 53 #[.pointer (some ⟨bp, 0, none⟩), .int .i64 x, .int .i64 y] w fun e w' => e = .returned (.int .i64 1) ∧ w' = w := by
  have h1 := fun W => bisp_any x W
  have h2 := fun W => bisp_any y W
  obtain ⟨a, ha⟩ : ∃ a, a = numB x := ⟨_, rfl⟩
  obtain ⟨b, hb⟩ : ∃ b, b = numB y := ⟨_, rfl⟩
  rw [← ha] at h1 hv
  rw [← hb] at h2 hv
  have H1 := hide h1
  have H2 := hide h2
  have HV := hide hv
  clear h1 h2 ha hb hv
  go_enter Try.func53, Try.ntmps53
  go_wp2_with fail
  refine (H1.out _).mono ?_
  rintro e w1 ⟨rfl, rfl⟩
  cases a
  · go_wp2_with fail
    go_ret
    exact ⟨rfl, rfl⟩
  · go_wp2_with fail
    refine (H2.out _).mono ?_
    rintro e w2 ⟨rfl, rfl⟩
    cases b
    · go_wp2_with fail
      go_ret
      exact ⟨rfl, rfl⟩
    · have he : x = y := by simpa using HV.out
      have HE := hide he
      subst he
      go_wp2_with fail
      go_ret
      exact ⟨rfl, rfl⟩
end Go.Proofs.Ytdfpjpmdldigdab
namespace Go.Proofs.Ytdfpjpmdldigdab
open Go.RowKit Go.Maps

variable {base bp n : Nat} {mo : Option Nat} {g : Int × Int → Bool} {w : World}
def lnkE (x y : Int) : Int := if numB x = true ∧ numB y = true ∧ x ≠ y then 0 else 1
/-- What a call leaves: bonds with other pairs, all else as it was. -/
def BdUp (base bp : Nat) (mo : Option Nat) (n : Nat) (g : Int × Int → Bool) (w w' : World) : Prop :=
  ∃ mo', BdAt base bp mo' n g w' ∧ Kee (bdM bp mo) w w' ∧ ∀ b, bdM bp mo' b → bdM bp mo b ∨ w.heap.size ≤ b
theorem BdAt.mono (h : BdAt base bp mo n g w) {m : Nat} (hm : n ≤ m) : BdAt base bp mo m g w := by
  refine ⟨h.1, h.2.1, ?_⟩
  rcases h.2.2 with e | ⟨mb, e, hs⟩
  · exact Or.inl e
  · exact Or.inr ⟨mb, e, hs.mono hm⟩
theorem blink_any (h : BdAt base bp mo n g w) {x y : Int} (hx : I64 x) (hy : I64 y) (hn : n < 1000000) :
    Calls Try.prog 53 #[.pointer (some ⟨bp, 0, none⟩), .int .i64 x, .int .i64 y] w fun e w' => e = .returned (.int .i64 (lnkE x y)) ∧ Hid (BdUp base bp mo (n + 1) (if lnkE x y = 0 then upd g (prN x y) true else g) w w') := by
  have hbp := h.lt bp (Or.inl rfl)
  by_cases hv : numB x = true ∧ numB y = true ∧ x ≠ y
  · have e0 : lnkE x y = 0 := if_pos hv
    rw [e0, if_pos rfl]
    rcases h.2.2 with ⟨rfl, rfl⟩ | ⟨mb, rfl, hs⟩
    · obtain ⟨w0, hw0⟩ : ∃ w0, w0 = (w.setCell ⟨bp, 0, none⟩ (.map (some w.heap.size))).alloc (.map #[] 0) := ⟨_, rfl⟩
      have k1 : Kee (fun b => b = bp) w (w.setCell ⟨bp, 0, none⟩ (.map (some w.heap.size))) := kee_set w bp 0 _
      have hs1 : (w.setCell ⟨bp, 0, none⟩ (.map (some w.heap.size))).heap.size = w.heap.size := by simp [World.setCell]
      have k0 : Kee (fun b => b = bp) w w0 := by
        rw [hw0]
        exact Kee.trans k1 (kee_below ((Below.refl _ _).alloc (Nat.le_refl _) _) fun _ => False) fun _ _ h => h.elim
      have hb1 : (w.setCell ⟨bp, 0, none⟩ (.map (some w.heap.size))).heap[bp]? = some (.cells #[.map (some w.heap.size)] 178 (0, 0)) := by
        simp [World.setCell, Array.getElem?_modify, h.2.1]
      have hb0 : w0.heap[bp]? = some (.cells #[.map (some w.heap.size)] 178 (0, 0)) := by
        rw [hw0]
        exact (((Below.refl _ _).alloc (Nat.le_refl _) _).block bp (by rw [hs1]; exact hbp.2)).trans hb1
      have hz0 : w0.heap.size = w.heap.size + 1 := by rw [hw0, World.size_alloc, hs1]
      have hS0 : SM base w.heap.size n (fun _ => false) w0 := by
        have hh := SM.new (w.setCell ⟨bp, 0, none⟩ (.map (some w.heap.size)))
        rw [hs1, ← hw0] at hh
        exact (hh.rebase (by omega)).mono (Nat.zero_le _)
      refine (blink_nil bp x y w w0 (fun w' => BdUp base bp none (n + 1) (upd (fun _ => false) (prN x y) true) w w') hbp.2 h.cell ⟨hv.1, hv.2.1⟩ hv.2.2 hw0 (cell_row hb0 0) (by omega) ?_).mono fun e w' h => ⟨h.1, h.2⟩
      intro W hW
      obtain ⟨w2, hr, h2, hk2, hs2⟩ := (hS0.later hW).put (prN_i2 hx hy) hn
      have hbw : w2.heap[bp]? = some (.cells #[.map (some w.heap.size)] 178 (0, 0)) := (hk2.block bp (by have := hW.size; omega) (by omega)).trans ((hW.block bp (by omega)).trans hb0)
      refine ⟨w2, hr, cell_row hbw 0, some w.heap.size, ⟨h.1, hbw, Or.inr ⟨_, rfl, h2⟩⟩, ?_, fun b hb => ?_⟩
      · refine Kee.trans (Kee.trans (k0.mono fun b _ e => Or.inl e) (kee_below hW fun _ => False) fun _ _ h => h.elim) hk2 fun b hb e => ?_
        omega
      · rcases hb with hb | hb
        · exact Or.inl (Or.inl hb)
        · injection hb with hb
          exact Or.inr (by omega)
    · refine (blink_in bp mb x y w (fun w' => BdUp base bp (some mb) (n + 1) (upd g (prN x y) true) w w') hbp.2 h.cell.1 ⟨hv.1, hv.2.1⟩ hv.2.2 ?_).mono fun e w' h => ⟨h.1, h.2⟩
      intro W hW
      obtain ⟨w2, hr, h2, hk2, hs2⟩ := (hs.later hW).put (prN_i2 hx hy) hn
      have hbw : w2.heap[bp]? = some (.cells #[.map (some mb)] 178 (0, 0)) := (hk2.block bp (by have := hW.size; omega) h.ne).trans ((hW.block bp (by omega)).trans h.2.1)
      refine ⟨w2, hr, cell_row hbw 0, some mb, ⟨h.1, hbw, Or.inr ⟨_, rfl, h2⟩⟩, ?_, fun b hb => Or.inl hb⟩
      exact Kee.trans (kee_below hW _) hk2 fun b _ e => Or.inr (by rw [e])
  · have e0 : lnkE x y = 1 := if_neg hv
    rw [e0, if_neg (by decide)]
    refine (blink_bad bp x y w ?_).mono ?_
    · cases h1 : numB x
      · exact Or.inl rfl
      · cases h2 : numB y
        · exact Or.inr (Or.inl rfl)
        · refine Or.inr (Or.inr ?_)
          by_cases e : x = y
          · exact e
          · exact absurd ⟨h1, h2, e⟩ hv
    · rintro e w' ⟨rfl, rfl⟩
      exact ⟨rfl, mo, h.mono (Nat.le_succ n), Kee.refl _ _, fun b hb => Or.inl hb⟩
set_option maxRecDepth 100000 in
set_option maxHeartbeats 2000000 in
theorem index_walk (a : Option Addr) (c : Nat) (l : List Int) (L : Nat) (y : Int) (w : World) (hl : L ≤ 1000000) (HL : Hid (l.length = L)) (HC : Hid (∀ (i : Nat) (k : Int), l[i]? = some k → ∃ g o, a = some ⟨g, o, none⟩ ∧ w.cell? ⟨g, o + i, none⟩ = some (.int .i64 k))) :
    Calls Try.prog 92 #[.slice a L c, .int .i64 y] w fun e w' => ∃ r : Int, e = .returned (.int .i64 r) ∧ w' = w ∧ Hid (decide (0 ≤ r) = l.contains y) := by
  go_enter Try.func92, Try.ntmps92
  go_wp2_with fail
  go_loopw [8] (fun i wr => ∃ j : Nat, j ≤ L ∧ i = .int .i64 j ∧ wr = w ∧ Hid (y ∉ l.take j)) (fun i _ => L - (intOf i).toNat)
  case atStart => exact ⟨0, Nat.zero_le _, rfl, rfl, by simp [Hid]⟩
  case round =>
    obtain ⟨j, hj, rfl, rfl, HN⟩ := hrel
    by_cases hjl : j < L
    · obtain ⟨k, hk⟩ : ∃ k, l[j]? = some k := ⟨l[j]'(by rw [HL.out]; exact hjl), List.getElem?_eq_getElem _⟩
      obtain ⟨g, o, rfl, hc⟩ := HC.out j k hk
      have HK := hide hk
      clear hk
      have j1 : (0 : Int) ≤ (j : Int) := by omega
      have j2 : (j : Int) < (L : Int) := by omega
      by_cases hky : y = k
      · have HE : Hid (l.contains y = true) := by
          rw [hky]
          exact List.contains_iff_mem.2 (List.mem_of_getElem? HK.out)
        subst hky
        go_wp2_with fail
        go_ret
        exact ⟨(j : Int), rfl, rfl, by rw [HE.out]; simp [Hid]⟩
      · have HE : Hid (y ∉ l.take (j + 1)) := by
          rw [List.take_add_one, HK.out]
          intro h
          rcases List.mem_append.1 h with h | h
          · exact HN.out h
          · exact hky (by simpa using h)
        have hky' : ¬ k = y := fun e => hky e.symm
        go_wp2_with fail
        go_roundw
        case rel => exact ⟨j + 1, by omega, by go_num, trivial, HE.out⟩
        case measure => simp [intOf]; omega
    · obtain rfl : j = L := by omega
      have HE : Hid (l.contains y = false) := by
        have h := HN.out
        rw [List.take_of_length_le (by rw [HL.out]; exact Nat.le_refl _)] at h
        exact (show l.contains y = false by simpa using h)
      go_wp2_with fail
      go_ret
      exact ⟨-1, rfl, rfl, by rw [HE.out]; simp [Hid]⟩
theorem IRow.cells {v : Value} {l : List Int} (h : IRow v l w) : ∃ a c, v = .slice a l.length c ∧ ∀ (i : Nat) (k : Int), l[i]? = some k → ∃ g o, a = some ⟨g, o, none⟩ ∧ w.cell? ⟨g, o + i, none⟩ = some (.int .i64 k) := by
  obtain ⟨a, c, e, h⟩ := h
  refine ⟨a, c, e, fun i k hk => ?_⟩
  rcases h with rfl | ⟨g, o, e, _, h⟩
  · simp at hk
  · exact ⟨g, o, e, h i k hk⟩
set_option maxRecDepth 100000 in
set_option maxHeartbeats 1000000 in
theorem icontains_walk (v : Value) (y : Int) (t : Bool) (w : World) (HI : Hid (Calls Try.prog 92 #[v, .int .i64 y] w fun e w' => ∃ r : Int, e = .returned (.int .i64 r) ∧ w' = w ∧ Hid (decide (0 ≤ r) = t))) :
    Calls Try.prog 42 #[v, .int .i64 y] w fun e w' => e = .returned (.bool t) ∧ w' = w := by
  go_enter Try.func42, Try.ntmps42
  go_wp2_with fail
  refine HI.out.mono ?_
  rintro e w1 ⟨r, rfl, rfl, HR⟩
  go_wp2_with fail
  go_ret
  exact ⟨ret_bool (by rw [← HR.out]), rfl⟩
theorem icontains_any {v : Value} {l : List Int} (h : IRow v l w) (hl : l.length ≤ 1000000) (y : Int) : Calls Try.prog 42 #[v, .int .i64 y] w fun e w' => e = .returned (.bool (l.contains y)) ∧ w' = w := by
  obtain ⟨a, c, e, hc⟩ := h.cells
  rw [e]
  exact icontains_walk _ y _ w (index_walk a c l l.length y w hl rfl hc)
set_option maxRecDepth 100000 in
set_option maxHeartbeats 2000000 in
theorem iequal_walk (a b : Option Addr) (c d : Nat) (len : Nat) (w : World) (hlen : len ≤ 1000000)
    (HC : Hid (∀ i, i < len → ∃ g o g' o' k, (a = some ⟨g, o, none⟩ ∧ b = some ⟨g', o', none⟩) ∧ w.cell? ⟨g, o + i, none⟩ = some (.int .i64 k) ∧ w.cell? ⟨g', o' + i, none⟩ = some (.int .i64 k))) :
    Calls Try.prog 54 #[.slice a len c, .slice b len d] w fun e w' => e = .returned (.bool true) ∧ Below w.heap.size w w' := by
  go_enter Try.func54, Try.ntmps54
  go_wp2_with fail
  go_loopw [13] (fun i wr => ∃ j : Nat, j ≤ len ∧ i = .int .i64 j ∧ Hid (Below w.heap.size w wr)) (fun i _ => len - (intOf i).toNat)
  case atStart => exact ⟨0, Nat.zero_le _, rfl, Below.refl _ _⟩
  case round =>
    obtain ⟨j, hj, rfl, HB⟩ := hrel
    by_cases hjl : j < len
    · obtain ⟨g, o, g', o', k, ⟨rfl, rfl⟩, c1, c2⟩ := HC.out j hjl
      have hg := World.block_lt_of_cell? w ⟨g, o + j, none⟩ c1
      have hg' := World.block_lt_of_cell? w ⟨g', o' + j, none⟩ c2
      have cc := below_cells HB.out
      replace c1 := (cc _ _ hg).trans c1
      replace c2 := (cc _ _ hg').trans c2
      clear cc
      have j1 : (0 : Int) ≤ (j : Int) := by omega
      have j2 : (j : Int) < (len : Int) := by omega
      have HD : Hid (Below w.heap.size w wr.drew) := HB.out.drew
      go_wp2_with fail
      go_region_held3 (fun W => W.cell? ⟨g, o + j, none⟩ = some (.int .i64 k) ∧ W.cell? ⟨g', o' + j, none⟩ = some (.int .i64 k)) (go_keep) (fail)
      go_wp2_with fail
      go_roundw
      case rel => exact ⟨j + 1, by omega, by go_num, HD.out⟩
      case measure => simp [intOf]; omega
    · obtain rfl : j = len := by omega
      go_wp2_with fail
      go_ret
      exact ⟨rfl, HB.out⟩
theorem iequal_any {v u : Value} {l : List Int} (h1 : IRow v l w) (h2 : IRow u l w) (hl : l.length ≤ 1000000) : Calls Try.prog 54 #[v, u] w fun e w' => e = .returned (.bool true) ∧ Below w.heap.size w w' := by
  obtain ⟨a, c, e1, k1⟩ := h1.cells
  obtain ⟨b, d, e2, k2⟩ := h2.cells
  rw [e1, e2]
  refine iequal_walk a b c d l.length w hl fun i hi => ?_
  have hk : l[i]? = some (l[i]'hi) := List.getElem?_eq_getElem hi
  obtain ⟨g, o, e, hc⟩ := k1 i _ hk
  obtain ⟨g', o', e', hc'⟩ := k2 i _ hk
  exact ⟨g, o, g', o', _, ⟨e, e'⟩, hc, hc'⟩
set_option maxRecDepth 100000 in
set_option maxHeartbeats 2000000 in
theorem bpart_walk (l : List Int) (L : Nat) (bp : Nat) (mo : Option Nat) (x : Int) (w : World) (R : Option Addr → Nat → Nat → World → Prop) (hL : L ≤ 99) (HL : Hid (l.length = L))
    (HO : Hid (Calls Try.prog 56 #[.pointer (some ⟨bp, 0, none⟩), .int .i64 x] w fun e w' => ∃ a c, e = .returned (.slice a L c) ∧ Hid (R a c 0 w')))
    (HR : Hid (∀ a c j W, R a c j W → W.cell? ⟨bp, 0, none⟩ = some (.map mo) ∧ ∀ (i : Nat) (k : Int), l[i]? = some k → ∃ g o, a = some ⟨g, o, none⟩ ∧ W.cell? ⟨g, o + i, none⟩ = some (.int .i64 k)))
    (HB : Hid (∀ a c j W W', R a c j W → Below W.heap.size W W' → R a c j W'))
    (HD : Hid (∀ a c j k W, R a c j W → l[j]? = some k → ∃ W', (∀ ty, (Builtin.delete_ #[176, 97] ty #[.map mo, .agg #[.int .i64 (prN x k).1, .int .i64 (prN x k).2]]).run Try.prog W = .ok (.tuple #[]) W') ∧ R a c (j + 1) W')) :
    Calls Try.prog 103 #[.pointer (some ⟨bp, 0, none⟩), .int .i64 x] w fun e w' => ∃ a c, e = .returned (.slice a L c) ∧ Hid (R a c L w') := by
  go_enter Try.func103, Try.ntmps103
  go_wp2_with fail
  refine HO.out.mono ?_
  rintro e w1 ⟨a, c, rfl, H0⟩
  go_wp2_with fail
  go_loopw [13] (fun i wr => ∃ j : Nat, j ≤ L ∧ i = .int .i64 j ∧ Hid (R a c j wr)) (fun i _ => L - (intOf i).toNat)
  case atStart => exact ⟨0, Nat.zero_le _, rfl, H0.out⟩
  case round =>
    obtain ⟨j, hj, rfl, HJ⟩ := hrel
    by_cases hjl : j < L
    · obtain ⟨k, hk⟩ : ∃ k, l[j]? = some k := ⟨l[j]'(by rw [HL.out]; exact hjl), List.getElem?_eq_getElem _⟩
      obtain ⟨c0, hr⟩ := HR.out a c j wr HJ.out
      obtain ⟨g, o, rfl, c1⟩ := hr j k hk
      have HK := hide hk
      clear hk hr
      have j1 : (0 : Int) ≤ (j : Int) := by omega
      have j2 : (j : Int) < (L : Int) := by omega
      have HPR := hide (fun W => bpair_any x k W)
      have HDK := hide (fun W (h : R (some ⟨g, o, none⟩) c j W) => HD.out _ _ _ k W h HK.out)
      obtain ⟨⟨p0, p1⟩, hpe⟩ : ∃ p, p = prN x k := ⟨_, rfl⟩
      rw [← hpe] at HPR HDK
      clear hpe
      have HD0 : Hid (R (some ⟨g, o, none⟩) c j wr.drew) := HB.out _ _ _ _ _ HJ.out (Below.refl _ _).drew
      have d0 := (HR.out _ c j _ HD0.out).1
      go_wp2_with fail
      go_region_held3 (fun W => W.cell? ⟨bp, 0, none⟩ = some (.map mo)) (first | (go_keep; done) | exact (HR.out _ _ _ _ HB3.out).1 | exact (HR.out _ _ _ _ HG4.out).1) ((first
        | (go_at_call 102; refine (HPR.out _).mono ?_; rintro e w3 ⟨rfl, hb3⟩; have HB3 := hide (HB.out _ _ _ _ _ HD0.out hb3); obtain ⟨w4, hu4, hg4⟩ := HDK.out _ HB3.out; have HG4 := hide hg4; clear hb3 hg4)))
      go_wp2_with fail
      go_roundw
      case rel => exact ⟨j + 1, by omega, by go_num, HG4.out⟩
      case measure => simp [intOf]; omega
    · obtain rfl : j = L := by omega
      go_wp2_with fail
      go_ret
      exact ⟨a, c, rfl, HJ.out⟩
end Go.Proofs.Ytdfpjpmdldigdab
namespace Go.Proofs.Ytdfpjpmdldigdab
open Go.RowKit Go.Maps

variable {base bp n : Nat} {mo : Option Nat} {g : Int × Int → Bool} {w : World}
theorem BdAt.drop (h : BdAt base bp mo n g w) {k : Int × Int} (hk : I2 k) (hg : mo ≠ none) :
    ∃ w2, (∀ ty, (Builtin.delete_ #[176, 97] ty #[.map mo, pk k]).run Try.prog w = .ok (.tuple #[]) w2) ∧ BdAt base bp mo n (upd g k false) w2 ∧ Kee (fun b => mo = some b) w w2 ∧ w2.heap.size = w.heap.size := by
  have hne := fun mb (e : mo = some mb) => (show BdAt base bp (some mb) n g w from e ▸ h).ne
  rcases h.2.2 with ⟨e, _⟩ | ⟨mb, rfl, hs⟩
  · exact absurd e hg
  · obtain ⟨w2, hr, h2, hk2, hs2⟩ := hs.drop hk 0
    refine ⟨w2, fun ty => hr, ⟨h.1, (hk2.block bp (h.lt bp (Or.inl rfl)).2 (hne mb rfl)).trans h.2.1, Or.inr ⟨mb, rfl, h2⟩⟩, hk2.mono fun b _ e => by rw [e], hs2⟩
theorem BdAt.some (h : BdAt base bp mo n g w) {k : Int × Int} (hk : g k = true) : mo ≠ none := by
  rcases h.2.2 with ⟨_, e⟩ | ⟨mb, e, _⟩
  · rw [e] at hk
    cases hk
  · rw [e]
    simp
theorem bpart_any (h : BdAt base bp mo n g w) (hg : OKg g) {x : Int} (hx : I64 x) : Calls Try.prog 103 #[.pointer (some ⟨bp, 0, none⟩), .int .i64 x] w fun e w' => ∃ v, e = .returned v ∧ Hid (NRow w.heap.size v (ofL g x) w' ∧ BdAt base bp mo n (wo g [x]) w' ∧ Kee (fun b => mo = some b) w w') := by
  have hmo : ∀ b, mo = some b → b < w.heap.size := fun b e => (h.lt b (Or.inr e)).2
  have hd : ∀ (a : Option Addr) (c j : Nat) (k : Int) (W : World), (NRow w.heap.size (.slice a (ofL g x).length c) (ofL g x) W ∧ BdAt base bp mo n (cutL g x ((ofL g x).take j)) W ∧ Kee (fun b => mo = some b) w W) → (ofL g x)[j]? = some k → ∃ W', (∀ ty, (Builtin.delete_ #[176, 97] ty #[.map mo, .agg #[.int .i64 (prN x k).1, .int .i64 (prN x k).2]]).run Try.prog W = .ok (.tuple #[]) W') ∧ (NRow w.heap.size (.slice a (ofL g x).length c) (ofL g x) W' ∧ BdAt base bp mo n (cutL g x ((ofL g x).take (j + 1))) W' ∧ Kee (fun b => mo = some b) w W') := by
    rintro a c j k W ⟨h1, h2, h3⟩ hk
    have hm := mem_ofL.1 (List.mem_of_getElem? hk)
    have hI : I2 (prN x k) := prN_i2 hx (by unfold I64; omega)
    have hgk : cutL g x ((ofL g x).take j) (prN x k) = true := by
      refine cutL_iff.2 ⟨hm.2, fun y hy e => ?_⟩
      rcases prN_inj.1 e with ⟨_, e⟩ | ⟨e1, e2⟩
      · exact nodup_ahead (ofL_nodup g x) hk (e ▸ hy)
      · exact absurd (List.mem_of_getElem? hk) (by rw [e2]; exact ofL_self hg x)
    obtain ⟨w2, hr, hb, hkk, hs⟩ := h2.drop hI (h2.some hgk)
    refine ⟨w2, hr, row_kee h1 hkk fun b hb e => ?_, ?_, Kee.trans h3 hkk fun b _ e => e⟩
    · have := (h1.lt b hb).1
      have := hmo b e
      omega
    · rw [List.take_add_one, hk]
      rw [show (some k).toList = [k] from rfl, cutL_snoc]
      exact hb
  refine (bpart_walk (ofL g x) (ofL g x).length bp mo x w (fun a c j W => NRow w.heap.size (.slice a (ofL g x).length c) (ofL g x) W ∧ BdAt base bp mo n (cutL g x ((ofL g x).take j)) W ∧ Kee (fun b => mo = some b) w W) (ofL_length g x) rfl ?_ ?_ ?_ hd).mono ?_
  · refine (bof_any h hx).mono ?_
    rintro e w' ⟨v, rfl, HV⟩
    obtain ⟨a, c, e, _⟩ := HV.out.1.row
    subst e
    exact ⟨a, c, rfl, HV.out.1, h.later HV.out.2, kee_below HV.out.2 _⟩
  · rintro a c j W ⟨h1, h2, _⟩
    refine ⟨h2.cell.1, fun i k hk => ?_⟩
    obtain ⟨a', c', e, hc⟩ := h1.row.cells
    injection e with e1 e2 e3
    subst e1
    exact hc i k hk
  · rintro a c j W W' ⟨h1, h2, h3⟩ hb
    exact ⟨h1.later hb, h2.later hb, Kee.trans h3 (kee_below hb fun _ => False) fun _ _ h => h.elim⟩
  · rintro e w' ⟨a, c, rfl, HR⟩
    refine ⟨_, rfl, HR.out.1, ?_, HR.out.2.2⟩
    have h2 := HR.out.2.1
    rw [List.take_of_length_le (Nat.le_refl _), cut_all hg] at h2
    exact h2
/-- Of who was told behind i rounds, behind j more steps of the next round. -/
def toldJ (g : Int × Int → Bool) (x : Int) (i : Nat) (l : List Int) (j : Nat) : List Int := toldR g x i ++ newL (toldR g x i) (l.take j)
theorem toldJ_next {g : Int × Int → Bool} {x : Int} {i : Nat} {l : List Int} (hl : l.Nodup) {j : Nat} {y : Int} (hy : l[j]? = some y) : toldJ g x i l (j + 1) = toldJ g x i l j ++ if (toldJ g x i l j).contains y then [] else [y] := by
  unfold toldJ
  rw [List.take_add_one, hy]
  rw [show (some y).toList = [y] from rfl, newL_next _ _ _ (nodup_ahead hl hy), List.append_assoc]
theorem toldJ_all {g : Int × Int → Bool} {x : Int} {i : Nat} {y : Int} (hy : (toldR g x i)[i]? = some y) : toldJ g x i (ofL (wo g (x :: (toldR g x i).take i)) y) (ofL (wo g (x :: (toldR g x i).take i)) y).length = toldR g x (i + 1) := by
  rw [toldR, hy]
  unfold toldJ
  rw [List.take_of_length_le (Nat.le_refl _)]
theorem toldJ_le {g : Int × Int → Bool} (hg : OKg g) {x : Int} {i : Nat} {y : Int} (hy : (toldR g x i)[i]? = some y) (j : Nat) : (toldJ g x i (ofL (wo g (x :: (toldR g x i).take i)) y) j).length ≤ 99 := by
  have h1 := (told_told hg x (i + 1)).le
  rw [← toldJ_all hy] at h1
  refine Nat.le_trans ?_ h1
  unfold toldJ
  rw [List.length_append, List.length_append]
  refine Nat.add_le_add_left ?_ _
  rw [List.take_of_length_le (Nat.le_refl _)]
  exact (List.Sublist.filter _ (List.take_sublist j _)).length_le
theorem wo_next {g : Int × Int → Bool} {x : Int} {i : Nat} {y : Int} (hy : (toldR g x i)[i]? = some y) : wo (wo g (x :: (toldR g x i).take i)) [y] = wo g (x :: (toldR g x (i + 1)).take (i + 1)) := by
  rw [wo_wo]
  have hlt := (List.getElem?_eq_some_iff.1 hy).1
  rw [toldR, hy]
  simp only
  rw [List.take_append_of_le_length (by omega), List.take_add_one, hy]
  rfl
end Go.Proofs.Ytdfpjpmdldigdab
namespace Go.Proofs.Ytdfpjpmdldigdab
open Go.RowKit Go.Maps

variable {base bp n : Nat} {mo : Option Nat} {g : Int × Int → Bool} {w : World}
/-- Behind j rounds. -/
def EndS (base bp : Nat) (mo : Option Nat) (n : Nat) (g : Int × Int → Bool) (x : Int) (j : Nat) (a : Option Addr) (L c : Nat) (w W : World) : Prop :=
  (toldR g x j).length = L ∧ NRow w.heap.size (.slice a L c) (toldR g x j) W ∧ BdAt base bp mo n (wo g (x :: (toldR g x j).take j)) W ∧ Kee (fun b => mo = some b) w W
/-- Behind q steps of the next round: l is who is come to. -/
def InS (base bp : Nat) (mo : Option Nat) (n : Nat) (g : Int × Int → Bool) (x : Int) (j : Nat) (l : List Int) (ra : Option Addr) (rc : Nat) (q : Nat) (a : Option Addr) (L c : Nat) (w W : World) : Prop :=
  (toldJ g x j l q).length = L ∧ NRow w.heap.size (.slice a L c) (toldJ g x j l q) W ∧ NRow w.heap.size (.slice ra l.length rc) l W ∧ (∀ b, (Value.slice a L c).ownBlock = some b → (Value.slice ra l.length rc).ownBlock ≠ some b) ∧ BdAt base bp mo n (wo g (x :: (toldR g x (j + 1)).take (j + 1))) W ∧ Kee (fun b => mo = some b) w W
theorem slice_cells {v : Value} {a : Option Addr} {L c : Nat} {l : List Int} (h : IRow v l w) (e : v = .slice a L c) (i : Nat) (k : Int) (hk : l[i]? = some k) : ∃ g o, a = some ⟨g, o, none⟩ ∧ w.cell? ⟨g, o + i, none⟩ = some (.int .i64 k) := by
  obtain ⟨a', c', e', h⟩ := h.cells
  rw [e] at e'
  injection e' with e1 e2 e3
  subst e1
  exact h i k hk
theorem InS.more {x : Int} {j : Nat} {l : List Int} {ra : Option Addr} {rc q : Nat} {a : Option Addr} {L c : Nat} {W : World} (h : InS base bp mo n g x j l ra rc q a L c w W) (hl : l.Nodup) (hsz : ∀ b, bdM bp mo b → b < w.heap.size) {y : Int} (hy : l[q]? = some y) (hn : (toldJ g x j l q).contains y = false) {o : Obj} {g5 c5 : Nat} {w5 : World}
    (ho : w5.ownsRow w.heap.size 3 1 (.slice (some ⟨g5, 0, none⟩) (L + 1) c5) (L + 1) (iCells (toldJ g x j l q) ++ [.int .i64 y])) (hgr : (W.alloc o).grownBy w5 (Value.slice a L c).ownBlock) (hat : (Value.slice a L c).ownBlock = some g5 ∨ g5 = (W.alloc o).heap.size) :
    InS base bp mo n g x j l ra rc (q + 1) (some ⟨g5, 0, none⟩) (L + 1) c5 w w5 := by
  obtain ⟨h1, h2, h3, h4, h5, h6⟩ := h
  have e : toldJ g x j l (q + 1) = toldJ g x j l q ++ [y] := by
    rw [toldJ_next hl hy, hn]
    rfl
  have hal : Below W.heap.size W (W.alloc o) := (Below.refl _ _).alloc (Nat.le_refl _) _
  have kg : Kee (fun b => (Value.slice a L c).ownBlock = some b) W w5 := Kee.trans (kee_below hal _) (kee_grown hgr) fun b _ e => e
  have hlo : ∀ b, (Value.slice a L c).ownBlock = some b → w.heap.size ≤ b := fun b hb => (h2.lt b hb).1
  refine ⟨by rw [e, List.length_append, h1]; rfl, ?_, row_kee h3 kg fun b hb e => h4 b e hb, ?_, h5.kee kg fun b hb e => ?_, Kee.trans h6 kg fun b hb e => ?_⟩
  · unfold NRow
    rw [e, iCells_snoc, List.length_append, h1]
    exact ho
  · intro b hb hb'
    have e1 : g5 = b := Option.some.inj hb
    subst e1
    rcases hat with e2 | e2
    · exact h4 _ e2 hb'
    · have := (h3.lt _ hb').2
      simp at e2
      omega
  · have := hsz b hb
    have := hlo b e
    omega
  · have := hlo b e
    omega
set_option maxRecDepth 100000 in
set_option maxHeartbeats 4000000 in
theorem bend_walk (base bp : Nat) (mo : Option Nat) (n : Nat) (g : Int × Int → Bool) (x : Int) (w : World) (HG : Hid (OKg g)) (HSZ : Hid (∀ b, bdM bp mo b → b < w.heap.size))
    (HO : Hid (Calls Try.prog 103 #[.pointer (some ⟨bp, 0, none⟩), .int .i64 x] w fun e w' => ∃ a L c, e = .returned (.slice a L c) ∧ Hid (EndS base bp mo n g x 0 a L c w w'))) :
    Calls Try.prog 55 #[.pointer (some ⟨bp, 0, none⟩), .int .i64 x, .bool false] w fun e w' => ∃ v, e = .returned v ∧ Hid (NRow w.heap.size v (toldL g x) w' ∧ BdAt base bp mo n (wo g (x :: toldL g x)) w' ∧ Kee (fun b => mo = some b) w w') := by
  obtain ⟨it, hit, htz0, htz1, htz2⟩ := info_parts infoInt
  have HIT : Hid (Try.prog.info? 3 = some it ∧ it.zero = some (.int .i64 0) ∧ it.size = 1 ∧ it.bytes = 8) := ⟨hit, htz0, htz1, htz2⟩
  clear hit htz0 htz1 htz2
  go_enter Try.func55, Try.ntmps55
  go_wp2_with fail
  refine HO.out.mono ?_
  rintro e w1 ⟨a, L, c, rfl, H0⟩
  go_wp2_with fail
  go_loopw [7, 8] (fun v i wr => ∃ (j : Nat) (a : Option Addr) (L c : Nat), v = .slice a L c ∧ i = .int .i64 j ∧ j ≤ 99 ∧ L ≤ 99 ∧ Hid (EndS base bp mo n g x j a L c w wr)) (fun _ i _ => 100 - (intOf i).toNat)
  case atStart => exact ⟨0, a, L, c, rfl, rfl, by omega, by have h1 := (told_told HG.out x 0).le; have h2 := H0.out.1; omega, H0.out⟩
  case round =>
    clear H0 HO
    obtain ⟨j, a, L, c, rfl, rfl, hj, hL, HJ⟩ := hrel
    by_cases hjl : j < L
    · obtain ⟨y, hy⟩ : ∃ y, (toldR g x j)[j]? = some y := ⟨(toldR g x j)[j]'(by rw [HJ.out.1]; exact hjl), List.getElem?_eq_getElem _⟩
      obtain ⟨gb, o, rfl, c1⟩ := slice_cells HJ.out.2.1.row rfl j y hy
      have HY := hide hy
      have HYI : Hid (I64 y) := by
        have := (told_told HG.out x j).rng y (List.mem_of_getElem? hy)
        unfold Hid I64
        omega
      clear hy
      have j1 : (0 : Int) ≤ (j : Int) := by omega
      have j2 : (j : Int) < (L : Int) := by omega
      have HP := hide (bpart_any HJ.out.2.2.1 (HG.out.wo _) HYI.out)
      go_wp2_with fail
      refine HP.out.mono ?_
      rintro e w2 ⟨v2, rfl, HV⟩
      obtain ⟨l, hl⟩ : ∃ l, l = ofL (wo g (x :: (toldR g x j).take j)) y := ⟨_, rfl⟩
      rw [← hl] at HV
      obtain ⟨M, hM⟩ : ∃ M, M = l.length := ⟨_, rfl⟩
      have hM99 : M ≤ 99 := by
        have := ofL_length (wo g (x :: (toldR g x j).take j)) y
        rw [hM, hl]
        exact this
      obtain ⟨ra, rc, hv2⟩ : ∃ ra rc, v2 = .slice ra M rc := by
        obtain ⟨a', c', e, _⟩ := HV.out.1.row
        exact ⟨a', c', by rw [hM]; exact e⟩
      subst hv2
      have HND : Hid l.Nodup := by rw [hl]; exact ofL_nodup _ _
      have HTL : Hid (∀ q, (toldJ g x j l q).length ≤ 99) := by rw [hl]; exact fun q => toldJ_le HG.out HY.out q
      have HALL : Hid (toldJ g x j l M = toldR g x (j + 1)) := by rw [hM, hl]; exact toldJ_all HY.out
      have HIN : Hid (InS base bp mo n g x j l ra rc 0 (some ⟨gb, o, none⟩) L c w w2) := by
        have hw := wo_next HY.out (g := g) (x := x)
        have hV := HV.out
        have hsz : ∀ b, mo = some b → b < w.heap.size := fun b e => HSZ.out b (Or.inr e)
        have hk : Kee (fun b => mo = some b) w w2 := Kee.trans HJ.out.2.2.2 hV.2.2 fun _ _ e => e
        have e0 : toldJ g x j l 0 = toldR g x j := by simp [toldJ, newL]
        have hr2 : NRow w.heap.size (.slice (some ⟨gb, o, none⟩) L c) (toldR g x j) w2 := row_kee HJ.out.2.1 hV.2.2 fun b hb e => by
          have := (HJ.out.2.1.lt b hb).1
          have := hsz b e
          omega
        refine ⟨by rw [e0]; exact HJ.out.1, by rw [e0]; exact hr2, ?_, ?_, ?_, hk⟩
        · rw [← hM]
          exact own_base hV.1 HJ.out.2.2.2.size
        · intro b hb hb'
          rw [← hM] at hb'
          have := (hV.1.lt b hb').1
          have := (HJ.out.2.1.lt b hb).2
          omega
        · rw [← hw]
          exact hV.2.1
      replace hM := hide hM
      clear HV HJ HP c1 hl
      go_wp2_with fail
      go_loopw [7, 28] (fun v i wr => ∃ (q : Nat) (a : Option Addr) (L c : Nat), v = .slice a L c ∧ i = .int .i64 q ∧ q ≤ M ∧ L ≤ 99 ∧ Hid (InS base bp mo n g x j l ra rc q a L c w wr)) (fun _ i _ => M - (intOf i).toNat)
      case atStart => exact ⟨0, _, L, c, rfl, rfl, Nat.zero_le _, hL, HIN.out⟩
      case round =>
        clear HIN
        obtain ⟨q, a, L, c, rfl, rfl, hq, hL, HI⟩ := hrel
        by_cases hqM : q < M
        · obtain ⟨z, hz⟩ : ∃ z, l[q]? = some z := ⟨l[q]'(by rw [← hM.out]; exact hqM), List.getElem?_eq_getElem _⟩
          obtain ⟨gr, ro, rfl, c2⟩ := slice_cells HI.out.2.2.1.row rfl q z hz
          have HZ := hide hz
          clear hz
          have q1 : (0 : Int) ≤ (q : Int) := by omega
          have q2 : (q : Int) < (M : Int) := by omega
          have HCN := hide (icontains_any HI.out.2.1.row (by rw [HI.out.1]; omega) z)
          obtain ⟨t, ht⟩ : ∃ t, t = (toldJ g x j l q).contains z := ⟨_, rfl⟩
          rw [← ht] at HCN
          have HT := hide ht
          clear ht
          go_wp2_with fail
          refine HCN.out.mono ?_
          rintro e w3 ⟨rfl, rfl⟩
          cases t
          · have HLE := hide (HTL.out (q + 1))
            have HL1 : Hid (L + 1 ≤ 99) := by
              have h1 := HTL.out (q + 1)
              have h2 := HI.out.1
              rw [toldJ_next HND.out HZ.out, ← HT.out, List.length_append] at h1
              simp at h1
              unfold Hid
              omega
            have HSW : Hid (w.heap.size ≤ w3.heap.size) := HI.out.2.2.2.2.2.size
            have HOW := hide HI.out.2.1
            have HLL := hide HI.out.1
            go_wp2_with (first
              | (at_builtin; refine wpList_append_lies _ rfl _ _ 54 rfl w.heap.size 3 it _ 1 8 Try.underlying54 HIT.out.1 HIT.out.2.1 HIT.out.2.2.1 HIT.out.2.2.2 rfl (by decide) (.slice a L c) L (iCells (toldJ g x j l q)) rfl ((show w3.ownsRow w.heap.size 3 1 (.slice a L c) L (iCells (toldJ g x j l q)) from by have h := HOW.out; unfold NRow at h; rw [HLL.out] at h; exact h).alloc _) ⟨w3.heap.size, 0, none⟩ 1 1 [.int .i64 z] rfl rfl (World.news_of_block (cs := #[.int .i64 z]) (t := 3) (fr := (0, 0)) (heap_alloc_new w3 _)) (by simp [Value.oneCell']) (by decide) (by unfold maxLen; omega) (by omega) (by have := HSW.out; simp; omega) _ rfl ?_; intro g5 c5 w5 hown5 hgrow5 hat5 hlt5; have HO5 := hide (HI.out.more HND.out HSZ.out HZ.out HT.out.symm hown5 hgrow5 hat5); clear hown5 hgrow5 hat5 hlt5))
            go_roundw
            case rel => exact ⟨q + 1, _, L + 1, c5, rfl, by go_num, by omega, HL1.out, HO5.out⟩
            case measure => simp [intOf]; omega
          · have HO5 : Hid (InS base bp mo n g x j l (some ⟨gr, ro, none⟩) rc (q + 1) a L c w w3) := by
              have h := HI.out
              unfold InS at h ⊢
              have e : toldJ g x j l (q + 1) = toldJ g x j l q := by
                rw [toldJ_next HND.out HZ.out, ← HT.out]
                simp
              rw [e]
              exact h
            go_wp2_with fail
            go_roundw
            case rel => exact ⟨q + 1, _, L, c, rfl, by go_num, by omega, hL, HO5.out⟩
            case measure => simp [intOf]; omega
        · obtain rfl : q = M := by omega
          have HE : Hid (EndS base bp mo n g x (j + 1) a L c w wr) := by
            obtain ⟨h1, h2, _, _, h5, h6⟩ := HI.out
            rw [HALL.out] at h1 h2
            exact ⟨h1, h2, h5, h6⟩
          have HJ9 : Hid (j + 1 ≤ 99) := by
            have := (told_told HG.out x j).le
            have := (List.getElem?_eq_some_iff.1 HY.out).1
            unfold Hid
            omega
          go_wp2_with fail
          go_roundw
          case rel => exact ⟨j + 1, a, L, c, rfl, by go_num, HJ9.out, hL, HE.out⟩
          case measure => simp [intOf]; omega
    · have HE : Hid (toldR g x j = toldL g x) := toldR_end HG.out (by rw [HJ.out.1]; omega)
      have hjl' : ¬ (j : Int) < (L : Int) := by omega
      go_wp2_with fail
      go_ret
      obtain ⟨h1, h2, h3, h4⟩ := HJ.out
      rw [List.take_of_length_le (by omega), HE.out] at h3
      rw [HE.out] at h2
      exact ⟨_, rfl, h2, h3, h4⟩
set_option maxRecDepth 100000 in
theorem bendal_walk (bp : Nat) (x : Int) (w : World) (R : World → Prop) (HO : Hid (Calls Try.prog 103 #[.pointer (some ⟨bp, 0, none⟩), .int .i64 x] w fun e w' => ∃ v, e = .returned v ∧ Hid (R w'))) :
    Calls Try.prog 55 #[.pointer (some ⟨bp, 0, none⟩), .int .i64 x, .bool true] w fun e w' => e = .returned (.slice none 0 0) ∧ R w' := by
  go_enter Try.func55, Try.ntmps55
  go_wp2_with fail
  refine HO.out.mono ?_
  rintro e w1 ⟨v, rfl, H0⟩
  go_wp2_with fail
  go_ret
  exact ⟨rfl, H0.out⟩
/-- Who is told, and whose pairs are gone. -/
def endL (g : Int × Int → Bool) (x : Int) (al : Bool) : List Int := if al then [] else toldL g x
theorem bend_any (h : BdAt base bp mo n g w) (hg : OKg g) {x : Int} (hx : I64 x) (al : Bool) : Calls Try.prog 55 #[.pointer (some ⟨bp, 0, none⟩), .int .i64 x, .bool al] w fun e w' => ∃ v, e = .returned v ∧ Hid (NRow w.heap.size v (endL g x al) w' ∧ BdAt base bp mo n (wo g (x :: endL g x al)) w' ∧ Kee (fun b => mo = some b) w w') := by
  cases al
  · rw [show endL g x false = toldL g x from if_neg (by decide)]
    refine bend_walk base bp mo n g x w hg (fun b hb => (h.lt b hb).2) ?_
    refine (bpart_any h hg hx).mono ?_
    rintro e w' ⟨v, rfl, HV⟩
    obtain ⟨a, c, e, _⟩ := HV.out.1.row
    subst e
    exact ⟨a, _, c, rfl, rfl, HV.out.1, HV.out.2.1, HV.out.2.2⟩
  · refine (bendal_walk bp x w (fun w' => BdAt base bp mo n (wo g [x]) w' ∧ Kee (fun b => mo = some b) w w') ?_).mono ?_
    · refine (bpart_any h hg hx).mono ?_
      rintro e w' ⟨v, rfl, HV⟩
      exact ⟨v, rfl, HV.out.2⟩
    · rw [show endL g x true = [] from if_pos rfl]
      rintro e w' ⟨rfl, h1, h2⟩
      exact ⟨_, rfl, NRow.nil _ _, h1, h2⟩
end Go.Proofs.Ytdfpjpmdldigdab
