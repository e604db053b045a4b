/- What is proved here: heap.tuples' add: the words of a tuple, behind those that are there. Condition: at most 100000 words. -/
import Derived.Test.YtfaoeccnhbcjgabHp1
import Derived.Maps.AppendAt
namespace Go.Proofs.Ytfaoeccnhbcjgab
open Go.RowKit

/-- A word: its kind, its number. -/
abbrev Wd := Int × Int
def wd2 (x : Wd) : List Value := [.int .i64 x.1, .int .i64 x.2]
def wCells (l : List Wd) : List Value := l.flatMap wd2
theorem wCells_length (l : List Wd) : (wCells l).length = l.length * 2 := by
  induction l with
  | nil => rfl
  | cons a l ih =>
    have : wCells (a :: l) = wd2 a ++ wCells l := rfl
    rw [this, List.length_append, ih, List.length_cons]
    have : (wd2 a).length = 2 := rfl
    omega
theorem wCells_append (l r : List Wd) : wCells (l ++ r) = wCells l ++ wCells r := by simp [wCells]
theorem wCells_one (l : List Wd) : ∀ u ∈ wCells l, u.oneCell' = true := by
  intro u hu
  simp only [wCells, List.mem_flatMap] at hu
  obtain ⟨a, _, hu⟩ := hu
  simp [wd2] at hu
  rcases hu with rfl | rfl <;> rfl
theorem wCells_at (l : List Wd) (k : Nat) (x : Wd) (hx : l[k]? = some x) (j : Nat) (hj : j < 2) : (wCells l)[k * 2 + j]? = (wd2 x)[j]? := by
  induction l generalizing k with
  | nil => simp at hx
  | cons y l ih =>
    have e : wCells (y :: l) = wd2 y ++ wCells l := rfl
    have hy : (wd2 y).length = 2 := rfl
    rw [e]
    cases k with
    | zero =>
      simp at hx
      subst hx
      rw [List.getElem?_append_left (by omega)]
      simp
    | succ k =>
      rw [List.getElem?_append_right (by omega), hy, show (k + 1) * 2 + j - 2 = k * 2 + j by omega]
      exact ih k (by simpa using hx)
theorem infoWord : (Try.prog.info? 37).map (fun i => (i.zero, i.size, i.bytes)) = some (some (.agg #[.int .i64 0, .int .i64 0]), 2, 16) := by kernel_rfl
theorem two_news (w : World) (x : Wd) : ∀ j u, (wd2 x)[j]? = some u → (w.alloc (.cells #[.int .i64 x.1, .int .i64 x.2] 37)).cell? ((⟨w.heap.size, 0, none⟩ : Addr).add j) = some u := by
  intro j u hj
  rw [add_none]
  have : j < 2 := (List.getElem?_eq_some_iff.1 hj).1
  have h4 : j = 0 ∨ j = 1 := by omega
  rcases h4 with rfl | rfl <;> simp [wd2] at hj <;> subst hj <;> simp [go_sem]
theorem wd2_one (x : Wd) : ∀ u ∈ wd2 x, u.oneCell' = true := by
  intro u hu
  simp [wd2] at hu
  rcases hu with rfl | rfl <;> rfl

theorem run_append_types {P : Program} (w : World) (t u ty e e' : TypeId) (ht : P.underlying t = some (.slice e)) (hu : P.underlying u = some (.slice e')) (i : TypeInfo) (hi : P.info? e = some i) (b xa : Option Addr) (n c m xc : Nat) : (Builtin.append_ #[t, u] ty #[.slice b n c, .slice xa m xc]).run P w = (Builtin.append_ #[t, t] ty #[.slice b n c, .slice xa m xc]).run P w := by
  simp [Builtin.append_, run_underlying ht, run_underlying hu, sizeOf, typeInfo, hi, Builtin.lenOf]
theorem run_append_zero {P : Program} (w : World) (t u ty e e' : TypeId) (i : TypeInfo) (ht : P.underlying t = some (.slice e)) (hu : P.underlying u = some (.slice e')) (hi : P.info? e = some i) (b xa : Option Addr) (n cap xc : Nat) (hle : n ≤ cap) :
    (Builtin.append_ #[t, u] ty #[.slice b n cap, .slice xa 0 xc]).run P w = .ok (.slice b n cap) w := by
  have hld : ∀ a : Addr, (loadCells a 0).run P w = .ok #[] w := fun a => run_loadCells_list (P := P) w a [] (fun j v h => by simp at h)
  cases b <;> cases xa <;> simp [Builtin.append_, run_underlying ht, run_underlying hu, sizeOf, typeInfo, hi, Builtin.lenOf, Builtin.firstCells, hle, storeCells, hld]

/-- Words that a value leads to. -/
def WordsAt (w : World) (ps : List Wd) (xa : Option Addr) : Prop := ps = [] ∨ ∃ ad, xa = some ad ∧ ∀ j u, (wCells ps)[j]? = some u → w.cell? (ad.add j) = some u
theorem run_append_words {base : Nat} {v : Value} {n m xc : Nat} {xs : List Value} {ps : List Wd} {xa : Option Addr} {w : World} (ty : TypeId) (hown : w.ownsRow base 37 2 v n xs) (hs : WordsAt w ps xa) (hm : ps.length = m) (h63 : n + m ≤ 200000) (hbase : base ≤ w.heap.size) :
    ∃ v' w', (Builtin.append_ #[75, 42] ty #[v, .slice xa m xc]).run Try.prog w = .ok v' w' ∧ w'.ownsRow base 37 2 v' (n + m) (xs ++ wCells ps) ∧ w.grownBy w' v.ownBlock ∧ (v'.ownBlock = v.ownBlock ∨ v'.ownBlock = some w.heap.size) := by
  obtain ⟨it, hit, htz0, htz1, htz2⟩ := info_parts infoWord
  rcases hs with rfl | ⟨ad, rfl, hc⟩
  · obtain rfl : m = 0 := hm.symm
    obtain ⟨b, cap, hv, hle⟩ : ∃ b cap, v = .slice b n cap ∧ n ≤ cap := by
      rcases hown.2 with ⟨rfl, rfl⟩ | ⟨g, cap, cur, rfl, _, _, h, _⟩
      · exact ⟨none, 0, rfl, Nat.le_refl _⟩
      · exact ⟨_, cap, rfl, h⟩
    subst hv
    refine ⟨_, w, run_append_zero w _ _ ty _ _ it Try.underlying75 Try.underlying42 hit b xa n cap xc hle, by simpa [wCells] using hown, World.grownBy.refl _ _, Or.inl rfl⟩
  · obtain ⟨b, cap, hv⟩ : ∃ b cap, v = .slice b n cap := by
      rcases hown.2 with ⟨rfl, rfl⟩ | ⟨g, cap, cur, rfl, _⟩
      · exact ⟨none, 0, rfl⟩
      · exact ⟨_, cap, rfl⟩
    subst hv
    rw [run_append_types w _ _ ty _ _ Try.underlying75 Try.underlying42 it hit]
    obtain ⟨v', w', h1, h2, h3, _, h5⟩ := run_append_own_at (P := Try.prog) w base 75 ty 37 it _ 2 16 Try.underlying75 hit htz0 htz1 htz2 rfl (by decide) _ n xs hown ad m xc (wCells ps) (by rw [wCells_length, hm]) hc (wCells_one _) (by unfold maxLen; omega) (by omega) hbase
    exact ⟨v', w', h1, h2, h3, h5⟩

theorem wpList_append_words {w : World} {ops : Array Oper} {rest : List Oper} {o : Oper} {a : Act} {Q : Exit → Act → World → Prop} (hgd : o.guard = none) (s x : Operand) (ho : o.op = .call { callee := .builtin .append, args := #[s, x], argTypes := #[75, 42] })
    {base : Nat} {v : Value} {n m xc : Nat} {xs : List Value} {ps : List Wd} {xa : Option Addr} (hs : a.eval s = v) (hx : a.eval x = .slice xa m xc) (hown : w.ownsRow base 37 2 v n xs) (hw : WordsAt w ps xa) (hm : ps.length = m) (h63 : n + m ≤ 200000) (hbase : base ≤ w.heap.size)
    (hK : ∀ v' w', w'.ownsRow base 37 2 v' (n + m) (xs ++ wCells ps) → w.grownBy w' v.ownBlock → (v'.ownBlock = v.ownBlock ∨ v'.ownBlock = some w.heap.size) → wpList Try.prog ops Q rest (a.put o.dst v') w') : wpList Try.prog ops Q (o :: rest) a w :=
  wpList_plain hgd fun K hK' => by
    obtain ⟨v', w', hr, h2, h3, h5⟩ := run_append_words (xc := xc) o.type hown hw hm h63 hbase
    unfold Oper.wp execOp
    simp only [ho, resolve, invoke, builtin, Sem.run_bind, Sem.run_pure, Result.andThen_ok, List.map_toArray, List.map_cons, List.map_nil, hs, hx, hr]
    exact hK' _ _ (hK v' w' h2 h3 h5)

/-- What adding a tuple leaves. -/
def Added (base pb po : Nat) (tv : Value) (ws ps : List Wd) (w w' : World) (tv' : Value) : Prop :=
  w'.ownsRow base 37 2 tv' (ws.length + 1 + ps.length) (wCells (ws ++ (0, (ps.length : Int)) :: ps)) ∧ w'.heap[pb]? = (w.setCell ⟨pb, po, none⟩ tv').heap[pb]? ∧
  Keep (fun b => b = pb ∨ tv.ownBlock = some b) w w' ∧ ∀ b, tv'.ownBlock = some b → (tv.ownBlock = some b ∨ w.heap.size ≤ b)

theorem add_cells {pb po : Nat} {v : Value} {w w2 : World} {o o1 : Obj} {row : Option Nat} (hlt : pb < w.heap.size) (hne : row ≠ some pb) (hg : ((w.alloc o).alloc o1).grownBy w2 row) (hc : w.cell? ⟨pb, po, none⟩ = some v) (hf : w.frozen? ⟨pb, po, none⟩ = false) : w2.cell? ⟨pb, po, none⟩ = some v ∧ w2.frozen? ⟨pb, po, none⟩ = false ∧ pb < w2.heap.size := by
  have e : ((w.alloc o).alloc o1).heap.size = w.heap.size + 2 := by simp
  have h : w2.heap[pb]? = w.heap[pb]? := ((hg.block pb (by omega) (fun e => hne e.symm)).trans ((World.grownBy_alloc (w.alloc o) o1 none).block pb (by simp; omega) (by simp))).trans ((World.grownBy_alloc w o none).block pb hlt (by simp))
  have := hg.size
  exact ⟨(block_cell h po).trans hc, (World.frozen?_of_block (a := ⟨pb, po, none⟩) h).trans hf, by omega⟩

theorem add_mid {base pb : Nat} {tv : Value} {L g2 c2 : Nat} {ys : List Value} {ps : List Wd} {pa : Option Addr} {w w2 : World} {o o1 : Obj} (hpb : pb < w.heap.size) (hbw : base ≤ w.heap.size) (hne : tv.ownBlock ≠ some pb)
    (hown : w2.ownsRow base 37 2 (.slice (some ⟨g2, 0, none⟩) (L + 1) c2) (L + 1) ys) (hg : ((w.alloc o).alloc o1).grownBy w2 tv.ownBlock) (hat : tv.ownBlock = some g2 ∨ g2 = w.heap.size + 2) (po : Nat)
    (hs : ∀ w1, Keep (fun b => b = pb ∨ tv.ownBlock = some b) w w1 → WordsAt w1 ps pa) :
    (w2.setCell ⟨pb, po, none⟩ (.slice (some ⟨g2, 0, none⟩) (L + 1) c2)).ownsRow base 37 2 (.slice (some ⟨g2, 0, none⟩) (L + 1) c2) (L + 1) ys ∧ WordsAt (w2.setCell ⟨pb, po, none⟩ (.slice (some ⟨g2, 0, none⟩) (L + 1) c2)) ps pa ∧ base ≤ (w2.setCell ⟨pb, po, none⟩ (.slice (some ⟨g2, 0, none⟩) (L + 1) c2)).heap.size := by
  have hgp : g2 ≠ pb := by
    rintro rfl
    rcases hat with e | e
    · exact hne e
    · omega
  have e : ((w.alloc o).alloc o1).heap.size = w.heap.size + 2 := by simp
  have hgs := hg.size
  have k3 := keep_set w2 pb po (.slice (some ⟨g2, 0, none⟩) (L + 1) c2)
  have hk : Keep (fun b => b = pb ∨ tv.ownBlock = some b) w (w2.setCell ⟨pb, po, none⟩ (.slice (some ⟨g2, 0, none⟩) (L + 1) c2)) := by
    refine ⟨?_, ?_, ?_, ?_, ?_⟩
    · exact hg.os
    · exact hg.tape
    · exact hg.output
    · have := k3.size; omega
    · intro b hb hnb
      simp only [not_or] at hnb
      exact (k3.block b (by omega) hnb.1).trans (((hg.block b (by omega) (fun e => hnb.2 e.symm)).trans ((World.grownBy_alloc (w.alloc o) o1 none).block b (by simp; omega) (by simp))).trans ((World.grownBy_alloc w o none).block b hb (by simp)))
  refine ⟨World.ownsRow.kept hown (row := some pb) ⟨rfl, rfl, rfl, k3.size, fun b hb' hne => k3.block b hb' (fun e => hne (by rw [e]))⟩ (Or.inr ?_), hs _ hk, by have := k3.size; omega⟩
  simp only [Value.ownBlock]
  exact fun e => hgp (Option.some.inj e)

theorem add_last {base pb po : Nat} {tv : Value} {L g2 c2 : Nat} {xs : List Value} {w w2 w4 : World} {o1 : Obj} {v0 v1 u : Value} {n2 : Nat} (hpb : pb < w.heap.size) (hr : w.ownsRow base 37 2 tv L xs) (hne : tv.ownBlock ≠ some pb) (hg : ((w.alloc (.cells #[v0, v1] 37)).alloc o1).grownBy w2 tv.ownBlock) (hat : tv.ownBlock = some g2 ∨ g2 = w.heap.size + 2)
    (hg4 : (w2.setCell ⟨pb, po, none⟩ (.slice (some ⟨g2, 0, none⟩) n2 c2)).grownBy w4 (Value.slice (some ⟨g2, 0, none⟩) n2 c2).ownBlock) (hc : w2.cell? ⟨pb, po, none⟩ = some u) (hf : w2.frozen? ⟨pb, po, none⟩ = false) :
    (w4.cell? ⟨w.heap.size, 0, none⟩ = some v0 ∧ w4.cell? ⟨w.heap.size, 1, none⟩ = some v1) ∧ (w4.frozen? ⟨w.heap.size, 0, none⟩ = false ∧ w4.frozen? ⟨w.heap.size, 1, none⟩ = false) ∧ w4.cell? ⟨pb, po, none⟩ = some (.slice (some ⟨g2, 0, none⟩) n2 c2) ∧ w4.frozen? ⟨pb, po, none⟩ = false := by
  have hlt : ∀ b, tv.ownBlock = some b → b < w.heap.size := fun b e => (hr.lt b e).2
  have e : ((w.alloc (.cells #[v0, v1] 37)).alloc o1).heap.size = w.heap.size + 2 := by simp
  have hgs := hg.size
  have k3 := keep_set w2 pb po (.slice (some ⟨g2, 0, none⟩) n2 c2)
  have k3s := k3.size
  have hgw : g2 ≠ w.heap.size := by
    rintro rfl
    rcases hat with e | e
    · have := hlt _ e; omega
    · omega
  have hgp : g2 ≠ pb := by
    rintro rfl
    rcases hat with e | e
    · exact hne e
    · omega
  have h4 : ∀ b, b < w2.heap.size → b ≠ g2 → w4.heap[b]? = (w2.setCell ⟨pb, po, none⟩ (.slice (some ⟨g2, 0, none⟩) n2 c2)).heap[b]? := fun b hb hn => hg4.block b (by omega) (fun e => hn (Option.some.inj e))
  have hbox : w4.heap[w.heap.size]? = some (.cells #[v0, v1] 37) := by
    refine (h4 _ (by omega) (fun e => hgw e.symm)).trans ((k3.block _ (by omega) (by omega)).trans ((hg.block _ (by omega) (fun e => by have := hlt _ e.symm; omega)).trans (((World.grownBy_alloc (w.alloc (.cells #[v0, v1] 37)) o1 none).block _ (by simp) (by simp)).trans (heap_alloc_new w _))))
  have hp4 := h4 pb (by omega) (fun e => hgp e.symm)
  refine ⟨⟨by simp [World.cell?, hbox], by simp [World.cell?, hbox]⟩, ⟨by simp [World.frozen?, hbox], by simp [World.frozen?, hbox]⟩, ?_, ?_⟩
  · rw [block_cell hp4 po]
    simp [go_sem, hc]
  · rw [World.frozen?_of_block (a := ⟨pb, po, none⟩) hp4]
    simp [go_sem, hf]

theorem set_same (w : World) (q o : Nat) (u v : Value) : ((w.setCell ⟨q, o, none⟩ u).setCell ⟨q, o, none⟩ v).heap[q]? = (w.setCell ⟨q, o, none⟩ v).heap[q]? := by
  simp only [World.setCell, Array.getElem?_modify, if_true]
  cases w.heap[q]? with
  | none => rfl
  | some x => cases x <;> simp
theorem set_block {w w' : World} {q : Nat} (h : w'.heap[q]? = w.heap[q]?) (o : Nat) (v : Value) : (w'.setCell ⟨q, o, none⟩ v).heap[q]? = (w.setCell ⟨q, o, none⟩ v).heap[q]? := by
  simp only [World.setCell, Array.getElem?_modify, if_true, h]
theorem add_end {base pb po : Nat} {tv : Value} {g2 c2 g4 c4 : Nat} {ws ps : List Wd} {w w2 w4 : World} {o0 o1 : Obj} {u0 u1 : Value} (hpb : pb < w.heap.size) (hr : w.ownsRow base 37 2 tv ws.length (wCells ws)) (hne : tv.ownBlock ≠ some pb)
    (hg : ((w.alloc o0).alloc o1).grownBy w2 tv.ownBlock) (hat : tv.ownBlock = some g2 ∨ g2 = w.heap.size + 2)
    (hown : w4.ownsRow base 37 2 (.slice (some ⟨g4, 0, none⟩) (ws.length + 1 + ps.length) c4) (ws.length + 1 + ps.length) (wCells ws ++ wd2 (0, (ps.length : Int)) ++ wCells ps))
    (hg4 : (w2.setCell ⟨pb, po, none⟩ (.slice (some ⟨g2, 0, none⟩) (ws.length + 1) c2)).grownBy w4 (Value.slice (some ⟨g2, 0, none⟩) (ws.length + 1) c2).ownBlock)
    (hat4 : (Value.slice (some ⟨g4, 0, none⟩) (ws.length + 1 + ps.length) c4).ownBlock = (Value.slice (some ⟨g2, 0, none⟩) (ws.length + 1) c2).ownBlock ∨ (Value.slice (some ⟨g4, 0, none⟩) (ws.length + 1 + ps.length) c4).ownBlock = some (w2.setCell ⟨pb, po, none⟩ (.slice (some ⟨g2, 0, none⟩) (ws.length + 1) c2)).heap.size) :
    Added base pb po tv ws ps w (((w4.setCell ⟨pb, po, none⟩ (.slice (some ⟨g4, 0, none⟩) (ws.length + 1 + ps.length) c4)).setCell ⟨w.heap.size, 0, none⟩ u0).setCell ⟨w.heap.size, 1, none⟩ u1) (.slice (some ⟨g4, 0, none⟩) (ws.length + 1 + ps.length) c4) := by
  have hlt : ∀ b, tv.ownBlock = some b → b < w.heap.size := fun b e => (hr.lt b e).2
  have e : ((w.alloc o0).alloc o1).heap.size = w.heap.size + 2 := by simp
  have hgs := hg.size
  have k3 := keep_set w2 pb po (.slice (some ⟨g2, 0, none⟩) (ws.length + 1) c2)
  have k3s := k3.size
  have hg4s := hg4.size
  have hgw : g2 ≠ w.heap.size := by
    rintro rfl
    rcases hat with e | e
    · have := hlt _ e; omega
    · omega
  have hgp : g2 ≠ pb := by
    rintro rfl
    rcases hat with e | e
    · exact hne e
    · omega
  have h44 : g4 = g2 ∨ w.heap.size + 2 ≤ g4 := by
    rcases hat4 with e4 | e4
    · exact Or.inl (by simpa [Value.ownBlock] using e4)
    · have e5 : g4 = (w2.setCell ⟨pb, po, none⟩ (.slice (some ⟨g2, 0, none⟩) (ws.length + 1) c2)).heap.size := by
        simp only [Value.ownBlock] at e4
        exact Option.some.inj e4
      exact Or.inr (by omega)
  have h4w : g4 ≠ w.heap.size := by omega
  have h4p : g4 ≠ pb := by omega
  have h2 : ∀ b, b < w.heap.size → tv.ownBlock ≠ some b → w2.heap[b]? = w.heap[b]? := fun b hb hn => ((hg.block b (by omega) (fun e => hn e.symm)).trans ((World.grownBy_alloc (w.alloc o0) o1 none).block b (by simp; omega) (by simp))).trans ((World.grownBy_alloc w o0 none).block b hb (by simp))
  have h4 : ∀ b, b < w2.heap.size → b ≠ g2 → w4.heap[b]? = (w2.setCell ⟨pb, po, none⟩ (.slice (some ⟨g2, 0, none⟩) (ws.length + 1) c2)).heap[b]? := fun b hb hn => hg4.block b (by omega) (fun e => hn (Option.some.inj e))
  have k5 := keep_set w4 pb po (.slice (some ⟨g4, 0, none⟩) (ws.length + 1 + ps.length) c4)
  have k6 := keep_set (w4.setCell ⟨pb, po, none⟩ (.slice (some ⟨g4, 0, none⟩) (ws.length + 1 + ps.length) c4)) w.heap.size 0 u0
  have k7 := keep_set ((w4.setCell ⟨pb, po, none⟩ (.slice (some ⟨g4, 0, none⟩) (ws.length + 1 + ps.length) c4)).setCell ⟨w.heap.size, 0, none⟩ u0) w.heap.size 1 u1
  have s5 := k5.size
  have s6 := k6.size
  have s7 := k7.size
  have h7 : ∀ b, b < w4.heap.size → b ≠ w.heap.size → (((w4.setCell ⟨pb, po, none⟩ (.slice (some ⟨g4, 0, none⟩) (ws.length + 1 + ps.length) c4)).setCell ⟨w.heap.size, 0, none⟩ u0).setCell ⟨w.heap.size, 1, none⟩ u1).heap[b]? = (w4.setCell ⟨pb, po, none⟩ (.slice (some ⟨g4, 0, none⟩) (ws.length + 1 + ps.length) c4)).heap[b]? := fun b hb hn => (k7.block b (by omega) hn).trans (k6.block b (by omega) hn)
  refine ⟨?_, ?_, ⟨?_, ?_, ?_, ?_, ?_⟩, ?_⟩
  · have ec : wCells (ws ++ (0, (ps.length : Int)) :: ps) = wCells ws ++ wd2 (0, (ps.length : Int)) ++ wCells ps := by simp [wCells]
    rw [ec]
    obtain ⟨x1, x2⟩ := hown
    refine ⟨x1, ?_⟩
    rcases x2 with ⟨x2, _⟩ | ⟨g', cap, cur, hv, hb, hh, hr'⟩
    · simp at x2
    · injection hv with e1 e2 e3
      injection e1 with e1
      injection e1 with e1 _
      subst e1 e3
      have hlt4 := (Array.getElem?_eq_some_iff.1 hh).1
      exact Or.inr ⟨g4, c4, cur, rfl, hb, (h7 g4 hlt4 h4w).trans ((k5.block g4 hlt4 h4p).trans hh), hr'⟩
  · refine (h7 pb (by omega) (by omega)).trans ((set_block (h4 pb (by omega) (fun e => hgp e.symm)) po _).trans ((set_same w2 pb po _ _).trans (set_block (h2 pb hpb hne) po _)))
  · exact hg4.os.trans hg.os
  · exact hg4.tape.trans hg.tape
  · exact hg4.output.trans hg.output
  · omega
  · intro b hb hn
    simp only [not_or] at hn
    have hb2 : b ≠ g2 := by
      rintro rfl
      rcases hat with e | e
      · exact hn.2 e
      · omega
    exact (h7 b (by omega) (by omega)).trans ((k5.block b (by omega) hn.1).trans ((h4 b (by omega) hb2).trans ((k3.block b (by omega) hn.1).trans (h2 b hb hn.2))))
  · intro b eb
    simp only [Value.ownBlock] at eb
    obtain rfl := Option.some.inj eb
    rcases h44 with e | e
    · rw [e]
      rcases hat with e' | e'
      · exact Or.inl e'
      · exact Or.inr (by omega)
    · exact Or.inr (by omega)

set_option maxHeartbeats 1000000 in
set_option maxRecDepth 100000 in
theorem add_walk (base pb po : Nat) (tv : Value) (ta : Option Addr) (tc L : Nat) (ws ps : List Wd) (m pc : Nat) (pa : Option Addr) (w : World) (htv : tv = .slice ta L tc) (HL : Hid (ws.length = L)) (HM : Hid (ps.length = m)) (hL : L ≤ 100000) (hM : m ≤ 1000) (hbw : base ≤ w.heap.size)
    (c0 : w.cell? ⟨pb, po, none⟩ = some tv) (f0 : w.frozen? ⟨pb, po, none⟩ = false) (hpb : pb < w.heap.size) (hne : Hid (tv.ownBlock ≠ some pb)) (HR : Hid (w.ownsRow base 37 2 tv L (wCells ws)))
    (HS : Hid (∀ w1, Keep (fun b => b = pb ∨ tv.ownBlock = some b) w w1 → WordsAt w1 ps pa)) :
    Calls Try.prog 48 #[.pointer (some ⟨pb, po, none⟩), .slice pa m pc] w fun e w' => e = .returned (.agg #[.int .i64 4, .int .i64 L]) ∧ ∃ tv', Hid (Added base pb po tv ws ps w w' tv') := by
  subst htv
  obtain ⟨it, hit, htz0, htz1, htz2⟩ := info_parts infoWord
  have HT := hide (⟨hit, htz0, htz1, htz2⟩ : _ ∧ _ ∧ _ ∧ _)
  clear hit htz0 htz1 htz2
  go_enter Try.func48, Try.ntmps48
  go_wp2_with (first
    | (at_builtin; refine wpList_append_lies _ rfl _ _ 75 rfl base 37 it _ 2 16 Try.underlying75 HT.out.1 HT.out.2.1 HT.out.2.2.1 HT.out.2.2.2 rfl (by decide) _ L _ rfl ((HR.out.alloc _).alloc _) ⟨w.heap.size + 1, 0, none⟩ 1 1 (wd2 (0, (m : Int))) rfl rfl (by have := two_news (w.alloc (.cells #[.int .i64 0, .int .i64 0] 37)) (0, (m : Int)); simpa using this) (wd2_one _) (by decide) (by unfold maxLen; omega) (by omega) (by simp; omega) (w.heap.size + 2) (by simp) ?_; intro g2 c2 w2 hown2 hgrow2 hat2 hlt2; have H2 := hide (⟨hown2, hgrow2, hat2, hlt2⟩ : _ ∧ _ ∧ _ ∧ _); obtain ⟨e2, f2, hlt2'⟩ := add_cells hpb hne.out hgrow2 c0 f0; have H3 := hide (add_mid hpb hbw hne.out hown2 hgrow2 hat2 po HS.out); clear hown2 hgrow2 hat2 hlt2)
    | (at_builtin; refine wpList_append_words rfl _ _ rfl (base := base) (n := L + 1) rfl rfl H3.out.1 H3.out.2.1 HM.out (by omega) H3.out.2.2 ?_; intro tv4 w4 hown4 hgrow4 hat4; obtain ⟨g4, c4, rfl, _, _⟩ := hown4.form (by omega); have H4 := hide (⟨hown4, hgrow4, hat4⟩ : _ ∧ _ ∧ _); obtain ⟨⟨k0, k1⟩, kf, e4, f4⟩ := add_last hpb HR.out hne.out H2.out.2.1 H2.out.2.2.1 hgrow4 e2 f2; clear hown4 hgrow4 hat4))
  have hl := HL.out
  have hm := HM.out
  subst hl hm
  exact bodyPost_ret (v := .agg #[.int .i64 4, .int .i64 ws.length]) (by simp [results, Try.results48, go_sem, k0, k1]) rfl ⟨rfl, _, add_end hpb HR.out hne.out H2.out.2.1 H2.out.2.2.1 H4.out.1 H4.out.2.1 H4.out.2.2⟩
end Go.Proofs.Ytfaoeccnhbcjgab
