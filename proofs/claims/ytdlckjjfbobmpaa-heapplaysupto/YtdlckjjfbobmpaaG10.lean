/- What is proved here: plain facts and contracts that the claimed theorem stands on, several texts in one: heap.tuples' add: the words of a tuple, behind those that are there. Condition: at most 100000 words. the small functions of a heap: New, Used, hasFree, begins, has, name: what they return; they turn no memory that was there. No other condition than the sizes. the small functions of a heap that only read: has, name, parts, hasFree: what they return. No other condition than the sizes. plain facts on a heap as a whole (HpAt): which blocks are its own, that it stays while others turn; what laying a term makes of words and names (layF); and what number and add leave of the whole. No condition but sizes. -/
import Derived.Test.YtdlckjjfbobmpaaG09
import Derived.Maps.AppendAt
import Derived.Deep.QuietTactic
import Derived.BigQuiet
namespace Go.Proofs.Ytdlckjjfbobmpaa
open Go.RowKit

/-- A word: its kind, its number. -/
abbrev Wd := Int × Int
def wd2 (x : Wd) : List Value := [.int .i64 x.1, .int .i64 x.2]
def wCells (l : List Wd) : List Value := l.flatMap wd2
theorem wCells_length (l : List Wd) : (wCells l).length = l.length * 2 := by
  induction l with
  | nil => rfl
  | cons a l ih =>
    have : wCells (a :: l) = wd2 a ++ wCells l := rfl
    rw [this, List.length_append, ih, List.length_cons]
    have : (wd2 a).length = 2 := rfl
    omega
theorem wCells_append (l r : List Wd) : wCells (l ++ r) = wCells l ++ wCells r := by simp [wCells]
theorem wCells_one (l : List Wd) : ∀ u ∈ wCells l, u.oneCell' = true := by
  intro u hu
  simp only [wCells, List.mem_flatMap] at hu
  obtain ⟨a, _, hu⟩ := hu
  simp [wd2] at hu
  rcases hu with rfl | rfl <;> rfl
theorem wCells_at (l : List Wd) (k : Nat) (x : Wd) (hx : l[k]? = some x) (j : Nat) (hj : j < 2) : (wCells l)[k * 2 + j]? = (wd2 x)[j]? := by
  induction l generalizing k with
  | nil => simp at hx
  | cons y l ih =>
    have e : wCells (y :: l) = wd2 y ++ wCells l := rfl
    have hy : (wd2 y).length = 2 := rfl
    rw [e]
    cases k with
    | zero =>
      simp at hx
      subst hx
      rw [List.getElem?_append_left (by omega)]
      simp
    | succ k =>
      rw [List.getElem?_append_right (by omega), hy, show (k + 1) * 2 + j - 2 = k * 2 + j by omega]
      exact ih k (by simpa using hx)
theorem infoWord : (Try.prog.info? 38).map (fun i => (i.zero, i.size, i.bytes)) = some (some (.agg #[.int .i64 0, .int .i64 0]), 2, 16) := by kernel_rfl
theorem two_news (w : World) (x : Wd) : ∀ j u, (wd2 x)[j]? = some u → (w.alloc (.cells #[.int .i64 x.1, .int .i64 x.2] 38)).cell? ((⟨w.heap.size, 0, none⟩ : Addr).add j) = some u := by
  intro j u hj
  rw [add_none]
  have : j < 2 := (List.getElem?_eq_some_iff.1 hj).1
  have h4 : j = 0 ∨ j = 1 := by omega
  rcases h4 with rfl | rfl <;> simp [wd2] at hj <;> subst hj <;> simp [go_sem]
theorem wd2_one (x : Wd) : ∀ u ∈ wd2 x, u.oneCell' = true := by
  intro u hu
  simp [wd2] at hu
  rcases hu with rfl | rfl <;> rfl

theorem run_append_types {P : Program} (w : World) (t u ty e e' : TypeId) (ht : P.underlying t = some (.slice e)) (hu : P.underlying u = some (.slice e')) (i : TypeInfo) (hi : P.info? e = some i) (b xa : Option Addr) (n c m xc : Nat) : (Builtin.append_ #[t, u] ty #[.slice b n c, .slice xa m xc]).run P w = (Builtin.append_ #[t, t] ty #[.slice b n c, .slice xa m xc]).run P w := by
  simp [Builtin.append_, run_underlying ht, run_underlying hu, sizeOf, typeInfo, hi, Builtin.lenOf]
theorem run_append_zero {P : Program} (w : World) (t u ty e e' : TypeId) (i : TypeInfo) (ht : P.underlying t = some (.slice e)) (hu : P.underlying u = some (.slice e')) (hi : P.info? e = some i) (b xa : Option Addr) (n cap xc : Nat) (hle : n ≤ cap) :
    (Builtin.append_ #[t, u] ty #[.slice b n cap, .slice xa 0 xc]).run P w = .ok (.slice b n cap) w := by
  have hld : ∀ a : Addr, (loadCells a 0).run P w = .ok #[] w := fun a => run_loadCells_list (P := P) w a [] (fun j v h => by simp at h)
  cases b <;> cases xa <;> simp [Builtin.append_, run_underlying ht, run_underlying hu, sizeOf, typeInfo, hi, Builtin.lenOf, Builtin.firstCells, hle, storeCells, hld]

/-- Words that a value leads to. -/
def WordsAt (w : World) (ps : List Wd) (xa : Option Addr) : Prop := ps = [] ∨ ∃ ad, xa = some ad ∧ ∀ j u, (wCells ps)[j]? = some u → w.cell? (ad.add j) = some u
theorem run_append_words {base : Nat} {v : Value} {n m xc : Nat} {xs : List Value} {ps : List Wd} {xa : Option Addr} {w : World} (ty : TypeId) (hown : w.ownsRow base 38 2 v n xs) (hs : WordsAt w ps xa) (hm : ps.length = m) (h63 : n + m ≤ 200000) (hbase : base ≤ w.heap.size) :
    ∃ v' w', (Builtin.append_ #[59, 28] ty #[v, .slice xa m xc]).run Try.prog w = .ok v' w' ∧ w'.ownsRow base 38 2 v' (n + m) (xs ++ wCells ps) ∧ w.grownBy w' v.ownBlock ∧ (v'.ownBlock = v.ownBlock ∨ v'.ownBlock = some w.heap.size) := by
  obtain ⟨it, hit, htz0, htz1, htz2⟩ := info_parts infoWord
  rcases hs with rfl | ⟨ad, rfl, hc⟩
  · obtain rfl : m = 0 := hm.symm
    obtain ⟨b, cap, hv, hle⟩ : ∃ b cap, v = .slice b n cap ∧ n ≤ cap := by
      rcases hown.2 with ⟨rfl, rfl⟩ | ⟨g, cap, cur, rfl, _, _, h, _⟩
      · exact ⟨none, 0, rfl, Nat.le_refl _⟩
      · exact ⟨_, cap, rfl, h⟩
    subst hv
    refine ⟨_, w, run_append_zero w _ _ ty _ _ it Try.underlying59 Try.underlying28 hit b xa n cap xc hle, by simpa [wCells] using hown, World.grownBy.refl _ _, Or.inl rfl⟩
  · obtain ⟨b, cap, hv⟩ : ∃ b cap, v = .slice b n cap := by
      rcases hown.2 with ⟨rfl, rfl⟩ | ⟨g, cap, cur, rfl, _⟩
      · exact ⟨none, 0, rfl⟩
      · exact ⟨_, cap, rfl⟩
    subst hv
    rw [run_append_types w _ _ ty _ _ Try.underlying59 Try.underlying28 it hit]
    obtain ⟨v', w', h1, h2, h3, _, h5⟩ := run_append_own_at (P := Try.prog) w base 59 ty 38 it _ 2 16 Try.underlying59 hit htz0 htz1 htz2 rfl (by decide) _ n xs hown ad m xc (wCells ps) (by rw [wCells_length, hm]) hc (wCells_one _) (by unfold maxLen; omega) (by omega) hbase
    exact ⟨v', w', h1, h2, h3, h5⟩

theorem wpList_append_words {w : World} {ops : Array Oper} {rest : List Oper} {o : Oper} {a : Act} {Q : Exit → Act → World → Prop} (hgd : o.guard = none) (s x : Operand) (ho : o.op = .call { callee := .builtin .append, args := #[s, x], argTypes := #[59, 28] })
    {base : Nat} {v : Value} {n m xc : Nat} {xs : List Value} {ps : List Wd} {xa : Option Addr} (hs : a.eval s = v) (hx : a.eval x = .slice xa m xc) (hown : w.ownsRow base 38 2 v n xs) (hw : WordsAt w ps xa) (hm : ps.length = m) (h63 : n + m ≤ 200000) (hbase : base ≤ w.heap.size)
    (hK : ∀ v' w', w'.ownsRow base 38 2 v' (n + m) (xs ++ wCells ps) → w.grownBy w' v.ownBlock → (v'.ownBlock = v.ownBlock ∨ v'.ownBlock = some w.heap.size) → wpList Try.prog ops Q rest (a.put o.dst v') w') : wpList Try.prog ops Q (o :: rest) a w :=
  wpList_plain hgd fun K hK' => by
    obtain ⟨v', w', hr, h2, h3, h5⟩ := run_append_words (xc := xc) o.type hown hw hm h63 hbase
    unfold Oper.wp execOp
    simp only [ho, resolve, invoke, builtin, Sem.run_bind, Sem.run_pure, Result.andThen_ok, List.map_toArray, List.map_cons, List.map_nil, hs, hx, hr]
    exact hK' _ _ (hK v' w' h2 h3 h5)

/-- What adding a tuple leaves. -/
def Added (base pb po : Nat) (tv : Value) (ws ps : List Wd) (w w' : World) (tv' : Value) : Prop :=
  w'.ownsRow base 38 2 tv' (ws.length + 1 + ps.length) (wCells (ws ++ (0, (ps.length : Int)) :: ps)) ∧ w'.heap[pb]? = (w.setCell ⟨pb, po, none⟩ tv').heap[pb]? ∧
  Keep (fun b => b = pb ∨ tv.ownBlock = some b) w w' ∧ ∀ b, tv'.ownBlock = some b → (tv.ownBlock = some b ∨ w.heap.size ≤ b)

theorem add_cells {pb po : Nat} {v : Value} {w w2 : World} {o o1 : Obj} {row : Option Nat} (hlt : pb < w.heap.size) (hne : row ≠ some pb) (hg : ((w.alloc o).alloc o1).grownBy w2 row) (hc : w.cell? ⟨pb, po, none⟩ = some v) (hf : w.frozen? ⟨pb, po, none⟩ = false) : w2.cell? ⟨pb, po, none⟩ = some v ∧ w2.frozen? ⟨pb, po, none⟩ = false ∧ pb < w2.heap.size := by
  have e : ((w.alloc o).alloc o1).heap.size = w.heap.size + 2 := by simp
  have h : w2.heap[pb]? = w.heap[pb]? := ((hg.block pb (by omega) (fun e => hne e.symm)).trans ((World.grownBy_alloc (w.alloc o) o1 none).block pb (by simp; omega) (by simp))).trans ((World.grownBy_alloc w o none).block pb hlt (by simp))
  have := hg.size
  exact ⟨(block_cell h po).trans hc, (World.frozen?_of_block (a := ⟨pb, po, none⟩) h).trans hf, by omega⟩

theorem add_mid {base pb : Nat} {tv : Value} {L g2 c2 : Nat} {ys : List Value} {ps : List Wd} {pa : Option Addr} {w w2 : World} {o o1 : Obj} (hpb : pb < w.heap.size) (hbw : base ≤ w.heap.size) (hne : tv.ownBlock ≠ some pb)
    (hown : w2.ownsRow base 38 2 (.slice (some ⟨g2, 0, none⟩) (L + 1) c2) (L + 1) ys) (hg : ((w.alloc o).alloc o1).grownBy w2 tv.ownBlock) (hat : tv.ownBlock = some g2 ∨ g2 = w.heap.size + 2) (po : Nat)
    (hs : ∀ w1, Keep (fun b => b = pb ∨ tv.ownBlock = some b) w w1 → WordsAt w1 ps pa) :
    (w2.setCell ⟨pb, po, none⟩ (.slice (some ⟨g2, 0, none⟩) (L + 1) c2)).ownsRow base 38 2 (.slice (some ⟨g2, 0, none⟩) (L + 1) c2) (L + 1) ys ∧ WordsAt (w2.setCell ⟨pb, po, none⟩ (.slice (some ⟨g2, 0, none⟩) (L + 1) c2)) ps pa ∧ base ≤ (w2.setCell ⟨pb, po, none⟩ (.slice (some ⟨g2, 0, none⟩) (L + 1) c2)).heap.size := by
  have hgp : g2 ≠ pb := by
    rintro rfl
    rcases hat with e | e
    · exact hne e
    · omega
  have e : ((w.alloc o).alloc o1).heap.size = w.heap.size + 2 := by simp
  have hgs := hg.size
  have k3 := keep_set w2 pb po (.slice (some ⟨g2, 0, none⟩) (L + 1) c2)
  have hk : Keep (fun b => b = pb ∨ tv.ownBlock = some b) w (w2.setCell ⟨pb, po, none⟩ (.slice (some ⟨g2, 0, none⟩) (L + 1) c2)) := by
    refine ⟨?_, ?_, ?_, ?_, ?_⟩
    · exact hg.os
    · exact hg.tape
    · exact hg.output
    · have := k3.size; omega
    · intro b hb hnb
      simp only [not_or] at hnb
      exact (k3.block b (by omega) hnb.1).trans (((hg.block b (by omega) (fun e => hnb.2 e.symm)).trans ((World.grownBy_alloc (w.alloc o) o1 none).block b (by simp; omega) (by simp))).trans ((World.grownBy_alloc w o none).block b hb (by simp)))
  refine ⟨World.ownsRow.kept hown (row := some pb) ⟨rfl, rfl, rfl, k3.size, fun b hb' hne => k3.block b hb' (fun e => hne (by rw [e]))⟩ (Or.inr ?_), hs _ hk, by have := k3.size; omega⟩
  simp only [Value.ownBlock]
  exact fun e => hgp (Option.some.inj e)

theorem add_last {base pb po : Nat} {tv : Value} {L g2 c2 : Nat} {xs : List Value} {w w2 w4 : World} {o1 : Obj} {v0 v1 u : Value} {n2 : Nat} (hpb : pb < w.heap.size) (hr : w.ownsRow base 38 2 tv L xs) (hne : tv.ownBlock ≠ some pb) (hg : ((w.alloc (.cells #[v0, v1] 38)).alloc o1).grownBy w2 tv.ownBlock) (hat : tv.ownBlock = some g2 ∨ g2 = w.heap.size + 2)
    (hg4 : (w2.setCell ⟨pb, po, none⟩ (.slice (some ⟨g2, 0, none⟩) n2 c2)).grownBy w4 (Value.slice (some ⟨g2, 0, none⟩) n2 c2).ownBlock) (hc : w2.cell? ⟨pb, po, none⟩ = some u) (hf : w2.frozen? ⟨pb, po, none⟩ = false) :
    (w4.cell? ⟨w.heap.size, 0, none⟩ = some v0 ∧ w4.cell? ⟨w.heap.size, 1, none⟩ = some v1) ∧ (w4.frozen? ⟨w.heap.size, 0, none⟩ = false ∧ w4.frozen? ⟨w.heap.size, 1, none⟩ = false) ∧ w4.cell? ⟨pb, po, none⟩ = some (.slice (some ⟨g2, 0, none⟩) n2 c2) ∧ w4.frozen? ⟨pb, po, none⟩ = false := by
  have hlt : ∀ b, tv.ownBlock = some b → b < w.heap.size := fun b e => (hr.lt b e).2
  have e : ((w.alloc (.cells #[v0, v1] 38)).alloc o1).heap.size = w.heap.size + 2 := by simp
  have hgs := hg.size
  have k3 := keep_set w2 pb po (.slice (some ⟨g2, 0, none⟩) n2 c2)
  have k3s := k3.size
  have hgw : g2 ≠ w.heap.size := by
    rintro rfl
    rcases hat with e | e
    · have := hlt _ e; omega
    · omega
  have hgp : g2 ≠ pb := by
    rintro rfl
    rcases hat with e | e
    · exact hne e
    · omega
  have h4 : ∀ b, b < w2.heap.size → b ≠ g2 → w4.heap[b]? = (w2.setCell ⟨pb, po, none⟩ (.slice (some ⟨g2, 0, none⟩) n2 c2)).heap[b]? := fun b hb hn => hg4.block b (by omega) (fun e => hn (Option.some.inj e))
  have hbox : w4.heap[w.heap.size]? = some (.cells #[v0, v1] 38) := by
    refine (h4 _ (by omega) (fun e => hgw e.symm)).trans ((k3.block _ (by omega) (by omega)).trans ((hg.block _ (by omega) (fun e => by have := hlt _ e.symm; omega)).trans (((World.grownBy_alloc (w.alloc (.cells #[v0, v1] 38)) o1 none).block _ (by simp) (by simp)).trans (heap_alloc_new w _))))
  have hp4 := h4 pb (by omega) (fun e => hgp e.symm)
  refine ⟨⟨by simp [World.cell?, hbox], by simp [World.cell?, hbox]⟩, ⟨by simp [World.frozen?, hbox], by simp [World.frozen?, hbox]⟩, ?_, ?_⟩
  · rw [block_cell hp4 po]
    simp [go_sem, hc]
  · rw [World.frozen?_of_block (a := ⟨pb, po, none⟩) hp4]
    simp [go_sem, hf]

theorem set_same (w : World) (q o : Nat) (u v : Value) : ((w.setCell ⟨q, o, none⟩ u).setCell ⟨q, o, none⟩ v).heap[q]? = (w.setCell ⟨q, o, none⟩ v).heap[q]? := by
  simp only [World.setCell, Array.getElem?_modify, if_true]
  cases w.heap[q]? with
  | none => rfl
  | some x => cases x <;> simp
theorem set_block {w w' : World} {q : Nat} (h : w'.heap[q]? = w.heap[q]?) (o : Nat) (v : Value) : (w'.setCell ⟨q, o, none⟩ v).heap[q]? = (w.setCell ⟨q, o, none⟩ v).heap[q]? := by
  simp only [World.setCell, Array.getElem?_modify, if_true, h]
theorem add_end {base pb po : Nat} {tv : Value} {g2 c2 g4 c4 : Nat} {ws ps : List Wd} {w w2 w4 : World} {o0 o1 : Obj} {u0 u1 : Value} (hpb : pb < w.heap.size) (hr : w.ownsRow base 38 2 tv ws.length (wCells ws)) (hne : tv.ownBlock ≠ some pb)
    (hg : ((w.alloc o0).alloc o1).grownBy w2 tv.ownBlock) (hat : tv.ownBlock = some g2 ∨ g2 = w.heap.size + 2)
    (hown : w4.ownsRow base 38 2 (.slice (some ⟨g4, 0, none⟩) (ws.length + 1 + ps.length) c4) (ws.length + 1 + ps.length) (wCells ws ++ wd2 (0, (ps.length : Int)) ++ wCells ps))
    (hg4 : (w2.setCell ⟨pb, po, none⟩ (.slice (some ⟨g2, 0, none⟩) (ws.length + 1) c2)).grownBy w4 (Value.slice (some ⟨g2, 0, none⟩) (ws.length + 1) c2).ownBlock)
    (hat4 : (Value.slice (some ⟨g4, 0, none⟩) (ws.length + 1 + ps.length) c4).ownBlock = (Value.slice (some ⟨g2, 0, none⟩) (ws.length + 1) c2).ownBlock ∨ (Value.slice (some ⟨g4, 0, none⟩) (ws.length + 1 + ps.length) c4).ownBlock = some (w2.setCell ⟨pb, po, none⟩ (.slice (some ⟨g2, 0, none⟩) (ws.length + 1) c2)).heap.size) :
    Added base pb po tv ws ps w (((w4.setCell ⟨pb, po, none⟩ (.slice (some ⟨g4, 0, none⟩) (ws.length + 1 + ps.length) c4)).setCell ⟨w.heap.size, 0, none⟩ u0).setCell ⟨w.heap.size, 1, none⟩ u1) (.slice (some ⟨g4, 0, none⟩) (ws.length + 1 + ps.length) c4) := by
  have hlt : ∀ b, tv.ownBlock = some b → b < w.heap.size := fun b e => (hr.lt b e).2
  have e : ((w.alloc o0).alloc o1).heap.size = w.heap.size + 2 := by simp
  have hgs := hg.size
  have k3 := keep_set w2 pb po (.slice (some ⟨g2, 0, none⟩) (ws.length + 1) c2)
  have k3s := k3.size
  have hg4s := hg4.size
  have hgw : g2 ≠ w.heap.size := by
    rintro rfl
    rcases hat with e | e
    · have := hlt _ e; omega
    · omega
  have hgp : g2 ≠ pb := by
    rintro rfl
    rcases hat with e | e
    · exact hne e
    · omega
  have h44 : g4 = g2 ∨ w.heap.size + 2 ≤ g4 := by
    rcases hat4 with e4 | e4
    · exact Or.inl (by simpa [Value.ownBlock] using e4)
    · have e5 : g4 = (w2.setCell ⟨pb, po, none⟩ (.slice (some ⟨g2, 0, none⟩) (ws.length + 1) c2)).heap.size := by
        simp only [Value.ownBlock] at e4
        exact Option.some.inj e4
      exact Or.inr (by omega)
  have h4w : g4 ≠ w.heap.size := by omega
  have h4p : g4 ≠ pb := by omega
  have h2 : ∀ b, b < w.heap.size → tv.ownBlock ≠ some b → w2.heap[b]? = w.heap[b]? := fun b hb hn => ((hg.block b (by omega) (fun e => hn e.symm)).trans ((World.grownBy_alloc (w.alloc o0) o1 none).block b (by simp; omega) (by simp))).trans ((World.grownBy_alloc w o0 none).block b hb (by simp))
  have h4 : ∀ b, b < w2.heap.size → b ≠ g2 → w4.heap[b]? = (w2.setCell ⟨pb, po, none⟩ (.slice (some ⟨g2, 0, none⟩) (ws.length + 1) c2)).heap[b]? := fun b hb hn => hg4.block b (by omega) (fun e => hn (Option.some.inj e))
  have k5 := keep_set w4 pb po (.slice (some ⟨g4, 0, none⟩) (ws.length + 1 + ps.length) c4)
  have k6 := keep_set (w4.setCell ⟨pb, po, none⟩ (.slice (some ⟨g4, 0, none⟩) (ws.length + 1 + ps.length) c4)) w.heap.size 0 u0
  have k7 := keep_set ((w4.setCell ⟨pb, po, none⟩ (.slice (some ⟨g4, 0, none⟩) (ws.length + 1 + ps.length) c4)).setCell ⟨w.heap.size, 0, none⟩ u0) w.heap.size 1 u1
  have s5 := k5.size
  have s6 := k6.size
  have s7 := k7.size
  have h7 : ∀ b, b < w4.heap.size → b ≠ w.heap.size → (((w4.setCell ⟨pb, po, none⟩ (.slice (some ⟨g4, 0, none⟩) (ws.length + 1 + ps.length) c4)).setCell ⟨w.heap.size, 0, none⟩ u0).setCell ⟨w.heap.size, 1, none⟩ u1).heap[b]? = (w4.setCell ⟨pb, po, none⟩ (.slice (some ⟨g4, 0, none⟩) (ws.length + 1 + ps.length) c4)).heap[b]? := fun b hb hn => (k7.block b (by omega) hn).trans (k6.block b (by omega) hn)
  refine ⟨?_, ?_, ⟨?_, ?_, ?_, ?_, ?_⟩, ?_⟩
  · have ec : wCells (ws ++ (0, (ps.length : Int)) :: ps) = wCells ws ++ wd2 (0, (ps.length : Int)) ++ wCells ps := by simp [wCells]
    rw [ec]
    obtain ⟨x1, x2⟩ := hown
    refine ⟨x1, ?_⟩
    rcases x2 with ⟨x2, _⟩ | ⟨g', cap, cur, hv, hb, hh, hr'⟩
    · simp at x2
    · injection hv with e1 e2 e3
      injection e1 with e1
      injection e1 with e1 _
      subst e1 e3
      have hlt4 := (Array.getElem?_eq_some_iff.1 hh).1
      exact Or.inr ⟨g4, c4, cur, rfl, hb, (h7 g4 hlt4 h4w).trans ((k5.block g4 hlt4 h4p).trans hh), hr'⟩
  · refine (h7 pb (by omega) (by omega)).trans ((set_block (h4 pb (by omega) (fun e => hgp e.symm)) po _).trans ((set_same w2 pb po _ _).trans (set_block (h2 pb hpb hne) po _)))
  · exact hg4.os.trans hg.os
  · exact hg4.tape.trans hg.tape
  · exact hg4.output.trans hg.output
  · omega
  · intro b hb hn
    simp only [not_or] at hn
    have hb2 : b ≠ g2 := by
      rintro rfl
      rcases hat with e | e
      · exact hn.2 e
      · omega
    exact (h7 b (by omega) (by omega)).trans ((k5.block b (by omega) hn.1).trans ((h4 b (by omega) hb2).trans ((k3.block b (by omega) hn.1).trans (h2 b hb hn.2))))
  · intro b eb
    simp only [Value.ownBlock] at eb
    obtain rfl := Option.some.inj eb
    rcases h44 with e | e
    · rw [e]
      rcases hat with e' | e'
      · exact Or.inl e'
      · exact Or.inr (by omega)
    · exact Or.inr (by omega)

set_option maxHeartbeats 1000000 in
set_option maxRecDepth 100000 in
theorem add_walk (base pb po : Nat) (tv : Value) (ta : Option Addr) (tc L : Nat) (ws ps : List Wd) (m pc : Nat) (pa : Option Addr) (w : World) (htv : tv = .slice ta L tc) (HL : Hid (ws.length = L)) (HM : Hid (ps.length = m)) (hL : L ≤ 100000) (hM : m ≤ 1000) (hbw : base ≤ w.heap.size)
    (c0 : w.cell? ⟨pb, po, none⟩ = some tv) (f0 : w.frozen? ⟨pb, po, none⟩ = false) (hpb : pb < w.heap.size) (hne : Hid (tv.ownBlock ≠ some pb)) (HR : Hid (w.ownsRow base 38 2 tv L (wCells ws)))
    (HS : Hid (∀ w1, Keep (fun b => b = pb ∨ tv.ownBlock = some b) w w1 → WordsAt w1 ps pa)) :
    Calls Try.prog 30 #[.pointer (some ⟨pb, po, none⟩), .slice pa m pc] w fun e w' => e = .returned (.agg #[.int .i64 4, .int .i64 L]) ∧ ∃ tv', Hid (Added base pb po tv ws ps w w' tv') := by
  subst htv
  obtain ⟨it, hit, htz0, htz1, htz2⟩ := info_parts infoWord
  have HT := hide (⟨hit, htz0, htz1, htz2⟩ : _ ∧ _ ∧ _ ∧ _)
  clear hit htz0 htz1 htz2
  go_enter Try.func30, Try.ntmps30
  go_wp2_with (first
    | (at_builtin; refine wpList_append_lies _ rfl _ _ 59 rfl base 38 it _ 2 16 Try.underlying59 HT.out.1 HT.out.2.1 HT.out.2.2.1 HT.out.2.2.2 rfl (by decide) _ L _ rfl ((HR.out.alloc _).alloc _) ⟨w.heap.size + 1, 0, none⟩ 1 1 (wd2 (0, (m : Int))) rfl rfl (by have := two_news (w.alloc (.cells #[.int .i64 0, .int .i64 0] 38)) (0, (m : Int)); simpa using this) (wd2_one _) (by decide) (by unfold maxLen; omega) (by omega) (by simp; omega) (w.heap.size + 2) (by simp) ?_; intro g2 c2 w2 hown2 hgrow2 hat2 hlt2; have H2 := hide (⟨hown2, hgrow2, hat2, hlt2⟩ : _ ∧ _ ∧ _ ∧ _); obtain ⟨e2, f2, hlt2'⟩ := add_cells hpb hne.out hgrow2 c0 f0; have H3 := hide (add_mid hpb hbw hne.out hown2 hgrow2 hat2 po HS.out); clear hown2 hgrow2 hat2 hlt2)
    | (at_builtin; refine wpList_append_words rfl _ _ rfl (base := base) (n := L + 1) rfl rfl H3.out.1 H3.out.2.1 HM.out (by omega) H3.out.2.2 ?_; intro tv4 w4 hown4 hgrow4 hat4; obtain ⟨g4, c4, rfl, _, _⟩ := hown4.form (by omega); have H4 := hide (⟨hown4, hgrow4, hat4⟩ : _ ∧ _ ∧ _); obtain ⟨⟨k0, k1⟩, kf, e4, f4⟩ := add_last hpb HR.out hne.out H2.out.2.1 H2.out.2.2.1 hgrow4 e2 f2; clear hown4 hgrow4 hat4))
  have hl := HL.out
  have hm := HM.out
  subst hl hm
  exact bodyPost_ret (v := .agg #[.int .i64 4, .int .i64 ws.length]) (by simp [results, Try.results30, go_sem, k0, k1]) rfl ⟨rfl, _, add_end hpb HR.out hne.out H2.out.2.1 H2.out.2.2.1 H4.out.1 H4.out.2.1 H4.out.2.2⟩
end Go.Proofs.Ytdlckjjfbobmpaa
namespace Go.Proofs.Ytdlckjjfbobmpaa
open Go.RowKit

/-- What New leaves. -/
def NewOut (room : Int) (w : World) (e : Ending) (w' : World) : Prop :=
    (¬ (0 ≤ room ∧ room ≤ 1000) → e = .returned (.tuple #[.pointer none, .int .i64 1]) ∧ w' = w) ∧
    (0 ≤ room ∧ room ≤ 1000 → e = .returned (.tuple #[.pointer (some ⟨w.heap.size, 0, none⟩), .int .i64 0]) ∧ HB w.heap.size room (.slice none 0 0) (.slice none 0 0) (.map none) w' ∧ w'.heap.size = w.heap.size + 1 ∧ Below w.heap.size w w')
theorem new_any (room : Int) (w : World) : Calls Try.prog 4 #[.int .i64 room] w (NewOut room w) := by
  by_cases h0 : room < 0
  · have b0 : decide (room < 0) = true := by simpa using h0
    go_enter Try.func4, Try.ntmps4
    go_wp2_with fail
    go_ret2
    exact ⟨fun _ => ⟨rfl, rfl⟩, fun h => by omega⟩
  · by_cases h1 : 1000 < room
    · have b0 : decide (room < 0) = false := by simpa using h0
      have b1 : decide (1000 < room) = true := by simpa using h1
      go_enter Try.func4, Try.ntmps4
      go_wp2_with fail
      go_ret2
      exact ⟨fun _ => ⟨rfl, rfl⟩, fun h => by omega⟩
    · have b0 : decide (room < 0) = false := by simpa using h0
      have b1 : decide (1000 < room) = false := by simpa using h1
      go_enter Try.func4, Try.ntmps4
      go_wp2_with fail
      go_ret2
      exact ⟨fun h => by omega, fun _ => ⟨rfl, heap_alloc_new w _, by simp, (Below.refl _ _).alloc (Nat.le_refl _) _⟩⟩

theorem used_any (hp : Nat) (room : Int) (ta : Option Addr) (L tc : Nat) (lv mv : Value) (w : World) (HBX : Hid (HB hp room (.slice ta L tc) lv mv w)) :
    Calls Try.prog 17 #[.pointer (some ⟨hp, 0, none⟩)] w fun e w' => e = .returned (.int .i64 L) ∧ w' = w := by
  obtain ⟨⟨c0, c1, c2, c3⟩, hf⟩ := HBX.out.cells
  go_enter Try.func17, Try.ntmps17
  go_wp2_with fail
  go_ret
  exact ⟨rfl, rfl⟩

def beginsB (ws : List Wd) (i : Int) : Bool := decide (0 ≤ i) && match ws[i.toNat]? with
  | some x => x.1 == 0
  | none => false

theorem word_cells {base g c L : Nat} {ws : List Wd} {w : World} (h : w.ownsRow base 38 2 (.slice (some ⟨g, 0, none⟩) L c) L (wCells ws)) (k : Nat) (x : Wd) (hx : ws[k]? = some x) : w.cell? ⟨g, k * 2, none⟩ = some (.int .i64 x.1) ∧ w.cell? ⟨g, k * 2 + 1, none⟩ = some (.int .i64 x.2) := by
  have hc := h.cells (g := g) rfl
  refine ⟨?_, ?_⟩
  · have := hc (k * 2 + 0) (.int .i64 x.1) (by rw [wCells_at ws k x hx 0 (by omega)]; rfl)
    rw [add_none] at this; exact this
  · have := hc (k * 2 + 1) (.int .i64 x.2) (by rw [wCells_at ws k x hx 1 (by omega)]; rfl)
    rw [add_none] at this; exact this

theorem begins_any (base : Nat) (ta : Option Addr) (L tc : Nat) (ws : List Wd) (i : Int) (w : World) (HL : Hid (ws.length = L)) (hL : L ≤ 100000) (HR : Hid (w.ownsRow base 38 2 (.slice ta L tc) L (wCells ws))) :
    Calls Try.prog 41 #[.slice ta L tc, .int .i64 i] w fun e w' => e = .returned (.bool (beginsB ws i)) ∧ w' = w := by
  by_cases h0 : 0 ≤ i
  · obtain ⟨k, rfl⟩ : ∃ k : Nat, i = k := ⟨i.toNat, by omega⟩
    by_cases hlt : k < L
    · obtain ⟨x, hx⟩ : ∃ x, ws[k]? = some x := ⟨ws[k]'(by rw [HL.out]; exact hlt), List.getElem?_eq_getElem _⟩
      obtain ⟨g, c, hv, _, _⟩ := HR.out.form (by omega)
      simp at hv
      obtain ⟨rfl, rfl⟩ := hv
      obtain ⟨x0, x1⟩ := word_cells HR.out k x hx
      have HB : Hid (beginsB ws k = (x.1 == 0)) := by simp [Hid, beginsB, hx]
      have b0 : decide ((0 : Int) ≤ (k : Int)) = true := by simp
      have b1 : decide ((k : Int) < (L : Int)) = true := by simp; omega
      have hk1 : (0 : Int) ≤ (k : Int) := by omega
      have hk2 : (k : Int) < (L : Int) := by omega
      clear hx
      go_enter Try.func41, Try.ntmps41
      go_wp2_with fail
      go_ret
      exact ⟨ret_same HB.out.symm, rfl⟩
    · have HB : Hid (beginsB ws k = false) := by
        have : ws[k]? = none := List.getElem?_eq_none (by rw [HL.out]; omega)
        simp [Hid, beginsB, this]
      have b0 : decide ((0 : Int) ≤ (k : Int)) = true := by simp
      have b1 : decide ((k : Int) < (L : Int)) = false := by simp; omega
      go_enter Try.func41, Try.ntmps41
      go_wp2_with fail
      go_ret
      exact ⟨ret_same HB.out.symm, rfl⟩
  · have HB : Hid (beginsB ws i = false) := by simp [Hid, beginsB, h0]
    have b0 : decide (0 ≤ i) = false := by simpa using h0
    go_enter Try.func41, Try.ntmps41
    go_wp2_with fail
    go_ret
    exact ⟨ret_same HB.out.symm, rfl⟩
end Go.Proofs.Ytdlckjjfbobmpaa
namespace Go.Proofs.Ytdlckjjfbobmpaa
open Go.RowKit

def hasB (L : Nat) (i : Int) : Bool := decide (0 ≤ i) && decide (i < L)
theorem has_any (hp : Nat) (room : Int) (tv : Value) (la : Option Addr) (L lc : Nat) (mv : Value) (i : Int) (w : World) (HBX : Hid (HB hp room tv (.slice la L lc) mv w)) :
    Calls Try.prog 40 #[.pointer (some ⟨hp, 2, none⟩), .int .i64 i] w fun e w' => e = .returned (.bool (hasB L i)) ∧ w' = w := by
  obtain ⟨⟨c0, c1, c2, c3⟩, hf⟩ := HBX.out.cells
  by_cases h0 : 0 ≤ i
  · have HB : Hid (hasB L i = decide (i < L)) := by simp [Hid, hasB, h0]
    have b0 : decide (0 ≤ i) = true := by simpa using h0
    go_enter Try.func40, Try.ntmps40
    go_wp2_with fail
    go_ret
    exact ⟨ret_same HB.out.symm, rfl⟩
  · have HB : Hid (hasB L i = false) := by simp [Hid, hasB, h0]
    have b0 : decide (0 ≤ i) = false := by simpa using h0
    go_enter Try.func40, Try.ntmps40
    go_wp2_with fail
    go_ret
    exact ⟨ret_same HB.out.symm, rfl⟩

theorem str_at (l : List ByteArray) (k : Nat) (s : ByteArray) (h : l[k]? = some s) : (strCells l)[k]? = some (.string s) := by simp [strCells, h]

set_option maxHeartbeats 1000000 in
theorem nameOf_any (base hp : Nat) (room : Int) (tv lv mv : Value) (nm : List ByteArray) (i : Nat) (s : ByteArray) (w : World) (HBX : Hid (HB hp room tv lv mv w)) (HR : Hid (w.ownsRow base 9 1 lv nm.length (strCells nm))) (hi : Hid (nm[i]? = some s)) (hL : nm.length ≤ 100000) (hsz : s.size ≤ 2048) :
    Calls Try.prog 42 #[.pointer (some ⟨hp, 2, none⟩), .int .i64 i] w fun e w' => e = .returned (.string s) ∧ Below w.heap.size w w' := by
  have hlt : i < nm.length := (List.getElem?_eq_some_iff.1 hi.out).1
  obtain ⟨g, c, rfl, _, _⟩ := HR.out.form (by omega)
  have x0 : w.cell? ⟨g, i, none⟩ = some (.string s) := by
    have := HR.out.cells (g := g) rfl i (.string s) (str_at nm i s hi.out)
    rw [add_none] at this; exact this
  obtain ⟨⟨c0, c1, c2, c3⟩, hf⟩ := HBX.out.cells
  generalize nm.length = L at *
  have hk1 : (0 : Int) ≤ (i : Int) := by omega
  have hk2 : (i : Int) < (L : Int) := by omega
  go_enter Try.func42, Try.ntmps42
  go_wp2_with fail
  refine (strcopy_any s _ hsz).mono ?_
  rintro e w1 ⟨rfl, hb1⟩
  go_wp2_with fail
  go_ret
  exact ⟨rfl, hb1⟩

theorem hasFree_any (hp : Nat) (room n : Int) (ta : Option Addr) (L tc : Nat) (lv mv : Value) (w : World) (hL : L ≤ 100000) (hr0 : 0 ≤ room) (hr : room ≤ 1000) (HBX : Hid (HB hp room (.slice ta L tc) lv mv w)) :
    Calls Try.prog 23 #[.pointer (some ⟨hp, 0, none⟩), .int .i64 n] w fun e w' => e = .returned (.bool (decide (n ≤ room - L))) ∧ Below w.heap.size w w' := by
  obtain ⟨⟨c0, c1, c2, c3⟩, hf⟩ := HBX.out.cells
  go_enter Try.func23, Try.ntmps23
  go_wp2_with fail
  go_quiet (fail)
  go_wp2_with fail
  go_ret
  exact ⟨rfl, ⟨rfl, rfl, rfl, Nat.le_refl _, fun _ _ => rfl⟩⟩

theorem wCells_part (ws : List Wd) (k n j : Nat) (hj : j < n * 2) : (wCells ((ws.drop k).take n))[j]? = (wCells ws)[k * 2 + j]? := by
  by_cases hl : k + j / 2 < ws.length
  · obtain ⟨x, hx⟩ : ∃ x, ws[k + j / 2]? = some x := ⟨_, List.getElem?_eq_getElem hl⟩
    have h1 : ((ws.drop k).take n)[j / 2]? = some x := by
      rw [List.getElem?_take_of_lt (by omega), List.getElem?_drop]
      exact hx
    have e1 : j = j / 2 * 2 + j % 2 := by omega
    have e2 : k * 2 + j = (k + j / 2) * 2 + j % 2 := by omega
    rw [e2, wCells_at ws (k + j / 2) x hx (j % 2) (by omega)]
    conv => lhs; rw [e1]
    rw [wCells_at _ (j / 2) x h1 (j % 2) (by omega)]
  · rw [List.getElem?_eq_none (l := wCells ws) (by rw [wCells_length]; omega), List.getElem?_eq_none (by rw [wCells_length, List.length_take, List.length_drop]; omega)]

/-- Where the parts of a tuple at k lie. -/
def PartsAt (ws : List Wd) (k n g : Nat) (w : World) (e : Ending) (w' : World) : Prop := w' = w ∧ ∃ pa pc, e = .returned (.slice (some pa) n pc) ∧ pa.block = g ∧ WordsAt w ((ws.drop (k + 1)).take n) (some pa) ∧ ∃ o, pa = ⟨g, o, none⟩

theorem row_cap {base g L c : Nat} {xs : List Value} {ty : TypeId} {sz : Nat} {w : World} (h : w.ownsRow base ty sz (.slice (some ⟨g, 0, none⟩) L c) L xs) : L ≤ c ∧ c ≤ maxLen := by
  rcases h.2 with ⟨h, _⟩ | ⟨g', cap, cur, h, _, _, h3, h4, _⟩
  · simp at h
  · injection h with _ _ h
    subst h
    exact ⟨h3, h4⟩

theorem parts_any (base : Nat) (g L tc k n : Nat) (ws : List Wd) (w : World) (hL : L ≤ 100000) (HR : Hid (w.ownsRow base 38 2 (.slice (some ⟨g, 0, none⟩) L tc) L (wCells ws))) (hx : Hid (ws[k]? = some (0, (n : Int)))) (hk : k + 1 + n ≤ L) :
    Calls Try.prog 43 #[.slice (some ⟨g, 0, none⟩) L tc, .int .i64 k] w (PartsAt ws k n g w) := by
  obtain ⟨x0, x1⟩ := word_cells HR.out k _ hx.out
  obtain ⟨htc, hmx⟩ := row_cap HR.out
  have HW : Hid (∀ o, (n = 0 ∨ o = (k + 1) * 2) → WordsAt w ((ws.drop (k + 1)).take n) (some ⟨g, o, none⟩)) := by
    rintro o (rfl | rfl)
    · exact Or.inl (by simp)
    · refine Or.inr ⟨_, rfl, fun j u hj => ?_⟩
      have hjn : j < n * 2 := by
        have := (List.getElem?_eq_some_iff.1 hj).1
        rw [wCells_length, List.length_take] at this
        omega
      rw [wCells_part ws (k + 1) n j hjn] at hj
      have := HR.out.cells (g := g) rfl _ u hj
      rw [add_none] at this
      have e : (⟨g, (k + 1) * 2, none⟩ : Addr).add j = ⟨g, (k + 1) * 2 + j, none⟩ := by
        unfold Addr.add
        by_cases h : j = 0 <;> simp [h]
      rw [e]
      exact this
  have hmx' : (tc : Int) ≤ 9223372036854775807 := by unfold maxLen at hmx; omega
  clear hmx
  by_cases hc : tc = k + 1
  · subst hc
    have hn : n = 0 := by omega
    subst hn
    go_enter Try.func43, Try.ntmps43
    go_wp2_with fail
    go_ret
    exact ⟨rfl, _, _, rfl, rfl, HW.out _ (by simp), _, rfl⟩
  · go_enter Try.func43, Try.ntmps43
    go_wp2_with fail
    go_ret
    exact ⟨rfl, _, _, rfl, rfl, HW.out _ (Or.inr rfl), _, rfl⟩
end Go.Proofs.Ytdlckjjfbobmpaa
namespace Go.Proofs.Ytdlckjjfbobmpaa
open Go.RowKit

def eqN (s t : ByteArray) : Bool := t.data == s.data
theorem eqN_iff (s t : ByteArray) : eqN s t = true ↔ t = s := by
  cases s; cases t
  simp [eqN]
/-- The names with one more, if it isn't there yet. -/
def nmPut (nm : List ByteArray) (s : ByteArray) : List ByteArray := if nm.any (eqN s) then nm else nm ++ [s]
def nmIdx (nm : List ByteArray) (s : ByteArray) : Nat := nm.findIdx (eqN s)
theorem nm_any (nm : List ByteArray) (s : ByteArray) : nm.any (eqN s) = true ↔ s ∈ nm := by
  rw [List.any_eq_true]
  constructor
  · rintro ⟨t, ht, e⟩
    rw [eqN_iff] at e
    exact e ▸ ht
  · exact fun h => ⟨s, h, (eqN_iff s s).2 rfl⟩
theorem nmIdx_at {nm : List ByteArray} {s : ByteArray} (hnd : nm.Nodup) {i : Nat} (hi : nm[i]? = some s) : nmIdx nm s = i := by
  have hl := (List.getElem?_eq_some_iff.1 hi).1
  have hlt : nmIdx nm s < nm.length := by
    unfold nmIdx
    rw [List.findIdx_lt_length]
    exact ⟨s, List.mem_of_getElem? hi, (eqN_iff s s).2 rfl⟩
  have he : nm[nmIdx nm s]'hlt = s := (eqN_iff s _).1 (List.findIdx_getElem (w := hlt))
  have e2 : nm[nmIdx nm s]? = nm[i]? := by rw [hi, List.getElem?_eq_getElem hlt, he]
  exact (List.getElem?_inj hlt hnd).1 e2
def layL {α : Type} (f : α → List Wd → List ByteArray → Wd × List Wd × List ByteArray) : List α → List Wd → List ByteArray → List Wd × List Wd × List ByteArray
  | [], ws, nm => ([], ws, nm)
  | y :: l, ws, nm => ((f y ws nm).1 :: (layL f l (f y ws nm).2.1 (f y ws nm).2.2).1, (layL f l (f y ws nm).2.1 (f y ws nm).2.2).2)
/-- A term's word, and words and names behind it. -/
def layF : (n : Nat) → Tm n → List Wd → List ByteArray → Wd × List Wd × List ByteArray
  | 0, _, ws, nm => ((0, 0), ws, nm)
  | n + 1, x, ws, nm =>
    if x.1.1 = 2 then ((2, (nmIdx (nmPut nm x.1.2.2) x.1.2.2 : Int)), ws, nmPut nm x.1.2.2)
    else if x.1.1 = 4 then
      ((4, ((layL (layF n) x.2.2 ws nm).2.1.length : Int)), (layL (layF n) x.2.2 ws nm).2.1 ++ (0, (x.2.2.length : Int)) :: (layL (layF n) x.2.2 ws nm).1, (layL (layF n) x.2.2 ws nm).2.2)
    else ((x.1.1, x.1.2.1), ws, nm)
theorem layL_snoc {α : Type} (f : α → List Wd → List ByteArray → Wd × List Wd × List ByteArray) (l : List α) (y : α) (ws : List Wd) (nm : List ByteArray) :
    layL f (l ++ [y]) ws nm = ((layL f l ws nm).1 ++ [(f y (layL f l ws nm).2.1 (layL f l ws nm).2.2).1], (f y (layL f l ws nm).2.1 (layL f l ws nm).2.2).2) := by
  induction l generalizing ws nm with
  | nil => simp [layL]
  | cons a l ih => simp [layL, ih]
theorem layL_length {α : Type} (f : α → List Wd → List ByteArray → Wd × List Wd × List ByteArray) (l : List α) (ws : List Wd) (nm : List ByteArray) : (layL f l ws nm).1.length = l.length := by
  induction l generalizing ws nm with
  | nil => simp [layL]
  | cons a l ih => simp [layL, ih]
theorem nmPut_length (nm : List ByteArray) (s : ByteArray) : (nmPut nm s).length ≤ nm.length + 1 := by
  unfold nmPut
  split <;> simp
theorem layF_sizes : (n : Nat) → (x : Tm n) → (ws : List Wd) → (nm : List ByteArray) → ((layF n x ws nm).2.1.length : Int) = ws.length + sz n x ∧ (layF n x ws nm).2.2.length ≤ nm.length + (nodes n x).length
  | 0, _, _, _ => by simp [layF, sz]
  | n + 1, x, ws, nm => by
    have key : ∀ (l : List (Tm n)) (ws : List Wd) (nm : List ByteArray), ((layL (layF n) l ws nm).2.1.length : Int) + l.length = ws.length + (l.map fun y => 1 + sz n y).sum ∧ (layL (layF n) l ws nm).2.2.length ≤ nm.length + (l.flatMap fun y => nodes n y).length := by
      intro l
      induction l with
      | nil => intro ws nm; simp [layL]
      | cons y l ih =>
        intro ws nm
        obtain ⟨a1, a2⟩ := layF_sizes n y ws nm
        obtain ⟨b1, b2⟩ := ih (layF n y ws nm).2.1 (layF n y ws nm).2.2
        simp only [layL, List.map_cons, List.sum_cons, List.flatMap_cons, List.length_append, List.length_cons]
        exact ⟨by omega, by omega⟩
    obtain ⟨k1, k2⟩ := key x.2.2 ws nm
    have k3 := nmPut_length nm x.1.2.2
    have k4 := layL_length (layF n) x.2.2 ws nm
    have k5 : (nodes (n + 1) x).length = 1 + (x.2.2.flatMap fun y => nodes n y).length := by simp [nodes]; omega
    rw [k5]
    by_cases h2 : x.1.1 = 2
    · have h4 : ¬ x.1.1 = 4 := by omega
      simp only [layF, sz, if_pos h2, if_neg h4]
      exact ⟨by omega, by omega⟩
    · by_cases h4 : x.1.1 = 4
      · simp only [layF, sz, if_neg h2, if_pos h4, List.length_append, List.length_cons, k4]
        exact ⟨by omega, by omega⟩
      · simp only [layF, sz, if_neg h2, if_neg h4]
        exact ⟨by omega, by omega⟩

/-- A heap in memory, whose blocks are among those of which M holds. -/
def HpAt (base hp : Nat) (room : Int) (ws : List Wd) (nm : List ByteArray) (M : Nat → Prop) (w : World) : Prop :=
  ∃ tv lv mv, HB hp room tv lv mv w ∧ w.ownsRow base 38 2 tv ws.length (wCells ws) ∧ NamesAt base nm lv mv w ∧ M hp ∧ (∀ b, tv.ownBlock = some b → M b) ∧ (∀ b, lv.ownBlock = some b → M b) ∧ ∀ b, mapBlock mv = some b → M b
theorem row_kept {base : Nat} {e : TypeId} {sz : Nat} {v : Value} {n : Nat} {xs : List Value} {w w' : World} {S : Nat → Prop} (h : w.ownsRow base e sz v n xs) (k : Keep S w w') (h1 : ∀ b, v.ownBlock = some b → ¬ S b) : w'.ownsRow base e sz v n xs := by
  refine ⟨h.1, ?_⟩
  rcases h.2 with ⟨e, e0⟩ | ⟨g, cap, cur, e, hg, hh, hr⟩
  · exact Or.inl ⟨e, e0⟩
  · exact Or.inr ⟨g, cap, cur, e, hg, (k.block g (Array.getElem?_eq_some_iff.1 hh).1 (h1 g (by rw [e]; rfl))).trans hh, hr⟩
theorem HpAt.kept {base hp : Nat} {room : Int} {ws : List Wd} {nm : List ByteArray} {M S : Nat → Prop} {w w' : World} (h : HpAt base hp room ws nm M w) (k : Keep S w w') (hd : ∀ b, M b → b < w.heap.size → ¬ S b) : HpAt base hp room ws nm M w' := by
  obtain ⟨tv, lv, mv, h1, h2, h3, h4, h5, h6, h7⟩ := h
  refine ⟨tv, lv, mv, h1.kept (k.block hp h1.lt (hd hp h4 h1.lt)), row_kept h2 k fun b e => hd b (h5 b e) (h2.lt b e).2, ?_, h4, h5, h6, h7⟩
  refine h3.kept k (fun b e => hd b (h6 b e) (h3.1.lt b e).2) fun b e => hd b (h7 b e) ?_
  rcases h3.2.2 with ⟨rfl, _⟩ | ⟨mb, D, rfl, _, hm, _⟩
  · simp [mapBlock] at e
  · simp only [mapBlock] at e
    obtain rfl := Option.some.inj e
    exact hm.lt
theorem HpAt.mono {base hp : Nat} {room : Int} {ws : List Wd} {nm : List ByteArray} {M S : Nat → Prop} {w : World} (h : HpAt base hp room ws nm M w) (k : ∀ b, M b → S b) : HpAt base hp room ws nm S w := by
  obtain ⟨tv, lv, mv, h1, h2, h3, h4, h5, h6, h7⟩ := h
  exact ⟨tv, lv, mv, h1, h2, h3, k _ h4, fun b e => k b (h5 b e), fun b e => k b (h6 b e), fun b e => k b (h7 b e)⟩

/-- What a call that laid something leaves. -/
def Laid (base hp : Nat) (room : Int) (ws : List Wd) (nm : List ByteArray) (M : Nat → Prop) (w w' : World) : Prop := HpAt base hp room ws nm (fun b => M b ∨ w.heap.size ≤ b) w' ∧ Keep M w w'

theorem row_types {w : World} {base base' : Nat} {e e' : TypeId} {s s' n n' : Nat} {v v' : Value} {xs ys : List Value} (h : w.ownsRow base e s v n xs) (h' : w.ownsRow base' e' s' v' n' ys) (hne : e ≠ e') : ∀ b, v.ownBlock = some b → v'.ownBlock ≠ some b := by
  intro b e1 e2
  rcases h.2 with ⟨rfl, _⟩ | ⟨g, cap, cur, rfl, _, hh, _⟩
  · simp [Value.ownBlock] at e1
  · rcases h'.2 with ⟨rfl, _⟩ | ⟨g', cap', cur', rfl, _, hh', _⟩
    · simp [Value.ownBlock] at e2
    · simp only [Value.ownBlock] at e1 e2
      obtain rfl := Option.some.inj e1
      obtain rfl := Option.some.inj e2
      rw [hh] at hh'
      injection hh' with hh'
      injection hh' with _ hh'
      exact hne hh'
theorem row_box {w : World} {base : Nat} {e : TypeId} {s n : Nat} {v : Value} {xs : List Value} {hp : Nat} {room : Int} {tv lv mv : Value} (h : w.ownsRow base e s v n xs) (hB : HB hp room tv lv mv w) (hne : e ≠ 65) : v.ownBlock ≠ some hp := fun e => by
  rcases h.2 with ⟨rfl, _⟩ | ⟨g', cap, cur, rfl, _, hh, _⟩
  · simp [Value.ownBlock] at e
  · simp [Value.ownBlock] at e
    subst e
    have h2 : w.heap[g']? = _ := hB
    rw [hh] at h2
    injection h2 with h2
    injection h2 with h2 h3
    exact hne h3
theorem row_map {w : World} {base : Nat} {e : TypeId} {s n : Nat} {v : Value} {xs : List Value} {nm : List ByteArray} {lv mv : Value} {base' : Nat} (h : w.ownsRow base e s v n xs) (hN : NamesAt base' nm lv mv w) : ∀ b, v.ownBlock = some b → mapBlock mv ≠ some b := by
  intro b e1 e2
  rcases h.2 with ⟨rfl, _⟩ | ⟨g, cap, cur, rfl, _, hh, _⟩
  · simp [Value.ownBlock] at e1
  · rcases hN.2.2 with ⟨rfl, _⟩ | ⟨mb, D, rfl, _, hm, _⟩
    · simp [mapBlock] at e2
    · simp only [Value.ownBlock, mapBlock] at e1 e2
      obtain rfl := Option.some.inj e1
      obtain rfl := Option.some.inj e2
      obtain ⟨es, clock, hh', _⟩ := hm
      rw [hh] at hh'
      cases hh'
theorem map_box {w : World} {nm : List ByteArray} {lv mv : Value} {base hp : Nat} {room : Int} {tv lv' mv' : Value} (hN : NamesAt base nm lv mv w) (hB : HB hp room tv lv' mv' w) : mapBlock mv ≠ some hp := fun e => by
  rcases hN.2.2 with ⟨rfl, _⟩ | ⟨mb, D, rfl, _, hm, _⟩
  · simp [mapBlock] at e
  · simp only [mapBlock] at e
    obtain rfl := Option.some.inj e
    obtain ⟨es, clock, hh', _⟩ := hm
    have h2 : w.heap[mb]? = _ := hB
    rw [hh'] at h2
    cases h2

theorem idx_put {nm nm' : List ByteArray} {s : ByteArray} {i : Nat} (hnd : nm'.Nodup) (hi : nm'[i]? = some s) (h : nm' = nm ∨ nm' = nm ++ [s]) : nm' = nmPut nm s ∧ i = nmIdx (nmPut nm s) s := by
  have e : nm' = nmPut nm s := by
    unfold nmPut
    by_cases hs : s ∈ nm
    · rw [if_pos ((nm_any nm s).2 hs)]
      rcases h with h | h
      · exact h
      · rw [h, List.nodup_append] at hnd
        exact absurd rfl (hnd.2.2 s hs s (by simp))
    · rw [if_neg (fun e => hs ((nm_any nm s).1 e))]
      rcases h with h | h
      · rw [h] at hi
        exact absurd (List.mem_of_getElem? hi) hs
      · exact h
  refine ⟨e, ?_⟩
  rw [← e]
  exact (nmIdx_at hnd hi).symm

/-- number, of the whole heap. -/
theorem numberH (base hp : Nat) (room : Int) (ws : List Wd) (nm : List ByteArray) (M : Nat → Prop) (s : ByteArray) (w : World) (h : HpAt base hp room ws nm M w) (hbw : base ≤ w.heap.size) (hL : nm.length ≤ 100000) (hsz : s.size ≤ 2048) :
    Calls Try.prog 38 #[.pointer (some ⟨hp, 2, none⟩), .string s] w fun e w' => e = .returned (.int .i64 (nmIdx (nmPut nm s) s : Int)) ∧ Hid (Laid base hp room ws (nmPut nm s) M w w') := by
  obtain ⟨tv, lv, mv, h1, h2, h3, h4, h5, h6, h7⟩ := h
  refine (number_any base hp room tv lv mv nm s w h1 h3 hbw hL hsz).mono ?_
  rintro e w' ⟨i, rfl, nm', lv', mv', H⟩
  obtain ⟨k1, k2, k3, k4, k5, k6, k7⟩ := H.out
  obtain ⟨e1, e2⟩ := idx_put k4.2.1 k1 k2
  subst e1
  refine ⟨by rw [e2], ⟨tv, lv', mv', k3, row_kept h2 k5 ?_, k4, Or.inl h4, fun b e => Or.inl (h5 b e), ?_, ?_⟩, k5.mono ?_⟩
  · rintro b e (rfl | e' | e')
    · exact row_box h2 h1 (by decide) e
    · exact row_types h2 h3.1 (by decide) b e e'
    · exact row_map h2 h3 b e e'
  · intro b e
    rcases k6 b e with e | e
    · exact Or.inl (h6 b e)
    · exact Or.inr e
  · intro b e
    rcases k7 b e with e | e
    · exact Or.inl (h7 b e)
    · exact Or.inr e
  · rintro b (rfl | e | e)
    · exact h4
    · exact h6 b e
    · exact h7 b e

/-- add, of the whole heap. -/
theorem addH (base hp : Nat) (room : Int) (ws : List Wd) (nm : List ByteArray) (M : Nat → Prop) (ps : List Wd) (m pc : Nat) (pa : Option Addr) (w : World) (h : HpAt base hp room ws nm M w) (hbw : base ≤ w.heap.size) (hL : ws.length ≤ 100000) (hm : ps.length = m) (hM : m ≤ 1000)
    (HS : ∀ w1, Keep M w w1 → WordsAt w1 ps pa) :
    Calls Try.prog 30 #[.pointer (some ⟨hp, 1, none⟩), .slice pa m pc] w fun e w' => e = .returned (.agg #[.int .i64 4, .int .i64 ws.length]) ∧ Hid (Laid base hp room (ws ++ (0, (m : Int)) :: ps) nm M w w') := by
  obtain ⟨tv, lv, mv, h1, h2, h3, h4, h5, h6, h7⟩ := h
  obtain ⟨⟨c0, c1, c2, c3⟩, hf⟩ := h1.cells
  obtain ⟨ta, tc, htv⟩ : ∃ ta tc, tv = .slice ta ws.length tc := by
    rcases h2.2 with ⟨e, e0⟩ | ⟨g, c, cur, e, _⟩
    · exact ⟨none, 0, by rw [e, e0]⟩
    · exact ⟨_, c, e⟩
  subst hm
  refine (add_walk base hp 1 tv ta tc ws.length ws ps ps.length pc pa w htv rfl rfl hL hM hbw c1 (hf 1) h1.lt (row_box h2 h1 (by decide)) h2 ?_).mono ?_
  · intro w1 k
    refine HS w1 (k.mono ?_)
    rintro b (rfl | e)
    · exact h4
    · exact h5 b e
  · rintro e w' ⟨rfl, tv', H⟩
    obtain ⟨k1, k2, k3, k4⟩ := H.out
    refine ⟨rfl, ⟨tv', lv, mv, (h1.set1 tv').kept k2, ?_, h3.kept k3 ?_ ?_, Or.inl h4, ?_, fun b e => Or.inl (h6 b e), fun b e => Or.inl (h7 b e)⟩, k3.mono ?_⟩
    · have e : (ws ++ (0, (ps.length : Int)) :: ps).length = ws.length + 1 + ps.length := by simp; omega
      rw [e]
      exact k1
    · rintro b e (rfl | e')
      · exact row_box h3.1 h1 (by decide) e
      · exact row_types h2 h3.1 (by decide) b e' e
    · rintro b e (rfl | e')
      · exact map_box h3 h1 e
      · exact row_map h2 h3 b e' e
    · intro b e
      rcases k4 b e with e | e
      · exact Or.inl (h5 b e)
      · exact Or.inr e
    · rintro b (rfl | e)
      · exact h4
      · exact h5 b e
end Go.Proofs.Ytdlckjjfbobmpaa
