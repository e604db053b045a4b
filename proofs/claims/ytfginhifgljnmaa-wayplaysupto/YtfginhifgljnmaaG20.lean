/- What is proved here: plain facts and contracts that the claimed theorem stands on, several texts in one: whatever reads as a list of behaviours is a program's list that lies in memory, no larger than the reading's bulk. No condition. whatever reads as a list of calls on ways is a list of them that lies in memory, no larger than the reading's bulk. No condition. -/
import Derived.Test.YtfginhifgljnmaaG19
import Derived.Test.YtfginhifgljnmaaG17
namespace Go.Proofs.Ytfginhifgljnmaa
open Go.ChangeShapes Go.WideShapes Go.ChangeAt Go.RowKit

def wtA (n : Nat) (a : Ac n) : Nat := wt n a.2.1.1 + wt n a.2.1.2 + a.2.2.1.size + 1
def wtC (n : Nat) (c : Cl n) : Nat := wt n c.1.1 + wt n c.1.2.1 + wt n c.1.2.2 + (c.2.2.map (wtA n)).sum + 1
def wtB (n : Nat) (b : Bh n) : Nat := b.1.size + (b.2.2.map (wtC n)).sum + 1
theorem cellsAct : Try.prog.cellsOf 157 = 11 := by kernel_rfl
theorem cellsClause : Try.prog.cellsOf 155 = 13 := by kernel_rfl
theorem cellsBeh : Try.prog.cellsOf 147 = 2 := by kernel_rfl
theorem cellsActs : Try.prog.cellsOf 153 = 1 := by kernel_rfl
theorem cellsClauses : Try.prog.cellsOf 145 = 1 := by kernel_rfl

theorem sum_le {α H : Type} (g : α → Nat) : (p : List α) → (es : List (DataW H)) → (∀ (i : Nat) (y : α) (e : DataW H), p[i]? = some y → es[i]? = some e → g y ≤ Rows.uptoBulk e) → p.length = es.length → (p.map g).sum ≤ Rows.uptoBulkAll es
  | [], es, _, h => by simp
  | y :: p, [], _, h => by simp at h
  | y :: p, e :: es, hp, h => by
    have h0 := hp 0 y e (by simp) (by simp)
    have h1 := sum_le g p es (fun i y' e' hy he => hp (i + 1) y' e' (by simpa using hy) (by simpa using he)) (by simpa using h)
    simp only [List.map_cons, List.sum_cons, Rows.uptoBulkAll]
    omega

set_option maxRecDepth 100000 in
theorem row_of {H α : Type} (enc : TypeId × Value → H) (w : World) (sp : Nat → Bool) (k : Nat) (f : α → List Value) (I : α → Prop) (g : α → Nat) (T S : TypeId) (hS : Try.prog.underlying S = some (.slice T)) (hk : Try.prog.cellsOf T = k) (hk0 : 0 < k) (hlen : ∀ y, (f y).length = k) (F : Nat)
    (elem : ∀ (m : Nat) (cs : List Value) (x : DataW H × List MemPlace), m ≤ F → DataW.trod enc Try.prog w 0 sp true m T cs = some x → ∃ y, cs = f y ∧ I y ∧ g y ≤ Rows.uptoBulk x.1)
    (m : Nat) (hm : m ≤ F) (v : Value) (x : DataW H × List MemPlace) (h : DataW.trod enc Try.prog w 0 sp true m S [v] = some x) :
    ∃ a l c, v = .slice a l.length c ∧ l.length ≤ c ∧ c ≤ maxLen ∧ Lay w.heap.size w k f I a l ∧ (l.map g).sum + 1 ≤ Rows.uptoBulk x.1 := by
  rcases DataW.trod_slice hS h with ⟨e, rfl⟩ | ⟨a, len, cap, elems, rest, m', rfl, e, rfl, _, hlc, hcm, hel, hat, _, _⟩
  · simp at e
    subst e
    exact ⟨none, [], 0, rfl, Nat.le_refl _, Nat.zero_le _, Or.inl rfl, by simp [Rows.uptoBulk]⟩
  · simp at e
    subst e
    simp only [hk] at hat
    have key : ∀ i, i < len → ∃ y : α, (∃ b o, a = ⟨b, o, none⟩ ∧ b < w.heap.size ∧ ∀ (j : Nat) (u : Value), (f y)[j]? = some u → w.cell? ⟨b, o + i * k + j, none⟩ = some u) ∧ I y ∧ ∀ e, (elems.map (·.1))[i]? = some e → g y ≤ Rows.uptoBulk e := by
      intro i hi
      have hi' := hat i hi
      have hi0 := hat 0 (by omega)
      rw [List.getElem?_eq_getElem (by omega)] at hi' hi0
      obtain ⟨cs', hcs, htr⟩ := Option.bind_eq_some_iff.1 hi'
      obtain ⟨cs0, hcs0, htr0⟩ := Option.bind_eq_some_iff.1 hi0
      obtain ⟨_, hl', hcell⟩ := World.cells?_some hcs
      obtain ⟨_, hl0, hcell0⟩ := World.cells?_some hcs0
      obtain ⟨y, rfl, hin, hb⟩ := elem m' cs' _ (by omega) htr
      have ha := spot_none (w := w) (a := a) (v := cs0[0]'(by omega)) (by have := hcell0 0 (by omega); rw [List.getElem?_eq_getElem (by omega)] at this; simpa using this)
      have hadd : ∀ j, (a.add (i * k)).add j = ⟨a.block, a.off + i * k + j, none⟩ := fun j => by
        have := add_add a.block a.off (i * k) j
        rw [← ha] at this
        exact this
      have hc : ∀ (j : Nat) (u : Value), (f y)[j]? = some u → w.cell? ⟨a.block, a.off + i * k + j, none⟩ = some u := fun j u hj => by
        have hjl := (List.getElem?_eq_some_iff.1 hj).1
        have := hcell j (by rw [hlen] at hjl; omega)
        rw [hadd, hj] at this
        exact this
      obtain ⟨u0, hu0⟩ : ∃ u, (f y)[0]? = some u := ⟨(f y)[0]'(by rw [hlen]; omega), List.getElem?_eq_getElem _⟩
      refine ⟨y, ⟨a.block, a.off, ha, World.block_lt_of_cell? w ⟨a.block, a.off + i * k + 0, none⟩ (hc 0 u0 hu0), hc⟩, hin, fun e he => ?_⟩
      rw [List.getElem?_map, List.getElem?_eq_getElem (by omega)] at he
      have : (elems[i]).1 = e := by simpa using he
      rw [← this]
      exact hb
    obtain ⟨p, hpl, hp⟩ := list_of len key
    refine ⟨some a, p, cap, by rw [hpl], by omega, hcm, ?_, ?_⟩
    · rcases Nat.eq_zero_or_pos len with h | h
      · exact Or.inl (List.eq_nil_of_length_eq_zero (hpl.trans h))
      · obtain ⟨⟨b, o, rfl, hb, _⟩, _, _⟩ := hp 0 (p[0]'(by rw [hpl]; exact h)) (List.getElem?_eq_getElem (by rw [hpl]; exact h))
        refine Or.inr ⟨b, o, rfl, hb, fun i y hy => ?_⟩
        obtain ⟨⟨b', o', e, _, hh⟩, hin, _⟩ := hp i y hy
        simp at e
        obtain ⟨rfl, rfl⟩ := e
        exact ⟨hh, hin⟩
    · have hs := sum_le g p (elems.map (·.1)) (fun i y e hy he => (hp i y hy).2.2 e he) (by simp; omega)
      simp only [Rows.uptoBulk]
      omega
theorem term_of {H : Type} (enc : TypeId × Value → H) (w : World) (sp : Nat → Bool) (n m : Nat) (hm : m ≤ n) (cs : List Value) (x : DataW H × List MemPlace) (h : DataW.trod enc Try.prog w 0 sp true m 24 cs = some x) : ∃ t : Tm (n + 1), cs = tm4 (n + 1) t ∧ In w.heap.size w (n + 1) t ∧ wt (n + 1) t ≤ Rows.uptoBulk x.1 := by
  obtain ⟨t, h1, h2, h3⟩ := tree_of enc w sp n m (by omega) cs x h
  exact ⟨t, h1, h2, h3⟩

set_option maxRecDepth 100000 in
set_option maxHeartbeats 1000000 in
theorem act_of {H : Type} (enc : TypeId × Value → H) (w : World) (sp : Nat → Bool) (n m : Nat) (hm : m ≤ n) (cs : List Value) (x : DataW H × List MemPlace) (h : DataW.trod enc Try.prog w 0 sp true m 157 cs = some x) : ∃ a : Ac (n + 1), cs = ac11 (n + 1) a ∧ AcIn (n + 1) w.heap.size w a ∧ wtA (n + 1) a ≤ Rows.uptoBulk x.1 := by
  obtain ⟨xs, m, rfl, rfl, hl, hx, hg⟩ := DataW.trod_struct Try.underlying157 h
  have h0 : DataW.trod enc Try.prog w 0 sp true m 3 ((cs.drop 0).take (Try.prog.cellsOf 3)) = xs[0]? := hg 0 _ rfl
  have h1 : DataW.trod enc Try.prog w 0 sp true m 24 ((cs.drop 1).take (Try.prog.cellsOf 24)) = xs[1]? := hg 1 _ rfl
  have h2 : DataW.trod enc Try.prog w 0 sp true m 24 ((cs.drop 5).take (Try.prog.cellsOf 24)) = xs[2]? := hg 2 _ rfl
  have h3 : DataW.trod enc Try.prog w 0 sp true m 9 ((cs.drop 9).take (Try.prog.cellsOf 9)) = xs[3]? := hg 3 _ rfl
  have h4 : DataW.trod enc Try.prog w 0 sp true m 3 ((cs.drop 10).take (Try.prog.cellsOf 3)) = xs[4]? := hg 4 _ rfl
  rw [cellsInt] at h0 h4
  rw [cellsTerm] at h1 h2
  rw [cellsString] at h3
  rw [cellsAct] at hl
  obtain ⟨c0, c1, c2, c3, c4, c5, c6, c7, c8, c9, c10, rfl⟩ : ∃ c0 c1 c2 c3 c4 c5 c6 c7 c8 c9 c10, cs = [c0, c1, c2, c3, c4, c5, c6, c7, c8, c9, c10] := by
    match cs, hl with
    | [c0, c1, c2, c3, c4, c5, c6, c7, c8, c9, c10], _ => exact ⟨c0, c1, c2, c3, c4, c5, c6, c7, c8, c9, c10, rfl⟩
  obtain ⟨y0, y1, y2, y3, y4, rfl⟩ : ∃ y0 y1 y2 y3 y4, xs = [y0, y1, y2, y3, y4] := by
    match xs, hx with
    | [y0, y1, y2, y3, y4], _ => exact ⟨y0, y1, y2, y3, y4, rfl⟩
  obtain ⟨k, e0, z0, w0⟩ := DataW.trod_int Try.underlying3 (x := y0) (by simpa using h0)
  obtain ⟨v, e4, z4, w4⟩ := DataW.trod_int Try.underlying3 (x := y4) (by simpa using h4)
  obtain ⟨s, e3, z3, w3⟩ := DataW.trod_string Try.underlying9 (x := y3) (by simpa using h3)
  obtain ⟨t, e1, i1, b1⟩ := term_of enc w sp n m (by omega) [c1, c2, c3, c4] y1 (by simpa using h1)
  obtain ⟨u, e2, i2, b2⟩ := term_of enc w sp n m (by omega) [c5, c6, c7, c8] y2 (by simpa using h2)
  simp at e0 e3 e4
  subst e0 e3 e4 z0 z3 z4
  refine ⟨(k, (t, u), (s, v)), ?_, ⟨wf64 w0, i1, i2, w3, wf64 w4⟩, ?_⟩
  · show _ = .int .i64 k :: (tm4 (n + 1) t ++ tm4 (n + 1) u ++ [.string s, .int .i64 v])
    rw [← e1, ← e2]
    rfl
  · have es : s.data.toList.length = s.size := by rw [Array.length_toList]; rfl
    simp only [wtA, Rows.uptoBulk, Rows.uptoBulkAll, List.map_cons, List.map_nil]
    omega

set_option maxRecDepth 100000 in
set_option maxHeartbeats 1000000 in
theorem clause_of {H : Type} (enc : TypeId × Value → H) (w : World) (sp : Nat → Bool) (n m : Nat) (hm : m ≤ n) (cs : List Value) (x : DataW H × List MemPlace) (h : DataW.trod enc Try.prog w 0 sp true m 155 cs = some x) : ∃ a : Cl (n + 1), cs = cl13 (n + 1) a ∧ ClIn (n + 1) w.heap.size w a ∧ wtC (n + 1) a ≤ Rows.uptoBulk x.1 := by
  obtain ⟨xs, m, rfl, rfl, hl, hx, hg⟩ := DataW.trod_struct Try.underlying155 h
  have h0 : DataW.trod enc Try.prog w 0 sp true m 24 ((cs.drop 0).take (Try.prog.cellsOf 24)) = xs[0]? := hg 0 _ rfl
  have h1 : DataW.trod enc Try.prog w 0 sp true m 24 ((cs.drop 4).take (Try.prog.cellsOf 24)) = xs[1]? := hg 1 _ rfl
  have h2 : DataW.trod enc Try.prog w 0 sp true m 153 ((cs.drop 8).take (Try.prog.cellsOf 153)) = xs[2]? := hg 2 _ rfl
  have h3 : DataW.trod enc Try.prog w 0 sp true m 24 ((cs.drop 9).take (Try.prog.cellsOf 24)) = xs[3]? := hg 3 _ rfl
  rw [cellsTerm] at h0 h1 h3
  rw [cellsActs] at h2
  rw [cellsClause] at hl
  obtain ⟨c0, c1, c2, c3, c4, c5, c6, c7, c8, c9, c10, c11, c12, rfl⟩ : ∃ c0 c1 c2 c3 c4 c5 c6 c7 c8 c9 c10 c11 c12, cs = [c0, c1, c2, c3, c4, c5, c6, c7, c8, c9, c10, c11, c12] := by
    match cs, hl with
    | [c0, c1, c2, c3, c4, c5, c6, c7, c8, c9, c10, c11, c12], _ => exact ⟨c0, c1, c2, c3, c4, c5, c6, c7, c8, c9, c10, c11, c12, rfl⟩
  obtain ⟨y0, y1, y2, y3, rfl⟩ : ∃ y0 y1 y2 y3, xs = [y0, y1, y2, y3] := by
    match xs, hx with
    | [y0, y1, y2, y3], _ => exact ⟨y0, y1, y2, y3, rfl⟩
  obtain ⟨t, e0, i0, b0⟩ := term_of enc w sp n m (by omega) [c0, c1, c2, c3] y0 (by simpa using h0)
  obtain ⟨u, e1, i1, b1⟩ := term_of enc w sp n m (by omega) [c4, c5, c6, c7] y1 (by simpa using h1)
  obtain ⟨v, e3, i3, b3⟩ := term_of enc w sp n m (by omega) [c9, c10, c11, c12] y3 (by simpa using h3)
  obtain ⟨a, l, c, e2, hlc, hcm, hly, hb⟩ := row_of enc w sp 11 (ac11 (n + 1)) (AcIn (n + 1) w.heap.size w) (wtA (n + 1)) 157 153 Try.underlying153 cellsAct (by omega) (fun _ => rfl) n (fun m cs x hm h => act_of enc w sp n m hm cs x h) m (by omega) c8 y2 (by simpa using h2)
  subst e2
  refine ⟨((t, u, v), (a, c), l), ?_, ⟨⟨i0, i1, i3⟩, ⟨hlc, hcm⟩, hly⟩, ?_⟩
  · show _ = tm4 (n + 1) t ++ tm4 (n + 1) u ++ (.slice a l.length c :: tm4 (n + 1) v)
    rw [← e0, ← e1, ← e3]
    rfl
  · simp only [wtC, Rows.uptoBulk, Rows.uptoBulkAll, List.map_cons, List.map_nil]
    omega

set_option maxRecDepth 100000 in
set_option maxHeartbeats 1000000 in
theorem beh_of {H : Type} (enc : TypeId × Value → H) (w : World) (sp : Nat → Bool) (n m : Nat) (hm : m ≤ n) (cs : List Value) (x : DataW H × List MemPlace) (h : DataW.trod enc Try.prog w 0 sp true m 147 cs = some x) : ∃ a : Bh (n + 1), cs = bh2 (n + 1) a ∧ BhIn (n + 1) w.heap.size w a ∧ wtB (n + 1) a ≤ Rows.uptoBulk x.1 := by
  obtain ⟨xs, m, rfl, rfl, hl, hx, hg⟩ := DataW.trod_struct Try.underlying147 h
  have h0 : DataW.trod enc Try.prog w 0 sp true m 9 ((cs.drop 0).take (Try.prog.cellsOf 9)) = xs[0]? := hg 0 _ rfl
  have h1 : DataW.trod enc Try.prog w 0 sp true m 145 ((cs.drop 1).take (Try.prog.cellsOf 145)) = xs[1]? := hg 1 _ rfl
  rw [cellsString] at h0
  rw [cellsClauses] at h1
  rw [cellsBeh] at hl
  obtain ⟨c0, c1, rfl⟩ : ∃ c0 c1, cs = [c0, c1] := by
    match cs, hl with
    | [c0, c1], _ => exact ⟨c0, c1, rfl⟩
  obtain ⟨y0, y1, rfl⟩ : ∃ y0 y1, xs = [y0, y1] := by
    match xs, hx with
    | [y0, y1], _ => exact ⟨y0, y1, rfl⟩
  obtain ⟨s, e0, z0, w0⟩ := DataW.trod_string Try.underlying9 (x := y0) (by simpa using h0)
  obtain ⟨a, l, c, e1, hlc, hcm, hly, hb⟩ := row_of enc w sp 13 (cl13 (n + 1)) (ClIn (n + 1) w.heap.size w) (wtC (n + 1)) 155 145 Try.underlying145 cellsClause (by omega) (fun _ => rfl) n (fun m cs x hm h => clause_of enc w sp n m hm cs x h) m (by omega) c1 y1 (by simpa using h1)
  simp at e0
  subst e0 z0 e1
  refine ⟨(s, (a, c), l), rfl, ⟨w0, ⟨hlc, hcm⟩, hly⟩, ?_⟩
  have es : s.data.toList.length = s.size := by rw [Array.length_toList]; rfl
  simp only [wtB, Rows.uptoBulk, Rows.uptoBulkAll, List.map_cons, List.map_nil]
  omega

set_option maxRecDepth 100000 in
theorem open_prog {H : Type} {enc : TypeId × Value → H} {W : World} {r : Reach} {b0 : Nat} {v : Value} {d : DataW H} {p : List MemPlace} (hv : Value.okWide Try.prog W r b0 75 v)
    (h : DataW.Trod enc Try.prog W 0 (fun _ => true) true 75 v d p) : ∃ n, ∃ l : List (Bh (n + 1)), ∃ a c, v = .slice a l.length c ∧ l.length ≤ c ∧ c ≤ maxLen ∧ PgIn (n + 1) W.heap.size W a l ∧ (l.map (wtB (n + 1))).sum ≤ Rows.uptoBulk d := by
  obtain ⟨a, len, cap, rfl⟩ := okWide_slice Try.underlying75 hv
  obtain ⟨f, hf⟩ := h
  have hf' : DataW.trod enc Try.prog W 0 (fun _ => true) true f 75 [.slice a len cap] = some (d, p) := hf
  obtain ⟨a', l, c, e, h1, h2, h3, h4⟩ := row_of enc W (fun _ => true) 2 (bh2 (f + 1)) (BhIn (f + 1) W.heap.size W) (wtB (f + 1)) 147 75 Try.underlying75 cellsBeh (by omega) (fun _ => rfl) f (fun m cs x hm h => beh_of enc W _ f m hm cs x h) f (Nat.le_refl _) _ _ hf'
  exact ⟨f, l, a', c, e, h1, h2, h3, by simp only at h4; omega⟩
end Go.Proofs.Ytfginhifgljnmaa
namespace Go.Proofs.Ytfginhifgljnmaa
open Go.ChangeShapes Go.WideShapes Go.ChangeAt Go.RowKit

def wtW (n : Nat) (c : Wc n) : Nat := wt (n + 1) c.2 + 1
def WcIn (n : Nat) (B : Nat) (w : World) (c : Wc n) : Prop := I64 c.1.1 ∧ I2 (c.1.2.1, c.1.2.2) ∧ In B w (n + 1) c.2
theorem cellsCall : Try.prog.cellsOf 87 = 7 := by kernel_rfl
set_option maxRecDepth 100000 in
set_option maxHeartbeats 1000000 in
theorem call_of {H : Type} (enc : TypeId × Value → H) (w : World) (sp : Nat → Bool) (n m : Nat) (hm : m ≤ n) (cs : List Value) (x : DataW H × List MemPlace) (h : DataW.trod enc Try.prog w 0 sp true m 87 cs = some x) : ∃ a : Wc n, cs = wc7 n a ∧ WcIn n w.heap.size w a ∧ wtW n a ≤ Rows.uptoBulk x.1 := by
  obtain ⟨xs, m, rfl, rfl, hl, hx, hg⟩ := DataW.trod_struct Try.underlying87 h
  have h0 : DataW.trod enc Try.prog w 0 sp true m 3 ((cs.drop 0).take (Try.prog.cellsOf 3)) = xs[0]? := hg 0 _ rfl
  have h1 : DataW.trod enc Try.prog w 0 sp true m 3 ((cs.drop 1).take (Try.prog.cellsOf 3)) = xs[1]? := hg 1 _ rfl
  have h2 : DataW.trod enc Try.prog w 0 sp true m 3 ((cs.drop 2).take (Try.prog.cellsOf 3)) = xs[2]? := hg 2 _ rfl
  have h3 : DataW.trod enc Try.prog w 0 sp true m 24 ((cs.drop 3).take (Try.prog.cellsOf 24)) = xs[3]? := hg 3 _ rfl
  rw [cellsInt] at h0 h1 h2
  rw [cellsTerm] at h3
  rw [cellsCall] at hl
  obtain ⟨c0, c1, c2, c3, c4, c5, c6, rfl⟩ : ∃ c0 c1 c2 c3 c4 c5 c6, cs = [c0, c1, c2, c3, c4, c5, c6] := by
    match cs, hl with
    | [c0, c1, c2, c3, c4, c5, c6], _ => exact ⟨c0, c1, c2, c3, c4, c5, c6, rfl⟩
  obtain ⟨y0, y1, y2, y3, rfl⟩ : ∃ y0 y1 y2 y3, xs = [y0, y1, y2, y3] := by
    match xs, hx with
    | [y0, y1, y2, y3], _ => exact ⟨y0, y1, y2, y3, rfl⟩
  obtain ⟨k, e0, z0, w0⟩ := DataW.trod_int Try.underlying3 (x := y0) (by simpa using h0)
  obtain ⟨a, e1, z1, w1⟩ := DataW.trod_int Try.underlying3 (x := y1) (by simpa using h1)
  obtain ⟨b, e2, z2, w2⟩ := DataW.trod_int Try.underlying3 (x := y2) (by simpa using h2)
  obtain ⟨t, e3, i3, b3⟩ := term_of enc w sp n m (by omega) [c3, c4, c5, c6] y3 (by simpa using h3)
  simp at e0 e1 e2
  subst e0 e1 e2 z0 z1 z2
  refine ⟨((k, a, b), t), ?_, ⟨wf64 w0, ⟨wf64 w1, wf64 w2⟩, i3⟩, ?_⟩
  · show _ = .int .i64 k :: .int .i64 a :: .int .i64 b :: tm4 (n + 1) t
    rw [← e3]
  · simp only [wtW, Rows.uptoBulk, Rows.uptoBulkAll, List.map_cons, List.map_nil]
    omega
set_option maxRecDepth 100000 in
theorem open_calls {H : Type} {enc : TypeId × Value → H} {W : World} {r : Reach} {b0 : Nat} {v : Value} {d : DataW H} {p : List MemPlace} (hv : Value.okWide Try.prog W r b0 81 v)
    (h : DataW.Trod enc Try.prog W 0 (fun _ => true) true 81 v d p) : ∃ n, ∃ l : List (Wc n), ∃ a c, v = .slice a l.length c ∧ l.length ≤ c ∧ c ≤ maxLen ∧ Lay W.heap.size W 7 (wc7 n) (WcIn n W.heap.size W) a l ∧ (l.map (wtW n)).sum ≤ Rows.uptoBulk d := by
  obtain ⟨a, len, cap, rfl⟩ := okWide_slice Try.underlying81 hv
  obtain ⟨f, hf⟩ := h
  have hf' : DataW.trod enc Try.prog W 0 (fun _ => true) true f 81 [.slice a len cap] = some (d, p) := hf
  obtain ⟨a', l, c, e, h1, h2, h3, h4⟩ := row_of enc W (fun _ => true) 7 (wc7 f) (WcIn f W.heap.size W) (wtW f) 87 81 Try.underlying81 cellsCall (by omega) (fun _ => rfl) f (fun m cs x hm h => call_of enc W _ f m hm cs x h) f (Nat.le_refl _) _ _ hf'
  exact ⟨f, l, a', c, e, h1, h2, h3, by simp only at h4; omega⟩
theorem wsum_mem {n : Nat} (l : List (Wc n)) (y : Wc n) (h : y ∈ l) : wtW n y ≤ (l.map (wtW n)).sum := by
  induction l with
  | nil => cases h
  | cons z l ih =>
    simp only [List.map_cons, List.sum_cons]
    rcases List.mem_cons.1 h with rfl | h
    · omega
    · have := ih h
      omega
theorem calls_lie {n : Nat} {B : Nat} {W : World} {a : Option Addr} {l : List (Wc n)} (h : Lay B W 7 (wc7 n) (WcIn n B W) a l) (hs : (l.map (wtW n)).sum ≤ 1048576) : Wcs B W n l a := by
  rcases h with h | ⟨b, o, e, hb, h⟩
  · exact Or.inl h
  · refine Or.inr ⟨b, o, e, hb, fun i y hy => ⟨(h i y hy).1, (h i y hy).2.1, (h i y hy).2.2.1, (h i y hy).2.2.2, ?_⟩⟩
    have h1 := wsum_mem l y (List.mem_of_getElem? hy)
    have h2 := nodes_wt (n + 1) y.2
    have h3 : wt (n + 1) y.2 + 1 ≤ (l.map (wtW n)).sum := h1
    omega
end Go.Proofs.Ytfginhifgljnmaa
