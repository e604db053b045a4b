/- What is proved here: plain facts and contracts that the claimed theorem stands on, several texts in one: a plain fact: a term has at most as many terms in it as it holds terms and letters. No condition. whatever reads as a term is a tree that lies in memory, no larger than the reading's bulk; and a row over terms follows from what the call does. No condition. whatever reads as a list of calls on bonds is a row of three numbers each, in memory. No condition. a map from numbers to rows of numbers, as BondBoth keeps it; its function; slices.ContainsFunc of rows of numbers; Rest. No condition but that all lies in memory. plain facts for BondBoth: the small example, and bonds in memory behind calls. No condition. -/
import Derived.Test.YtdfpjpmdldigdabG01
import Derived.ProofKit
import Derived.OpenShut
import Derived.JoinedCond
import Derived.Test.YtdfpjpmdldigdabG06
namespace Go.Proofs.Ytdfpjpmdldigdab

/-- How much a term holds: its terms, and the letters of their names. -/
def wt : (n : Nat) → Tm n → Nat
  | 0, _ => 1
  | n + 1, x => 1 + x.1.2.2.size + (x.2.2.map fun y => wt n y).sum

theorem nodes_wt : (n : Nat) → (x : Tm n) → (nodes n x).length ≤ wt n x
  | 0, _ => by simp [nodes, wt]
  | n + 1, x => by
    have key : ∀ l : List (Tm n), (l.flatMap fun y => nodes n y).length ≤ (l.map fun y => wt n y).sum := by
      intro l
      induction l with
      | nil => simp
      | cons y l ih =>
        have := nodes_wt n y
        simp only [List.flatMap_cons, List.length_append, List.map_cons, List.sum_cons]
        omega
    have := key x.2.2
    simp only [nodes, wt, List.length_cons]
    omega
end Go.Proofs.Ytdfpjpmdldigdab
namespace Go.Proofs.Ytdfpjpmdldigdab
open Go.ChangeShapes Go.WideShapes Go.ChangeAt Go.RowKit

theorem own : ownKnob Try.prog.godebug = none := by kernel_rfl
theorem laidOut : laidOutB Try.prog = true := by kernel_rfl
theorem cellsTerm : Try.prog.cellsOf 24 = 4 := by kernel_rfl
theorem cellsInt : Try.prog.cellsOf 3 = 1 := by kernel_rfl
theorem cellsString : Try.prog.cellsOf 9 = 1 := by kernel_rfl
theorem cellsTerms : Try.prog.cellsOf 22 = 1 := by kernel_rfl

theorem list_of {α : Type} {P : Nat → α → Prop} : (len : Nat) → (∀ i, i < len → ∃ y, P i y) → ∃ l : List α, l.length = len ∧ ∀ i y, l[i]? = some y → P i y
  | 0, _ => ⟨[], rfl, fun i y h => by simp at h⟩
  | len + 1, h => by
    obtain ⟨l, hl, hp⟩ := list_of len (fun i hi => h i (by omega))
    obtain ⟨z, hz⟩ := h len (by omega)
    refine ⟨l ++ [z], by simp [hl], fun i y hy => ?_⟩
    by_cases hi : i < l.length
    · rw [List.getElem?_append_left hi] at hy
      exact hp i y hy
    · rw [List.getElem?_append_right (by omega)] at hy
      have h0 : i - l.length = 0 := by
        by_cases h0 : i - l.length = 0
        · exact h0
        · rw [List.getElem?_eq_none (by simp; omega)] at hy; cases hy
      rw [h0] at hy
      have e1 : z = y := by simpa using hy
      have e2 : i = len := by omega
      rw [e2, ← e1]
      exact hz

theorem wt_le {H : Type} {n : Nat} : (p : List (Tm n)) → (es : List (DataW H)) → (∀ (i : Nat) (y : Tm n) (e : DataW H), p[i]? = some y → es[i]? = some e → wt n y ≤ Rows.uptoBulk e) → p.length = es.length → (p.map fun y => wt n y).sum ≤ Rows.uptoBulkAll es
  | [], es, _, h => by simp
  | y :: p, [], _, h => by simp at h
  | y :: p, e :: es, hp, h => by
    have h0 := hp 0 y e (by simp) (by simp)
    have h1 := wt_le p es (fun i y' e' hy he => hp (i + 1) y' e' (by simpa using hy) (by simpa using he)) (by simpa using h)
    simp only [List.map_cons, List.sum_cons, Rows.uptoBulkAll]
    omega

theorem add_add (b o i j : Nat) : ((⟨b, o, none⟩ : Addr).add i).add j = ⟨b, o + i + j, none⟩ := by
  unfold Addr.add
  split <;> split <;> simp_all
theorem spot_none {w : World} {a : Addr} {v : Value} (h : w.cell? ((a.add 0).add 0) = some v) : a = ⟨a.block, a.off, none⟩ := by
  have e : (a.add 0).add 0 = a := rfl
  rw [e] at h
  unfold World.cell? at h
  split at h
  · split at h
    · cases h
    · rename_i hs
      cases a with
      | mk b o s => cases s with
        | none => rfl
        | some q => simp at hs
  · cases h

theorem wf64 {k : Int} (h : (Lit.int .i64 k).wf = true) : I64 k := by
  have : -9223372036854775808 ≤ k ∧ k ≤ 9223372036854775807 := by simpa [Lit.wf, IntKind.min, IntKind.max, IntKind.signed, IntKind.bits] using h
  exact this

set_option maxRecDepth 100000 in
theorem tree_of {H : Type} (enc : TypeId × Value → H) (w : World) (sp : Nat → Bool) : (n f : Nat) → f ≤ 2 * n + 1 → (cs : List Value) → (x : DataW H × List MemPlace) →
    DataW.trod enc Try.prog w 0 sp true f 24 cs = some x →
    ∃ t : Tm (n + 1), cs = [.int .i64 t.1.1, .int .i64 t.1.2.1, .string t.1.2.2, .slice t.2.1.1 t.2.2.length t.2.1.2] ∧ In w.heap.size w (n + 1) t ∧ wt (n + 1) t ≤ Rows.uptoBulk x.1 := by
  intro n
  induction n with
  | zero =>
    intro f hf cs x h
    obtain ⟨xs, m, rfl, rfl, hl, hx, hg⟩ := DataW.trod_struct Try.underlying24 h
    have h0 : DataW.trod enc Try.prog w 0 sp true m 3 ((cs.drop 0).take (Try.prog.cellsOf 3)) = xs[0]? := hg 0 _ rfl
    obtain rfl : m = 0 := by omega
    have hx' : xs.length = 4 := hx
    rw [List.getElem?_eq_getElem (by omega)] at h0
    cases h0
  | succ n ih =>
    intro f hf cs x h
    obtain ⟨xs, m, rfl, rfl, hl, hx, hg⟩ := DataW.trod_struct Try.underlying24 h
    have h0 : DataW.trod enc Try.prog w 0 sp true m 3 ((cs.drop 0).take (Try.prog.cellsOf 3)) = xs[0]? := hg 0 _ rfl
    have h1 : DataW.trod enc Try.prog w 0 sp true m 3 ((cs.drop 1).take (Try.prog.cellsOf 3)) = xs[1]? := hg 1 _ rfl
    have h2 : DataW.trod enc Try.prog w 0 sp true m 9 ((cs.drop 2).take (Try.prog.cellsOf 9)) = xs[2]? := hg 2 _ rfl
    have h3 : DataW.trod enc Try.prog w 0 sp true m 22 ((cs.drop 3).take (Try.prog.cellsOf 22)) = xs[3]? := hg 3 _ rfl
    rw [cellsInt] at h0 h1
    rw [cellsString] at h2
    rw [cellsTerms] at h3
    rw [cellsTerm] at hl
    obtain ⟨c0, c1, c2, c3, rfl⟩ : ∃ c0 c1 c2 c3, cs = [c0, c1, c2, c3] := by
      match cs, hl with
      | [c0, c1, c2, c3], _ => exact ⟨c0, c1, c2, c3, rfl⟩
    obtain ⟨y0, y1, y2, y3, rfl⟩ : ∃ y0 y1 y2 y3, xs = [y0, y1, y2, y3] := by
      match xs, hx with
      | [y0, y1, y2, y3], _ => exact ⟨y0, y1, y2, y3, rfl⟩
    obtain ⟨k, e0, z0, w0⟩ := DataW.trod_int Try.underlying3 (x := y0) (by simpa using h0)
    obtain ⟨u, e1, z1, w1⟩ := DataW.trod_int Try.underlying3 (x := y1) (by simpa using h1)
    obtain ⟨s, e2, z2, w2⟩ := DataW.trod_string Try.underlying9 (x := y2) (by simpa using h2)
    have h3' : DataW.trod enc Try.prog w 0 sp true m 22 [c3] = some y3 := by simpa using h3
    simp at e0 e1 e2
    subst e0 e1 e2 z0 z1 z2
    rcases DataW.trod_slice Try.underlying22 h3' with ⟨e3, rfl⟩ | ⟨a, len, cap, elems, rest, m', rfl, e3, rfl, _, hlc, hcm, hel, hat, _, _⟩
    · simp at e3
      subst e3
      refine ⟨((k, u, s), (none, 0), []), rfl, ⟨⟨wf64 w0, wf64 w1, w2, Nat.le_refl _, Nat.zero_le _⟩, Or.inl rfl⟩, ?_⟩
      have es : s.data.toList.length = s.size := by rw [Array.length_toList]; rfl
      simp only [wt, Rows.uptoBulk, Rows.uptoBulkAll, List.map_cons, List.map_nil, List.sum_nil]
      omega
    · simp at e3
      subst e3
      simp only [cellsTerm] at hat
      have key : ∀ i, i < len → ∃ t : Tm (n + 1), (∃ b o, a = ⟨b, o, none⟩ ∧ b < w.heap.size ∧ Held w b (o + i * 4) (n + 1) t) ∧ In w.heap.size w (n + 1) t ∧ ∀ e, (elems.map (·.1))[i]? = some e → wt (n + 1) t ≤ Rows.uptoBulk e := by
        intro i hi
        have hi' := hat i hi
        have hi0 := hat 0 (by omega)
        rw [List.getElem?_eq_getElem (by omega)] at hi' hi0
        obtain ⟨cs', hcs, htr⟩ := Option.bind_eq_some_iff.1 hi'
        obtain ⟨cs0, hcs0, htr0⟩ := Option.bind_eq_some_iff.1 hi0
        obtain ⟨_, hlen, hcell⟩ := World.cells?_some hcs
        obtain ⟨_, hlen0, hcell0⟩ := World.cells?_some hcs0
        obtain ⟨t, rfl, hin, hb⟩ := ih m' (by omega) cs' _ htr
        have ha := spot_none (w := w) (a := a) (v := cs0[0]'(by omega)) (by have := hcell0 0 (by omega); rw [List.getElem?_eq_getElem (by omega)] at this; simpa using this)
        have hadd : ∀ j, (a.add (i * 4)).add j = ⟨a.block, a.off + i * 4 + j, none⟩ := fun j => by
          have := add_add a.block a.off (i * 4) j
          rw [← ha] at this
          exact this
        have c0 := hcell 0 (by omega)
        have c1 := hcell 1 (by omega)
        have c2 := hcell 2 (by omega)
        have c3 := hcell 3 (by omega)
        rw [hadd] at c0 c1 c2 c3
        simp at c0 c1 c2 c3
        refine ⟨t, ⟨a.block, a.off, ha, World.block_lt_of_cell? w ⟨a.block, a.off + i * 4, none⟩ c0, c0, c1, c2, c3⟩, hin, fun e he => ?_⟩
        rw [List.getElem?_map, List.getElem?_eq_getElem (by omega)] at he
        have : (elems[i]).1 = e := by simpa using he
        rw [← this]
        exact hb
      obtain ⟨p, hpl, hp⟩ := list_of len key
      refine ⟨((k, u, s), (some a, cap), p), by simp [hpl], ⟨⟨wf64 w0, wf64 w1, w2, by simp only; omega, hcm⟩, ?_⟩, ?_⟩
      · rcases Nat.eq_zero_or_pos len with h | h
        · exact Or.inl (List.eq_nil_of_length_eq_zero (hpl.trans h))
        · obtain ⟨⟨b, o, rfl, hb, _⟩, _, _⟩ := hp 0 (p[0]'(by rw [hpl]; exact h)) (List.getElem?_eq_getElem (by rw [hpl]; exact h))
          refine Or.inr ⟨b, o, rfl, hb, fun i y hy => ?_⟩
          obtain ⟨⟨b', o', e, _, hh⟩, hin, _⟩ := hp i y hy
          simp at e
          obtain ⟨rfl, rfl⟩ := e
          exact ⟨hh, hin⟩
      · have hs := wt_le p (elems.map (·.1)) (fun i y e hy he => (hp i y hy).2.2 e he) (by simp; omega)
        have es : s.data.toList.length = s.size := by rw [Array.length_toList]; rfl
        simp only [wt, Rows.uptoBulk, Rows.uptoBulkAll, List.map_cons, List.map_nil] at hs ⊢
        omega

set_option maxRecDepth 100000 in
theorem open_term {H : Type} {enc : TypeId × Value → H} {W : World} {r : Reach} {b0 : Nat} {v : Value} {d : DataW H} {p : List MemPlace} (hv : Value.okWide Try.prog W r b0 24 v)
    (h : DataW.Trod enc Try.prog W 0 (fun _ => true) true 24 v d p) : ∃ n, ∃ t : Tm (n + 1), v = val (n + 1) t ∧ In W.heap.size W (n + 1) t ∧ wt (n + 1) t ≤ Rows.uptoBulk d := by
  obtain ⟨cs, rfl, _⟩ := okWide_struct Try.underlying24 hv
  obtain ⟨f, hf⟩ := h
  obtain ⟨t, e, hin, hb⟩ := tree_of enc W (fun _ => true) f f (by omega) _ _ hf
  refine ⟨f, t, ?_, hin, hb⟩
  have : cs = #[.int .i64 t.1.1, .int .i64 t.1.2.1, .string t.1.2.2, .slice t.2.1.1 t.2.2.length t.2.1.2] := by
    simp [Value.cells] at e
    exact Array.toList_inj.1 e
  rw [this]
  rfl
end Go.Proofs.Ytdfpjpmdldigdab
namespace Go.Proofs.Ytdfpjpmdldigdab
open Go.ChangeShapes Go.WideShapes Go.ChangeAt Go.RowKit

/-- Calls on bonds: kind, x and y. -/
def b3 (c : Int × Int × Int) : List Value := [.int .i64 c.1, .int .i64 c.2.1, .int .i64 c.2.2]
def BcIn (c : Int × Int × Int) : Prop := I64 c.1 ∧ I64 c.2.1 ∧ I64 c.2.2
def Bcs (B : Nat) (w : World) (a : Option Addr) (l : List (Int × Int × Int)) : Prop :=
  l = [] ∨ ∃ b o, a = some ⟨b, o, none⟩ ∧ b < B ∧ ∀ (i : Nat) (y : Int × Int × Int), l[i]? = some y → (∀ (j : Nat) (u : Value), (b3 y)[j]? = some u → w.cell? ⟨b, o + i * 3 + j, none⟩ = some u) ∧ BcIn y
theorem cellsBC : Try.prog.cellsOf 107 = 3 := by kernel_rfl
set_option maxRecDepth 100000 in
theorem bcall_of {H : Type} (enc : TypeId × Value → H) (w : World) (sp : Nat → Bool) (m : Nat) (cs : List Value) (x : DataW H × List MemPlace) (h : DataW.trod enc Try.prog w 0 sp true m 107 cs = some x) : ∃ a : Int × Int × Int, cs = b3 a ∧ BcIn a := by
  obtain ⟨xs, m, rfl, rfl, hl, hx, hg⟩ := DataW.trod_struct Try.underlying107 h
  have h0 : DataW.trod enc Try.prog w 0 sp true m 3 ((cs.drop 0).take (Try.prog.cellsOf 3)) = xs[0]? := hg 0 _ rfl
  have h1 : DataW.trod enc Try.prog w 0 sp true m 3 ((cs.drop 1).take (Try.prog.cellsOf 3)) = xs[1]? := hg 1 _ rfl
  have h2 : DataW.trod enc Try.prog w 0 sp true m 3 ((cs.drop 2).take (Try.prog.cellsOf 3)) = xs[2]? := hg 2 _ rfl
  rw [cellsInt] at h0 h1 h2
  rw [cellsBC] at hl
  obtain ⟨c0, c1, c2, rfl⟩ : ∃ c0 c1 c2, cs = [c0, c1, c2] := by
    match cs, hl with
    | [c0, c1, c2], _ => exact ⟨c0, c1, c2, rfl⟩
  obtain ⟨y0, y1, y2, rfl⟩ : ∃ y0 y1 y2, xs = [y0, y1, y2] := by
    match xs, hx with
    | [y0, y1, y2], _ => exact ⟨y0, y1, y2, rfl⟩
  obtain ⟨k, e0, z0, w0⟩ := DataW.trod_int Try.underlying3 (x := y0) (by simpa using h0)
  obtain ⟨a, e1, z1, w1⟩ := DataW.trod_int Try.underlying3 (x := y1) (by simpa using h1)
  obtain ⟨b, e2, z2, w2⟩ := DataW.trod_int Try.underlying3 (x := y2) (by simpa using h2)
  simp at e0 e1 e2
  subst e0 e1 e2 z0 z1 z2
  exact ⟨(k, a, b), rfl, wf64 w0, wf64 w1, wf64 w2⟩
set_option maxRecDepth 100000 in
theorem open_bcalls {H : Type} {enc : TypeId × Value → H} {w : World} {r : Reach} {b0 : Nat} {v : Value} {d : DataW H} {p : List MemPlace} (hv : Value.okWide Try.prog w r b0 99 v)
    (h : DataW.Trod enc Try.prog w 0 (fun _ => true) true 99 v d p) : ∃ l : List (Int × Int × Int), ∃ a c, v = .slice a l.length c ∧ l.length ≤ c ∧ c ≤ maxLen ∧ Bcs w.heap.size w a l := by
  obtain ⟨a, len, cap, rfl⟩ := okWide_slice Try.underlying99 hv
  obtain ⟨f, hf⟩ := h
  have hf' : DataW.trod enc Try.prog w 0 (fun _ => true) true f 99 [.slice a len cap] = some (d, p) := hf
  rcases DataW.trod_slice Try.underlying99 hf' with ⟨e, e2⟩ | ⟨a, len, cap, elems, rest, m', rfl, e, e2, _, hlc, hcm, hel, hat, _, _⟩
  · simp at e e2
    obtain ⟨rfl, rfl, rfl⟩ := e
    exact ⟨[], none, 0, rfl, Nat.le_refl _, Nat.zero_le _, Or.inl rfl⟩
  · simp at e e2
    obtain ⟨rfl, rfl, rfl⟩ := e
    simp only [cellsBC] at hat
    have key : ∀ i, i < len → ∃ y : Int × Int × Int, (∃ b o, a = ⟨b, o, none⟩ ∧ b < w.heap.size ∧ ∀ (j : Nat) (u : Value), (b3 y)[j]? = some u → w.cell? ⟨b, o + i * 3 + j, none⟩ = some u) ∧ BcIn y := by
      intro i hi
      have hi' := hat i hi
      have hi0 := hat 0 (by omega)
      rw [List.getElem?_eq_getElem (by omega)] at hi' hi0
      obtain ⟨cs', hcs, htr⟩ := Option.bind_eq_some_iff.1 hi'
      obtain ⟨cs0, hcs0, htr0⟩ := Option.bind_eq_some_iff.1 hi0
      obtain ⟨_, hl', hcell⟩ := World.cells?_some hcs
      obtain ⟨_, hl0, hcell0⟩ := World.cells?_some hcs0
      obtain ⟨y, rfl, hin⟩ := bcall_of enc w _ m' cs' _ htr
      have ha := spot_none (w := w) (a := a) (v := cs0[0]'(by omega)) (by have := hcell0 0 (by omega); rw [List.getElem?_eq_getElem (by omega)] at this; simpa using this)
      have hadd : ∀ j, (a.add (i * 3)).add j = ⟨a.block, a.off + i * 3 + j, none⟩ := fun j => by
        have := add_add a.block a.off (i * 3) j
        rw [← ha] at this
        exact this
      have hc : ∀ (j : Nat) (u : Value), (b3 y)[j]? = some u → w.cell? ⟨a.block, a.off + i * 3 + j, none⟩ = some u := fun j u hj => by
        have hjl := (List.getElem?_eq_some_iff.1 hj).1
        have := hcell j (by simpa [b3] using hjl)
        rw [hadd, hj] at this
        exact this
      exact ⟨y, ⟨a.block, a.off, ha, World.block_lt_of_cell? w ⟨a.block, a.off + i * 3 + 0, none⟩ (hc 0 _ rfl), hc⟩, hin⟩
    obtain ⟨l, hpl, hp⟩ := list_of len key
    refine ⟨l, some a, cap, by rw [hpl], by omega, hcm, ?_⟩
    rcases Nat.eq_zero_or_pos len with h | h
    · exact Or.inl (List.eq_nil_of_length_eq_zero (hpl.trans h))
    · obtain ⟨⟨b, o, rfl, hb, _⟩, _⟩ := hp 0 (l[0]'(by rw [hpl]; exact h)) (List.getElem?_eq_getElem (by rw [hpl]; exact h))
      refine Or.inr ⟨b, o, rfl, hb, fun i y hy => ?_⟩
      obtain ⟨⟨b', o', e, _, hh⟩, hin⟩ := hp i y hy
      simp at e
      obtain ⟨rfl, rfl⟩ := e
      exact ⟨hh, hin⟩
end Go.Proofs.Ytdfpjpmdldigdab
namespace Go.Proofs.Ytdfpjpmdldigdab
open Go.RowKit Go.Maps

theorem nkeyLaw : Keyed Try.prog 3 := int_keyed Try.underlying3
theorem nkey {k : Int} (h : I64 k) : keyOf Try.prog 3 (.int .i64 k) = some (.int .i64 k) := keyOf_int_mk Try.underlying3 (wf_of h)
/-- Block wb holds the map wm: at each of the numbers from 1 to i, a row of whom it is with. -/
structure WiAt (w : World) (wb wm n : Nat) (g : Int × Int → Bool) (i : Nat) (sl : Int → Value) (W : World) : Prop where
  box : W.heap[wb]? = some (.cells #[.map (some wm)] 108 (0, 0))
  map : ∃ D : DataW Value, W.ownsMap Try.prog 3 rawE wm n D ∧ ∀ k : Int, 1 ≤ k → k ≤ i → D.atKey (.int .i64 k) (.held nilS) = .held (sl k)
  row : ∀ k : Int, 1 ≤ k → k ≤ i → NRow w.heap.size (sl k) (ofL g k) W
variable {w : World} {wb wm n : Nat} {g : Int × Int → Bool} {i : Nat} {sl : Int → Value} {W W' : World}
theorem WiAt.lt (h : WiAt w wb wm n g i sl W) : wb < W.heap.size ∧ wm < W.heap.size := by
  obtain ⟨D, hD, _⟩ := h.map
  exact ⟨(Array.getElem?_eq_some_iff.1 h.box).1, hD.lt⟩
theorem WiAt.kee {S : Nat → Prop} (h : WiAt w wb wm n g i sl W) (k : Kee S W W') (h1 : ¬ S wm) (h2 : ∀ b cs t, W.heap[b]? = some (.cells cs t (0, 0)) → ¬ S b) : WiAt w wb wm n g i sl W' := by
  refine ⟨(k.block wb h.lt.1 (h2 _ _ _ h.box)).trans h.box, ?_, fun j hj1 hj2 => row_kee (h.row j hj1 hj2) k fun b hb => ?_⟩
  · obtain ⟨D, hD, hk⟩ := h.map
    have hlt := hD.lt
    obtain ⟨es, clock, hb, hr⟩ := hD
    exact ⟨D, ⟨es, clock, (k.block wm hlt h1).trans hb, hr⟩, hk⟩
  · obtain ⟨cur, hc⟩ := own_cells (h.row j hj1 hj2) b hb
    exact h2 _ _ _ hc
theorem WiAt.later (h : WiAt w wb wm n g i sl W) (k : Below W.heap.size W W') : WiAt w wb wm n g i sl W' := h.kee (kee_below k fun _ => False) id fun _ _ _ _ h => h
/-- What changes bonds' map alone leaves it. -/
theorem WiAt.bond {base bp m : Nat} {mo : Option Nat} {g' : Int × Int → Bool} (h : WiAt w wb wm n g i sl W) (b : BdAt base bp mo m g' W) (hne : mo ≠ some wm) (k : Kee (fun b => mo = some b) W W') : WiAt w wb wm n g i sl W' := by
  refine h.kee k hne fun q cs t hq e => ?_
  rcases b.2.2 with ⟨e', _⟩ | ⟨mb, e', hs⟩
  · rw [e'] at e
    cases e
  · rw [e'] at e
    injection e with e
    subst e
    obtain ⟨D, ⟨es, clock, hb, _⟩, _⟩ := hs.map
    rw [hb] at hq
    cases hq
theorem WiAt.cell (h : WiAt w wb wm n g i sl W) : W.cell? ⟨wb, 0, none⟩ = some (.map (some wm)) := cell_row h.box 0
set_option maxRecDepth 100000 in
theorem zeroInts (w : World) : (zeroValue 54).run Try.prog w = .ok (.slice none 0 0) w := by kernel_rfl
set_option maxRecDepth 100000 in
theorem WiAt.look (h : WiAt w wb wm n g i sl W) {k : Int} (h1 : 1 ≤ k) (h2 : k ≤ i) (hi : i ≤ 1000) : (Instr.lookup 108 (.map (some wm)) (.int .i64 k) false).run Try.prog W = .ok (sl k) W := by
  obtain ⟨D, hD, hk⟩ := h.map
  obtain ⟨v, ps, hrun, hv⟩ := hD.lookup nkeyLaw Try.underlying108 (zeroInts W) (zd := .held nilS) (zp := []) rfl (nkey (k := k) (by unfold I64; omega))
  rw [hk k h1 h2] at hv
  have e := rawE_inv hv
  injection e with e
  rw [hrun, e]
def updI (f : Int → Value) (k : Int) (x : Value) : Int → Value := fun j => if j = k then x else f j
theorem WiAt.put (h : WiAt w wb wm n g i sl W) (hi : i ≤ 1000) (hn : n < 1000000) {v : Value} (hv : NRow w.heap.size v (ofL g ((i : Int) + 1)) W) :
    ∃ w2, (Instr.mapUpdate 108 (.map (some wm)) (.int .i64 ((i : Int) + 1)) v).run Try.prog W = .ok () w2 ∧ WiAt w wb wm (n + 1) g (i + 1) (updI sl ((i : Int) + 1) v) w2 ∧ Kee (fun b => b = wm) W w2 := by
  obtain ⟨D, hD, hk⟩ := h.map
  obtain ⟨w2, hrun, hown, ht⟩ := hD.store (d := .held v) (ps := []) nkeyLaw Try.underlying108 (by unfold maxLen; omega) (nkey (k := (i : Int) + 1) (by unfold I64; omega)) rfl
  obtain ⟨hkk, hsz⟩ := turned_kee ht
  have hcell : ∀ b cs t, W.heap[b]? = some (.cells cs t (0, 0)) → b ≠ wm := fun b cs t hb e => by
    obtain ⟨es, clock, hm, _⟩ := hD
    rw [e, hm] at hb
    cases hb
  refine ⟨w2, hrun, ⟨(hkk.block wb h.lt.1 (hcell _ _ _ h.box)).trans h.box, ⟨_, hown, fun j hj1 hj2 => ?_⟩, fun j hj1 hj2 => ?_⟩, hkk⟩
  · unfold updI
    by_cases e : j = (i : Int) + 1
    · rw [if_pos e, e, atKey_put_same hD.isMap (nkeyLaw.key (nkey (k := (i : Int) + 1) (by unfold I64; omega)))]
    · rw [if_neg e, atKey_put_other fun e' => e (by injection e')]
      exact hk j hj1 (by omega)
  · unfold updI
    by_cases e : j = (i : Int) + 1
    · rw [if_pos e, e]
      refine row_kee hv hkk fun b hb => ?_
      obtain ⟨cur, hc⟩ := own_cells hv b hb
      exact hcell _ _ _ hc
    · rw [if_neg e]
      refine row_kee (h.row j hj1 (by omega)) hkk fun b hb => ?_
      obtain ⟨cur, hc⟩ := own_cells (h.row j hj1 (by omega)) b hb
      exact hcell _ _ _ hc
theorem WiAt.start (w : World) {W : World} (g : Int × Int → Bool) : WiAt w (W.heap.size + 1) W.heap.size 0 g 0 (fun _ => nilS) ((W.alloc (.map #[] 0)).alloc (.cells #[.map (some W.heap.size)] 108)) := by
  refine ⟨?_, ⟨.map [], (World.ownsMap_made W _ _ _).alloc _, fun k h1 h2 => by omega⟩, fun k h1 h2 => by omega⟩
  have h := heap_alloc_new (W.alloc (.map #[] 0)) (.cells #[.map (some W.heap.size)] 108)
  rw [World.size_alloc] at h
  exact h
set_option maxRecDepth 100000 in
set_option maxHeartbeats 1000000 in
theorem both1_walk (k y : Int) (wb wm yb : Nat) (s : Value) (t : Bool) (W : World) (c0 : W.cell? ⟨wb, 0, none⟩ = some (.map (some wm))) (c1 : W.cell? ⟨yb, 0, none⟩ = some (.int .i64 y))
    (hl : (Instr.lookup 108 (.map (some wm)) (.int .i64 k) false).run Try.prog W = .ok s W) (HC : Hid (Calls Try.prog 42 #[s, .int .i64 y] W fun e w' => e = .returned (.bool t) ∧ w' = W)) :
    Calls Try.prog 58 #[.int .i64 k, .pointer (some ⟨wb, 0, none⟩), .pointer (some ⟨yb, 0, none⟩)] W fun e w' => e = .returned (.bool t) ∧ w' = W := by
  go_enter Try.func58, Try.ntmps58
  go_wp2_with fail
  refine HC.out.mono ?_
  rintro e w1 ⟨rfl, rfl⟩
  go_wp2_with fail
  go_ret
  exact ⟨rfl, rfl⟩
set_option maxRecDepth 100000 in
set_option maxHeartbeats 2000000 in
theorem indexf_walk (P : Int → Bool) (wb yb : Nat) (a : Option Addr) (c : Nat) (l : List Int) (L : Nat) (w : World) (hl : L ≤ 1000000) (HL : Hid (l.length = L)) (HC : Hid (∀ (i : Nat) (k : Int), l[i]? = some k → ∃ g o, a = some ⟨g, o, none⟩ ∧ w.cell? ⟨g, o + i, none⟩ = some (.int .i64 k)))
    (HF : Hid (∀ k ∈ l, Calls Try.prog 58 #[.int .i64 k, .pointer (some ⟨wb, 0, none⟩), .pointer (some ⟨yb, 0, none⟩)] w fun e w' => e = .returned (.bool (P k)) ∧ w' = w)) :
    Calls Try.prog 104 #[.slice a L c, .func (.func 58) #[] #[.pointer (some ⟨wb, 0, none⟩), .pointer (some ⟨yb, 0, none⟩)]] w fun e w' => ∃ r : Int, e = .returned (.int .i64 r) ∧ w' = w ∧ Hid (decide (0 ≤ r) = l.any P) := by
  go_enter Try.func104, Try.ntmps104
  go_wp2_with fail
  go_loopw [8] (fun i wr => ∃ j : Nat, j ≤ L ∧ i = .int .i64 j ∧ wr = w ∧ Hid ((l.take j).any P = false)) (fun i _ => L - (intOf i).toNat)
  case atStart => exact ⟨0, Nat.zero_le _, rfl, rfl, by simp [Hid]⟩
  case round =>
    obtain ⟨j, hj, rfl, rfl, HN⟩ := hrel
    by_cases hjl : j < L
    · obtain ⟨k, hk⟩ : ∃ k, l[j]? = some k := ⟨l[j]'(by rw [HL.out]; exact hjl), List.getElem?_eq_getElem _⟩
      obtain ⟨g, o, rfl, hc⟩ := HC.out j k hk
      have HK := hide hk
      have HFK := hide (HF.out k (List.mem_of_getElem? hk))
      clear hk
      have j1 : (0 : Int) ≤ (j : Int) := by omega
      have j2 : (j : Int) < (L : Int) := by omega
      obtain ⟨t, ht⟩ : ∃ t, t = P k := ⟨_, rfl⟩
      rw [← ht] at HFK
      have HT := hide ht
      clear ht
      go_wp2_with fail
      refine HFK.out.mono ?_
      rintro e w1 ⟨rfl, rfl⟩
      cases t
      · have HE : Hid ((l.take (j + 1)).any P = false) := by
          rw [List.take_add_one, HK.out, List.any_append, HN.out]
          exact (show (false || [k].any P) = false by simp [← HT.out])
        go_wp2_with fail
        go_roundw
        case rel => exact ⟨j + 1, by omega, by go_num, trivial, HE.out⟩
        case measure => simp [intOf]; omega
      · have HE : Hid (l.any P = true) := List.any_eq_true.2 ⟨k, List.mem_of_getElem? HK.out, HT.out.symm⟩
        go_wp2_with fail
        go_ret
        exact ⟨(j : Int), rfl, rfl, by rw [HE.out]; simp [Hid]⟩
    · obtain rfl : j = L := by omega
      have HE : Hid (l.any P = false) := by
        have h := HN.out
        rw [List.take_of_length_le (by rw [HL.out]; exact Nat.le_refl _)] at h
        exact h
      go_wp2_with fail
      go_ret
      exact ⟨-1, rfl, rfl, by rw [HE.out]; simp [Hid]⟩
set_option maxRecDepth 100000 in
set_option maxHeartbeats 1000000 in
theorem containsf_walk (v fv : Value) (t : Bool) (w : World) (HI : Hid (Calls Try.prog 104 #[v, fv] w fun e w' => ∃ r : Int, e = .returned (.int .i64 r) ∧ w' = w ∧ Hid (decide (0 ≤ r) = t))) :
    Calls Try.prog 57 #[v, fv] w fun e w' => e = .returned (.bool t) ∧ w' = w := by
  go_enter Try.func57, Try.ntmps57
  go_wp2_with fail
  refine HI.out.mono ?_
  rintro e w1 ⟨r, rfl, rfl, HR⟩
  go_wp2_with fail
  go_ret
  exact ⟨ret_bool (by rw [← HR.out]), rfl⟩
theorem containsf_any {v : Value} {l : List Int} (h : IRow v l W) (hl : l.length ≤ 1000000) (hw : WiAt w wb wm n g i sl W) (hi : i ≤ 1000) (hr : ∀ k ∈ l, 1 ≤ k ∧ k ≤ i) {yb : Nat} {y : Int} (hy : W.cell? ⟨yb, 0, none⟩ = some (.int .i64 y)) :
    Calls Try.prog 57 #[v, .func (.func 58) #[] #[.pointer (some ⟨wb, 0, none⟩), .pointer (some ⟨yb, 0, none⟩)]] W fun e w' => e = .returned (.bool (l.any fun k => (ofL g k).contains y)) ∧ w' = W := by
  obtain ⟨a, c, e, hc⟩ := h.cells
  rw [e]
  refine containsf_walk _ _ _ W (indexf_walk _ wb yb a c l l.length W hl rfl hc fun k hk => ?_)
  have hk2 := hr k hk
  exact both1_walk k y wb wm yb (sl k) _ W hw.cell hy (hw.look hk2.1 hk2.2 hi) (icontains_any (hw.row k hk2.1 hk2.2).row (by have := ofL_length g k; omega) y)
set_option maxHeartbeats 1000000 in
theorem brest_any (n m : Int) (hm : 0 < m) (hm2 : m ≤ 1000000) (w : World) : Calls Try.prog 20 #[.int .i64 n, .int .i64 m] w fun e w' => ∃ r, e = .returned (.int .i64 r) ∧ 0 ≤ r ∧ r < m ∧ w' = w := by
  have hne : ¬ m = 0 := by omega
  have h1 : n.tmod m < m := Int.tmod_lt_of_pos n hm
  have h2 : -m < n.tmod m := by
    have := Int.lt_tmod_of_pos n hm
    omega
  go_enter Try.func20, Try.ntmps20
  by_cases h3 : n.tmod m < 0
  · have b3 : decide (n.tmod m < 0) = true := by simpa using h3
    have e : wrap64 (n.tmod m + m) = n.tmod m + m := by unfold wrap64; omega
    go_wp2_with fail
    go_ret
    exact ⟨_, rfl, by omega, by omega, rfl⟩
  · have b3 : decide (n.tmod m < 0) = false := by simpa using h3
    go_wp2_with fail
    go_ret
    exact ⟨_, rfl, by omega, by omega, rfl⟩
theorem wpList_append_nt {w w' : World} {v x' v' : Value} {ops : Array Oper} {rest : List Oper} {o : Oper} {a : Act} {Q : Exit → Act → World → Prop} (T : TypeId) (hgd : o.guard = none) (s x : Operand) (ho : o.op = .call { callee := .builtin .append, args := #[s, x], argTypes := #[T, T] })
    (hs : a.eval s = v) (hx : a.eval x = x') (hr : (Builtin.append_ #[T, T] o.type #[v, x']).run Try.prog w = .ok v' w') (hK : wpList Try.prog ops Q rest (a.put o.dst v') w') : wpList Try.prog ops Q (o :: rest) a w := by
  refine wpList_plain hgd fun K' hK' => ?_
  unfold Oper.wp execOp
  simp only [ho, resolve, invoke, builtin, Sem.run_bind, Sem.run_pure, Result.andThen_ok, List.map_toArray, List.map_cons, List.map_nil, hs, hx, hr]
  exact hK' _ _ hK
end Go.Proofs.Ytdfpjpmdldigdab
namespace Go.Proofs.Ytdfpjpmdldigdab
open Go.RowKit Go.Maps

/-- The example: 1 with 2, 2 with 3. -/
def gS : Int × Int → Bool := upd (upd (fun _ => false) (prN 1 2) true) (prN 2 3) true
theorem okS : OKg gS := (OKg.link (g := fun _ => false) (fun _ h => (by cases h)) (x := 1) (y := 2) (by decide) (by decide) (by decide)).link (by decide) (by decide) (by decide)
theorem toldS2 : toldR gS 1 2 = [2, 3] := by decide +kernel
theorem toldS : toldL gS 1 = [2, 3] := by rw [← toldR_end okS (i := 2) (by rw [toldS2]; decide), toldS2]
theorem woS : wo gS [1, 2, 3] = fun _ => false := by
  funext k
  rw [Bool.eq_false_iff]
  intro h
  obtain ⟨h1, h2, h3⟩ := wo_iff.1 h
  unfold gS upd at h1
  split at h1
  · rename_i e
    rw [e] at h2
    exact h2 (by decide)
  · split at h1
    · rename_i e
      rw [e] at h2
      exact h2 (by decide)
    · cases h1
theorem ofS (x : Int) : ofL (fun _ => false) x = [] := by
  rw [ofL, List.filter_eq_nil_iff]
  intro y _ hy
  cases hy
variable {w : World} {bp n : Nat} {W W' : World}
/-- Bonds behind calls: some pairs. -/
def BSt (w : World) (bp : Nat) (mo : Option Nat) (n : Nat) (g : Int × Int → Bool) (W : World) : Prop := BdAt w.heap.size bp mo n g W ∧ OKg g ∧ Below w.heap.size w W
variable {mo : Option Nat} {g : Int × Int → Bool}
theorem BSt.later (h : BSt w bp mo n g W) (k : Below W.heap.size W W') : BSt w bp mo n g W' := ⟨h.1.later k, h.2.1, h.2.2.trans (k.mono h.2.2.size)⟩
theorem BSt.keep (h : BSt w bp mo n g W) {m : Nat} {mo' : Option Nat} {g' : Int × Int → Bool} (h1 : BdAt w.heap.size bp mo' m g' W') (h2 : OKg g') (k : Kee (bdM bp mo) W W') : BSt w bp mo' m g' W' :=
  ⟨h1, h2, h.2.2.trans (k.below h.2.2.size fun b hb hd => by have := (h.1.lt b hd).1; omega)⟩
theorem BSt.link (h : BSt w bp mo n g W) {x y : Int} (hx : I64 x) (hy : I64 y) (hn : n < 1000000) : Calls Try.prog 53 #[.pointer (some ⟨bp, 0, none⟩), .int .i64 x, .int .i64 y] W fun e w' => e = .returned (.int .i64 (lnkE x y)) ∧ Hid (∃ mo', BSt w bp mo' (n + 1) (if lnkE x y = 0 then upd g (prN x y) true else g) w') := by
  refine (blink_any h.1 hx hy hn).mono ?_
  rintro e w' ⟨rfl, HU⟩
  obtain ⟨mo', h1, h2, _⟩ := HU.out
  refine ⟨rfl, mo', h.keep h1 ?_ h2⟩
  split
  · rename_i e
    unfold lnkE at e
    split at e
    · rename_i hv
      exact h.2.1.link (numB_iff.1 hv.1) (numB_iff.1 hv.2.1) hv.2.2
    · cases e
  · exact h.2.1
theorem BSt.end' (h : BSt w bp mo n g W) {x : Int} (hx : I64 x) : Calls Try.prog 55 #[.pointer (some ⟨bp, 0, none⟩), .int .i64 x, .bool false] W fun e w' => ∃ u, e = .returned u ∧ Hid (NRow W.heap.size u (toldL g x) w' ∧ BSt w bp mo n (wo g (x :: toldL g x)) w' ∧ Kee (fun b => mo = some b) W w') := by
  refine (bend_any h.1 h.2.1 hx false).mono ?_
  rw [show endL g x false = toldL g x from if_neg (by decide)]
  rintro e w' ⟨u, rfl, HU⟩
  obtain ⟨h1, h2, h3⟩ := HU.out
  exact ⟨u, rfl, h1, h.keep h2 (h.2.1.wo _) (h3.mono fun b _ e => Or.inr e), h3⟩
theorem BSt.of (h : BSt w bp mo n g W) {x : Int} (hx : I64 x) : Calls Try.prog 56 #[.pointer (some ⟨bp, 0, none⟩), .int .i64 x] W fun e w' => ∃ v, e = .returned v ∧ Hid (NRow W.heap.size v (ofL g x) w' ∧ Below W.heap.size W w') := bof_any h.1 hx
theorem BSt.of0 (h : BSt w bp mo n g W) {x : Int} (hx : I64 x) (h0 : ofL g x = []) : Calls Try.prog 56 #[.pointer (some ⟨bp, 0, none⟩), .int .i64 x] W fun e w' => ∃ a c, e = .returned (.slice a 0 c) ∧ Hid (Below W.heap.size W w') := by
  refine (h.of hx).mono ?_
  rintro e w' ⟨v, rfl, HV⟩
  obtain ⟨a, c, e, _⟩ := HV.out.1.row
  rw [h0] at e
  exact ⟨a, c, by rw [e]; rfl, HV.out.2⟩
/-- The row of two numbers that is laid just so. -/
theorem row_two (W : World) (a b : Int) : IRow (.slice (some ⟨W.heap.size, 0, none⟩) 2 2) [a, b] (W.alloc (.cells #[.int .i64 a, .int .i64 b] 3)) := by
  refine ⟨_, _, rfl, Or.inr ⟨_, 0, rfl, by simp, fun i k hk => ?_⟩⟩
  rw [Nat.zero_add]
  refine (cell_row (heap_alloc_new W _) i).trans ?_
  match i, hk with
  | 0, hk => simp at hk; simp [hk]
  | 1, hk => simp at hk; simp [hk]
/-- One number, and the first ones of a row behind it. -/
theorem from_row (x : Int) (T : List Int) (gr ro q tc p : Nat) (W : World) (hq : q ≤ T.length) (hT : T.length ≤ 1000) (hc : ∀ (i : Nat) (k : Int), T[i]? = some k → W.cell? ⟨gr, ro + i, none⟩ = some (.int .i64 k)) (hp : W.heap[p]? = some (.cells #[.int .i64 x] 3 (0, 0))) :
    ∃ g5 c5 w5, (Builtin.append_ #[54, 54] 54 #[.slice (some ⟨p, 0, none⟩) 1 1, .slice (some ⟨gr, ro, none⟩) q tc]).run Try.prog W = .ok (.slice (some ⟨g5, 0, none⟩) (1 + q) c5) w5 ∧ NRow p (.slice (some ⟨g5, 0, none⟩) (1 + q) c5) (x :: T.take q) w5 ∧ Kee (fun b => b = p) W w5 := by
  obtain ⟨it, hit, htz0, htz1, htz2⟩ := info_parts infoInt
  have hlt := (Array.getElem?_eq_some_iff.1 hp).1
  have hown : W.ownsRow p 3 1 (.slice (some ⟨p, 0, none⟩) 1 1) 1 [.int .i64 x] := ⟨rfl, Or.inr ⟨p, 1, #[.int .i64 x], rfl, Nat.le_refl _, hp, Nat.le_refl _, by unfold maxLen; omega, rfl, rfl⟩⟩
  obtain ⟨v', w', hr, h2, h3, _, _⟩ := run_append_own_at (P := Try.prog) W p 54 54 3 it _ 1 8 Try.underlying54 hit htz0 htz1 htz2 rfl (by decide) (.slice (some ⟨p, 0, none⟩) 1 1) 1 [.int .i64 x] hown ⟨gr, ro, none⟩ q tc (iCells (T.take q)) (by rw [iCells_length, List.length_take]; omega) (fun j u hu => by
    obtain ⟨k, hk, rfl⟩ : ∃ k, (T.take q)[j]? = some k ∧ u = .int .i64 k := by
      unfold iCells at hu
      rw [List.getElem?_map] at hu
      cases hk : (T.take q)[j]? with
      | none => rw [hk] at hu; cases hu
      | some k => rw [hk] at hu; exact ⟨k, rfl, (Option.some.inj hu).symm⟩
    rw [Addr.add_lit]
    refine hc j k ?_
    rw [List.getElem?_take] at hk
    split at hk
    · exact hk
    · cases hk) (fun u hu => by
    unfold iCells at hu
    obtain ⟨k, _, rfl⟩ := List.mem_map.1 hu
    rfl) (by unfold maxLen; omega) (by omega) (by omega)
  obtain ⟨g, cap, rfl, _, _⟩ := h2.form (by omega)
  refine ⟨g, cap, w', hr, ?_, (kee_grown h3).mono fun b _ e => ?_⟩
  · unfold NRow
    rw [List.length_cons, List.length_take, Nat.min_eq_left hq, Nat.add_comm q 1]
    exact h2
  · exact (Option.some.inj e).symm
end Go.Proofs.Ytdfpjpmdldigdab
