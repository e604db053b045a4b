/- What is proved here: plain facts and contracts that the claimed theorem stands on, several texts in one: plain facts on a map from pairs of numbers to rows of terms: how it lies in memory, what is looked up in it, what a store and a delete leave, and how many pairs it has. No condition. the first of a row of terms is taken out by slices.Delete. No condition but that the row lies in memory. proc.fits: what is bound where a clause's State fits the state, and its Message the message. No condition but that all lies in memory. plain facts: by bindings that are the same but for addresses, a term has the same value. No condition. plain facts on terms without their addresses, all at one depth (can): terms are the same just where these are equal. No condition but that the terms are right, and not too deep. what a process chooses, as a plain function of its state, its messages and the clauses (fitC, chs), and that proc.fits tells that. No condition but that all lies in memory and is right. -/
import Derived.Test.YtbmjfnicfpdjfaaG05
import Derived.Maps.RangeWalk
import Derived.WideKeyPair
import Derived.WideKeyEntry
import Derived.Deep.AppendLies
import Derived.Deep.RegionHeld3
import Derived.Test.YtbmjfnicfpdjfaaG13
import Derived.Test.YtbmjfnicfpdjfaaG14
import Derived.Test.YtbmjfnicfpdjfaaG09
namespace Go.Proofs.Ytbmjfnicfpdjfaa
open Go.RowKit Go.Maps

/-- All but the blocks of which S holds are as they were; new ones may be there. -/
structure Kee (S : Nat → Prop) (w w' : World) : Prop where
  os : w'.os = w.os
  tape : w'.tape = w.tape
  output : w'.output = w.output
  size : w.heap.size ≤ w'.heap.size
  block : ∀ b, b < w.heap.size → ¬ S b → w'.heap[b]? = w.heap[b]?
theorem Kee.refl (S : Nat → Prop) (w : World) : Kee S w w := ⟨rfl, rfl, rfl, Nat.le_refl _, fun _ _ _ => rfl⟩
theorem Kee.trans {S T : Nat → Prop} {w w1 w2 : World} (h : Kee S w w1) (k : Kee T w1 w2) (hT : ∀ b, b < w.heap.size → T b → S b) : Kee S w w2 :=
  ⟨k.os.trans h.os, k.tape.trans h.tape, k.output.trans h.output, Nat.le_trans h.size k.size, fun b hb hs => (k.block b (Nat.lt_of_lt_of_le hb h.size) (fun ht => hs (hT b hb ht))).trans (h.block b hb hs)⟩
theorem Kee.mono {S T : Nat → Prop} {w w1 : World} (h : Kee S w w1) (hT : ∀ b, b < w.heap.size → S b → T b) : Kee T w w1 := ⟨h.os, h.tape, h.output, h.size, fun b hb hs => h.block b hb fun k => hs (hT b hb k)⟩
theorem kee_below {w w' : World} (h : Below w.heap.size w w') (S : Nat → Prop) : Kee S w w' := ⟨h.os, h.tape, h.output, h.size, fun b hb _ => h.block b hb⟩
theorem kee_grown {w w' : World} {row : Option Nat} (h : w.grownBy w' row) : Kee (fun b => row = some b) w w' := ⟨h.os, h.tape, h.output, h.size, fun b hb hs => h.block b hb fun e => hs e.symm⟩
theorem kee_set (w : World) (q o : Nat) (v : Value) : Kee (fun b => b = q) w (w.setCell ⟨q, o, none⟩ v) :=
  ⟨rfl, rfl, rfl, by simp [World.setCell], fun b _ hne => by
    have : q ≠ b := fun e => hne e.symm
    simp [World.setCell, Array.getElem?_modify, this]⟩
theorem Kee.below {S : Nat → Prop} {w w' : World} {B : Nat} (h : Kee S w w') (hB : B ≤ w.heap.size) (hS : ∀ b, b < B → ¬ S b) : Below B w w' := ⟨h.os, h.tape, h.output, h.size, fun b hb => h.block b (by omega) (hS b hb)⟩
theorem Kee.cell {S : Nat → Prop} {w w' : World} (h : Kee S w w') {b : Nat} (o : Nat) (hb : b < w.heap.size) (hS : ¬ S b) : w'.cell? ⟨b, o, none⟩ = w.cell? ⟨b, o, none⟩ := by
  simp only [World.cell?, h.block b hb hS]
theorem row_kee {base : Nat} {e : TypeId} {sz : Nat} {v : Value} {n : Nat} {xs : List Value} {w w' : World} {S : Nat → Prop} (h : w.ownsRow base e sz v n xs) (k : Kee S w w') (h1 : ∀ b, v.ownBlock = some b → ¬ S b) : w'.ownsRow base e sz v n xs := by
  refine ⟨h.1, ?_⟩
  rcases h.2 with ⟨e, e0⟩ | ⟨g, cap, cur, e, hg, hh, hr⟩
  · exact Or.inl ⟨e, e0⟩
  · exact Or.inr ⟨g, cap, cur, e, hg, (k.block g (Array.getElem?_eq_some_iff.1 hh).1 (h1 g (by rw [e]; rfl))).trans hh, hr⟩
theorem Held.kee {S : Nat → Prop} {w w' : World} (h : Kee S w w') {b o : Nat} (hb : b < w.heap.size) (hS : ¬ S b) : {n : Nat} → {x : Tm n} → Held w b o n x → Held w' b o n x
  | 0, _, k => k
  | _ + 1, _, k => by
    obtain ⟨k0, k1, k2, k3⟩ := k
    exact ⟨(h.cell _ hb hS).trans k0, (h.cell _ hb hS).trans k1, (h.cell _ hb hS).trans k2, (h.cell _ hb hS).trans k3⟩
/-- A term that lies in blocks that stay, stays. -/
theorem In.kee {S : Nat → Prop} {w w' : World} (h : Kee S w w') : {n : Nat} → {x : Tm n} → In w.heap.size w n x → Off (fun b => ¬ S b) n x → In w'.heap.size w' n x
  | 0, _, k, _ => k
  | _ + 1, x, k, o => by
    obtain ⟨k0, k1⟩ := k
    refine ⟨k0, ?_⟩
    rcases k1 with k1 | ⟨b, f, e, hb, k1⟩
    · exact Or.inl k1
    · rcases o with o | ⟨b', f', e', hb', o⟩
      · exact Or.inl o
      · rw [e] at e'
        injection e' with e'
        injection e' with e1 e2
        subst e1 e2
        exact Or.inr ⟨b, f, e, Nat.lt_of_lt_of_le hb h.size, fun i y hy => ⟨(k1 i y hy).1.kee h hb hb', (k1 i y hy).2.kee h (o i y hy)⟩⟩

/-! ### the keys -/
theorem types_some : ∃ m, Try.prog.types.size = m + 1 := by
  have h : (Try.prog.types.size == 0) = false := by kernel_rfl
  have h' : Try.prog.types.size ≠ 0 := beq_eq_false_iff_ne.1 h
  exact ⟨Try.prog.types.size - 1, by omega⟩
/-- A pair of numbers, as a value and as what is read of it. -/
def pk (k : Int × Int) : Value := .agg #[.int .i64 k.1, .int .i64 k.2]
def kl (k : Int × Int) : Lit := .string (keyBytes [.int .i64 k.1, .int .i64 k.2])
def I2 (k : Int × Int) : Prop := I64 k.1 ∧ I64 k.2
theorem wf_of {a : Int} (h : I64 a) : (Lit.int .i64 a).wf = true := WalkArith.wf_i64 (by unfold I64 at h; omega)
theorem of_wf {a : Int} (h : (Lit.int .i64 a).wf = true) : I64 a := by
  have : -9223372036854775808 ≤ a ∧ a ≤ 9223372036854775807 := by simpa [Lit.wf, IntKind.min, IntKind.max, IntKind.signed, IntKind.bits] using h
  exact this
/-- An element as it is. -/
def rawE (v : Value) : Option (DataW Value × List MemPlace) := some (.held v, [])
def upd {α : Type} (f : Int × Int → α) (k : Int × Int) (x : α) : Int × Int → α := fun j => if j = k then x else f j
theorem upd_same {α : Type} (f : Int × Int → α) (k : Int × Int) (x : α) : upd f k x k = x := if_pos rfl
theorem upd_other {α : Type} (f : Int × Int → α) {k j : Int × Int} (x : α) (h : j ≠ k) : upd f k x j = f j := if_neg h
def nilS : Value := .slice none 0 0
def tCells (N : Nat) (l : List (Tm N)) : List Value := ndCells (l.map (hdT N))
theorem tCells_length (N : Nat) (l : List (Tm N)) : (tCells N l).length = l.length * 4 := by simp [tCells, ndCells_length]
theorem tCells_append (N : Nat) (l r : List (Tm N)) : tCells N (l ++ r) = tCells N l ++ tCells N r := by simp [tCells, ndCells_append]
/-- A row of terms. -/
def TRow (base N : Nat) (v : Value) (l : List (Tm N)) (w : World) : Prop := w.ownsRow base 25 4 v l.length (tCells N l)
/-- The blocks that it is made of. -/
def gmM (mb : Nat) (sl : Int × Int → Value) (b : Nat) : Prop := b = mb ∨ ∃ k, I2 k ∧ (sl k).ownBlock = some b
theorem own_cells {w : World} {base : Nat} {e : TypeId} {sz : Nat} {v : Value} {n : Nat} {xs : List Value} (h : w.ownsRow base e sz v n xs) (b : Nat) (hb : v.ownBlock = some b) : ∃ cur, w.heap[b]? = some (.cells cur e (0, 0)) := by
  rcases h.2 with ⟨rfl, _⟩ | ⟨g, cap, cur, rfl, _, hh, _⟩
  · simp [Value.ownBlock] at hb
  · simp [Value.ownBlock] at hb
    subst hb
    exact ⟨cur, hh⟩
variable {base mb n N : Nat} {f : Int × Int → List (Tm N)} {sl : Int × Int → Value} {w : World}
theorem TRow.rebase {base' : Nat} {v : Value} {l : List (Tm N)} (h : TRow base N v l w) (hb : base' ≤ base) : TRow base' N v l w := own_base h hb
theorem rawE_inv {v : Value} {d : DataW Value} {ps : List MemPlace} (h : rawE v = some (d, ps)) : d = .held v := by
  unfold rawE at h
  injection h with h
  injection h with h1 h2
  exact h1.symm
set_option maxRecDepth 100000 in
theorem zeroRow (w : World) : (zeroValue 23).run Try.prog w = .ok (.slice none 0 0) w := by kernel_rfl
theorem turned_kee {w2 : World} (ht : w.mapTurned w2 mb) : Kee (fun b => b = mb) w w2 ∧ w2.heap.size = w.heap.size := by
  refine ⟨(kee_grown ht.grown).mono fun b _ e => (Option.some.inj e).symm, ?_⟩
  obtain ⟨_, _, _, _, _, rfl⟩ := ht
  simp [ChangeMaps.setBlock]
end Go.Proofs.Ytbmjfnicfpdjfaa
namespace Go.Proofs.Ytbmjfnicfpdjfaa
open Go.RowKit Go.Maps

/-- What is appended to a row that has room for it. -/
theorem run_append_in {P : Program} (w : World) (t ty e : TypeId) (i : TypeInfo) (ht : P.underlying t = some (.slice e)) (hi : P.info? e = some i)
    (g sLen sCap : Nat) (cur : Array Value) (hg : w.heap[g]? = some (.cells cur e (0, 0)))
    (a : Addr) (m c : Nat) (news : List Value) (hl : news.length = m * i.size) (hnews : ∀ j u, news[j]? = some u → w.cell? (a.add j) = some u) (h1 : ∀ u ∈ news, u.oneCell' = true)
    (hroom : sLen + m ≤ sCap) (hfit : sLen * i.size + news.length ≤ cur.size) :
    (Builtin.append_ #[t, t] ty #[.slice (some ⟨g, 0, none⟩) sLen sCap, .slice (some a) m c]).run P w =
      .ok (.slice (some ⟨g, 0, none⟩) (sLen + m) sCap) (w.setRow g (cur.toList.take (sLen * i.size) ++ news ++ cur.toList.drop (sLen * i.size + news.length)).toArray) := by
  have hf := run_firstCells_some (P := P) w i.size m a m c news hl hnews
  have hst := run_storeCells_at P g (sLen * i.size) e news 0 cur w hg (by simpa using hfit) h1
  simp only [Nat.add_zero] at hst
  simp [Builtin.append_, run_underlying ht, sizeOf, typeInfo, hi, Builtin.lenOf, hroom, hf, Addr.add_lit, hst]
theorem infoTermG : (Try.prog.info? 25).map (fun i => (i.zero, i.size, i.bytes)) = some (some (.agg #[.int .i64 0, .int .i64 0, .string ⟨#[]⟩, .slice none 0 0]), 4, 56) := by kernel_rfl
theorem zeroTerm (w : World) : (zeroValue 25).run Try.prog w = .ok (.agg #[.int .i64 0, .int .i64 0, .string ⟨#[]⟩, .slice none 0 0]) w := by kernel_rfl
def zero4 : List Value := [.int .i64 0, .int .i64 0, .string ⟨#[]⟩, .slice none 0 0]
/-- One element of a row is cleared. -/
theorem run_clear_one (w : World) (ty : TypeId) (g o c : Nat) (cur : Array Value) (hg : w.heap[g]? = some (.cells cur 25 (0, 0))) (hfit : o + 4 ≤ cur.size) :
    (Builtin.clear_ #[23] ty #[.slice (some ⟨g, o, none⟩) 1 c]).run Try.prog w = .ok (.tuple #[]) (w.setRow g (cur.toList.take o ++ zero4 ++ cur.toList.drop (o + 4)).toArray) := by
  have hst := run_storeCells_at Try.prog g o 25 zero4 0 cur w hg (by simpa [zero4] using hfit) (by simp [zero4, Value.oneCell'])
  have hz : (Builtin.zeroCells (Value.agg #[.int .i64 0, .int .i64 0, .string ⟨#[]⟩, .slice none 0 0]).cells 1).toList = zero4 := by
    simp [Builtin.zeroCells, Value.cells, zero4]
    rfl
  simp only [Nat.add_zero] at hst
  have hl : zero4.length = 4 := rfl
  rw [hl] at hst
  simp [Builtin.clear_, run_underlying Try.underlying23, hz, hst]

theorem slice_lo (w : World) (g L c : Nat) (h : L ≤ c) (h1 : 1 ≤ L) : (Instr.slice 23 (.slice (some ⟨g, 0, none⟩) L c) (some (.int .i64 0)) (some (.int .i64 1)) (some (.int .i64 L))).run Try.prog w = .ok (.slice (some ⟨g, 0, none⟩) 1 L) w := by
  have e2 : (1 : Int) ≤ (L : Int) := by omega
  simp [Instr.slice, run_underlying Try.underlying23, Instr.sliceBounds, Instr.sliceBound, asIntOf, e2, h, go_sem]
theorem slice_none (w : World) (g L c : Nat) : (Instr.slice 23 (.slice (some ⟨g, 0, none⟩) L c) none (some (.int .i64 0)) none).run Try.prog w = .ok (.slice (some ⟨g, 0, none⟩) 0 c) w := by
  simp [Instr.slice, run_underlying Try.underlying23, Instr.sliceBounds, Instr.sliceBound, asIntOf, go_sem]
theorem slice_rest (w : World) (g L c : Nat) (h : L ≤ c) (h1 : 2 ≤ L) : (Instr.slice 23 (.slice (some ⟨g, 0, none⟩) L c) (some (.int .i64 1)) none none).run Try.prog w = .ok (.slice (some ⟨g, 4, none⟩) (L - 1) (c - 1)) w := by
  have e2 : (1 : Int) ≤ (L : Int) := by omega
  have e3 : ¬ c = 1 := by omega
  simp [Instr.slice, run_underlying Try.underlying23, Instr.sliceBounds, Instr.sliceBound, asIntOf, e2, e3, go_sem, Addr.add_lit]
theorem slice_last (w : World) (g m c : Nat) (h : m + 1 ≤ c) : (Instr.slice 23 (.slice (some ⟨g, 0, none⟩) m c) (some (.int .i64 m)) (some (.int .i64 ((m : Int) + 1))) none).run Try.prog w = .ok (.slice (some ⟨g, m * 4, none⟩) 1 (c - m)) w := by
  have e2 : ¬ c = m := by omega
  have e3 : (m : Int) + 1 ≤ (c : Int) := by omega
  have e4 : (0 : Int) ≤ (m : Int) + 1 := by omega
  simp [Instr.slice, run_underlying Try.underlying23, Instr.sliceBounds, Instr.sliceBound, asIntOf, e2, e3, e4, go_sem, Addr.add_lit]
theorem step_append_run {w w' : World} {v x' v' : Value} {ops : Array Oper} {o : Oper} {a : Act} {K : Act → World → Prop} {Q : Exit → Act → World → Prop} {E : Prop} (hgd : o.guard = none) (s x : Operand) (ho : o.op = .call { callee := .builtin .append, args := #[s, x], argTypes := #[23, 23] })
    (hs : a.eval s = v) (hx : a.eval x = x') (hr : (Builtin.append_ #[23, 23] o.type #[v, x']).run Try.prog w = .ok v' w') (hK : K (a.put o.dst v') w') : if Region.wanted o (yielded ops a.tmps) = true then Oper.wp Try.prog o a w K Q else E := by
  have hw : Region.wanted o (yielded ops a.tmps) = true := by simp [Region.wanted, hgd]
  rw [if_pos hw]
  unfold Oper.wp execOp
  simp only [ho, resolve, invoke, builtin, Sem.run_bind, Sem.run_pure, Result.andThen_ok, List.map_toArray, List.map_cons, List.map_nil, hs, hx, hr]
  exact hK
theorem cell_row {w : World} {g : Nat} {cur : Array Value} {e : TypeId} (h : w.heap[g]? = some (.cells cur e (0, 0))) (j : Nat) : w.cell? ⟨g, j, none⟩ = cur.toList[j]? := by
  simp [World.cell?, h]
end Go.Proofs.Ytbmjfnicfpdjfaa
namespace Go.Proofs.Ytbmjfnicfpdjfaa
open Go.RowKit

/-- What fits leaves: o1 is bound by the state, f tells what is bound by the message then. -/
def PfOut (o1 : Option (List An)) (f : List An → Option (List An)) (w : World) (e : Ending) (w' : World) : Prop :=
  ∃ a len c r, e = .returned (.tuple #[.slice a len c, .bool r]) ∧ Hid (Below w.heap.size w w' ∧ (o1 = none → r = false) ∧ ∀ b, o1 = some b → ∃ l1 : List (Tm (top b)), sameL (fun x y => same (top b) x (top b) y) l1 (uni b) = true ∧ (f (anL (top b) l1) = none → r = false) ∧
    ∀ b2, f (anL (top b) l1) = some b2 → r = true ∧ len = 4 ∧ b2.length = 4 ∧ ∃ w1 l, w.heap.size ≤ w1.heap.size ∧ CpRow (top b2) (uni b2) w1 w' a c l)
set_option maxRecDepth 100000 in
set_option maxHeartbeats 1000000 in
theorem pfits_walk (p0 p1 q0 q1 r0 r1 s0 s1 t0 t1 : Int) (p2 q2 r2 s2 t2 : ByteArray) (pa qa ra sa ta ca : Option Addr) (pl pc ql qc rl rc sl sc tl tc cl cc : Nat) (o1 : Option (List An)) (f : List An → Option (List An)) (w : World)
    (H1 : Hid (∀ W1 W, Below w.heap.size w W1 → CpRow 1 (List.replicate 4 anyT) W1 W (some ⟨W1.heap.size, 0, none⟩) 4 (List.replicate 4 anyT) → Calls Try.prog 61 #[.agg #[.int .i64 p0, .int .i64 p1, .string p2, .slice pa pl pc], .agg #[.int .i64 s0, .int .i64 s1, .string s2, .slice sa sl sc], .slice (some ⟨W1.heap.size, 0, none⟩) 4 4] W (FitOut 0 o1 W)))
    (H2 : Hid (∀ (b : List An) (l : List (Tm (top b))) (a : Option Addr) (c : Nat) (W1 W : World), Below w.heap.size w W → o1 = some b → b.length = 4 → CpRow (top b) (uni b) W1 W a c l → Calls Try.prog 61 #[.agg #[.int .i64 q0, .int .i64 q1, .string q2, .slice qa ql qc], .agg #[.int .i64 t0, .int .i64 t1, .string t2, .slice ta tl tc], .slice a 4 c] W (FitOut 0 (f (anL (top b) l)) W))) :
    Calls Try.prog 45 #[.agg #[.int .i64 p0, .int .i64 p1, .string p2, .slice pa pl pc, .int .i64 q0, .int .i64 q1, .string q2, .slice qa ql qc, .slice ca cl cc, .int .i64 r0, .int .i64 r1, .string r2, .slice ra rl rc], .agg #[.int .i64 s0, .int .i64 s1, .string s2, .slice sa sl sc], .agg #[.int .i64 t0, .int .i64 t1, .string t2, .slice ta tl tc]] w (PfOut o1 f w) := by
  go_enter Try.func45, Try.ntmps45
  go_wp2_with fail
  have HW : Hid (∃ w0 g0 g1 g2, (w0 = ((w.alloc (.cells #[.int .i64 p0, .int .i64 p1, .string p2, .slice pa pl pc, .int .i64 q0, .int .i64 q1, .string q2, .slice qa ql qc, .slice ca cl cc, .int .i64 r0, .int .i64 r1, .string r2, .slice ra rl rc] 78)).alloc (.cells #[.int .i64 s0, .int .i64 s1, .string s2, .slice sa sl sc] 25)).alloc (.cells #[.int .i64 t0, .int .i64 t1, .string t2, .slice ta tl tc] 25) ∧ g0 = w.heap.size ∧ g1 = w.heap.size + 1 ∧ g2 = w.heap.size + 2) ∧ Below w.heap.size w w0 ∧ ∀ W, Below w0.heap.size w0 W → (W.cell? ⟨g0, 0, none⟩ = some (.int .i64 p0) ∧ W.cell? ⟨g0, 1, none⟩ = some (.int .i64 p1) ∧ W.cell? ⟨g0, 2, none⟩ = some (.string p2) ∧ W.cell? ⟨g0, 3, none⟩ = some (.slice pa pl pc)) ∧ (W.cell? ⟨g0, 4, none⟩ = some (.int .i64 q0) ∧ W.cell? ⟨g0, 5, none⟩ = some (.int .i64 q1) ∧ W.cell? ⟨g0, 6, none⟩ = some (.string q2) ∧ W.cell? ⟨g0, 7, none⟩ = some (.slice qa ql qc)) ∧ (W.cell? ⟨g1, 0, none⟩ = some (.int .i64 s0) ∧ W.cell? ⟨g1, 1, none⟩ = some (.int .i64 s1) ∧ W.cell? ⟨g1, 2, none⟩ = some (.string s2) ∧ W.cell? ⟨g1, 3, none⟩ = some (.slice sa sl sc)) ∧ (W.cell? ⟨g2, 0, none⟩ = some (.int .i64 t0) ∧ W.cell? ⟨g2, 1, none⟩ = some (.int .i64 t1) ∧ W.cell? ⟨g2, 2, none⟩ = some (.string t2) ∧ W.cell? ⟨g2, 3, none⟩ = some (.slice ta tl tc))) := by
    have hs1 : (w.alloc (.cells #[.int .i64 p0, .int .i64 p1, .string p2, .slice pa pl pc, .int .i64 q0, .int .i64 q1, .string q2, .slice qa ql qc, .slice ca cl cc, .int .i64 r0, .int .i64 r1, .string r2, .slice ra rl rc] 78)).heap.size = w.heap.size + 1 := by simp
    have hs2 : ((w.alloc (.cells #[.int .i64 p0, .int .i64 p1, .string p2, .slice pa pl pc, .int .i64 q0, .int .i64 q1, .string q2, .slice qa ql qc, .slice ca cl cc, .int .i64 r0, .int .i64 r1, .string r2, .slice ra rl rc] 78)).alloc (.cells #[.int .i64 s0, .int .i64 s1, .string s2, .slice sa sl sc] 25)).heap.size = w.heap.size + 2 := by simp
    refine ⟨_, _, _, _, ⟨rfl, rfl, rfl, rfl⟩, (((Below.refl _ _).alloc (Nat.le_refl _) _).alloc (by simp) _).alloc (by simp; omega) _, fun W hW => ?_⟩
    have e0 := (hW.block w.heap.size (by simp; omega)).trans ((((Below.refl _ _).alloc (Nat.le_refl _) _).block w.heap.size (by simp; omega)).trans ((((Below.refl _ _).alloc (Nat.le_refl _) _).block w.heap.size (by simp)).trans (heap_alloc_new w (.cells #[.int .i64 p0, .int .i64 p1, .string p2, .slice pa pl pc, .int .i64 q0, .int .i64 q1, .string q2, .slice qa ql qc, .slice ca cl cc, .int .i64 r0, .int .i64 r1, .string r2, .slice ra rl rc] 78))))
    have n1 := heap_alloc_new (w.alloc (.cells #[.int .i64 p0, .int .i64 p1, .string p2, .slice pa pl pc, .int .i64 q0, .int .i64 q1, .string q2, .slice qa ql qc, .slice ca cl cc, .int .i64 r0, .int .i64 r1, .string r2, .slice ra rl rc] 78)) (.cells #[.int .i64 s0, .int .i64 s1, .string s2, .slice sa sl sc] 25)
    rw [hs1] at n1
    have e1 := (hW.block (w.heap.size + 1) (by simp)).trans ((((Below.refl _ _).alloc (Nat.le_refl _) _).block (w.heap.size + 1) (by simp)).trans n1)
    have n2 := heap_alloc_new ((w.alloc (.cells #[.int .i64 p0, .int .i64 p1, .string p2, .slice pa pl pc, .int .i64 q0, .int .i64 q1, .string q2, .slice qa ql qc, .slice ca cl cc, .int .i64 r0, .int .i64 r1, .string r2, .slice ra rl rc] 78)).alloc (.cells #[.int .i64 s0, .int .i64 s1, .string s2, .slice sa sl sc] 25)) (.cells #[.int .i64 t0, .int .i64 t1, .string t2, .slice ta tl tc] 25)
    rw [hs2] at n2
    have e2 := (hW.block (w.heap.size + 2) (by simp)).trans n2
    exact ⟨⟨cell_row e0 0, cell_row e0 1, cell_row e0 2, cell_row e0 3⟩, ⟨cell_row e0 4, cell_row e0 5, cell_row e0 6, cell_row e0 7⟩, ⟨cell_row e1 0, cell_row e1 1, cell_row e1 2, cell_row e1 3⟩, cell_row e2 0, cell_row e2 1, cell_row e2 2, cell_row e2 3⟩
  obtain ⟨w0, g0, g1, g2, ⟨hw0, hg0, hg1, hg2⟩, HB0, HC⟩ := HW.out
  rw [← hw0, ← hg2, ← hg1, ← hg0]
  replace HB0 := hide HB0
  replace HC := hide HC
  clear hw0 hg0 hg1 hg2 HW
  obtain ⟨⟨x0, x1, x2, x3⟩, _, ⟨y0, y1, y2, y3⟩, _⟩ := HC.out w0 (Below.refl _ _)
  have HD0 : Hid (Below w0.heap.size w0 w0.drew) := (Below.refl _ _).drew
  have HKS : Hid (∀ W, Below w0.heap.size w0 W → (W.cell? ⟨g0, 0, none⟩ = some (.int .i64 p0) ∧ W.cell? ⟨g0, 1, none⟩ = some (.int .i64 p1) ∧ W.cell? ⟨g0, 2, none⟩ = some (.string p2) ∧ W.cell? ⟨g0, 3, none⟩ = some (.slice pa pl pc)) ∧ (W.cell? ⟨g1, 0, none⟩ = some (.int .i64 s0) ∧ W.cell? ⟨g1, 1, none⟩ = some (.int .i64 s1) ∧ W.cell? ⟨g1, 2, none⟩ = some (.string s2) ∧ W.cell? ⟨g1, 3, none⟩ = some (.slice sa sl sc))) := fun W hW => ⟨(HC.out W hW).1, (HC.out W hW).2.2.1⟩
  go_region_held3 (fun W => (W.cell? ⟨g0, 0, none⟩ = some (.int .i64 p0) ∧ W.cell? ⟨g0, 1, none⟩ = some (.int .i64 p1) ∧ W.cell? ⟨g0, 2, none⟩ = some (.string p2) ∧ W.cell? ⟨g0, 3, none⟩ = some (.slice pa pl pc)) ∧ (W.cell? ⟨g1, 0, none⟩ = some (.int .i64 s0) ∧ W.cell? ⟨g1, 1, none⟩ = some (.int .i64 s1) ∧ W.cell? ⟨g1, 2, none⟩ = some (.string s2) ∧ W.cell? ⟨g1, 3, none⟩ = some (.slice sa sl sc)))
    (first | (go_keep; done) | exact HKS.out _ HD0.out | exact HKS.out _ HB2.out | exact HKS.out _ HB1.out) ((first
      | (go_at_call 62; refine (nobound_any _).mono ?_; rintro e w1 ⟨rfl, HN⟩; have HB1 := hide (HD0.out.trans (HN.out.1.mono HD0.out.size)))
      | (go_at_call 61; refine (H1.out _ _ (HB0.out.trans (HD0.out.mono HB0.out.size)) HN.out).mono ?_; rintro e w2 ⟨a2, len2, c2, r2', rfl, HF⟩; have HB2 := hide (HB1.out.trans (HF.out.1.mono HB1.out.size)))))
  have HBF := hide (HB0.out.trans (HB2.out.mono HB0.out.size))
  clear x0 x1 x2 x3 y0 y1 y2 y3 HKS HN HB1 HD0 H1
  cases o1 with
  | none =>
    obtain ⟨rfl, rfl⟩ : len2 = 0 ∧ r2' = false := HF.out.2.1 (by simp)
    clear HF
    go_wp2_with fail
    go_ret2
    exact ⟨none, 0, 0, false, rfl, HBF.out, fun _ => rfl, fun b hb => by cases hb⟩
  | some b =>
    obtain ⟨hr, hl, h4, w1', l1, hw1, hcp⟩ := HF.out.2.2 b trivial rfl
    subst hr hl
    have HT := hide (H2.out b l1 a2 c2 w1' w2 HBF.out rfl h4 hcp)
    have HCP := hide hcp.2.2.2.2.1
    obtain ⟨_, ⟨x0, x1, x2, x3⟩, _, y0, y1, y2, y3⟩ := HC.out w2 HB2.out
    clear hcp HF h4 hw1
    go_wp2_with fail
    refine HT.out.mono ?_
    rintro e w3 ⟨a3, len3, c3, r3, rfl, HF3⟩
    go_wp2_with fail
    go_ret2
    refine ⟨a3, len3, c3, r3, rfl, HBF.out.trans (HF3.out.1.mono HBF.out.size), (fun h => by cases h), fun b' hb' => ?_⟩
    cases hb'
    refine ⟨l1, HCP.out, fun hn => (HF3.out.2.1 (by simp [hn])).2, fun b2 hb2 => ?_⟩
    obtain ⟨k1, k2, k3, wz, lz, kz, kc⟩ := HF3.out.2.2 b2 trivial hb2
    exact ⟨k1, k2, k3, wz, lz, Nat.le_trans HBF.out.size kz, kc⟩
theorem cp_lies {n : Nat} {p l : List (Tm n)} {w w' : World} {a : Option Addr} {c : Nat} (h : CpRow n p w w' a c l) : Lies w'.heap.size w' n l a := by
  obtain ⟨_, _, _, _, _, h6⟩ := h
  rcases h6 with e | ⟨b, o, e, _, h2, h3⟩
  · exact Or.inl e
  · exact Or.inr ⟨b, o, e, h2, fun i y hy => ⟨(h3 i y hy).1, (h3 i y hy).2.1⟩⟩
theorem ok_right {y : An} (h : OkA y) : RightA y := right_formed.2 (chk_iff.1 h.1).1
theorem any_ok : ∀ y ∈ anL 1 (List.replicate 4 anyT), OkA y := by
  intro y hy
  simp only [anL, List.mem_map, List.mem_replicate] at hy
  obtain ⟨x, ⟨_, rfl⟩, rfl⟩ := hy
  exact ⟨chk_any, Or.inl rfl⟩
theorem chk_n2 {n : Nat} {x : Tm n} (h : chk n x = 0) : (nodes n x).length ≤ 2097152 := Nat.le_trans (chk_nlen h) (by omega)
theorem pfits_any (n m k : Nat) (c : Cl (n + 1)) (s : Tm (m + 1)) (t : Tm (k + 1)) (B : Nat) (w : World) (hc : ClIn (n + 1) B w c) (hs : In B w (m + 1) s) (ht : In B w (k + 1) t) (hB : B ≤ w.heap.size)
    (h1 : chk (n + 1) c.1.1 = 0) (h2 : chk (n + 1) c.1.2.1 = 0) (h3 : chk (m + 1) s = 0) (h4 : closedB (m + 1) s = true) (h5 : chk (k + 1) t = 0) (h6 : closedB (k + 1) t = true) :
    Calls Try.prog 45 #[.agg (cl13 (n + 1) c).toArray, val (m + 1) s, val (k + 1) t] w (PfOut (fit (n + 1) c.1.1 (m + 1) s (anL 1 (List.replicate 4 anyT))) (fit (n + 1) c.1.2.1 (k + 1) t) w) := by
  refine pfits_walk c.1.1.1.1 c.1.1.1.2.1 c.1.2.1.1.1 c.1.2.1.1.2.1 c.1.2.2.1.1 c.1.2.2.1.2.1 s.1.1 s.1.2.1 t.1.1 t.1.2.1 c.1.1.1.2.2 c.1.2.1.1.2.2 c.1.2.2.1.2.2 s.1.2.2 t.1.2.2 c.1.1.2.1.1 c.1.2.1.2.1.1 c.1.2.2.2.1.1 s.2.1.1 t.2.1.1 c.2.1.1
    c.1.1.2.2.length c.1.1.2.1.2 c.1.2.1.2.2.length c.1.2.1.2.1.2 c.1.2.2.2.2.length c.1.2.2.2.1.2 s.2.2.length s.2.1.2 t.2.2.length t.2.1.2 c.2.2.length c.2.1.2 _ _ w ?_ ?_
  · intro W1 W hW1 hcp
    have hb := hW1.trans (hcp.1.mono hW1.size)
    have h := mfits_any (n + 1) (m + 1) 1 c.1.1 s (List.replicate 4 anyT) (some ⟨W1.heap.size, 0, none⟩) 4 W.heap.size W ((hc.1.1.below (hb.mono hB)).mono (Nat.le_trans hB hb.size)) ((hs.below (hb.mono hB)).mono (Nat.le_trans hB hb.size)) (cp_lies hcp) (Nat.le_refl _) (chk_n2 h1) (chk_n2 h3) (fun y hy => by
      rw [(List.mem_replicate.1 hy).2]
      exact chk_n2 chk_any) (by simp)
    have e : errF (chk (n + 1) c.1.1) (chk (m + 1) s) (closedB (m + 1) s) (bndB 1 (List.replicate 4 anyT)) = 0 := by
      rw [h1, h3, h4, bnd_free]
      rfl
    rw [e] at h
    exact h
  · intro b l a c' W1 W hW ho h4' hcp
    have hok := fit_keep OkA parts_ok (n + 1) c.1.1 (m + 1) s ⟨h3, Or.inr (by rw [closed_eq]; exact h4)⟩ (anL 1 (List.replicate 4 anyT)) b ⟨by simp [anL], any_ok⟩ ho
    obtain ⟨hl, hl4, htell, hr⟩ := fit_row hcp (fun y hy => ok_right (hok.2 y hy)) h4'
    have hbnd := tells_bnd hok.2 hl4 hok.1 htell
    have h := mfits_any (n + 1) (k + 1) (top b) c.1.2.1 t l a c' W.heap.size W ((hc.1.2.1.below (hW.mono hB)).mono (Nat.le_trans hB hW.size)) ((ht.below (hW.mono hB)).mono (Nat.le_trans hB hW.size)) hl (Nat.le_refl _) (chk_n2 h2) (chk_n2 h5) (fun y hy => chk_n2 ((bnd_ok hbnd).2 y hy).1) (by omega)
    have e : errF (chk (n + 1) c.1.2.1) (chk (k + 1) t) (closedB (k + 1) t) (bndB (top b) l) = 0 := by
      rw [h2, h5, h6, hbnd]
      rfl
    rw [e, hl4] at h
    exact h
end Go.Proofs.Ytbmjfnicfpdjfaa
namespace Go.Proofs.Ytbmjfnicfpdjfaa
open Go.RowKit

/-- Both are none, or both are there and the same. -/
def sameT (n m : Nat) : Option (Tm n) → Option (Tm m) → Prop
  | none, none => True
  | some x, some y => same n x m y = true
  | _, _ => False
theorem sameT_bind {n m k l : Nat} {o : Option (Tm n)} {p : Option (Tm m)} {f : Tm n → Option (Tm k)} {g : Tm m → Option (Tm l)} (h : sameT n m o p) (hf : ∀ x y, same n x m y = true → sameT k l (f x) (g y)) : sameT k l (o.bind f) (p.bind g) := by
  cases o with
  | none =>
    cases p with
    | none => trivial
    | some _ => exact h.elim
  | some x =>
    cases p with
    | none => exact h.elim
    | some y => exact hf x y h
theorem lift_alike {n m N M : Nat} (hn : n ≤ N) (hm : m ≤ M) {x : Tm n} {y : Tm m} (hx : RightA ⟨n, x⟩) (hy : RightA ⟨m, y⟩) (h : same n x m y = true) : same N (lift N n x) M (lift M m y) = true :=
  same_trans _ _ _ _ _ _ (lift_same N n hn x hx) (same_trans _ _ _ _ _ _ h (same_symm _ _ _ _ (lift_same M m hm y hy)))
theorem head_alike : (n : Nat) → (x : Tm n) → (m : Nat) → (y : Tm m) → same n x m y = true → kindA ⟨n, x⟩ = kindA ⟨m, y⟩ ∧ numA n x = numA m y
  | 0, _, _, _, h => by simp [same] at h
  | _ + 1, _, 0, _, h => by simp [same] at h
  | n + 1, x, m + 1, y, h => by
    simp only [same, Bool.and_eq_true, beq_iff_eq] at h
    exact ⟨h.1.1.1, h.1.1.2⟩
theorem sum_alike {N M : Nat} {a c : Tm N} {a' c' : Tm M} (h1 : same N a M a' = true) (h2 : same N c M c' = true) : sameT (N + 1) (M + 1) (sumV N a c) (sumV M a' c') := by
  have e1 := head_alike _ _ _ _ h1
  have e2 := head_alike _ _ _ _ h2
  have e : sumB N a c = sumB M a' c' := by
    unfold sumB
    rw [e1.1, e1.2, e2.1, e2.2]
  unfold sumV
  rw [← e, ← e1.2, ← e2.2]
  cases sumB N a c
  · simp [sameT]
  · simp [sameT, same, leafV, sameL]
theorem allV_alike {α : Type} {N M : Nat} (f : α → Option (Tm N)) (g : α → Option (Tm M)) : (p : List α) → (∀ a ∈ p, sameT N M (f a) (g a)) → sameT (N + 1) (M + 1) ((allV f p).map (tupV N)) ((allV g p).map (tupV M)) ∧ ((allV f p = none ∧ allV g p = none) ∨ ∃ l r, allV f p = some l ∧ allV g p = some r ∧ sameL (fun x y => same N x M y) l r = true)
  | [], _ => ⟨by simp [allV, sameT, same, tupV, sameL], Or.inr ⟨[], [], rfl, rfl, rfl⟩⟩
  | a :: p, h => by
    have h1 := h a (by simp)
    have h2 := (allV_alike f g p fun x hx => h x (by simp [hx])).2
    simp only [allV]
    cases e1 : f a with
    | none =>
      rw [e1] at h1
      cases e2 : g a with
      | none => simp [sameT]
      | some _ => rw [e2] at h1; exact h1.elim
    | some u =>
      rw [e1] at h1
      cases e2 : g a with
      | none => rw [e2] at h1; exact h1.elim
      | some v =>
        rw [e2] at h1
        have hs : same N u M v = true := h1
        rcases h2 with ⟨k1, k2⟩ | ⟨l, r, k1, k2, k3⟩
        · rw [k1, k2]
          simp [sameT]
        · rw [k1, k2]
          exact ⟨by simp [sameT, same, tupV, sameL, hs, k3], Or.inr ⟨u :: l, v :: r, rfl, rfl, by simp [sameL, hs, k3]⟩⟩
theorem vl_alike (m : Nat) (b : List (Tm m)) (m' : Nat) (b' : List (Tm m')) (self : Int) (hb : sameL (fun x y => same m x m' y) b b' = true) (hr : ∀ y ∈ b, RightA ⟨m, y⟩) (hr' : ∀ y ∈ b', RightA ⟨m', y⟩) :
    (n : Nat) → (x : Tm n) → RightA ⟨n, x⟩ → sameT (m + n) (m' + n) (vl m b self n x) (vl m' b' self n x)
  | 0, _, _ => trivial
  | n + 1, x, hx => by
    have hl := sameL_length _ _ _ hb
    have hself : same (n + 1) x (n + 1) x = true := same_refl _ _ hx
    unfold vl
    by_cases h5 : x.1.1 = 5
    · rw [if_pos h5, if_pos h5]
      cases e : b[x.1.2.1.toNat]? with
      | none =>
        have e2 : b'[x.1.2.1.toNat]? = none := by
          rw [List.getElem?_eq_none_iff] at e ⊢
          omega
        rw [e2]
        trivial
      | some y =>
        obtain ⟨h1, _⟩ := List.getElem?_eq_some_iff.1 e
        have e2 : b'[x.1.2.1.toNat]? = some b'[x.1.2.1.toNat] := List.getElem?_eq_getElem (by omega)
        rw [e2]
        have hy : same m y m' b'[x.1.2.1.toNat] = true := sameL_at _ _ _ hb _ _ _ e e2
        simp only [Option.bind_some]
        rw [← (head_alike _ _ _ _ hy).1]
        by_cases h6 : kindA ⟨m, y⟩ = 6
        · rw [if_pos h6, if_pos h6]
          trivial
        · rw [if_neg h6, if_neg h6]
          exact lift_alike (by omega) (by omega) (hr y (List.mem_of_getElem? e)) (hr' _ (List.mem_of_getElem? e2)) hy
    · rw [if_neg h5, if_neg h5]
      by_cases h6 : x.1.1 = 6
      · rw [if_pos h6, if_pos h6]
        trivial
      · rw [if_neg h6, if_neg h6]
        by_cases h4 : x.1.1 = 4
        · rw [if_pos h4, if_pos h4]
          by_cases hw : isW n x.2.2 wSelf 0 = true
          · rw [if_pos hw, if_pos hw]
            simp [sameT, same, leafV, sameL]
          · rw [if_neg hw, if_neg hw]
            by_cases ha : isW n x.2.2 wAdd 2 = true
            · rw [if_pos ha, if_pos ha]
              cases e1 : x.2.2[1]? with
              | none => trivial
              | some a =>
                cases e2 : x.2.2[2]? with
                | none => trivial
                | some c =>
                  simp only [Option.bind_some]
                  exact sameT_bind (vl_alike m b m' b' self hb hr hr' n a (parts_right n x a hx (List.mem_of_getElem? e1))) fun u v h1 => sameT_bind (vl_alike m b m' b' self hb hr hr' n c (parts_right n x c hx (List.mem_of_getElem? e2))) fun u' v' h2 => sum_alike h1 h2
            · rw [if_neg ha, if_neg ha]
              by_cases hp : isW n x.2.2 wPut 1 = true
              · rw [if_pos hp, if_pos hp]
                cases e1 : x.2.2[1]? with
                | none => trivial
                | some a =>
                  have hra := parts_right n x a hx (List.mem_of_getElem? e1)
                  simp only [Option.bind_some]
                  cases closedT n a
                  · simp [sameT]
                  · exact lift_alike (by omega) (by omega) hra hra (same_refl _ _ hra)
              · rw [if_neg hp, if_neg hp]
                exact (allV_alike _ _ x.2.2 fun y hy => vl_alike m b m' b' self hb hr hr' n y (parts_right n x y hx hy)).1
        · rw [if_neg h4, if_neg h4]
          exact lift_alike (by omega) (by omega) hx hx hself
end Go.Proofs.Ytbmjfnicfpdjfaa
namespace Go.Proofs.Ytbmjfnicfpdjfaa
open Go.RowKit

/-- A term without its addresses, at one depth. -/
def can : (D : Nat) → (n : Nat) → Tm n → Tm D
  | 0, _, _ => ()
  | _ + 1, 0, _ => ((0, 0, .empty), (none, 0), [])
  | D + 1, n + 1, x => (x.1, (none, 0), x.2.2.map fun y => can D n y)
theorem can_eq : (D : Nat) → (n : Nat) → (x : Tm n) → (m : Nat) → (y : Tm m) → same n x m y = true → can D n x = can D m y
  | 0, _, _, _, _, _ => rfl
  | D + 1, 0, _, _, _, h => by simp [same] at h
  | D + 1, n + 1, _, 0, _, h => by simp [same] at h
  | D + 1, n + 1, x, m + 1, y, h => by
    obtain ⟨h1, h2⟩ := same_parts h
    have h3 := sameL_map _ (fun a => can D n a) (fun b => can D m b) _ _ (fun a _ b hab => can_eq D n a m b hab) h2
    simp only [can, h1, h3]
    rfl
theorem dep_fold {n : Nat} : (l : List (Tm n)) → (m : Int) → m ≤ l.foldl (fun m y => max m (dep n y)) m ∧ ∀ y ∈ l, dep n y ≤ l.foldl (fun m y => max m (dep n y)) m
  | [], m => ⟨Int.le_refl _, fun y hy => by simp at hy⟩
  | a :: l, m => by
    obtain ⟨h1, h2⟩ := dep_fold l (max m (dep n a))
    simp only [List.foldl_cons]
    refine ⟨by omega, fun y hy => ?_⟩
    rcases List.mem_cons.1 hy with rfl | hy
    · omega
    · exact h2 y hy
/-- The parts of a right term are less deep. -/
theorem dep_part {n : Nat} {x : Tm (n + 1)} (hr : RightA ⟨n + 1, x⟩) {y : Tm n} (hy : y ∈ x.2.2) : dep n y + 1 ≤ dep (n + 1) x := by
  have h4 : x.1.1 = 4 := by
    have hg := hr _ (List.mem_cons_self ..)
    simp only [good, Bool.and_eq_true, Bool.or_eq_true, beq_iff_eq, Bool.not_eq_true', decide_eq_false_iff_not] at hg
    rcases hg.2 with h | h
    · exact h
    · have := List.length_pos_of_mem hy
      omega
  have := (dep_fold x.2.2 0).2 y hy
  simp only [dep, if_pos h4]
  omega
theorem can_same : (D : Nat) → (n : Nat) → (x : Tm n) → RightA ⟨n, x⟩ → dep n x < D → same D (can D n x) n x = true
  | _, 0, _, h, _ => (zero_bad h).elim
  | 0, n + 1, x, _, h => by
    have := (dep_bound (n + 1) x).1
    omega
  | D + 1, n + 1, x, hr, h => same_mk rfl (sameL_mapl _ _ _ fun y hy => can_same D n y (parts_right n x y hr hy) (by
    have := dep_part hr hy
    omega))
/-- At another depth, where it isn't too deep for that, a term is the same, and lies where it lay. -/
theorem low_same : (D : Nat) → (n : Nat) → (x : Tm n) → RightA ⟨n, x⟩ → dep n x < D → same D (lift D n x) n x = true
  | _, 0, _, h, _ => (zero_bad h).elim
  | 0, n + 1, x, _, h => by
    have := (dep_bound (n + 1) x).1
    omega
  | D + 1, n + 1, x, hr, h => same_mk rfl (sameL_mapl _ _ _ fun y hy => low_same D n y (parts_right n x y hr hy) (by
    have := dep_part hr hy
    omega))
theorem low_held (D n : Nat) (x : Tm n) (w : World) (b o : Nat) (hD : 0 < D) (k : Held w b o n x) : Held w b o D (lift D n x) := by
  cases n with
  | zero => exact k.elim
  | succ n =>
    obtain ⟨D, rfl⟩ : ∃ M, D = M + 1 := ⟨D - 1, by omega⟩
    obtain ⟨k0, k1, k2, k3⟩ := k
    exact ⟨k0, k1, k2, by simpa [lift] using k3⟩
theorem low_in : (D n : Nat) → (x : Tm n) → (B : Nat) → (w : World) → RightA ⟨n, x⟩ → dep n x < D → In B w n x → In B w D (lift D n x)
  | _, 0, _, _, _, _, _, k => k.elim
  | 0, n + 1, x, _, _, _, h, _ => by
    have := (dep_bound (n + 1) x).1
    omega
  | D + 1, n + 1, x, B, w, hr, h, k => by
    obtain ⟨k0, k1⟩ := k
    refine ⟨by simpa [lift] using k0, ?_⟩
    rcases k1 with k1 | ⟨b, o, e, hb, k1⟩
    · exact Or.inl (by simp [lift, k1])
    · refine Or.inr ⟨b, o, e, hb, fun i y hy => ?_⟩
      simp only [lift, List.getElem?_map] at hy
      obtain ⟨z, hz, rfl⟩ := Option.map_eq_some_iff.1 hy
      have hm := List.mem_of_getElem? hz
      have hd := dep_part hr hm
      have h0 := (dep_bound n z).1
      exact ⟨low_held D n z w b _ (by omega) (k1 i z hz).1, low_in D n z B w (parts_right n x z hr hm) (by omega) (k1 i z hz).2⟩
theorem low_val (D n : Nat) (x : Tm (n + 1)) : val (D + 1) (lift (D + 1) (n + 1) x) = val (n + 1) x := by
  simp [val, lift]
theorem low_off : (D n : Nat) → (x : Tm n) → (P : Nat → Prop) → RightA ⟨n, x⟩ → dep n x < D → Off P n x → Off P D (lift D n x)
  | _, 0, _, _, h, _, _ => (zero_bad h).elim
  | 0, n + 1, x, _, _, h, _ => by
    have := (dep_bound (n + 1) x).1
    omega
  | D + 1, n + 1, x, P, hr, h, k => by
    rcases k with k | ⟨b, o, e, hb, k⟩
    · exact Or.inl (by simp [lift, k])
    · refine Or.inr ⟨b, o, e, hb, fun i y hy => ?_⟩
      simp only [lift, List.getElem?_map] at hy
      obtain ⟨z, hz, rfl⟩ := Option.map_eq_some_iff.1 hy
      have hm := List.mem_of_getElem? hz
      have hd := dep_part hr hm
      exact low_off D n z P (parts_right n x z hr hm) (by omega) (k i z hz)

/-- Without addresses, at the depth that all terms have which Check lets pass. -/
abbrev Tc : Type := Tm 13
def cn (n : Nat) (x : Tm n) : Tc := can 13 n x
theorem cn_eq {n m : Nat} {x : Tm n} {y : Tm m} (h : same n x m y = true) : cn n x = cn m y := can_eq 13 n x m y h
theorem cn_same {n : Nat} {x : Tm n} (h : chk n x = 0) : same 13 (cn n x) n x = true := by
  obtain ⟨h1, h2, _⟩ := chk_iff.1 h
  exact can_same 13 n x (right_formed.2 h1) (by omega)
theorem cn_idem {n : Nat} {x : Tm n} (h : chk n x = 0) : cn 13 (cn n x) = cn n x := cn_eq (cn_same h)
theorem cn_chk {n : Nat} {x : Tm n} (h : chk n x = 0) : chk 13 (cn n x) = 0 := by rw [same_chk (cn_same h), h]
theorem cn_sz {n : Nat} {x : Tm n} (h : chk n x = 0) : sz 13 (cn n x) = sz n x := same_sz _ _ _ _ (cn_same h)
theorem cn_closed {n : Nat} {x : Tm n} (h : chk n x = 0) : closedT 13 (cn n x) = closedT n x := same_closed _ _ _ _ (cn_same h)
theorem same_of_cn {n m : Nat} {x : Tm n} {y : Tm m} (hx : chk n x = 0) (hy : chk m y = 0) (h : cn n x = cn m y) : same n x m y = true := by
  have h1 := same_symm _ _ _ _ (cn_same hx)
  rw [h] at h1
  exact same_trans _ _ _ _ _ _ h1 (cn_same hy)
theorem cn_L {n m : Nat} : (p : List (Tm n)) → (q : List (Tm m)) → sameL (fun x y => same n x m y) p q = true → p.map (cn n) = q.map (cn m) := fun p q h => sameL_map _ _ _ p q (fun _ _ _ hab => cn_eq hab) h
theorem same_of_cnL {n m : Nat} : (p : List (Tm n)) → (q : List (Tm m)) → (∀ x ∈ p, chk n x = 0) → (∀ y ∈ q, chk m y = 0) → p.map (cn n) = q.map (cn m) → sameL (fun x y => same n x m y) p q = true
  | [], [], _, _, _ => rfl
  | [], _ :: _, _, _, h => by simp at h
  | _ :: _, [], _, _, h => by simp at h
  | x :: p, y :: q, hp, hq, h => by
    simp only [List.map_cons, List.cons.injEq] at h
    simp only [sameL, Bool.and_eq_true]
    exact ⟨same_of_cn (hp x (by simp)) (hq y (by simp)) h.1, same_of_cnL p q (fun a ha => hp a (List.mem_cons_of_mem _ ha)) (fun a ha => hq a (List.mem_cons_of_mem _ ha)) h.2⟩
end Go.Proofs.Ytbmjfnicfpdjfaa
namespace Go.Proofs.Ytbmjfnicfpdjfaa
open Go.RowKit

def any4 : List An := anL 1 (List.replicate 4 anyT)
def cnA (a : An) : Tc := cn a.1 a.2
/-- What is bound where a clause fits a state and a message. -/
def fitC {n : Nat} (c : Cl (n + 1)) (s m : Tc) : Option (List Tc) := (fit (n + 1) c.1.1 13 s any4).bind fun b => (fit (n + 1) c.1.2.1 13 m b).map fun b2 => b2.map cnA
/-- The first clause that fits. -/
def clsC {n : Nat} (s m : Tc) : List (Cl (n + 1)) → Option (Cl (n + 1) × List Tc)
  | [] => none
  | c :: l => match fitC c s m with
    | some b => some (c, b)
    | none => clsC s m l
/-- The first message that fits, by its place. -/
def chs {n : Nat} (l : List (Cl (n + 1))) (s : Tc) : List Tc → Nat → Option (Nat × Cl (n + 1) × List Tc)
  | [], _ => none
  | m :: ms, i => match clsC s m l with
    | some x => some (i, x)
    | none => chs l s ms (i + 1)
theorem okA_alike {x y : An} (h : sameA x y = true) (hy : OkA y) : OkA x := by
  obtain ⟨h1, h2⟩ := hy
  refine ⟨(same_chk h).trans h1, ?_⟩
  rw [kind_alike h, same_closed _ _ _ _ h]
  exact h2
theorem sameL_mem {α β : Type} (f : α → β → Bool) : (p : List α) → (q : List β) → sameL f p q = true → ∀ x ∈ p, ∃ y ∈ q, f x y = true
  | [], _, _, x, hx => by simp at hx
  | _ :: _, [], h, _, _ => by simp [sameL] at h
  | a :: p, b :: q, h, x, hx => by
    simp only [sameL, Bool.and_eq_true] at h
    rcases List.mem_cons.1 hx with rfl | hx
    · exact ⟨b, by simp, h.1⟩
    · obtain ⟨y, hy, e⟩ := sameL_mem f p q h.2 x hx
      exact ⟨y, List.mem_cons_of_mem _ hy, e⟩
theorem okL_alike {p q : List An} (h : sameL sameA p q = true) (hq : ∀ y ∈ q, OkA y) : ∀ x ∈ p, OkA x := fun x hx => by
  obtain ⟨y, hy, e⟩ := sameL_mem _ _ _ h x hx
  exact okA_alike e (hq y hy)
theorem anL_alike {n : Nat} : (l : List (Tm n)) → (b : List An) → (∀ y ∈ b, RightA y ∧ y.1 ≤ n) → sameL (fun x y => same n x n y) l (b.map fun a => lift n a.1 a.2) = true → sameL sameA (anL n l) b = true
  | [], [], _, _ => rfl
  | [], _ :: _, _, h => by simp [sameL] at h
  | _ :: _, [], _, h => by simp [sameL] at h
  | x :: l, a :: b, hb, h => by
    simp only [List.map_cons, sameL, Bool.and_eq_true] at h
    simp only [anL, List.map_cons, sameL, Bool.and_eq_true]
    obtain ⟨h1, h2⟩ := hb a (by simp)
    exact ⟨same_trans _ _ _ _ _ _ h.1 (lift_same n a.1 h2 a.2 h1), anL_alike l b (fun y hy => hb y (List.mem_cons_of_mem _ hy)) h.2⟩
theorem cnA_L {p q : List An} (h : sameL sameA p q = true) : p.map cnA = q.map cnA := sameL_map _ _ _ p q (fun _ _ _ hab => cn_eq hab) h
theorem any4_alike : sameL sameA any4 any4 = true := by
  refine sameL_self _ _ fun a ha => ?_
  exact same_refl _ _ (ok_right (any_ok a ha))
theorem cn_ok {n : Nat} {x : Tm n} (h : chk n x = 0) (hc : closedT n x = true) : OkA ⟨n, x⟩ := ⟨h, Or.inr hc⟩

theorem Off.both {P Q : Nat → Prop} : {n : Nat} → {x : Tm n} → Off P n x → Off Q n x → Off (fun b => P b ∧ Q b) n x
  | 0, _, p, _ => p
  | _ + 1, _, p, k => by
    rcases p with p | ⟨b, o, e, hb, p⟩
    · exact Or.inl p
    · rcases k with k | ⟨b', o', e', hb', k⟩
      · exact Or.inl k
      · rw [e] at e'
        injection e' with e'
        injection e' with e1 e2
        subst e1 e2
        exact Or.inr ⟨b, o, e, ⟨hb, hb'⟩, fun i y hy => (p i y hy).both (k i y hy)⟩
/-- A row of four terms that fits left: new memory. -/
structure BRow (D : Nat) (l : List (Tm D)) (B : List Tc) (b0 : Nat) (w' : World) (bg bc : Nat) : Prop where
  bnd : bndB D l = true
  tells : l.map (cn D) = B
  cap : 4 ≤ bc ∧ bc ≤ maxLen
  new : b0 ≤ bg ∧ bg < w'.heap.size
  at' : ∀ (i : Nat) (y : Tm D), l[i]? = some y → Held w' bg (i * 4) D y ∧ In w'.heap.size w' D y ∧ Off (fun q => b0 ≤ q ∧ q ≠ bg) D y
  free : ∀ j, w'.frozen? ⟨bg, j, none⟩ = false
def FcOut {n : Nat} (c : Cl (n + 1)) (s m : Tc) (w : World) (e : Ending) (w' : World) : Prop :=
  ∃ a len c' r, e = .returned (.tuple #[.slice a len c', .bool r]) ∧ Hid (Below w.heap.size w w' ∧ r = (fitC c s m).isSome ∧ ∀ B, fitC c s m = some B → len = 4 ∧ ∃ D l bg, a = some ⟨bg, 0, none⟩ ∧ BRow D l B w.heap.size w' bg c')
theorem fitC_out {n m k : Nat} (c : Cl (n + 1)) (s : Tm (m + 1)) (t : Tm (k + 1)) (h1 : chk (n + 1) c.1.1 = 0) (h2 : chk (n + 1) c.1.2.1 = 0) (h3 : chk (m + 1) s = 0) (h4 : closedT (m + 1) s = true) (h5 : chk (k + 1) t = 0) (h6 : closedT (k + 1) t = true)
    {w w' : World} {e : Ending} (h : PfOut (fit (n + 1) c.1.1 (m + 1) s any4) (fit (n + 1) c.1.2.1 (k + 1) t) w e w') : FcOut c (cn (m + 1) s) (cn (k + 1) t) w e w' := by
  obtain ⟨a, len, c', r, rfl, H⟩ := h
  obtain ⟨hb, hn, hs⟩ := H.out
  refine ⟨a, len, c', r, rfl, hb, ?_⟩
  have a1 := fit_alike (n + 1) c.1.1 (m + 1) s (n + 1) c.1.1 13 (cn (m + 1) s) any4 any4 (same_refl _ _ (right_formed.2 (chk_iff.1 h1).1)) (same_symm _ _ _ _ (cn_same h3)) any4_alike
  cases e1 : fit (n + 1) c.1.1 (m + 1) s any4 with
  | none =>
    rw [e1] at a1
    cases e2 : fit (n + 1) c.1.1 13 (cn (m + 1) s) any4 with
    | some _ =>
      rw [e2] at a1
      exact a1.elim
    | none =>
      have hf : fitC c (cn (m + 1) s) (cn (k + 1) t) = none := by simp [fitC, e2]
      rw [hf]
      exact ⟨hn e1, fun B hB => by cases hB⟩
  | some b =>
    rw [e1] at a1
    cases e2 : fit (n + 1) c.1.1 13 (cn (m + 1) s) any4 with
    | none =>
      rw [e2] at a1
      exact a1.elim
    | some bc =>
      rw [e2] at a1
      have hok := fit_keep OkA parts_ok (n + 1) c.1.1 (m + 1) s (cn_ok h3 h4) any4 b ⟨by simp [any4, anL], any_ok⟩ e1
      obtain ⟨l1, hl1, hn1, hs1⟩ := hs b e1
      have a2 : sameL sameA (anL (top b) l1) b = true := anL_alike l1 b (fun y hy => ⟨ok_right (hok.2 y hy), top_le b y hy⟩) hl1
      have a3 : sameL sameA (anL (top b) l1) bc = true := sameL_chain sameA sameA sameA _ _ _ (fun x _ y z p q => same_trans x.1 x.2 y.1 y.2 z.1 z.2 p q) a2 a1
      have a4 := fit_alike (n + 1) c.1.2.1 (k + 1) t (n + 1) c.1.2.1 13 (cn (k + 1) t) _ _ (same_refl _ _ (right_formed.2 (chk_iff.1 h2).1)) (same_symm _ _ _ _ (cn_same h5)) a3
      cases e3 : fit (n + 1) c.1.2.1 (k + 1) t (anL (top b) l1) with
      | none =>
        rw [e3] at a4
        cases e4 : fit (n + 1) c.1.2.1 13 (cn (k + 1) t) bc with
        | some _ =>
          rw [e4] at a4
          exact a4.elim
        | none =>
          have hf : fitC c (cn (m + 1) s) (cn (k + 1) t) = none := by simp [fitC, e2, e4]
          rw [hf]
          exact ⟨hn1 e3, fun B hB => by cases hB⟩
      | some b2 =>
        rw [e3] at a4
        cases e4 : fit (n + 1) c.1.2.1 13 (cn (k + 1) t) bc with
        | none =>
          rw [e4] at a4
          exact a4.elim
        | some b2c =>
          rw [e4] at a4
          have hf : fitC c (cn (m + 1) s) (cn (k + 1) t) = some (b2c.map cnA) := by simp [fitC, e2, e4]
          rw [hf]
          obtain ⟨k1, k2, k3, w1, l, k4, k5⟩ := hs1 b2 e3
          refine ⟨k1, fun B hB => ⟨k2, top b2, l, ?_⟩⟩
          cases hB
          have hok1 := okL_alike a2 hok.2
          have hl4 : (anL (top b) l1).length = 4 := by rw [sameL_length _ _ _ a2]; exact hok.1
          have hok2 := fit_keep OkA parts_ok (n + 1) c.1.2.1 (k + 1) t (cn_ok h5 h6) _ b2 ⟨hl4, hok1⟩ e3
          have hr2 : ∀ y ∈ b2, RightA y := fun y hy => ok_right (hok2.2 y hy)
          obtain ⟨_, j2, j3, _⟩ := fit_row k5 hr2 k3
          have hbn := tells_bnd hok2.2 j2 k3 j3
          obtain ⟨_, _, q3, q4, q5, q6⟩ := k5
          rcases q6 with q6 | ⟨bg, bo, rfl, ⟨q7, rfl, qf, qo⟩, q8, q9⟩
          · rw [q6] at j2
            simp at j2
          · refine ⟨bg, rfl, hbn, ?_, ⟨by omega, q4⟩, ⟨by omega, q8⟩, fun i y hy => ⟨?_, (q9 i y hy).2.1, (Off.both (q9 i y hy).2.2 (qo y (List.mem_of_getElem? hy))).mono fun q hq => ⟨by omega, hq.2⟩⟩, qf⟩
            rotate_left
            · have := (q9 i y hy).1
              rw [Nat.zero_add] at this
              exact this
            have a5 : sameL sameA (anL (top b2) l) b2 = true := anL_alike l b2 (fun y hy => ⟨hr2 y hy, top_le b2 y hy⟩) q5
            rw [← cnA_L a4, ← cnA_L a5]
            simp [anL, cnA]
theorem pfits_can {n m k : Nat} (c : Cl (n + 1)) (s : Tm (m + 1)) (t : Tm (k + 1)) (B : Nat) (w : World) (hc : ClIn (n + 1) B w c) (hs : In B w (m + 1) s) (ht : In B w (k + 1) t) (hB : B ≤ w.heap.size)
    (h1 : chk (n + 1) c.1.1 = 0) (h2 : chk (n + 1) c.1.2.1 = 0) (h3 : chk (m + 1) s = 0) (h4 : closedT (m + 1) s = true) (h5 : chk (k + 1) t = 0) (h6 : closedT (k + 1) t = true) :
    Calls Try.prog 45 #[.agg (cl13 (n + 1) c).toArray, val (m + 1) s, val (k + 1) t] w (FcOut c (cn (m + 1) s) (cn (k + 1) t) w) :=
  (pfits_any n m k c s t B w hc hs ht hB h1 h2 h3 (by rw [← closed_eq]; exact h4) h5 (by rw [← closed_eq]; exact h6)).mono fun _ _ q => fitC_out c s t h1 h2 h3 h4 h5 h6 q
theorem clsC_drop {n : Nat} (s m : Tc) {l : List (Cl (n + 1))} {j : Nat} {c : Cl (n + 1)} (h : l[j]? = some c) : clsC s m (l.drop j) = match fitC c s m with
    | some b => some (c, b)
    | none => clsC s m (l.drop (j + 1)) := by
  obtain ⟨h1, e⟩ := List.getElem?_eq_some_iff.1 h
  rw [List.drop_eq_getElem_cons h1, e]
  rfl
theorem chs_drop {n : Nat} (l : List (Cl (n + 1))) (s : Tc) {ms : List Tc} {j : Nat} {m : Tc} (h : ms[j]? = some m) : chs l s (ms.drop j) j = match clsC s m l with
    | some x => some (j, x)
    | none => chs l s (ms.drop (j + 1)) (j + 1) := by
  obtain ⟨h1, e⟩ := List.getElem?_eq_some_iff.1 h
  rw [List.drop_eq_getElem_cons h1, e]
  rfl
end Go.Proofs.Ytbmjfnicfpdjfaa
