/- What is proved here: plain facts and contracts that the claimed theorem stands on, several texts in one: a row to which one more is to be appended, beside others: how far it is, and that it stays so whatever is done to the others. No condition but that it lies in memory. a region that draws its order and appends to three rows at once, the third behind one operation more: whatever the order, each is appended to. No condition but that the rows lie apart. a region that draws its order and appends to three rows at once, the third behind one operation more: whatever the order, each is appended to. No condition but that the rows lie apart. plain facts on words that share nothing (plc: the places that a word leads to): what is copied of them is what laying their terms makes; what is laid shares nothing. No condition. a map from pointers to truths, as it is asked and written: a set of blocks. No condition but that the blocks lie in memory. the statement's nodes in memory, and what a round of growing them leaves. No condition but that all lies in memory. -/
import Derived.Test.YtdlckjjfbobmpaaG15
import Derived.Test.YtdlckjjfbobmpaaG14
import Derived.Great.BuildSlice
import Derived.Deep.AppendLies
import Derived.LaidEqlPtr
import Derived.MapKept
namespace Go.Proofs.Ytdlckjjfbobmpaa
open Go.RowKit

/-- How far a row is: 0: nothing is done; 1: the slice of the one that is new is there; 2: it is appended. -/
def RSt (w0 : World) (T : TypeId) (k base : Nat) (v : Value) (L : Nat) (xs new : List Value) (p : Nat) (x y : Value) (w : World) : Prop :=
  (p < 2 → w.ownsRow base T k v L xs) ∧ (p = 1 → ∃ g, x = .slice (some ⟨g, 0, none⟩) 1 1 ∧ w0.heap.size ≤ g ∧ w.heap[g]? = some (.cells new.toArray T)) ∧ (p = 2 → (∃ g c, y = .slice (some ⟨g, 0, none⟩) (L + 1) c) ∧ w.ownsRow base T k y (L + 1) (xs ++ new) ∧ ∀ b, y.ownBlock = some b → v.ownBlock = some b ∨ w0.heap.size ≤ b)
section
variable {w0 : World} {T : TypeId} {k base : Nat} {v : Value} {L : Nat} {xs new : List Value} {p : Nat} {x y : Value} {w w' : World}
theorem RSt.start (h : w.ownsRow base T k v L xs) : RSt w0 T k base v L xs new 0 x y w := ⟨fun _ => h, fun e => (by cases e), fun e => (by cases e)⟩
theorem RSt.kept (h : RSt w0 T k base v L xs new p x y w) {S : Nat → Prop} (hk : Kee S w w') (h1 : ∀ b, S b → b < w0.heap.size) (h2 : ∀ b, v.ownBlock = some b → ¬ S b) : RSt w0 T k base v L xs new p x y w' := by
  refine ⟨fun e => row_kee (h.1 e) hk h2, fun e => ?_, fun e => ?_⟩
  · obtain ⟨g, e1, e2, e3⟩ := h.2.1 e
    exact ⟨g, e1, e2, (hk.block g (Array.getElem?_eq_some_iff.1 e3).1 fun hs => by have := h1 g hs; omega).trans e3⟩
  · obtain ⟨e0, e1, e2⟩ := h.2.2 e
    refine ⟨e0, row_kee e1 hk fun b hb hs => ?_, e2⟩
    rcases e2 b hb with hb' | hb'
    · exact h2 b hb' hs
    · have := h1 b hs
      omega
theorem RSt.built (h : RSt w0 T k base v L xs new 0 x y w) (hs : w0.heap.size ≤ w.heap.size) : RSt w0 T k base v L xs new 1 (.slice (some ⟨w.heap.size, 0, none⟩) 1 1) y (w.alloc (.cells new.toArray T)) :=
  ⟨fun _ => row_kee (h.1 (by omega)) (kee_below ((Below.refl _ _).alloc (Nat.le_refl _) _) fun _ => False) fun _ _ e => e, fun _ => ⟨_, rfl, hs, heap_alloc_new w _⟩, fun e => (by cases e)⟩
/-- The append of a row that is so far. -/
theorem RSt.app {P : Program} {o : Oper} {a : Act} {K : Act → World → Prop} {Q : Exit → Act → World → Prop} (h : RSt w0 T k base v L xs new 1 x y w) (s e : Operand) (st : TypeId) (ho : o.op = .call { callee := .builtin .append, args := #[s, e], argTypes := #[st, st] }) (it : TypeInfo) (z : Value) (bytes : Nat) (ht : P.underlying st = some (.slice T)) (hi : P.info? T = some it) (hz : it.zero = some z) (hsz : it.size = k) (hby : it.bytes = bytes) (hzs : z.cells.size = k) (hk : 0 < k)
    (hs : a.eval s = v) (he : a.eval e = x) (hn : new.length = k) (hone : ∀ u ∈ new, u.oneCell' = true) (hL : L + 1 ≤ 100000000) (hb : bytes ≤ 100) (hbase : base ≤ w.heap.size) (hw : w0.heap.size ≤ w.heap.size)
    (hK : ∀ y' w', RSt w0 T k base v L xs new 2 x y' w' → Kee (fun b => v.ownBlock = some b) w w' → (∀ b, y'.ownBlock = some b → v.ownBlock = some b ∨ w.heap.size ≤ b) → K (a.put o.dst y') w') : o.wp P a w K Q := by
  obtain ⟨g, rfl, e2, e3⟩ := h.2.1 rfl
  have hbb : (L + 1) * bytes ≤ 140737488355328 := by
    have : (L + 1) * bytes ≤ 100000000 * 100 := Nat.mul_le_mul hL hb
    omega
  refine wp_append_lies w s e st ho base T it z k bytes ht hi hz hsz hby hzs hk v L xs hs (h.1 (by omega)) ⟨g, 0, none⟩ 1 1 new he (by omega) (World.news_of_block (cs := new.toArray) (t := T) (fr := (0, 0)) e3) hone (by decide) (by unfold maxLen; omega) hbb hbase _ rfl ?_
  intro g' c' w' hown hgrow hat hlt
  have hnew : ∀ b, (Value.slice (some ⟨g', 0, none⟩) (L + 1) c').ownBlock = some b → v.ownBlock = some b ∨ w.heap.size ≤ b := fun b hb => by
    simp only [Value.ownBlock, Option.some.injEq] at hb
    subst hb
    rcases hat with e | e
    · exact Or.inl e
    · exact Or.inr (by omega)
  exact hK _ w' ⟨fun e => (by omega), fun e => (by cases e), fun _ => ⟨⟨g', c', rfl⟩, hown, fun b hb => (hnew b hb).imp id fun e => by omega⟩⟩ (kee_grown hgrow) hnew
end
end Go.Proofs.Ytdlckjjfbobmpaa
namespace Go.Proofs.Ytdlckjjfbobmpaa
open Go.RowKit

theorem seven {d1 d2 d3 d4 d5 d6 d7 : Nat} (h : [d1, d2, d3, d4, d5, d6, d7].Nodup) : (d1 ≠ d2 ∧ d1 ≠ d3 ∧ d1 ≠ d4 ∧ d1 ≠ d5 ∧ d1 ≠ d6 ∧ d1 ≠ d7) ∧ (d2 ≠ d3 ∧ d2 ≠ d4 ∧ d2 ≠ d5 ∧ d2 ≠ d6 ∧ d2 ≠ d7) ∧ (d3 ≠ d4 ∧ d3 ≠ d5 ∧ d3 ≠ d6 ∧ d3 ≠ d7) ∧ (d4 ≠ d5 ∧ d4 ≠ d6 ∧ d4 ≠ d7) ∧ (d5 ≠ d6 ∧ d5 ≠ d7) ∧ d6 ≠ d7 := by
  simp only [List.nodup_cons, List.mem_cons, List.not_mem_nil, not_or, or_false, not_false_eq_true, List.nodup_nil, and_true] at h
  exact h
/-- A frame in which seven slots are turned. -/
def Fr7 (a : Act) (d1 d2 d3 d4 d5 d6 d7 : Nat) (x1 y1 x2 y2 z3 x3 y3 : Value) : Act := ((((((a.put (some d1) x1).put (some d2) y1).put (some d3) x2).put (some d4) y2).put (some d5) z3).put (some d6) x3).put (some d7) y3
section
variable {a : Act} {d1 d2 d3 d4 d5 d6 d7 : Nat} {x1 y1 x2 y2 z3 x3 y3 : Value}
theorem Fr7.p1 (h : [d1, d2, d3, d4, d5, d6, d7].Nodup) (u : Value) : (Fr7 a d1 d2 d3 d4 d5 d6 d7 x1 y1 x2 y2 z3 x3 y3).put (some d1) u = Fr7 a d1 d2 d3 d4 d5 d6 d7 u y1 x2 y2 z3 x3 y3 := by
  obtain ⟨⟨h12, h13, h14, h15, h16, h17⟩, ⟨h23, h24, h25, h26, h27⟩, ⟨h34, h35, h36, h37⟩, ⟨h45, h46, h47⟩, ⟨h56, h57⟩, h67⟩ := seven h
  unfold Fr7
  rw [put_swap _ _ _ (fun e => h17 e.symm), put_swap _ _ _ (fun e => h16 e.symm), put_swap _ _ _ (fun e => h15 e.symm), put_swap _ _ _ (fun e => h14 e.symm), put_swap _ _ _ (fun e => h13 e.symm), put_swap _ _ _ (fun e => h12 e.symm), put_put]
theorem Fr7.p2 (h : [d1, d2, d3, d4, d5, d6, d7].Nodup) (u : Value) : (Fr7 a d1 d2 d3 d4 d5 d6 d7 x1 y1 x2 y2 z3 x3 y3).put (some d2) u = Fr7 a d1 d2 d3 d4 d5 d6 d7 x1 u x2 y2 z3 x3 y3 := by
  obtain ⟨⟨h12, h13, h14, h15, h16, h17⟩, ⟨h23, h24, h25, h26, h27⟩, ⟨h34, h35, h36, h37⟩, ⟨h45, h46, h47⟩, ⟨h56, h57⟩, h67⟩ := seven h
  unfold Fr7
  rw [put_swap _ _ _ (fun e => h27 e.symm), put_swap _ _ _ (fun e => h26 e.symm), put_swap _ _ _ (fun e => h25 e.symm), put_swap _ _ _ (fun e => h24 e.symm), put_swap _ _ _ (fun e => h23 e.symm), put_put]
theorem Fr7.p3 (h : [d1, d2, d3, d4, d5, d6, d7].Nodup) (u : Value) : (Fr7 a d1 d2 d3 d4 d5 d6 d7 x1 y1 x2 y2 z3 x3 y3).put (some d3) u = Fr7 a d1 d2 d3 d4 d5 d6 d7 x1 y1 u y2 z3 x3 y3 := by
  obtain ⟨⟨h12, h13, h14, h15, h16, h17⟩, ⟨h23, h24, h25, h26, h27⟩, ⟨h34, h35, h36, h37⟩, ⟨h45, h46, h47⟩, ⟨h56, h57⟩, h67⟩ := seven h
  unfold Fr7
  rw [put_swap _ _ _ (fun e => h37 e.symm), put_swap _ _ _ (fun e => h36 e.symm), put_swap _ _ _ (fun e => h35 e.symm), put_swap _ _ _ (fun e => h34 e.symm), put_put]
theorem Fr7.p4 (h : [d1, d2, d3, d4, d5, d6, d7].Nodup) (u : Value) : (Fr7 a d1 d2 d3 d4 d5 d6 d7 x1 y1 x2 y2 z3 x3 y3).put (some d4) u = Fr7 a d1 d2 d3 d4 d5 d6 d7 x1 y1 x2 u z3 x3 y3 := by
  obtain ⟨⟨h12, h13, h14, h15, h16, h17⟩, ⟨h23, h24, h25, h26, h27⟩, ⟨h34, h35, h36, h37⟩, ⟨h45, h46, h47⟩, ⟨h56, h57⟩, h67⟩ := seven h
  unfold Fr7
  rw [put_swap _ _ _ (fun e => h47 e.symm), put_swap _ _ _ (fun e => h46 e.symm), put_swap _ _ _ (fun e => h45 e.symm), put_put]
theorem Fr7.p5 (h : [d1, d2, d3, d4, d5, d6, d7].Nodup) (u : Value) : (Fr7 a d1 d2 d3 d4 d5 d6 d7 x1 y1 x2 y2 z3 x3 y3).put (some d5) u = Fr7 a d1 d2 d3 d4 d5 d6 d7 x1 y1 x2 y2 u x3 y3 := by
  obtain ⟨⟨h12, h13, h14, h15, h16, h17⟩, ⟨h23, h24, h25, h26, h27⟩, ⟨h34, h35, h36, h37⟩, ⟨h45, h46, h47⟩, ⟨h56, h57⟩, h67⟩ := seven h
  unfold Fr7
  rw [put_swap _ _ _ (fun e => h57 e.symm), put_swap _ _ _ (fun e => h56 e.symm), put_put]
theorem Fr7.p6 (h : [d1, d2, d3, d4, d5, d6, d7].Nodup) (u : Value) : (Fr7 a d1 d2 d3 d4 d5 d6 d7 x1 y1 x2 y2 z3 x3 y3).put (some d6) u = Fr7 a d1 d2 d3 d4 d5 d6 d7 x1 y1 x2 y2 z3 u y3 := by
  obtain ⟨⟨h12, h13, h14, h15, h16, h17⟩, ⟨h23, h24, h25, h26, h27⟩, ⟨h34, h35, h36, h37⟩, ⟨h45, h46, h47⟩, ⟨h56, h57⟩, h67⟩ := seven h
  unfold Fr7
  rw [put_swap _ _ _ (fun e => h67 e.symm), put_put]
theorem Fr7.p7 (u : Value) : (Fr7 a d1 d2 d3 d4 d5 d6 d7 x1 y1 x2 y2 z3 x3 y3).put (some d7) u = Fr7 a d1 d2 d3 d4 d5 d6 d7 x1 y1 x2 y2 z3 x3 u := by
  unfold Fr7
  rw [put_put]
theorem Fr7.other {e : Nat} (h : e ∉ [d1, d2, d3, d4, d5, d6, d7]) : (Fr7 a d1 d2 d3 d4 d5 d6 d7 x1 y1 x2 y2 z3 x3 y3).eval (.tmp e) = a.eval (.tmp e) := by
  simp only [List.mem_cons, List.not_mem_nil, not_or, or_false] at h
  obtain ⟨g1, g2, g3, g4, g5, g6, g7⟩ := h
  unfold Fr7
  rw [eval_put _ _ (fun q => g7 q.symm), eval_put _ _ (fun q => g6 q.symm), eval_put _ _ (fun q => g5 q.symm), eval_put _ _ (fun q => g4 q.symm), eval_put _ _ (fun q => g3 q.symm), eval_put _ _ (fun q => g2 q.symm), eval_put _ _ (fun q => g1 q.symm)]
theorem put_size (a : Act) (d : Nat) (v : Value) : (a.put (some d) v).tmps.size = a.tmps.size := by simp [Act.put]
theorem Fr7.e1 (h : [d1, d2, d3, d4, d5, d6, d7].Nodup) (hs : d1 < a.tmps.size) : (Fr7 a d1 d2 d3 d4 d5 d6 d7 x1 y1 x2 y2 z3 x3 y3).eval (.tmp d1) = x1 := by
  obtain ⟨⟨h12, h13, h14, h15, h16, h17⟩, ⟨h23, h24, h25, h26, h27⟩, ⟨h34, h35, h36, h37⟩, ⟨h45, h46, h47⟩, ⟨h56, h57⟩, h67⟩ := seven h
  unfold Fr7
  rw [eval_put _ _ (fun e => h17 e.symm), eval_put _ _ (fun e => h16 e.symm), eval_put _ _ (fun e => h15 e.symm), eval_put _ _ (fun e => h14 e.symm), eval_put _ _ (fun e => h13 e.symm), eval_put _ _ (fun e => h12 e.symm), eval_same _ _ hs]
theorem Fr7.e3 (h : [d1, d2, d3, d4, d5, d6, d7].Nodup) (hs : d3 < a.tmps.size) : (Fr7 a d1 d2 d3 d4 d5 d6 d7 x1 y1 x2 y2 z3 x3 y3).eval (.tmp d3) = x2 := by
  obtain ⟨⟨h12, h13, h14, h15, h16, h17⟩, ⟨h23, h24, h25, h26, h27⟩, ⟨h34, h35, h36, h37⟩, ⟨h45, h46, h47⟩, ⟨h56, h57⟩, h67⟩ := seven h
  unfold Fr7
  rw [eval_put _ _ (fun e => h37 e.symm), eval_put _ _ (fun e => h36 e.symm), eval_put _ _ (fun e => h35 e.symm), eval_put _ _ (fun e => h34 e.symm), eval_same _ _ (by simpa [put_size] using hs)]
theorem Fr7.e5 (h : [d1, d2, d3, d4, d5, d6, d7].Nodup) (hs : d5 < a.tmps.size) : (Fr7 a d1 d2 d3 d4 d5 d6 d7 x1 y1 x2 y2 z3 x3 y3).eval (.tmp d5) = z3 := by
  obtain ⟨⟨h12, h13, h14, h15, h16, h17⟩, ⟨h23, h24, h25, h26, h27⟩, ⟨h34, h35, h36, h37⟩, ⟨h45, h46, h47⟩, ⟨h56, h57⟩, h67⟩ := seven h
  unfold Fr7
  rw [eval_put _ _ (fun e => h57 e.symm), eval_put _ _ (fun e => h56 e.symm), eval_same _ _ (by simpa [put_size] using hs)]
theorem Fr7.e6 (h : [d1, d2, d3, d4, d5, d6, d7].Nodup) (hs : d6 < a.tmps.size) : (Fr7 a d1 d2 d3 d4 d5 d6 d7 x1 y1 x2 y2 z3 x3 y3).eval (.tmp d6) = x3 := by
  obtain ⟨⟨h12, h13, h14, h15, h16, h17⟩, ⟨h23, h24, h25, h26, h27⟩, ⟨h34, h35, h36, h37⟩, ⟨h45, h46, h47⟩, ⟨h56, h57⟩, h67⟩ := seven h
  unfold Fr7
  rw [eval_put _ _ (fun e => h67 e.symm), eval_same _ _ (by simpa [put_size] using hs)]
end
end Go.Proofs.Ytdlckjjfbobmpaa
namespace Go.Proofs.Ytdlckjjfbobmpaa
open Go.RowKit

theorem put_self (a : Act) {d : Nat} (h : d < a.tmps.size) : a.put (some d) (a.eval (.tmp d)) = a := by
  obtain ⟨tm, df⟩ := a
  simp only [Act.put, Act.eval] at *
  congr 1
  apply Array.ext
  · simp
  · intro i h1 h2
    rw [Array.getElem_setIfInBounds]
    split
    · rename_i e
      subst e
      simp
    · rfl
theorem Fr7.self (a : Act) {d1 d2 d3 d4 d5 d6 d7 : Nat} (h : d1 < a.tmps.size ∧ d2 < a.tmps.size ∧ d3 < a.tmps.size ∧ d4 < a.tmps.size ∧ d5 < a.tmps.size ∧ d6 < a.tmps.size ∧ d7 < a.tmps.size) : Fr7 a d1 d2 d3 d4 d5 d6 d7 (a.eval (.tmp d1)) (a.eval (.tmp d2)) (a.eval (.tmp d3)) (a.eval (.tmp d4)) (a.eval (.tmp d5)) (a.eval (.tmp d6)) (a.eval (.tmp d7)) = a := by
  obtain ⟨h1, h2, h3, h4, h5, h6, h7⟩ := h
  unfold Fr7
  rw [put_self a h1, put_self a h2, put_self a h3, put_self a h4, put_self a h5, put_self a h6, put_self a h7]
/-- A kind of row. -/
structure RowC where
  T : TypeId
  st : TypeId
  k : Nat
  bytes : Nat
  it : TypeInfo
  z : Value
  hu : Try.prog.underlying st = some (.slice T)
  hi : Try.prog.info? T = some it
  hz : it.zero = some z
  hk : it.size = k
  hb : it.bytes = bytes
  hzs : z.cells.size = k
  pos : 0 < k
  small : k ≤ 100 ∧ bytes ≤ 100
/-- A slice of one is built of a value. -/
def Fills (C : RowC) (v : Value) (new : List Value) : Prop := Instr.fill (fun i => some (i * C.it.size, C.it.size)) ((Array.range (1 * C.it.size)).map (C.z.cells[· % C.z.cells.size]!)) [(0, v)] = some new.toArray
/-- The two operations of a row: its slice of one, from slot e to slot d; the append to slot s, to slot d'. -/
structure RowO (C : RowC) (ops : Array Oper) (b p e s d d' : Nat) : Prop where
  build : ∃ o, ops[b]? = some o ∧ o.guard = none ∧ o.dst = some d ∧ o.op = .buildSlice C.st 1 #[(0, .tmp e)]
  app : ∃ o, ops[p]? = some o ∧ o.guard = none ∧ o.dst = some d' ∧ o.op = .call { callee := .builtin .append, args := #[.tmp s, .tmp d], argTypes := #[C.st, C.st] }
section
variable {ops : Array Oper} {Q : Exit → Act → World → Prop} {S : World → Prop}
theorem RowO.builds {C : RowC} {b p e s d d' : Nat} (h : RowO C ops b p e s d d') {v : Value} {new : List Value} (hf : Fills C v new) {a : Act} {w : World} (ha : a.eval (.tmp e) = v) {R' : Act → World → Prop} (hR : S (w.alloc (.cells new.toArray C.T)) ∧ R' (a.put (some d) (.slice (some ⟨w.heap.size, 0, none⟩) 1 1)) (w.alloc (.cells new.toArray C.T))) : StepsTo Try.prog ops Q S b R' a w := by
  obtain ⟨o, h1, h2, h3, h4⟩ := h.build
  have hs := C.small
  have hp := C.pos
  have hk := C.hk
  refine steps_of h1 h2 (wp_buildSlice C.st C.T 1 _ h4 new.toArray C.it C.z C.hu C.hi C.hz (by rw [hk]; omega) (by rw [hk]; omega) ?_ ?_)
  · simp only [List.map_toArray, List.map_cons, List.map_nil, ha]
    exact hf
  · rw [h3]
    exact hR
theorem RowO.apps {C : RowC} {b p e s d d' : Nat} (h : RowO C ops b p e s d d') {w0 : World} {base L : Nat} {v x y : Value} {xs new : List Value} {a : Act} {w : World} (hr : RSt w0 C.T C.k base v L xs new 1 x y w) (hv : a.eval (.tmp s) = v) (hx : a.eval (.tmp d) = x) (hn : new.length = C.k) (hone : ∀ u ∈ new, u.oneCell' = true) (hL : L + 1 ≤ 100000000) (hbase : base ≤ w.heap.size) (hw : w0.heap.size ≤ w.heap.size) {R' : Act → World → Prop}
    (hR : ∀ y' w', RSt w0 C.T C.k base v L xs new 2 x y' w' → Kee (fun b => v.ownBlock = some b) w w' → (∀ b, y'.ownBlock = some b → v.ownBlock = some b ∨ w.heap.size ≤ b) → S w' ∧ R' (a.put (some d') y') w') : StepsTo Try.prog ops Q S p R' a w := by
  obtain ⟨o, h1, h2, h3, h4⟩ := h.app
  refine steps_of h1 h2 (hr.app (P := Try.prog) _ _ C.st h4 C.it C.z C.bytes C.hu C.hi C.hz C.hk C.hb C.hzs C.pos hv hx hn hone hL C.small.2 hbase hw fun y' w' k1 k2 k3 => ?_)
  rw [h3]
  exact hR y' w' k1 k2 k3
/-- The blocks that the three rows have. -/
def Own3 (v1 v2 v3 : Value) (b : Nat) : Prop := v1.ownBlock = some b ∨ v2.ownBlock = some b ∨ v3.ownBlock = some b
theorem three_app (A B C : RowC) (V : Nat → Nat → Nat → Bool) (hV : V 0 0 0 = true) {w0 : World} {a0 : Act} {base L : Nat} {v1 v2 v3 n1 n2 : Value} {xs1 xs2 xs3 new1 new2 : List Value} {b1 p1 b2 p2 c3 b3 p3 e1 e2 s1 s2 s3 d1 d2 d3 d4 d5 d6 d7 : Nat} {Lb : Nat → Nat → Nat → Array Bool} {G : Value → Nat → World → Prop} {fuel : Nat}
    (hA : RowO A ops b1 p1 e1 s1 d1 d2) (hB : RowO B ops b2 p2 e2 s2 d3 d4) (hC : RowO C ops b3 p3 d5 s3 d6 d7) (hd : [d1, d2, d3, d4, d5, d6, d7].Nodup) (hds : d1 < a0.tmps.size ∧ d2 < a0.tmps.size ∧ d3 < a0.tmps.size ∧ d4 < a0.tmps.size ∧ d5 < a0.tmps.size ∧ d6 < a0.tmps.size ∧ d7 < a0.tmps.size)
    (hsl : e1 ∉ [d1, d2, d3, d4, d5, d6, d7] ∧ e2 ∉ [d1, d2, d3, d4, d5, d6, d7] ∧ s1 ∉ [d1, d2, d3, d4, d5, d6, d7] ∧ s2 ∉ [d1, d2, d3, d4, d5, d6, d7] ∧ s3 ∉ [d1, d2, d3, d4, d5, d6, d7])
    (hev : a0.eval (.tmp e1) = n1 ∧ a0.eval (.tmp e2) = n2 ∧ a0.eval (.tmp s1) = v1 ∧ a0.eval (.tmp s2) = v2 ∧ a0.eval (.tmp s3) = v3) (hf1 : Fills A n1 new1) (hf2 : Fills B n2 new2) (hl1 : new1.length = A.k) (hl2 : new2.length = B.k) (ho1 : ∀ u ∈ new1, u.oneCell' = true) (ho2 : ∀ u ∈ new2, u.oneCell' = true) (hk3 : C.k = 1)
    (hr1 : w0.ownsRow base A.T A.k v1 L xs1) (hr2 : w0.ownsRow base B.T B.k v2 L xs2) (hr3 : w0.ownsRow base C.T C.k v3 L xs3) (h12 : ∀ b, v1.ownBlock = some b → v2.ownBlock ≠ some b) (h13 : ∀ b, v1.ownBlock = some b → v3.ownBlock ≠ some b) (h23 : ∀ b, v2.ownBlock = some b → v3.ownBlock ≠ some b) (hL : L + 1 ≤ 100000000) (hbase : base ≤ w0.heap.size)
    (hS : ∀ w, Kee (Own3 v1 v2 v3) w0 w → S w)
    (hc : ∀ (a : Act) (w : World), (∀ e, e ∉ [d1, d2, d3, d4, d5, d6, d7] → a.eval (.tmp e) = a0.eval (.tmp e)) → Kee (Own3 v1 v2 v3) w0 w → ∀ R' : Act → World → Prop, (∀ z w', G z w'.heap.size w' → Below w.heap.size w w' → S w' ∧ R' (a.put (some d5) z) w') → StepsTo Try.prog ops Q S c3 R' a w)
    (hG : ∀ z hi w w', G z hi w → w0.heap.size ≤ w.heap.size → Kee (Own3 v1 v2 v3) w w' → G z hi w') (hGf : ∀ z hi w, G z hi w → Fills C z [z] ∧ z.oneCell' = true)
    (hrd : ∀ q1 q2 q3, q1 ≤ 2 → q2 ≤ 2 → q3 ≤ 3 → q1 + q2 + q3 < 2 + 2 + 3 → V q1 q2 q3 = true → readyB .any ops (Lb q1 q2 q3) (nexts V 2 2 3 (fun q => if q = 0 then b1 else p1) (fun q => if q = 0 then b2 else p2) (fun q => if q = 0 then c3 else if q = 1 then b3 else p3) q1 q2 q3) = true)
    (hL1 : ∀ q1 q2 q3, q1 < 2 → q2 ≤ 2 → q3 ≤ 3 → (Lb q1 q2 q3).setIfInBounds (if q1 = 0 then b1 else p1) true = Lb (q1 + 1) q2 q3)
    (hL2 : ∀ q1 q2 q3, q1 ≤ 2 → q2 < 2 → q3 ≤ 3 → (Lb q1 q2 q3).setIfInBounds (if q2 = 0 then b2 else p2) true = Lb q1 (q2 + 1) q3)
    (hL3 : ∀ q1 q2 q3, q1 ≤ 2 → q2 ≤ 2 → q3 < 3 → (Lb q1 q2 q3).setIfInBounds (if q3 = 0 then c3 else if q3 = 1 then b3 else p3) true = Lb q1 q2 (q3 + 1))
    (hfin : ∀ x1 y1 x2 y2 z3 x3 y3 hi w, RSt w0 A.T A.k base v1 L xs1 new1 2 x1 y1 w → RSt w0 B.T B.k base v2 L xs2 new2 2 x2 y2 w → RSt w0 C.T C.k base v3 L xs3 [z3] 2 x3 y3 w → G z3 hi w → (∀ b, y3.ownBlock = some b → v3.ownBlock = some b ∨ hi ≤ b) → Kee (Own3 v1 v2 v3) w0 w → wpAnyH Try.prog .any ops Q S fuel (Lb 2 2 3) (Fr7 a0 d1 d2 d3 d4 d5 d6 d7 x1 y1 x2 y2 z3 x3 y3) w) :
    wpAnyH Try.prog .any ops Q S (fuel + 7) (Lb 0 0 0) a0 w0 := by
  have lt1 : ∀ b, v1.ownBlock = some b → b < w0.heap.size := fun b h => (hr1.lt b h).2
  have lt2 : ∀ b, v2.ownBlock = some b → b < w0.heap.size := fun b h => (hr2.lt b h).2
  have lt3 : ∀ b, v3.ownBlock = some b → b < w0.heap.size := fun b h => (hr3.lt b h).2
  refine three_rows V (n1 := 2) (n2 := 2) (n3 := 3) (L := Lb) (R := fun q1 q2 q3 a w => ∃ x1 y1 x2 y2 z3 x3 y3, a = Fr7 a0 d1 d2 d3 d4 d5 d6 d7 x1 y1 x2 y2 z3 x3 y3 ∧ RSt w0 A.T A.k base v1 L xs1 new1 q1 x1 y1 w ∧ RSt w0 B.T B.k base v2 L xs2 new2 q2 x2 y2 w ∧ (q3 = 0 → w.ownsRow base C.T C.k v3 L xs3) ∧ (0 < q3 → ∃ hi, hi ≤ w.heap.size ∧ G z3 hi w ∧ RSt w0 C.T C.k base v3 L xs3 [z3] (q3 - 1) x3 y3 w ∧ (q3 = 3 → ∀ b, y3.ownBlock = some b → v3.ownBlock = some b ∨ hi ≤ b)) ∧ Kee (Own3 v1 v2 v3) w0 w) hrd hL1 hL2 hL3 ?_ ?_ ?_ ?_ 7 0 0 0 a0 w0 (by omega) (by omega) (by omega) rfl hV ?_
  · rintro q1 q2 q3 a w c1 c2 c3' ⟨x1, y1, x2, y2, z3, x3, y3, rfl, g1, g2, g3, g4, g5⟩
    have hs5 := g5.size
    have hq : q1 = 0 ∨ q1 = 1 := by omega
    rcases hq with rfl | rfl
    · have hk : Kee (fun _ => False) w (w.alloc (.cells new1.toArray A.T)) := kee_below ((Below.refl _ _).alloc (Nat.le_refl _) _) _
      have hk5 := g5.trans hk fun _ _ e => e.elim
      refine hA.builds hf1 ((Fr7.other hsl.1).trans hev.1) ⟨hS _ hk5, _, y1, x2, y2, z3, x3, y3, Fr7.p1 hd _, g1.built hs5, g2.kept hk (fun _ e => e.elim) (fun _ _ e => e), fun e => row_kee (g3 e) hk fun _ _ e => e, fun e => (by obtain ⟨hi, m1, m2, m3, m4⟩ := g4 e; exact ⟨hi, Nat.le_trans m1 hk.size, hG _ _ _ _ m2 hs5 (hk.mono fun _ _ e => e.elim), m3.kept hk (fun _ e => e.elim) (fun _ _ e => e), m4⟩), hk5⟩
    · refine hA.apps g1 ((Fr7.other hsl.2.2.1).trans hev.2.2.1) (Fr7.e1 hd hds.1) hl1 ho1 hL (by omega) hs5 fun y' w' k1 k2 k3 => ?_
      have hk5 : Kee (Own3 v1 v2 v3) w0 w' := g5.trans k2 fun b _ e => Or.inl e
      exact ⟨hS _ hk5, x1, y', x2, y2, z3, x3, y3, Fr7.p2 hd _, k1, g2.kept k2 lt1 (fun b e e' => h12 b e' e), fun e => row_kee (g3 e) k2 fun b e e' => h13 b e' e, fun e => (by obtain ⟨hi, m1, m2, m3, m4⟩ := g4 e; exact ⟨hi, Nat.le_trans m1 k2.size, hG _ _ _ _ m2 hs5 (k2.mono fun b _ e => Or.inl e), m3.kept k2 lt1 (fun b e e' => h13 b e' e), m4⟩), hk5⟩
  · rintro q1 q2 q3 a w c1 c2 c3' ⟨x1, y1, x2, y2, z3, x3, y3, rfl, g1, g2, g3, g4, g5⟩
    have hs5 := g5.size
    have hq : q2 = 0 ∨ q2 = 1 := by omega
    rcases hq with rfl | rfl
    · have hk : Kee (fun _ => False) w (w.alloc (.cells new2.toArray B.T)) := kee_below ((Below.refl _ _).alloc (Nat.le_refl _) _) _
      have hk5 := g5.trans hk fun _ _ e => e.elim
      refine hB.builds hf2 ((Fr7.other hsl.2.1).trans hev.2.1) ⟨hS _ hk5, x1, y1, _, y2, z3, x3, y3, Fr7.p3 hd _, g1.kept hk (fun _ e => e.elim) (fun _ _ e => e), g2.built hs5, fun e => row_kee (g3 e) hk fun _ _ e => e, fun e => (by obtain ⟨hi, m1, m2, m3, m4⟩ := g4 e; exact ⟨hi, Nat.le_trans m1 hk.size, hG _ _ _ _ m2 hs5 (hk.mono fun _ _ e => e.elim), m3.kept hk (fun _ e => e.elim) (fun _ _ e => e), m4⟩), hk5⟩
    · refine hB.apps g2 ((Fr7.other hsl.2.2.2.1).trans hev.2.2.2.1) (Fr7.e3 hd hds.2.2.1) hl2 ho2 hL (by omega) hs5 fun y' w' k1 k2 k3 => ?_
      have hk5 : Kee (Own3 v1 v2 v3) w0 w' := g5.trans k2 fun b _ e => Or.inr (Or.inl e)
      exact ⟨hS _ hk5, x1, y1, x2, y', z3, x3, y3, Fr7.p4 hd _, g1.kept k2 lt2 (fun b e e' => h12 b e e'), k1, fun e => row_kee (g3 e) k2 fun b e e' => h23 b e' e, fun e => (by obtain ⟨hi, m1, m2, m3, m4⟩ := g4 e; exact ⟨hi, Nat.le_trans m1 k2.size, hG _ _ _ _ m2 hs5 (k2.mono fun b _ e => Or.inr (Or.inl e)), m3.kept k2 lt2 (fun b e e' => h23 b e' e), m4⟩), hk5⟩
  · rintro q1 q2 q3 a w c1 c2 c3' ⟨x1, y1, x2, y2, z3, x3, y3, rfl, g1, g2, g3, g4, g5⟩
    have hs5 := g5.size
    have hq : q3 = 0 ∨ q3 = 1 ∨ q3 = 2 := by omega
    rcases hq with rfl | rfl | rfl
    · refine hc _ w (fun e he => Fr7.other he) g5 _ fun z w' k1 k2 => ?_
      have hk : Kee (fun _ => False) w w' := kee_below k2 _
      have hk5 := g5.trans hk fun _ _ e => e.elim
      exact ⟨hS _ hk5, x1, y1, x2, y2, z, x3, y3, Fr7.p5 hd _, g1.kept hk (fun _ e => e.elim) (fun _ _ e => e), g2.kept hk (fun _ e => e.elim) (fun _ _ e => e), fun e => (by omega), fun _ => ⟨_, Nat.le_refl _, k1, RSt.start (row_kee (g3 rfl) hk fun _ _ e => e), fun e => (by omega)⟩, hk5⟩
    · obtain ⟨hi, m1, g6, g7, _⟩ := g4 (by omega)
      have hk : Kee (fun _ => False) w (w.alloc (.cells [z3].toArray C.T)) := kee_below ((Below.refl _ _).alloc (Nat.le_refl _) _) _
      have hk5 := g5.trans hk fun _ _ e => e.elim
      refine hC.builds (hGf _ _ _ g6).1 (Fr7.e5 hd hds.2.2.2.2.1) ⟨hS _ hk5, x1, y1, x2, y2, z3, _, y3, Fr7.p6 hd _, g1.kept hk (fun _ e => e.elim) (fun _ _ e => e), g2.kept hk (fun _ e => e.elim) (fun _ _ e => e), fun e => (by omega), fun _ => ⟨hi, Nat.le_trans m1 hk.size, hG _ _ _ _ g6 hs5 (hk.mono fun _ _ e => e.elim), g7.built hs5, fun e => (by omega)⟩, hk5⟩
    · obtain ⟨hi, m1, g6, g7, _⟩ := g4 (by omega)
      refine hC.apps g7 ((Fr7.other hsl.2.2.2.2).trans hev.2.2.2.2) (Fr7.e6 hd hds.2.2.2.2.2.1) (by rw [hk3]; rfl) (fun u hu => by rw [List.mem_singleton.1 hu]; exact (hGf _ _ _ g6).2) hL (by omega) hs5 fun y' w' k1 k2 k3 => ?_
      have hk5 : Kee (Own3 v1 v2 v3) w0 w' := g5.trans k2 fun b _ e => Or.inr (Or.inr e)
      exact ⟨hS _ hk5, x1, y1, x2, y2, z3, x3, y', Fr7.p7 _, g1.kept k2 lt3 (fun b e e' => h13 b e e'), g2.kept k2 lt3 (fun b e e' => h23 b e e'), fun e => (by omega), fun _ => ⟨hi, Nat.le_trans m1 k2.size, hG _ _ _ _ g6 hs5 (k2.mono fun b _ e => Or.inr (Or.inr e)), k1, fun _ b hb => (k3 b hb).imp id fun e => by omega⟩, hk5⟩
  · rintro a w ⟨x1, y1, x2, y2, z3, x3, y3, rfl, g1, g2, g3, g4, g5⟩
    obtain ⟨hi, _, m2, m3, m4⟩ := g4 (by omega)
    exact hfin x1 y1 x2 y2 z3 x3 y3 hi w g1 g2 m3 m2 (m4 rfl) g5
  · exact ⟨_, _, _, _, _, _, _, (Fr7.self a0 hds).symm, RSt.start hr1, RSt.start hr2, fun _ => hr3, fun e => (by omega), Kee.refl _ _⟩
end
end Go.Proofs.Ytdlckjjfbobmpaa
namespace Go.Proofs.Ytdlckjjfbobmpaa

/-- The places that a word leads to, so deep. -/
def plc (ws : List Wd) : Nat → Wd → List Nat
  | 0, _ => []
  | n + 1, v => if v.1 = 4 then
      match ws[v.2.toNat]? with
      | some h => v.2.toNat :: (partsOf ws v.2.toNat h.2.toNat).flatMap (plc ws n)
      | none => []
    else []
theorem plc_leaf {ws : List Wd} {n : Nat} {v : Wd} (h : v.1 ≠ 4) : plc ws n v = [] := by
  cases n with
  | zero => rfl
  | succ n => simp [plc, h]
theorem plc_tup {ws : List Wd} {n p m : Nat} (h : ws[p]? = some (0, (m : Int))) : plc ws (n + 1) (4, (p : Int)) = p :: (partsOf ws p m).flatMap (plc ws n) := by
  simp [plc, h]
theorem nmPut_old {nm : List ByteArray} {s : ByteArray} (h : s ∈ nm) : nmPut nm s = nm := by
  unfold nmPut
  rw [if_pos ((nm_any nm s).2 h)]
theorem cpL_tree {ws : List Wd} {nm : List ByteArray} {n : Nat} (ih : ∀ (x : Tm n) (v : Wd) (S : List Wd × Went), Stands ws nm n x v → (plc ws n v).Nodup → (∀ p ∈ plc ws n v, look S.2 p = none) → ((cpF ws n v S).1 = (layF n x S.1 nm).1 ∧ (cpF ws n v S).2.1 = (layF n x S.1 nm).2.1 ∧ (layF n x S.1 nm).2.2 = nm) ∧ ∀ p, look (cpF ws n v S).2.2 p = none ↔ look S.2 p = none ∧ p ∉ plc ws n v) :
    (us : List Wd) → (ys : List (Tm n)) → StandL ws nm n us ys → (S : List Wd × Went) → (us.flatMap (plc ws n)).Nodup → (∀ p ∈ us.flatMap (plc ws n), look S.2 p = none) →
    ((cpL (cpF ws n) us S).1 = (layL (layF n) ys S.1 nm).1 ∧ (cpL (cpF ws n) us S).2.1 = (layL (layF n) ys S.1 nm).2.1 ∧ (layL (layF n) ys S.1 nm).2.2 = nm) ∧ ∀ p, look (cpL (cpF ws n) us S).2.2 p = none ↔ look S.2 p = none ∧ p ∉ us.flatMap (plc ws n)
  | us, ys, hs, S, hn, hl => by
    induction us generalizing ys S with
    | nil =>
      obtain rfl : ys = [] := by have := hs.1; cases ys with | nil => rfl | cons a l => simp at this
      simp [cpL, layL]
    | cons v us ihu =>
      cases ys with
      | nil => have := hs.1; simp at this
      | cons y ys =>
        have h0 : Stands ws nm n y v := hs.2 0 v y (by simp) (by simp)
        have ht : StandL ws nm n us ys := ⟨by have := hs.1; simpa using this, fun i a b ha hb => hs.2 (i + 1) a b (by simpa using ha) (by simpa using hb)⟩
        rw [List.flatMap_cons] at hn hl
        obtain ⟨n1, n2, n3⟩ := List.nodup_append.1 hn
        obtain ⟨⟨a1, a2, a3⟩, a4⟩ := ih y v S h0 n1 (fun p hp => hl p (List.mem_append_left _ hp))
        have hl2 : ∀ p ∈ us.flatMap (plc ws n), look (cpF ws n v S).2.2 p = none := fun p hp => (a4 p).2 ⟨hl p (List.mem_append_right _ hp), fun h => n3 p h p hp rfl⟩
        obtain ⟨⟨b1, b2, b3⟩, b4⟩ := ihu ys ht (cpF ws n v S).2 n2 hl2
        simp only [cpL, layL]
        rw [a3, ← a2]
        refine ⟨⟨by rw [a1, b1], b2, b3⟩, fun p => ?_⟩
        rw [b4 p, a4 p, List.flatMap_cons, List.mem_append, not_or, and_assoc]
/-- What is copied of a word that shares nothing is what laying its term makes. -/
theorem cp_tree {ws : List Wd} {nm : List ByteArray} (hnd : nm.Nodup) : (n : Nat) → (x : Tm n) → (v : Wd) → (S : List Wd × Went) → Stands ws nm n x v → (plc ws n v).Nodup → (∀ p ∈ plc ws n v, look S.2 p = none) →
    ((cpF ws n v S).1 = (layF n x S.1 nm).1 ∧ (cpF ws n v S).2.1 = (layF n x S.1 nm).2.1 ∧ (layF n x S.1 nm).2.2 = nm) ∧ ∀ p, look (cpF ws n v S).2.2 p = none ↔ look S.2 p = none ∧ p ∉ plc ws n v
  | 0, _, _, _, h, _, _ => h.elim
  | n + 1, x, v, S, h, hn, hl => by
    by_cases h4 : x.1.1 = 4
    · obtain ⟨p, rfl, hp, hlen, hst⟩ := tuple_parts h h4
      rw [plc_tup hp] at hn hl ⊢
      have hlk := hl p (by simp)
      rw [cpF_new hlk hp]
      have hnp := List.nodup_cons.1 hn
      obtain ⟨⟨b1, b2, b3⟩, b4⟩ := cpL_tree (fun x v S => cp_tree hnd n x v S) (partsOf ws p x.2.2.length) x.2.2 hst S hnp.2 (fun q hq => hl q (List.mem_cons_of_mem _ hq))
      have e : layF (n + 1) x S.1 nm = ((4, ((layL (layF n) x.2.2 S.1 nm).2.1.length : Int)), (layL (layF n) x.2.2 S.1 nm).2.1 ++ (0, (x.2.2.length : Int)) :: (layL (layF n) x.2.2 S.1 nm).1, (layL (layF n) x.2.2 S.1 nm).2.2) := by
        simp only [layF]
        rw [if_neg (by omega), if_pos h4]
      rw [e]
      refine ⟨⟨by rw [b2], by rw [b1, b2], b3⟩, fun q => ?_⟩
      by_cases hq : q = p
      · subst hq
        rw [look_same]
        simp
      · rw [look_other _ _ hq, b4 q]
        simp [hq]
    · have hv4 := leaf_not4 h h4
      rw [cpF_leaf hv4, plc_leaf hv4]
      refine ⟨⟨?_, ?_, ?_⟩, fun q => by simp⟩
      · simp only [layF]
        by_cases h2 : x.1.1 = 2
        · rw [if_pos h2]
          obtain ⟨i, rfl, hi⟩ := h.1 h2
          rw [nmPut_old (List.mem_of_getElem? hi), nmIdx_at hnd hi]
        · rw [if_neg h2, if_neg h4]
          exact h.2.2 h2 h4
      · simp only [layF]
        split
        · rfl
        · rfl
      · simp only [layF]
        split
        · rename_i h2
          obtain ⟨i, rfl, hi⟩ := h.1 h2
          exact nmPut_old (List.mem_of_getElem? hi)
        · rfl
theorem parts_pre2 {ws ws' : List Wd} (h : ws <+: ws') {p m : Nat} (hl : p + 1 + m ≤ ws.length) : partsOf ws' p m = partsOf ws p m := by
  obtain ⟨t, rfl⟩ := h
  unfold partsOf
  rw [List.drop_append_of_le_length (by omega), List.take_append_of_le_length (by rw [List.length_drop]; omega)]
theorem pre_at2 {ws ws' : List Wd} (h : ws <+: ws') {p : Nat} {v : Wd} (hp : ws[p]? = some v) : ws'[p]? = some v := by
  obtain ⟨t, rfl⟩ := h
  rw [List.getElem?_append_left (List.getElem?_eq_some_iff.1 hp).1]
  exact hp
theorem flat_congr {α β : Type} {f g : α → List β} : {l : List α} → (∀ a ∈ l, f a = g a) → l.flatMap f = l.flatMap g
  | [], _ => rfl
  | a :: l, h => by rw [List.flatMap_cons, List.flatMap_cons, h a (by simp), flat_congr (l := l) fun b hb => h b (by simp [hb])]
theorem plc_mono {ws ws' : List Wd} {nm : List ByteArray} (hp : ws <+: ws') : (n : Nat) → (x : Tm n) → (v : Wd) → Stands ws nm n x v → plc ws' n v = plc ws n v
  | 0, _, _, h => h.elim
  | n + 1, x, v, h => by
    by_cases h4 : x.1.1 = 4
    · obtain ⟨p, rfl, hq, hlen, hst⟩ := tuple_parts h h4
      rw [plc_tup hq, plc_tup (pre_at2 hp hq), parts_pre2 hp hlen]
      congr 1
      refine flat_congr fun u hu => ?_
      obtain ⟨y, _, hy⟩ := hst.mem hu
      exact plc_mono hp n y u hy
    · rw [plc_leaf (leaf_not4 h h4), plc_leaf (leaf_not4 h h4)]
theorem plc_lt {ws : List Wd} {nm : List ByteArray} : (n : Nat) → (x : Tm n) → (v : Wd) → Stands ws nm n x v → ∀ p ∈ plc ws n v, p < ws.length
  | 0, _, _, h, _, _ => h.elim
  | n + 1, x, v, h, q, hq => by
    by_cases h4 : x.1.1 = 4
    · obtain ⟨p, rfl, hp, hlen, hst⟩ := tuple_parts h h4
      rw [plc_tup hp, List.mem_cons, List.mem_flatMap] at hq
      rcases hq with rfl | ⟨u, hu, hq⟩
      · omega
      · obtain ⟨y, _, hy⟩ := hst.mem hu
        exact plc_lt n y u hy q hq
    · rw [plc_leaf (leaf_not4 h h4)] at hq
      cases hq
theorem layL_plc {n : Nat} (ih : ∀ (x : Tm n) (ws : List Wd) (nm : List ByteArray), RightA ⟨n, x⟩ → (plc (layF n x ws nm).2.1 n (layF n x ws nm).1).Nodup ∧ ∀ p ∈ plc (layF n x ws nm).2.1 n (layF n x ws nm).1, ws.length ≤ p) :
    (l : List (Tm n)) → (ws : List Wd) → (nm : List ByteArray) → (∀ y ∈ l, RightA ⟨n, y⟩) → ((layL (layF n) l ws nm).1.flatMap (plc (layL (layF n) l ws nm).2.1 n)).Nodup ∧ ∀ p ∈ (layL (layF n) l ws nm).1.flatMap (plc (layL (layF n) l ws nm).2.1 n), ws.length ≤ p
  | [], _, _, _ => by simp [layL]
  | y :: l, ws, nm, hr => by
    have h1 := ih y ws nm (hr y (by simp))
    have hs := layF_stands n y ws nm (hr y (by simp))
    have h2 := layL_plc ih l (layF n y ws nm).2.1 (layF n y ws nm).2.2 (fun z hz => hr z (by simp [hz]))
    have hp := (layL_pre (fun x ws nm => layF_pre n x ws nm) l (layF n y ws nm).2.1 (layF n y ws nm).2.2).1
    have hm := plc_mono hp n y _ hs
    have hlt := plc_lt n y _ hs
    have hpre := (layF_pre n y ws nm).1.length_le
    simp only [layL, List.flatMap_cons]
    rw [hm]
    refine ⟨List.nodup_append.2 ⟨h1.1, h2.1, fun a ha b hb e => ?_⟩, fun p hp => ?_⟩
    · have := hlt a ha
      have := h2.2 b hb
      omega
    · rcases List.mem_append.1 hp with hp | hp
      · exact h1.2 p hp
      · have := h2.2 p hp
        omega
/-- What is laid shares nothing, and lies behind all that was. -/
theorem lay_plc : (n : Nat) → (x : Tm n) → (ws : List Wd) → (nm : List ByteArray) → RightA ⟨n, x⟩ → (plc (layF n x ws nm).2.1 n (layF n x ws nm).1).Nodup ∧ ∀ p ∈ plc (layF n x ws nm).2.1 n (layF n x ws nm).1, ws.length ≤ p
  | 0, _, _, _, h => (zero_bad h).elim
  | n + 1, x, ws, nm, h => by
    by_cases h4 : x.1.1 = 4
    · have e : layF (n + 1) x ws nm = ((4, ((layL (layF n) x.2.2 ws nm).2.1.length : Int)), (layL (layF n) x.2.2 ws nm).2.1 ++ (0, (x.2.2.length : Int)) :: (layL (layF n) x.2.2 ws nm).1, (layL (layF n) x.2.2 ws nm).2.2) := by
        simp only [layF]
        rw [if_neg (by omega), if_pos h4]
      have hr : ∀ y ∈ x.2.2, RightA ⟨n, y⟩ := fun y hy => parts_right n x y h hy
      have k := layL_plc (fun x ws nm hx => lay_plc n x ws nm hx) x.2.2 ws nm hr
      have hpre := (layL_pre (fun x ws nm => layF_pre n x ws nm) x.2.2 ws nm).1.length_le
      have hst := layL_stands (fun x ws nm hx => layF_stands n x ws nm hx) x.2.2 ws nm hr
      have hln := layL_length (layF n) x.2.2 ws nm
      rw [e]
      generalize (layL (layF n) x.2.2 ws nm).2.1 = A at *
      generalize (layL (layF n) x.2.2 ws nm).1 = C at *
      generalize (layL (layF n) x.2.2 ws nm).2.2 = N at *
      have hat : (A ++ (0, (x.2.2.length : Int)) :: C)[A.length]? = some (0, (x.2.2.length : Int)) := by simp
      have hpp : partsOf (A ++ (0, (x.2.2.length : Int)) :: C) A.length x.2.2.length = C := by rw [← hln]; exact parts_pre (List.prefix_refl _)
      have hmo : C.flatMap (plc (A ++ (0, (x.2.2.length : Int)) :: C) n) = C.flatMap (plc A n) := flat_congr fun u hu => by
        obtain ⟨i, hi⟩ := List.getElem?_of_mem hu
        have hil := (List.getElem?_eq_some_iff.1 hi).1
        obtain ⟨u', hu', hs⟩ := hst i (x.2.2[i]'(by omega)) (List.getElem?_eq_getElem _)
        rw [hi] at hu'
        injection hu' with hu'
        subst hu'
        exact plc_mono (List.prefix_append _ _) n _ u hs
      have hltC : ∀ p ∈ C.flatMap (plc A n), p < A.length := fun p hp => by
        obtain ⟨u, hu, hp⟩ := List.mem_flatMap.1 hp
        obtain ⟨i, hi⟩ := List.getElem?_of_mem hu
        have hil := (List.getElem?_eq_some_iff.1 hi).1
        obtain ⟨u', hu', hs⟩ := hst i (x.2.2[i]'(by omega)) (List.getElem?_eq_getElem _)
        rw [hi] at hu'
        injection hu' with hu'
        subst hu'
        exact plc_lt n _ u hs p hp
      simp only
      rw [plc_tup hat, hpp, hmo]
      refine ⟨List.nodup_cons.2 ⟨fun hp => by have := hltC _ hp; omega, k.1⟩, fun p hp => ?_⟩
      rcases List.mem_cons.1 hp with rfl | hp
      · exact hpre
      · exact k.2 p hp
    · have hs := layF_stands (n + 1) x ws nm h
      rw [plc_leaf (leaf_not4 hs h4)]
      simp
theorem layL_sum (n : Nat) : (l : List (Tm n)) → (ws : List Wd) → (nm : List ByteArray) → ((layL (layF n) l ws nm).2.1.length : Int) = ws.length + (l.map (sz n)).sum
  | [], _, _ => by simp [layL]
  | y :: l, ws, nm => by
    have h1 := (layF_sizes n y ws nm).1
    have h2 := layL_sum n l (layF n y ws nm).2.1 (layF n y ws nm).2.2
    simp only [layL, List.map_cons, List.sum_cons]
    omega
/-- What Collect leaves of words that share nothing: their terms, laid one behind the other. -/
theorem roots_tree {ws : List Wd} {nm : List ByteArray} (hnd : nm.Nodup) {n : Nat} {vs : List Wd} {p : List (Tm n)} (h : StandL ws nm n vs p) (hn : (vs.flatMap (plc ws n)).Nodup) :
    (rootsR ws n vs).1 = (layL (layF n) p [] nm).1 ∧ (rootsR ws n vs).2.1 = (layL (layF n) p [] nm).2.1 ∧ (layL (layF n) p [] nm).2.2 = nm :=
  (cpL_tree (fun x v S => cp_tree hnd n x v S) vs p h ([], []) hn (fun _ _ => rfl)).1
end Go.Proofs.Ytdlckjjfbobmpaa
namespace Go.Proofs.Ytdlckjjfbobmpaa
open Go.MapKept

theorem infoNode : (Try.prog.info? 47).map (fun i => i.size) = some 2 := by kernel_rfl
def ptr (b : Nat) : Value := .pointer (some ⟨b, 0, none⟩)
/-- The map holds just these blocks. -/
def PMap (w : World) (mb : Nat) (seen : List Nat) : Prop := ∃ es clock, w.heap[mb]? = some (.map es clock) ∧ es.toList.map (fun e => (e.key, e.val)) = seen.map fun b => (ptr b, .bool true)
/-- A block of cells. -/
def CellsAt (w : World) (b : Nat) : Prop := ∃ cs t, w.heap[b]? = some (.cells cs t (0, 0))
theorem ptr_equal {w : World} {b c : Nat} (hb : CellsAt w b) (hc : CellsAt w c) : (Op.equal 39 (ptr b) (ptr c)).run Try.prog w = .ok (b == c) w := by
  obtain ⟨j, hj, hs⟩ : ∃ j, Try.prog.info? 47 = some j ∧ j.size = 2 := by
    have h := infoNode
    cases hi : Try.prog.info? 47 with
    | none => rw [hi] at h; cases h
    | some j => rw [hi] at h; exact ⟨j, rfl, by simpa using h⟩
  have hp := Try.underlying39
  have h : ∀ d : Nat, (Op.equalIn (d + 1) 39 (ptr b) (ptr c)).run Try.prog w = .ok (b == c) w := fun d => by
    by_cases e : b = c
    · subst e
      simp [Op.equalIn, run_underlying hp, sizeOf, typeInfo, hj, run_sameAddr_same, ptr]
    · obtain ⟨c1, t1, e1⟩ := hb
      obtain ⟨c2, t2, e2⟩ := hc
      have hne : (⟨b, 0, none⟩ : Addr) ≠ ⟨c, 0, none⟩ := fun h => e (by injection h)
      have hr : (b == c) = false := by simpa using e
      rw [hr]
      simp [Op.equalIn, run_underlying hp, sizeOf, typeInfo, hj, hs, ptr, run_sameAddr_other w hne e1 e2]
  simp [Op.equal, Op.maxDepth, h 9999]
theorem ptr_find {w : World} {b : Nat} (hb : CellsAt w b) : (es : List MapEntry) → (seen : List Nat) → (i : Nat) → es.map (fun e => (e.key, e.val)) = seen.map (fun b => (ptr b, .bool true)) → (∀ c ∈ seen, CellsAt w c) →
    (b ∉ seen → (Instr.findAsking 39 (ptr b) es i).run Try.prog w = .ok none w) ∧ (b ∈ seen → ∃ j, (Instr.findAsking 39 (ptr b) es i).run Try.prog w = .ok (some (j, .bool true)) w)
  | [], [], _, _, _ => ⟨fun _ => by simp [Instr.findAsking], fun h => by cases h⟩
  | [], _ :: _, _, h, _ => by simp at h
  | _ :: _, [], _, h, _ => by simp at h
  | e :: es, c :: seen, i, h, hc => by
    rw [List.map_cons, List.map_cons, List.cons.injEq] at h
    obtain ⟨h1, h2⟩ := h
    have hk : e.key = ptr c := (Prod.mk.inj h1).1
    have hv : e.val = .bool true := (Prod.mk.inj h1).2
    obtain ⟨i1, i2⟩ := ptr_find hb es seen (i + 1) h2 fun d hd => hc d (List.mem_cons_of_mem _ hd)
    have he := ptr_equal hb (hc c (by simp))
    by_cases hbc : b = c
    · subst hbc
      refine ⟨fun h => absurd (by simp) h, fun _ => ⟨i, ?_⟩⟩
      simp [Instr.findAsking, hk, he, hv]
    · have hf : (b == c) = false := by simpa using hbc
      rw [hf] at he
      refine ⟨fun h => ?_, fun h => ?_⟩
      · simp [Instr.findAsking, hk, he, i1 (fun hm => h (List.mem_cons_of_mem _ hm))]
      · obtain ⟨j, hj⟩ := i2 ((List.mem_cons.1 h).resolve_left hbc)
        exact ⟨j, by simp [Instr.findAsking, hk, he, hj]⟩
theorem ptr_findKey {w : World} {b : Nat} (hb : CellsAt w b) {es : List MapEntry} {seen : List Nat} (h : es.map (fun e => (e.key, e.val)) = seen.map (fun b => (ptr b, .bool true))) (hc : ∀ c ∈ seen, CellsAt w c) :
    (b ∉ seen → (Instr.findKey 39 (ptr b) es).run Try.prog w = .ok none w) ∧ (b ∈ seen → ∃ j, (Instr.findKey 39 (ptr b) es).run Try.prog w = .ok (some (j, .bool true)) w) := by
  have hp := Try.underlying39
  have key : (Instr.findKey 39 (ptr b) es).run Try.prog w = (Instr.findAsking 39 (ptr b) es 0).run Try.prog w := by
    cases es with
    | nil => simp [Instr.findKey, run_underlying hp, Result.andThen, Instr.findNow, Instr.findAsking]
    | cons e es => simp [Instr.findKey, run_underlying hp, Result.andThen, Instr.findNow, Instr.sameNow, ptr]
  rw [key]
  exact ptr_find hb es seen 0 h hc
theorem ptr_check (w : World) (em : Bool) (b : Nat) : (Instr.checkKey em 10000 39 (ptr b)).run Try.prog w = .ok () w := by
  have hp := Try.underlying39
  unfold Instr.checkKey
  simp [run_underlying hp, Result.andThen, ptr]
theorem PMap.look {w : World} {mb : Nat} {seen : List Nat} (h : PMap w mb seen) {b : Nat} (hb : CellsAt w b) (hc : ∀ c ∈ seen, CellsAt w c) : (Instr.lookup 77 (.map (some mb)) (ptr b) false).run Try.prog w = .ok (.bool (seen.contains b)) w := by
  obtain ⟨es, clock, h1, h2⟩ := h
  have hm := Try.underlying77
  have hz : (zeroValue 4).run Try.prog w = .ok (.bool false) w := by kernel_rfl
  obtain ⟨f1, f2⟩ := ptr_findKey hb h2 hc
  by_cases hs : b ∈ seen
  · obtain ⟨j, hj⟩ := f2 hs
    have e : seen.contains b = true := List.contains_iff_mem.2 hs
    rw [e]
    simp [Instr.lookup, run_underlying hm, MapKept.run_getObj_map h1, ptr_check, hj, Result.andThen]
  · have e : seen.contains b = false := by simpa using hs
    rw [e]
    simp [Instr.lookup, run_underlying hm, MapKept.run_getObj_map h1, ptr_check, f1 hs, Result.andThen, hz]
theorem PMap.put {w : World} {mb : Nat} {seen : List Nat} (h : PMap w mb seen) {b : Nat} (hb : CellsAt w b) (hc : ∀ c ∈ seen, CellsAt w c) (hs : b ∉ seen) :
    ∃ w', (Instr.mapUpdate 77 (.map (some mb)) (ptr b) (.bool true)).run Try.prog w = .ok () w' ∧ PMap w' mb (seen ++ [b]) ∧ Kee (fun q => q = mb) w w' := by
  obtain ⟨es, clock, h1, h2⟩ := h
  have hm := Try.underlying77
  obtain ⟨f1, _⟩ := ptr_findKey hb h2 hc
  refine ⟨_, by simp [Instr.mapUpdate, run_underlying hm, MapKept.run_getObj_map h1, ptr_check, f1 hs, MapKept.run_setObj_map _ h1, Result.andThen]; rfl, ⟨_, _, (heap_set h1).1, ?_⟩, ?_⟩
  · simp [h2]
  · exact ⟨rfl, rfl, rfl, by simp, fun q _ hq => (heap_set h1).2 q hq⟩
end Go.Proofs.Ytdlckjjfbobmpaa
namespace Go.Proofs.Ytdlckjjfbobmpaa
open Go.RowKit

def pv (k : Option Nat) : Value := .pointer (k.map fun b => ⟨b, 0, none⟩)
/-- A node, among the blocks D: how many words, and its kids. -/
def NodeIn (w : World) (D : Nat → Prop) (b m : Nat) (ks : List (Option Nat)) : Prop :=
  D b ∧ ∃ ka kc, w.heap[b]? = some (.cells #[.int .i64 (1 + (m : Int)), .slice ka m kc] 47) ∧ ks.length = m ∧ (ks = [] ∨ ∃ g o, ka = some ⟨g, o, none⟩ ∧ D g ∧ (∃ cur, w.heap[g]? = some (.cells cur 39 (0, 0))) ∧ ∀ (i : Nat) (k : Option Nat), ks[i]? = some k → w.cell? ⟨g, o + i, none⟩ = some (pv k))
theorem NodeIn.kept {w w' : World} {D D' : Nat → Prop} {b m : Nat} {ks : List (Option Nat)} (h : NodeIn w D b m ks) (hb : ∀ q, D q → q < w.heap.size → w'.heap[q]? = w.heap[q]?) (hD : ∀ q, D q → q < w.heap.size → D' q) : NodeIn w' D' b m ks := by
  obtain ⟨h0, ka, kc, h1, h2, h3⟩ := h
  have hl := (Array.getElem?_eq_some_iff.1 h1).1
  refine ⟨hD b h0 hl, ka, kc, (hb b h0 hl).trans h1, h2, ?_⟩
  rcases h3 with h3 | ⟨g, o, e, hg, ⟨cur, hgc⟩, h3⟩
  · exact Or.inl h3
  · have hgl := (Array.getElem?_eq_some_iff.1 hgc).1
    refine Or.inr ⟨g, o, e, hD g hg hgl, ⟨cur, (hb g hg hgl).trans hgc⟩, fun i k hk => ?_⟩
    have := h3 i k hk
    unfold World.cell? at this ⊢
    rw [hb g hg hgl]
    exact this
theorem Cor.kept {ws : List Wd} {C : Went} {w w' : World} {D D' : Nat → Prop} (h : Cor ws (NodeIn w D) C) (hb : ∀ q, D q → q < w.heap.size → w'.heap[q]? = w.heap[q]?) (hD : ∀ q, D q → q < w.heap.size → D' q) : Cor ws (NodeIn w' D') C :=
  h.turn fun _ _ _ _ k => k.kept hb hD
theorem Cor.lies {ws : List Wd} {C : Went} {w : World} {D : Nat → Prop} (h : Cor ws (NodeIn w D) C) {b : Nat} (hb : b ∈ C.map (·.2)) : D b ∧ b < w.heap.size := by
  obtain ⟨c, hc, rfl⟩ := List.mem_map.1 hb
  obtain ⟨m, ks, _, _, _, ⟨h0, ka, kc, h1, _⟩, _⟩ := h.node c hc
  exact ⟨h0, (Array.getElem?_eq_some_iff.1 h1).1⟩
theorem cor_nil (ws : List Wd) (N : Nat → Nat → List (Option Nat) → Prop) : Cor ws N [] := ⟨List.nodup_nil, List.nodup_nil, fun c h => (by cases h)⟩
/-- While a node grows: its box b0, the row of its kids so far, and what they lead to. -/
def GrS (ws : List Wd) (n base b0 len : Nat) (us : List Wd) (j : Nat) (ka : Option Addr) (kc : Nat) (wr : World) : Prop :=
  ∃ (ks : List (Option Nat)) (C : Went), wr.heap[b0]? = some (.cells #[.int .i64 (1 + (len : Int)), .slice ka j kc] 47) ∧ ks.length = j ∧ wr.ownsRow base 39 1 (.slice ka j kc) j (ks.map pv) ∧ (Value.slice ka j kc).ownBlock ≠ some b0 ∧
    Cor ws (NodeIn wr fun b => base ≤ b ∧ b < wr.heap.size ∧ b ≠ b0 ∧ (Value.slice ka j kc).ownBlock ≠ some b) C ∧ RelR C (us.take j) ks ∧ C.map (·.1) = (us.take j).flatMap (plc ws n)
theorem GrS.start {ws : List Wd} {n base b0 len : Nat} {us : List Wd} {wr : World} (h : wr.heap[b0]? = some (.cells #[.int .i64 (1 + (len : Int)), .slice none 0 0] 47)) : GrS ws n base b0 len us 0 none 0 wr :=
  ⟨[], [], h, rfl, World.ownsRow_nil _ _ _ _, by simp [Value.ownBlock], cor_nil _ _, ⟨by simp, fun i v k hv => by simp at hv⟩, by simp⟩
/-- What growing one term leaves. -/
def Grown (ws : List Wd) (n : Nat) (v : Wd) (k : Option Nat) (w w' : World) : Prop :=
  Below w.heap.size w w' ∧ ∃ C, Cor ws (NodeIn w' fun b => w.heap.size ≤ b ∧ b < w'.heap.size) C ∧ RelW C v k ∧ C.map (·.1) = plc ws n v
theorem GrS.next {ws : List Wd} {n base b0 len : Nat} {us : List Wd} {j : Nat} {ka : Option Addr} {kc : Nat} {wr w2 w6 w6a w7 : World} {v : Wd} {k : Option Nat} {g7 c7 : Nat} (h : GrS ws n base b0 len us j ka kc wr) (hb0 : base ≤ b0) (hv : us[j]? = some v) (hnd : (us.flatMap (plc ws n)).Nodup)
    (h2 : Below wr.heap.size wr w2) (hG : Grown ws n v k w2 w6) (h6 : Below w6.heap.size w6 w6a) (hgrow : w6a.grownBy w7 (Value.slice ka j kc).ownBlock) (hat : (Value.slice ka j kc).ownBlock = some g7 ∨ w6.heap.size ≤ g7) (hown : ∀ ks : List (Option Nat), wr.ownsRow base 39 1 (.slice ka j kc) j (ks.map pv) → w7.ownsRow base 39 1 (.slice (some ⟨g7, 0, none⟩) (j + 1) c7) (j + 1) (ks.map pv ++ [pv k])) :
    GrS ws n base b0 len us (j + 1) (some ⟨g7, 0, none⟩) c7 (w7.setCell ⟨b0, 1, none⟩ (.slice (some ⟨g7, 0, none⟩) (j + 1) c7)) := by
  obtain ⟨ks, C, a1, a2, a3, a4, a5, a6, a7⟩ := h
  obtain ⟨hb6, C', c1, c2, c3⟩ := hG
  have hbr : b0 < wr.heap.size := (Array.getElem?_eq_some_iff.1 a1).1
  have s2 := h2.size
  have s6 := hb6.size
  have s6a := h6.size
  have s7 := hgrow.size
  have hB : Below wr.heap.size wr w6a := (h2.trans (hb6.mono s2)).trans (h6.mono (by omega))
  have hrow : ∀ b, (Value.slice ka j kc).ownBlock = some b → b < wr.heap.size := fun b e => (a3.lt b e).2
  have hset : ∀ q, q ≠ b0 → (w7.setCell ⟨b0, 1, none⟩ (.slice (some ⟨g7, 0, none⟩) (j + 1) c7)).heap[q]? = w7.heap[q]? := fun q hq => by
    have : b0 ≠ q := fun e => hq e.symm
    simp [World.setCell, Array.getElem?_modify, this]
  have hsz : (w7.setCell ⟨b0, 1, none⟩ (.slice (some ⟨g7, 0, none⟩) (j + 1) c7)).heap.size = w7.heap.size := by simp [World.setCell]
  have hg0 : g7 ≠ b0 := fun e => by
    rcases hat with h | h
    · exact a4 (by rw [h, e])
    · omega
  have htk : us.take (j + 1) = us.take j ++ [v] := by rw [List.take_add_one, hv]; rfl
  have hown7 := hown ks a3
  have hn2 : ((us.take j).flatMap (plc ws n) ++ plc ws n v).Nodup := by
    have hpre : us = us.take (j + 1) ++ us.drop (j + 1) := (List.take_append_drop _ _).symm
    rw [hpre, List.flatMap_append, List.nodup_append] at hnd
    have h1 := hnd.1
    rw [htk, List.flatMap_append] at h1
    simpa using h1
  obtain ⟨_, _, hdis⟩ := List.nodup_append.1 hn2
  refine ⟨ks ++ [k], C ++ C', ?_, by simp [a2], ?_, ?_, ?_, ?_, ?_⟩
  · have h7 : w7.heap[b0]? = some (.cells #[.int .i64 (1 + (len : Int)), .slice ka j kc] 47) := (hgrow.block b0 (by omega) (fun e => a4 e.symm)).trans ((hB.block b0 hbr).trans a1)
    simp [World.setCell, Array.getElem?_modify, h7]
  · rw [List.map_append]
    refine row_kee hown7 (kee_set w7 b0 1 _) fun b e => ?_
    simp only [Value.ownBlock, Option.some.injEq] at e
    omega
  · simp only [Value.ownBlock, ne_eq, Option.some.injEq]
    exact hg0
  · refine Cor.both (a5.kept (fun q hq hql => ?_) (fun q hq hql => ⟨hq.1, by omega, hq.2.2.1, ?_⟩)) (c1.kept (fun q hq hql => ?_) (fun q hq hql => ⟨by omega, by omega, by omega, ?_⟩)) (fun p hp hp' => ?_) (fun b hb hb' => ?_)
    · exact (hset q hq.2.2.1).trans ((hgrow.block q (by omega) (fun e => hq.2.2.2 e.symm)).trans (hB.block q hql))
    · simp only [Value.ownBlock, ne_eq, Option.some.injEq]
      intro e
      rcases hat with h | h
      · exact hq.2.2.2 (by rw [h, e])
      · omega
    · refine (hset q (by omega)).trans ((hgrow.block q (by omega) (fun e => ?_)).trans (h6.block q hql))
      have := hrow q e.symm
      omega
    · simp only [Value.ownBlock, ne_eq, Option.some.injEq]
      intro e
      rcases hat with h | h
      · have := hrow g7 h
        omega
      · omega
    · rw [a7] at hp
      rw [c3] at hp'
      exact hdis p hp p hp' rfl
    · have h1 := (a5.lies hb).2
      have h2' := (c1.lies hb').1.1
      omega
  · rw [htk]
    have hl : (us.take j).length = ks.length := a6.1
    refine ⟨by simp [hl], fun i u q hu hq => ?_⟩
    by_cases hi : i < ks.length
    · rw [List.getElem?_append_left (by omega)] at hu hq
      exact (a6.2 i u q hu hq).mono fun e he => List.mem_append_left _ he
    · rw [List.getElem?_append_right (by omega)] at hu hq
      have hi0 : i = ks.length := by
        have := (List.getElem?_eq_some_iff.1 hq).1
        simp at this
        omega
      subst hi0
      rw [hl] at hu
      simp at hu hq
      subst hu hq
      exact c2.mono fun e he => List.mem_append_right _ he
  · rw [List.map_append, a7, c3, htk, List.flatMap_append]
    simp
theorem GrS.ends {ws : List Wd} {n base b0 p : Nat} {us : List Wd} {ka : Option Addr} {kc : Nat} {w wr : World} (h : GrS ws n base b0 us.length us us.length ka kc wr) (hb : Below w.heap.size w wr) (hba : w.heap.size ≤ base) (hb0 : base ≤ b0) (hp : ws[p]? = some (0, (us.length : Int))) (hpl : p + 1 + us.length ≤ ws.length) (hus : us = partsOf ws p us.length) (h8 : us.length ≤ 8) (hnd : p ∉ us.flatMap (plc ws n)) : Grown ws (n + 1) (4, (p : Int)) (some b0) w wr := by
  obtain ⟨ks, C, a1, a2, a3, a4, a5, a6, a7⟩ := h
  rw [List.take_length] at a6 a7
  have hbl := (Array.getElem?_eq_some_iff.1 a1).1
  refine ⟨hb, (p, b0) :: C, ⟨List.nodup_cons.2 ⟨fun hm => ?_, a5.fst⟩, List.nodup_cons.2 ⟨fun hm => ?_, a5.snd⟩, fun c hc => ?_⟩, ⟨fun _ => ⟨b0, rfl, by simp⟩, fun hne => absurd rfl hne⟩, ?_⟩
  · have hm : p ∈ C.map (·.1) := hm
    rw [a7] at hm
    exact hnd hm
  · exact (a5.lies hm).1.2.2.1 rfl
  · have k5 := a5.kept (w' := wr) (D' := fun b => w.heap.size ≤ b ∧ b < wr.heap.size) (fun _ _ _ => rfl) (fun q hq _ => ⟨by omega, hq.2.1⟩)
    rcases List.mem_cons.1 hc with rfl | hc
    · refine ⟨us.length, ks, hp, hpl, h8, ⟨⟨by omega, hbl⟩, ka, kc, a1, a2, ?_⟩, ?_⟩
      · rcases Nat.eq_zero_or_pos us.length with e0 | e0
        · exact Or.inl (List.eq_nil_of_length_eq_zero (by omega))
        · obtain ⟨g, c, e, hg, hgl⟩ := a3.form e0
          injection e with e1 _ e2
          subst e1 e2
          have hcur : ∃ cur, wr.heap[g]? = some (.cells cur 39 (0, 0)) := by
            rcases a3.2 with ⟨e, _⟩ | ⟨g', c', cur, e, _, hh, _⟩
            · cases e
            · injection e with e _ _
              injection e with e
              injection e with e _
              subst e
              exact ⟨cur, hh⟩
          refine Or.inr ⟨g, 0, rfl, ⟨by omega, hgl⟩, hcur, fun i k hk => ?_⟩
          have := a3.cells (g := g) rfl i (pv k) (by simp [hk])
          rw [add_none] at this
          rw [Nat.zero_add]
          exact this
      · rw [← hus]
        exact a6.mono fun e he => List.mem_cons_of_mem _ he
    · obtain ⟨m, ks', k1, k2, k3, k4, k6⟩ := k5.node c hc
      exact ⟨m, ks', k1, k2, k3, k4, k6.mono fun e he => List.mem_cons_of_mem _ he⟩
  · rw [plc_tup hp, List.map_cons, a7, ← hus]
end Go.Proofs.Ytdlckjjfbobmpaa
