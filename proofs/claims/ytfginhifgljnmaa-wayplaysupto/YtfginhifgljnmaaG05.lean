/- What is proved here: plain facts and contracts that the claimed theorem stands on, several texts in one: plain facts on terms that a call builds: which blocks they lie in (Off), that they stay where those blocks stay, and that a row of terms that is owned holds its terms. No condition. plain facts on a map from pairs of numbers to rows of terms: how it lies in memory, what is looked up in it, what a store and a delete leave, and how many pairs it has. No condition. the first of a row of terms is taken out by slices.Delete. No condition but that the row lies in memory. the document's Same of two terms that lie in memory returns what the plain function same says, and turns no memory that was there. No condition but that the terms lie in memory. plain facts on ways: how they lie in memory, and what keeps them; New and Many. No condition but that they lie in memory. how a term is appended to a row that a map has, step by step: the entry is opened, the row is appended to, and it is laid in. No condition but that the map lies in memory. -/
import Derived.Test.YtfginhifgljnmaaG04
import Derived.Maps.RangeWalk
import Derived.WideKeyPair
import Derived.WideKeyEntry
import Derived.Deep.AppendLies
import Derived.Deep.RegionHeld3
import Derived.Test.YtfginhifgljnmaaG01
namespace Go.Proofs.Ytfginhifgljnmaa
open Go.RowKit

/-- Every block that a term leads to is one of these. -/
def Off (P : Nat → Prop) : (n : Nat) → Tm n → Prop
  | 0, _ => False
  | n + 1, x => x.2.2 = [] ∨ ∃ b o, x.2.1.1 = some ⟨b, o, none⟩ ∧ P b ∧ ∀ (i : Nat) (y : Tm n), x.2.2[i]? = some y → Off P n y

theorem Off.mono {P Q : Nat → Prop} (h : ∀ b, P b → Q b) : {n : Nat} → {x : Tm n} → Off P n x → Off Q n x
  | 0, _, k => k
  | _ + 1, _, k => by
    rcases k with k | ⟨b, o, e, hb, k⟩
    · exact Or.inl k
    · exact Or.inr ⟨b, o, e, h b hb, fun i y hy => (k i y hy).mono h⟩

theorem block_cell {w w' : World} {b : Nat} (h : w'.heap[b]? = w.heap[b]?) (o : Nat) : w'.cell? ⟨b, o, none⟩ = w.cell? ⟨b, o, none⟩ := by
  simp [World.cell?, h]
theorem Held.block {w w' : World} {b o : Nat} (h : w'.heap[b]? = w.heap[b]?) : {n : Nat} → {x : Tm n} → Held w b o n x → Held w' b o n x
  | 0, _, k => k
  | _ + 1, _, k => by
    obtain ⟨k0, k1, k2, k3⟩ := k
    exact ⟨(block_cell h _).trans k0, (block_cell h _).trans k1, (block_cell h _).trans k2, (block_cell h _).trans k3⟩
theorem In.off {P : Nat → Prop} {w w' : World} (h : ∀ b, P b → w'.heap[b]? = w.heap[b]?) {B : Nat} : {n : Nat} → {x : Tm n} → Off P n x → In B w n x → In B w' n x
  | 0, _, _, k => k
  | _ + 1, _, p, k => by
    obtain ⟨k0, k1⟩ := k
    refine ⟨k0, ?_⟩
    rcases k1 with k1 | ⟨b, o, e, hb, k1⟩
    · exact Or.inl k1
    · rcases p with p | ⟨b', o', e', hb', p⟩
      · exact Or.inl p
      · rw [e] at e'
        injection e' with e'
        injection e' with e1 e2
        subst e1 e2
        exact Or.inr ⟨b, o, e, hb, fun i y hy => ⟨(k1 i y hy).1.block (h b hb'), (k1 i y hy).2.off h (p i y hy)⟩⟩
theorem In.offB {P : Nat → Prop} {B : Nat} {w : World} : {n : Nat} → {x : Tm n} → Off P n x → In B w n x → Off (fun b => P b ∧ b < B) n x
  | 0, _, p, _ => p
  | _ + 1, _, p, k => by
    obtain ⟨_, k1⟩ := k
    rcases p with p | ⟨b, o, e, hb, p⟩
    · exact Or.inl p
    · rcases k1 with k1 | ⟨b', o', e', hb', k1⟩
      · exact Or.inl k1
      · rw [e] at e'
        injection e' with e'
        injection e' with e1 e2
        subst e1 e2
        exact Or.inr ⟨b, o, e, ⟨hb, hb'⟩, fun i y hy => In.offB (p i y hy) (k1 i y hy).2⟩

/-- A term's own four cells. -/
def hdT : (n : Nat) → Tm n → Nd
  | 0, _ => ((0, 0, ⟨#[]⟩), (none, 0, 0))
  | n + 1, x => hdOf n x
theorem hd_held {w : World} {base g c L : Nat} {n : Nat} {l : List (Tm (n + 1))} (h : w.ownsRow base 24 4 (.slice (some ⟨g, 0, none⟩) L c) L (ndCells (l.map (hdT (n + 1))))) (k : Nat) (x : Tm (n + 1)) (hx : l[k]? = some x) :
    Held w g (0 + k * 4) (n + 1) x := by
  have h1 := own_nd h k (hdT (n + 1) x) (by simp [hx])
  rw [Nat.zero_add]
  exact h1

/-- What a tuple's reading has so far: terms l, in a row of blocks from base on; no term lies in the row's own block. -/
def RowOf (base : Nat) (n : Nat) (l : List (Tm n)) (v : Value) (w : World) : Prop :=
  w.ownsRow base 24 4 v l.length (ndCells (l.map (hdT n))) ∧ ∀ y ∈ l, In w.heap.size w n y ∧ Off (fun b => base ≤ b ∧ v.ownBlock ≠ some b) n y

/-- The row is a tuple. -/
theorem RowOf.tup {base n : Nat} {l : List (Tm (n + 1))} {v : Value} {w : World} (h : RowOf base (n + 1) l v w) : ∃ a c, v = .slice a l.length c ∧ Off (fun b => base ≤ b) (n + 2) ((4, 0, ⟨#[]⟩), (a, c), l) ∧ In w.heap.size w (n + 2) ((4, 0, ⟨#[]⟩), (a, c), l) := by
  obtain ⟨h1, h2⟩ := h
  have hI : I64 4 ∧ I64 0 ∧ (⟨#[]⟩ : ByteArray).size ≤ maxLen := ⟨⟨by omega, by omega⟩, ⟨by omega, by omega⟩, Nat.zero_le _⟩
  have h3 := h1
  obtain ⟨h3a, h3⟩ := h3
  rcases h3 with ⟨h3, h4⟩ | ⟨g, cap, cur, rfl, hg, hh, hc, hm, hz, he⟩
  · have : l = [] := List.eq_nil_of_length_eq_zero h4
    subst this
    refine ⟨none, 0, by rw [h3]; rfl, Or.inl rfl, ⟨hI.1, hI.2.1, hI.2.2, Nat.zero_le _, Nat.zero_le _⟩, Or.inl rfl⟩
  · have hlt : g < w.heap.size := (Array.getElem?_eq_some_iff.1 hh).1
    refine ⟨some ⟨g, 0, none⟩, cap, rfl, Or.inr ⟨g, 0, rfl, hg, fun i y hy => ((h2 y (List.mem_of_getElem? hy)).2).mono fun b hb => hb.1⟩, ⟨hI.1, hI.2.1, hI.2.2, hc, hm⟩, Or.inr ⟨g, 0, rfl, hlt, fun i y hy => ⟨hd_held h1 i y hy, (h2 y (List.mem_of_getElem? hy)).1⟩⟩⟩
end Go.Proofs.Ytfginhifgljnmaa
namespace Go.Proofs.Ytfginhifgljnmaa
open Go.RowKit Go.Maps

/-- All but the blocks of which S holds are as they were; new ones may be there. -/
structure Kee (S : Nat → Prop) (w w' : World) : Prop where
  os : w'.os = w.os
  tape : w'.tape = w.tape
  output : w'.output = w.output
  size : w.heap.size ≤ w'.heap.size
  block : ∀ b, b < w.heap.size → ¬ S b → w'.heap[b]? = w.heap[b]?
theorem Kee.refl (S : Nat → Prop) (w : World) : Kee S w w := ⟨rfl, rfl, rfl, Nat.le_refl _, fun _ _ _ => rfl⟩
theorem Kee.trans {S T : Nat → Prop} {w w1 w2 : World} (h : Kee S w w1) (k : Kee T w1 w2) (hT : ∀ b, b < w.heap.size → T b → S b) : Kee S w w2 :=
  ⟨k.os.trans h.os, k.tape.trans h.tape, k.output.trans h.output, Nat.le_trans h.size k.size, fun b hb hs => (k.block b (Nat.lt_of_lt_of_le hb h.size) (fun ht => hs (hT b hb ht))).trans (h.block b hb hs)⟩
theorem Kee.mono {S T : Nat → Prop} {w w1 : World} (h : Kee S w w1) (hT : ∀ b, b < w.heap.size → S b → T b) : Kee T w w1 := ⟨h.os, h.tape, h.output, h.size, fun b hb hs => h.block b hb fun k => hs (hT b hb k)⟩
theorem kee_below {w w' : World} (h : Below w.heap.size w w') (S : Nat → Prop) : Kee S w w' := ⟨h.os, h.tape, h.output, h.size, fun b hb _ => h.block b hb⟩
theorem kee_grown {w w' : World} {row : Option Nat} (h : w.grownBy w' row) : Kee (fun b => row = some b) w w' := ⟨h.os, h.tape, h.output, h.size, fun b hb hs => h.block b hb fun e => hs e.symm⟩
theorem kee_set (w : World) (q o : Nat) (v : Value) : Kee (fun b => b = q) w (w.setCell ⟨q, o, none⟩ v) :=
  ⟨rfl, rfl, rfl, by simp [World.setCell], fun b _ hne => by
    have : q ≠ b := fun e => hne e.symm
    simp [World.setCell, Array.getElem?_modify, this]⟩
theorem Kee.below {S : Nat → Prop} {w w' : World} {B : Nat} (h : Kee S w w') (hB : B ≤ w.heap.size) (hS : ∀ b, b < B → ¬ S b) : Below B w w' := ⟨h.os, h.tape, h.output, h.size, fun b hb => h.block b (by omega) (hS b hb)⟩
theorem Kee.cell {S : Nat → Prop} {w w' : World} (h : Kee S w w') {b : Nat} (o : Nat) (hb : b < w.heap.size) (hS : ¬ S b) : w'.cell? ⟨b, o, none⟩ = w.cell? ⟨b, o, none⟩ := by
  simp only [World.cell?, h.block b hb hS]
theorem row_kee {base : Nat} {e : TypeId} {sz : Nat} {v : Value} {n : Nat} {xs : List Value} {w w' : World} {S : Nat → Prop} (h : w.ownsRow base e sz v n xs) (k : Kee S w w') (h1 : ∀ b, v.ownBlock = some b → ¬ S b) : w'.ownsRow base e sz v n xs := by
  refine ⟨h.1, ?_⟩
  rcases h.2 with ⟨e, e0⟩ | ⟨g, cap, cur, e, hg, hh, hr⟩
  · exact Or.inl ⟨e, e0⟩
  · exact Or.inr ⟨g, cap, cur, e, hg, (k.block g (Array.getElem?_eq_some_iff.1 hh).1 (h1 g (by rw [e]; rfl))).trans hh, hr⟩
theorem Held.kee {S : Nat → Prop} {w w' : World} (h : Kee S w w') {b o : Nat} (hb : b < w.heap.size) (hS : ¬ S b) : {n : Nat} → {x : Tm n} → Held w b o n x → Held w' b o n x
  | 0, _, k => k
  | _ + 1, _, k => by
    obtain ⟨k0, k1, k2, k3⟩ := k
    exact ⟨(h.cell _ hb hS).trans k0, (h.cell _ hb hS).trans k1, (h.cell _ hb hS).trans k2, (h.cell _ hb hS).trans k3⟩
/-- A term that lies in blocks that stay, stays. -/
theorem In.kee {S : Nat → Prop} {w w' : World} (h : Kee S w w') : {n : Nat} → {x : Tm n} → In w.heap.size w n x → Off (fun b => ¬ S b) n x → In w'.heap.size w' n x
  | 0, _, k, _ => k
  | _ + 1, x, k, o => by
    obtain ⟨k0, k1⟩ := k
    refine ⟨k0, ?_⟩
    rcases k1 with k1 | ⟨b, f, e, hb, k1⟩
    · exact Or.inl k1
    · rcases o with o | ⟨b', f', e', hb', o⟩
      · exact Or.inl o
      · rw [e] at e'
        injection e' with e'
        injection e' with e1 e2
        subst e1 e2
        exact Or.inr ⟨b, f, e, Nat.lt_of_lt_of_le hb h.size, fun i y hy => ⟨(k1 i y hy).1.kee h hb hb', (k1 i y hy).2.kee h (o i y hy)⟩⟩

/-! ### the keys -/
theorem pairKey : WideMaps.ArrKey Try.prog 88 3 2 := ⟨Try.underlying88, by kernel_rfl, by kernel_rfl, by kernel_rfl⟩
theorem pairLaw : Keyed Try.prog 88 := Keyed.of_law pairKey.law
theorem types_some : ∃ m, Try.prog.types.size = m + 1 := by
  have h : (Try.prog.types.size == 0) = false := by kernel_rfl
  have h' : Try.prog.types.size ≠ 0 := beq_eq_false_iff_ne.1 h
  exact ⟨Try.prog.types.size - 1, by omega⟩
/-- A pair of numbers, as a value and as what is read of it. -/
def pk (k : Int × Int) : Value := .agg #[.int .i64 k.1, .int .i64 k.2]
def kl (k : Int × Int) : Lit := .string (keyBytes [.int .i64 k.1, .int .i64 k.2])
def I2 (k : Int × Int) : Prop := I64 k.1 ∧ I64 k.2
theorem wf_of {a : Int} (h : I64 a) : (Lit.int .i64 a).wf = true := WalkArith.wf_i64 (by unfold I64 at h; omega)
theorem of_wf {a : Int} (h : (Lit.int .i64 a).wf = true) : I64 a := by
  have : -9223372036854775808 ≤ a ∧ a ≤ 9223372036854775807 := by simpa [Lit.wf, IntKind.min, IntKind.max, IntKind.signed, IntKind.bits] using h
  exact this
theorem pk_key {k : Int × Int} (h : I2 k) : keyOf Try.prog 88 (pk k) = some (kl k) := WideMaps.keyOf_pair pairKey Try.underlying3 types_some (wf_of h.1) (wf_of h.2)
theorem kl_inj {k k' : Int × Int} (h : I2 k) (h' : I2 k') (e : kl k = kl k') : k = k' := by
  have h1 := pairLaw.inj (pk_key h) (e ▸ pk_key h')
  simp only [pk, Value.agg.injEq, Array.mk.injEq, List.cons.injEq, Value.int.injEq, true_and, and_true] at h1
  exact Prod.ext h1.1 h1.2
set_option maxRecDepth 100000 in
theorem key_pk {v : Value} {x : Lit} (h : keyOf Try.prog 88 v = some x) : ∃ k, I2 k ∧ v = pk k ∧ x = kl k := by
  have h0 := h
  unfold keyOf at h
  simp only [Try.underlying88] at h
  split at h
  · rename_i hf
    simp only [Bool.and_eq_true] at hf
    have hf2 := hf.2
    unfold Value.formed at hf2
    cases v <;> simp [Try.underlying88] at hf2
    rename_i cs
    rw [pairKey.size] at hf2
    obtain ⟨l⟩ := cs
    match l, hf2 with
    | [c0, c1], _ =>
      simp only [Option.map_eq_some_iff] at h
      obtain ⟨ls, hl, _⟩ := h
      obtain ⟨m, hm⟩ := types_some
      rw [hm] at hl
      unfold Program.keyLits at hl
      simp only [Try.underlying88, Value.cells] at hl
      rw [if_pos (by rw [pairKey.size]; rfl), show List.range 2 = [0, 1] from rfl, List.mapM_cons, List.mapM_cons, List.mapM_nil] at hl
      simp only [Option.map_eq_some_iff, bind, Option.bind_eq_some_iff, pure, pairKey.one] at hl
      obtain ⟨_, ⟨y0, g0, _, ⟨y1, g1, _⟩, _⟩, _⟩ := hl
      simp only [Nat.zero_mul, List.drop_zero, List.take_succ_cons, List.take_zero, Nat.one_mul, List.drop_succ_cons] at g0 g1
      have inv : ∀ c y, Program.keyLits Try.prog (m + 1) 3 [c] = some y → ∃ a, c = .int .i64 a ∧ I64 a := by
        intro c y hc
        unfold Program.keyLits at hc
        cases c <;> simp [Try.underlying3] at hc
        obtain ⟨⟨rfl, hw⟩, _⟩ := hc
        exact ⟨_, rfl, of_wf hw⟩
      obtain ⟨a, rfl, ha⟩ := inv _ _ g0
      obtain ⟨b, rfl, hb⟩ := inv _ _ g1
      refine ⟨(a, b), ⟨ha, hb⟩, rfl, ?_⟩
      have := pk_key (k := (a, b)) ⟨ha, hb⟩
      exact Option.some.inj (h0.symm.trans this)
  · cases h

/-! ### the map -/
/-- An element as it is. -/
def rawE (v : Value) : Option (DataW Value × List MemPlace) := some (.held v, [])
def upd {α : Type} (f : Int × Int → α) (k : Int × Int) (x : α) : Int × Int → α := fun j => if j = k then x else f j
theorem upd_same {α : Type} (f : Int × Int → α) (k : Int × Int) (x : α) : upd f k x k = x := if_pos rfl
theorem upd_other {α : Type} (f : Int × Int → α) {k j : Int × Int} (x : α) (h : j ≠ k) : upd f k x j = f j := if_neg h
def nilS : Value := .slice none 0 0
def tCells (N : Nat) (l : List (Tm N)) : List Value := ndCells (l.map (hdT N))
theorem tCells_length (N : Nat) (l : List (Tm N)) : (tCells N l).length = l.length * 4 := by simp [tCells, ndCells_length]
theorem tCells_append (N : Nat) (l r : List (Tm N)) : tCells N (l ++ r) = tCells N l ++ tCells N r := by simp [tCells, ndCells_append]
/-- A row of terms. -/
def TRow (base N : Nat) (v : Value) (l : List (Tm N)) (w : World) : Prop := w.ownsRow base 24 4 v l.length (tCells N l)
/-- Block mb is a map from pairs to rows of terms; no two rows lie in one block; f: the rows; sl: where they lie. -/
structure GM (base mb n N : Nat) (f : Int × Int → List (Tm N)) (sl : Int × Int → Value) (w : World) : Prop where
  lo : base ≤ mb
  map : ∃ D, w.ownsMap Try.prog 88 rawE mb n D ∧ (∀ k, I2 k → D.atKey (kl k) (.held nilS) = .held (sl k)) ∧ ∀ x, has D x = true ↔ ∃ k, I2 k ∧ x = kl k ∧ f k ≠ []
  row : ∀ k, I2 k → TRow base N (sl k) (f k) w
  apart : ∀ k j, I2 k → I2 j → k ≠ j → ∀ b, (sl k).ownBlock = some b → (sl j).ownBlock ≠ some b
/-- The blocks that it is made of. -/
def gmM (mb : Nat) (sl : Int × Int → Value) (b : Nat) : Prop := b = mb ∨ ∃ k, I2 k ∧ (sl k).ownBlock = some b
theorem own_cells {w : World} {base : Nat} {e : TypeId} {sz : Nat} {v : Value} {n : Nat} {xs : List Value} (h : w.ownsRow base e sz v n xs) (b : Nat) (hb : v.ownBlock = some b) : ∃ cur, w.heap[b]? = some (.cells cur e (0, 0)) := by
  rcases h.2 with ⟨rfl, _⟩ | ⟨g, cap, cur, rfl, _, hh, _⟩
  · simp [Value.ownBlock] at hb
  · simp [Value.ownBlock] at hb
    subst hb
    exact ⟨cur, hh⟩
variable {base mb n N : Nat} {f : Int × Int → List (Tm N)} {sl : Int × Int → Value} {w : World}
theorem GM.lt (h : GM base mb n N f sl w) (b : Nat) (hb : gmM mb sl b) : base ≤ b ∧ b < w.heap.size := by
  rcases hb with rfl | ⟨k, hk, hb⟩
  · obtain ⟨D, h1, _⟩ := h.map
    exact ⟨h.lo, h1.lt⟩
  · exact (h.row k hk).lt b hb
theorem GM.ne (h : GM base mb n N f sl w) {k : Int × Int} (hk : I2 k) : (sl k).ownBlock ≠ some mb := by
  intro e
  obtain ⟨c, hc⟩ := own_cells (h.row k hk) mb e
  obtain ⟨D, ⟨es, clock, hb, _⟩, _⟩ := h.map
  rw [hb] at hc
  cases hc
theorem GM.kee {S : Nat → Prop} {w' : World} (h : GM base mb n N f sl w) (k : Kee S w w') (hS : ∀ b, gmM mb sl b → ¬ S b) : GM base mb n N f sl w' := by
  refine ⟨h.lo, ?_, fun j hj => row_kee (h.row j hj) k fun b hb => hS b (Or.inr ⟨j, hj, hb⟩), h.apart⟩
  obtain ⟨D, h1, h2⟩ := h.map
  refine ⟨D, ?_, h2⟩
  have hlt := h1.lt
  obtain ⟨es, clock, hb, hr⟩ := h1
  exact ⟨es, clock, (k.block mb hlt (hS mb (Or.inl rfl))).trans hb, hr⟩
theorem GM.mono (h : GM base mb n N f sl w) {m : Nat} (hm : n ≤ m) : GM base mb m N f sl w := by
  obtain ⟨h1, ⟨D, h2, h3⟩, h4, h5⟩ := h
  exact ⟨h1, ⟨D, h2.mono hm, h3⟩, h4, h5⟩
theorem GM.new (w : World) (N : Nat) : GM w.heap.size w.heap.size 0 N (fun _ => []) (fun _ => nilS) (w.alloc (.map #[] 0)) :=
  ⟨Nat.le_refl _, ⟨.map [], World.ownsMap_made w _ _ _, fun k _ => by simp [DataW.atKey], fun x => ⟨fun h => by simp [has] at h, fun ⟨k, _, _, h⟩ => absurd rfl h⟩⟩,
    fun k _ => ⟨by simp [tCells, ndCells], Or.inl ⟨rfl, rfl⟩⟩, fun k j _ _ _ b hb => by simp [nilS, Value.ownBlock] at hb⟩
theorem TRow.rebase {base' : Nat} {v : Value} {l : List (Tm N)} (h : TRow base N v l w) (hb : base' ≤ base) : TRow base' N v l w := own_base h hb
theorem GM.rebase {base' : Nat} (h : GM base mb n N f sl w) (hb : base' ≤ base) : GM base' mb n N f sl w :=
  ⟨Nat.le_trans hb h.lo, h.map, fun k hk => (h.row k hk).rebase hb, h.apart⟩
theorem rawE_inv {v : Value} {d : DataW Value} {ps : List MemPlace} (h : rawE v = some (d, ps)) : d = .held v := by
  unfold rawE at h
  injection h with h
  injection h with h1 h2
  exact h1.symm
set_option maxRecDepth 100000 in
theorem zeroRow (w : World) : (zeroValue 22).run Try.prog w = .ok (.slice none 0 0) w := by kernel_rfl
set_option maxRecDepth 100000 in
theorem GM.look (h : GM base mb n N f sl w) {k : Int × Int} (hk : I2 k) : (Instr.lookup 90 (.map (some mb)) (pk k) false).run Try.prog w = .ok (sl k) w := by
  obtain ⟨D, h1, h2, _⟩ := h.map
  obtain ⟨v, ps, hrun, hv⟩ := h1.lookup pairLaw Try.underlying90 (zeroRow w) (zd := .held nilS) (zp := []) rfl (pk_key hk)
  rw [h2 k hk] at hv
  have e := rawE_inv hv
  injection e with e
  rw [hrun, e]
set_option maxRecDepth 100000 in
theorem look_none (w : World) {k : Int × Int} (hk : I2 k) : (Instr.lookup 90 (.map none) (pk k) false).run Try.prog w = .ok (.slice none 0 0) w := by
  have h := look_nil (P := Try.prog) (w := w) false pairLaw Try.underlying90 (zeroRow w) (pk_key hk)
  simpa using h
theorem atKey_put {D : DataW Value} (hm : IsMap D) {k j : Int × Int} (hk : I2 k) (hj : I2 j) (v : Value) (z : DataW Value) : (D.put (kl k) (.held v)).atKey (kl j) z = if j = k then .held v else D.atKey (kl j) z := by
  by_cases e : j = k
  · subst e
    rw [if_pos rfl, atKey_put_same hm (pairLaw.key (pk_key hj))]
  · rw [if_neg e, atKey_put_other fun e' => e (kl_inj hj hk e')]
/-- What is left where a row was laid in at its key. -/
theorem GM.put_of (h : GM base mb n N f sl w) {k : Int × Int} (hk : I2 k) {w1 w2 : World} (hK : Kee (fun b => b = mb ∨ (sl k).ownBlock = some b) w w1) {v : Value} {l : List (Tm N)} (hl : l ≠ []) (ho : TRow base N v l w1)
    (hloc : ∀ b, v.ownBlock = some b → (sl k).ownBlock = some b ∨ w.heap.size ≤ b) (hkk : Kee (fun b => b = mb) w1 w2)
    (hown : ∀ D, w.ownsMap Try.prog 88 rawE mb n D → w2.ownsMap Try.prog 88 rawE mb (n + 1) (D.put (kl k) (.held v))) : GM base mb (n + 1) N (upd f k l) (upd sl k v) w2 := by
  obtain ⟨D, h1, h2, h3⟩ := h.map
  have hlt := h1.lt
  have hmb : ∀ b, v.ownBlock = some b → b ≠ mb := fun b hb e => by
    subst e
    rcases hloc b hb with e | e
    · exact h.ne hk e
    · omega
  have hneq : ∀ j, I2 j → j ≠ k → ∀ b, (sl j).ownBlock = some b → v.ownBlock ≠ some b := fun j hj hjk b hb hv => by
    rcases hloc b hv with e | e
    · exact h.apart j k hj hk hjk b hb e
    · have := ((h.row j hj).lt b hb).2
      omega
  refine ⟨h.lo, ⟨_, hown D h1, fun j hj => ?_, fun x => ?_⟩, fun j hj => ?_, fun i j hi hj hij b => ?_⟩
  · rw [atKey_put h1.isMap hk hj]
    unfold upd
    split
    · rfl
    · exact h2 j hj
  · constructor
    · intro hx
      by_cases e : x = kl k
      · exact ⟨k, hk, e, by rw [upd_same]; exact hl⟩
      · rw [has_put_other e] at hx
        obtain ⟨j, hj, ej, hf⟩ := (h3 x).1 hx
        refine ⟨j, hj, ej, ?_⟩
        rw [upd_other _ _ fun e' => e (by rw [ej, e'])]
        exact hf
    · rintro ⟨j, hj, rfl, hf⟩
      by_cases e : j = k
      · rw [e, has_put_same h1.isMap (pairLaw.key (pk_key hk))]
      · rw [has_put_other fun e' => e (kl_inj hj hk e')]
        rw [upd_other _ _ e] at hf
        exact (h3 _).2 ⟨j, hj, rfl, hf⟩
  · by_cases e : j = k
    · subst e
      rw [upd_same, upd_same]
      exact row_kee ho hkk fun b hb e => hmb b hb e
    · rw [upd_other _ _ e, upd_other _ _ e]
      refine row_kee (row_kee (h.row j hj) hK fun b hb e' => ?_) hkk fun b hb e' => h.ne hj (by rw [hb, e'])
      rcases e' with e' | e'
      · exact h.ne hj (by rw [hb, e'])
      · exact h.apart j k hj hk e b hb e'
  · by_cases e1 : i = k
    · subst e1
      rw [upd_same, upd_other _ _ fun e => hij e.symm]
      exact fun hb hb' => hneq j hj (fun e => hij e.symm) b hb' hb
    · rw [upd_other _ _ e1]
      by_cases e2 : j = k
      · subst e2
        rw [upd_same]
        exact fun hb => hneq i hi hij b hb
      · rw [upd_other _ _ e2]
        exact h.apart i j hi hj hij b
theorem turned_kee {w2 : World} (ht : w.mapTurned w2 mb) : Kee (fun b => b = mb) w w2 ∧ w2.heap.size = w.heap.size := by
  refine ⟨(kee_grown ht.grown).mono fun b _ e => (Option.some.inj e).symm, ?_⟩
  obtain ⟨_, _, _, _, _, rfl⟩ := ht
  simp [ChangeMaps.setBlock]
/-- A row is laid in, at its key. -/
theorem GM.store (h : GM base mb n N f sl w) {k : Int × Int} (hk : I2 k) {w1 : World} (hK : Kee (fun b => (sl k).ownBlock = some b) w w1) {v : Value} {l : List (Tm N)} (hl : l ≠ []) (ho : TRow base N v l w1)
    (hloc : ∀ b, v.ownBlock = some b → (sl k).ownBlock = some b ∨ w.heap.size ≤ b) (hn : n < 1000000) :
    ∃ w2, (Instr.mapUpdate 90 (.map (some mb)) (pk k) v).run Try.prog w1 = .ok () w2 ∧ GM base mb (n + 1) N (upd f k l) (upd sl k v) w2 ∧ Kee (fun b => b = mb) w1 w2 ∧ w2.heap.size = w1.heap.size := by
  have hstep : ∀ D, w.ownsMap Try.prog 88 rawE mb n D → ∃ w2, (Instr.mapUpdate 90 (.map (some mb)) (pk k) v).run Try.prog w1 = .ok () w2 ∧ w2.ownsMap Try.prog 88 rawE mb (n + 1) (D.put (kl k) (.held v)) ∧ w1.mapTurned w2 mb := by
    intro D h1
    have hlt := h1.lt
    have h1' : w1.ownsMap Try.prog 88 rawE mb n D := by
      obtain ⟨es, clock, hb, hr⟩ := h1
      exact ⟨es, clock, (hK.block mb hlt (h.ne hk)).trans hb, hr⟩
    exact h1'.store (d := .held v) (ps := []) pairLaw Try.underlying90 (by unfold maxLen; omega) (pk_key hk) rfl
  obtain ⟨D, h1, _⟩ := h.map
  obtain ⟨w2, hrun, _, ht⟩ := hstep D h1
  obtain ⟨hkk, hsz⟩ := turned_kee ht
  refine ⟨w2, hrun, h.put_of hk (hK.mono fun b _ e => Or.inr e) hl ho hloc hkk (fun D' h' => ?_), hkk, hsz⟩
  obtain ⟨w3, hrun3, hown, _⟩ := hstep D' h'
  rw [hrun] at hrun3
  injection hrun3 with _ e
  rw [e]
  exact hown
set_option maxRecDepth 100000 in
/-- The entry at a key is opened, what is at it is appended to, and it is laid in. -/
theorem GM.entry (h : GM base mb n N f sl w) {k : Int × Int} (hk : I2 k) (hn : n < 1000000) : ∃ (st : Nat) (w1 : World), (Instr.mapEntry 90 (.map (some mb)) (pk k)).run Try.prog w = .ok (.tuple #[sl k, goInt st]) w1 ∧ Kee (fun b => b = mb) w w1 ∧ w1.heap.size = w.heap.size ∧
    ∀ (w2 : World) (v : Value) (l : List (Tm N)), w2.heap[mb]? = w1.heap[mb]? → Kee (fun b => b = mb ∨ (sl k).ownBlock = some b) w w2 → l ≠ [] → TRow base N v l w2 → (∀ b, v.ownBlock = some b → (sl k).ownBlock = some b ∨ w.heap.size ≤ b) →
      ∃ w3, (Instr.entryStore 90 (.map (some mb)) (goInt st) v).run Try.prog w2 = .ok () w3 ∧ GM base mb (n + 1) N (upd f k l) (upd sl k v) w3 ∧ Kee (fun b => b = mb) w2 w3 ∧ w3.heap.size = w2.heap.size := by
  obtain ⟨D, h1, h2, _⟩ := h.map
  obtain ⟨es, clock, hb, F, hs, hD⟩ := h1
  have h1 : w.ownsMap Try.prog 88 rawE mb n D := ⟨es, clock, hb, F, hs, hD⟩
  obtain ⟨v0, st, es1, c1, hrun, hv0, hst⟩ := WideElems.entry_then_store (e := 22) pairKey.law Try.underlying90 zeroRow hb F (pk_key hk)
  have e0 : v0 = sl k := by
    have hlook := h.look hk
    obtain ⟨v1, ps, hrun1, hv1⟩ := h1.lookup pairLaw Try.underlying90 (zeroRow w) (zd := .held nilS) (zp := []) rfl (pk_key hk)
    rw [hlook] at hrun1
    rcases Maps.fit_look false pairLaw Try.underlying90 (zeroRow w) hb F (pk_key hk) with ⟨hr, hno, _⟩ | ⟨e1, y, hm1, hk1, hr, _⟩
    · rw [hlook] at hr
      injection hr with hr _
      rcases hv0 with ⟨e2, hm2, hk2, _⟩ | ⟨_, rfl⟩
      · exact absurd hk2 (hno e2 hm2)
      · exact hr.symm
    · rw [hlook] at hr
      injection hr with hr _
      rcases hv0 with ⟨e2, hm2, hk2, rfl⟩ | ⟨hno, _⟩
      · have := entry_eq_of_key ((MapKept.stamped_iff es clock).1 F.stamped).2.2 hm1 hm2 (hk1.trans hk2.symm)
        simp at hr
        rw [hr, this]
      · exact absurd hk1 (hno e1 hm1)
  subst e0
  have ht : w.mapTurned (ChangeMaps.setBlock w mb (.map es1 c1)) mb := ⟨es, clock, es1, c1, hb, rfl⟩
  obtain ⟨hk1, hz1⟩ := turned_kee ht
  refine ⟨st, _, hrun, hk1, hz1, fun w2 v l hw2 hK hl ho hloc => ?_⟩
  have hb2 : w2.heap[mb]? = some (.map es1 c1) := hw2.trans (ChangeMaps.heap_setBlock_same hb _)
  obtain ⟨es', c', hr1, hr2⟩ := hst w2 v hb2
  have ht2 : w2.mapTurned (ChangeMaps.setBlock w2 mb (.map es' c')) mb := ⟨es1, c1, es', c', hb2, rfl⟩
  obtain ⟨hk2, hz2⟩ := turned_kee ht2
  refine ⟨_, hr1, h.put_of hk hK hl ho hloc hk2 (fun D' h' => ?_), hk2, hz2⟩
  obtain ⟨w3, hrun3, hown, _⟩ := h'.store (d := .held v) (ps := []) pairLaw Try.underlying90 (by unfold maxLen; omega) (pk_key hk) rfl
  rw [hr2] at hrun3
  injection hrun3 with _ e
  rw [← e] at hown
  obtain ⟨es3, c3, hb3, hr3⟩ := hown
  rw [ChangeMaps.heap_setBlock_same hb] at hb3
  exact ⟨es3, c3, (ChangeMaps.heap_setBlock_same hb2 _).trans hb3, hr3⟩
/-- A row is taken out. -/
theorem GM.drop (h : GM base mb n N f sl w) {k : Int × Int} (hk : I2 k) (ty : TypeId) :
    ∃ w2, (Builtin.delete_ #[90, 88] ty #[.map (some mb), pk k]).run Try.prog w = .ok (.tuple #[]) w2 ∧ GM base mb n N (upd f k []) (upd sl k nilS) w2 ∧ Kee (fun b => b = mb) w w2 ∧ w2.heap.size = w.heap.size := by
  obtain ⟨D, h1, h2, h3⟩ := h.map
  obtain ⟨w2, hrun, hown, ht⟩ := h1.drop pairLaw Try.underlying90 (pk_key hk) ty
  obtain ⟨hkk, hsz⟩ := turned_kee ht
  refine ⟨w2, hrun, ⟨h.lo, ⟨_, hown, fun j hj => ?_, fun x => ?_⟩, fun j hj => ?_, fun i j hi hj hij b => ?_⟩, hkk, hsz⟩
  · by_cases e : j = k
    · subst e
      rw [upd_same, atKey_del_same]
    · rw [upd_other _ _ e, atKey_del_other fun e' => e (kl_inj hj hk e')]
      exact h2 j hj
  · constructor
    · intro hx
      by_cases e : x = kl k
      · rw [e, has_del_same] at hx
        cases hx
      · rw [has_del_other e] at hx
        obtain ⟨j, hj, ej, hf⟩ := (h3 x).1 hx
        refine ⟨j, hj, ej, ?_⟩
        rw [upd_other _ _ fun e' => e (by rw [ej, e'])]
        exact hf
    · rintro ⟨j, hj, rfl, hf⟩
      by_cases e : j = k
      · rw [e, upd_same] at hf
        exact absurd rfl hf
      · rw [has_del_other fun e' => e (kl_inj hj hk e')]
        rw [upd_other _ _ e] at hf
        exact (h3 _).2 ⟨j, hj, rfl, hf⟩
  · by_cases e : j = k
    · subst e
      rw [upd_same, upd_same]
      exact ⟨by simp [tCells, ndCells], Or.inl ⟨rfl, rfl⟩⟩
    · rw [upd_other _ _ e, upd_other _ _ e]
      exact row_kee (h.row j hj) hkk fun b hb e' => h.ne hj (by rw [hb, e'])
  · by_cases e1 : i = k
    · subst e1
      rw [upd_same]
      intro hb
      simp [nilS, Value.ownBlock] at hb
    · rw [upd_other _ _ e1]
      by_cases e2 : j = k
      · subst e2
        rw [upd_same]
        intro _ hb
        simp [nilS, Value.ownBlock] at hb
      · rw [upd_other _ _ e2]
        exact h.apart i j hi hj hij b
end Go.Proofs.Ytfginhifgljnmaa
namespace Go.Proofs.Ytfginhifgljnmaa
open Go.RowKit Go.Maps

/-- What is appended to a row that has room for it. -/
theorem run_append_in {P : Program} (w : World) (t ty e : TypeId) (i : TypeInfo) (ht : P.underlying t = some (.slice e)) (hi : P.info? e = some i)
    (g sLen sCap : Nat) (cur : Array Value) (hg : w.heap[g]? = some (.cells cur e (0, 0)))
    (a : Addr) (m c : Nat) (news : List Value) (hl : news.length = m * i.size) (hnews : ∀ j u, news[j]? = some u → w.cell? (a.add j) = some u) (h1 : ∀ u ∈ news, u.oneCell' = true)
    (hroom : sLen + m ≤ sCap) (hfit : sLen * i.size + news.length ≤ cur.size) :
    (Builtin.append_ #[t, t] ty #[.slice (some ⟨g, 0, none⟩) sLen sCap, .slice (some a) m c]).run P w =
      .ok (.slice (some ⟨g, 0, none⟩) (sLen + m) sCap) (w.setRow g (cur.toList.take (sLen * i.size) ++ news ++ cur.toList.drop (sLen * i.size + news.length)).toArray) := by
  have hf := run_firstCells_some (P := P) w i.size m a m c news hl hnews
  have hst := run_storeCells_at P g (sLen * i.size) e news 0 cur w hg (by simpa using hfit) h1
  simp only [Nat.add_zero] at hst
  simp [Builtin.append_, run_underlying ht, sizeOf, typeInfo, hi, Builtin.lenOf, hroom, hf, Addr.add_lit, hst]
theorem infoTermG : (Try.prog.info? 24).map (fun i => (i.zero, i.size, i.bytes)) = some (some (.agg #[.int .i64 0, .int .i64 0, .string ⟨#[]⟩, .slice none 0 0]), 4, 56) := by kernel_rfl
theorem zeroTerm (w : World) : (zeroValue 24).run Try.prog w = .ok (.agg #[.int .i64 0, .int .i64 0, .string ⟨#[]⟩, .slice none 0 0]) w := by kernel_rfl
def zero4 : List Value := [.int .i64 0, .int .i64 0, .string ⟨#[]⟩, .slice none 0 0]
/-- One element of a row is cleared. -/
theorem run_clear_one (w : World) (ty : TypeId) (g o c : Nat) (cur : Array Value) (hg : w.heap[g]? = some (.cells cur 24 (0, 0))) (hfit : o + 4 ≤ cur.size) :
    (Builtin.clear_ #[22] ty #[.slice (some ⟨g, o, none⟩) 1 c]).run Try.prog w = .ok (.tuple #[]) (w.setRow g (cur.toList.take o ++ zero4 ++ cur.toList.drop (o + 4)).toArray) := by
  have hst := run_storeCells_at Try.prog g o 24 zero4 0 cur w hg (by simpa [zero4] using hfit) (by simp [zero4, Value.oneCell'])
  have hz : (Builtin.zeroCells (Value.agg #[.int .i64 0, .int .i64 0, .string ⟨#[]⟩, .slice none 0 0]).cells 1).toList = zero4 := by
    simp [Builtin.zeroCells, Value.cells, zero4]
    rfl
  simp only [Nat.add_zero] at hst
  have hl : zero4.length = 4 := rfl
  rw [hl] at hst
  simp [Builtin.clear_, run_underlying Try.underlying22, hz, hst]

theorem slice_lo (w : World) (g L c : Nat) (h : L ≤ c) (h1 : 1 ≤ L) : (Instr.slice 22 (.slice (some ⟨g, 0, none⟩) L c) (some (.int .i64 0)) (some (.int .i64 1)) (some (.int .i64 L))).run Try.prog w = .ok (.slice (some ⟨g, 0, none⟩) 1 L) w := by
  have e2 : (1 : Int) ≤ (L : Int) := by omega
  simp [Instr.slice, run_underlying Try.underlying22, Instr.sliceBounds, Instr.sliceBound, asIntOf, e2, h, go_sem]
theorem slice_none (w : World) (g L c : Nat) : (Instr.slice 22 (.slice (some ⟨g, 0, none⟩) L c) none (some (.int .i64 0)) none).run Try.prog w = .ok (.slice (some ⟨g, 0, none⟩) 0 c) w := by
  simp [Instr.slice, run_underlying Try.underlying22, Instr.sliceBounds, Instr.sliceBound, asIntOf, go_sem]
theorem slice_rest (w : World) (g L c : Nat) (h : L ≤ c) (h1 : 2 ≤ L) : (Instr.slice 22 (.slice (some ⟨g, 0, none⟩) L c) (some (.int .i64 1)) none none).run Try.prog w = .ok (.slice (some ⟨g, 4, none⟩) (L - 1) (c - 1)) w := by
  have e2 : (1 : Int) ≤ (L : Int) := by omega
  have e3 : ¬ c = 1 := by omega
  simp [Instr.slice, run_underlying Try.underlying22, Instr.sliceBounds, Instr.sliceBound, asIntOf, e2, e3, go_sem, Addr.add_lit]
theorem slice_last (w : World) (g m c : Nat) (h : m + 1 ≤ c) : (Instr.slice 22 (.slice (some ⟨g, 0, none⟩) m c) (some (.int .i64 m)) (some (.int .i64 ((m : Int) + 1))) none).run Try.prog w = .ok (.slice (some ⟨g, m * 4, none⟩) 1 (c - m)) w := by
  have e2 : ¬ c = m := by omega
  have e3 : (m : Int) + 1 ≤ (c : Int) := by omega
  have e4 : (0 : Int) ≤ (m : Int) + 1 := by omega
  simp [Instr.slice, run_underlying Try.underlying22, Instr.sliceBounds, Instr.sliceBound, asIntOf, e2, e3, e4, go_sem, Addr.add_lit]
theorem step_append_run {w w' : World} {v x' v' : Value} {ops : Array Oper} {o : Oper} {a : Act} {K : Act → World → Prop} {Q : Exit → Act → World → Prop} {E : Prop} (hgd : o.guard = none) (s x : Operand) (ho : o.op = .call { callee := .builtin .append, args := #[s, x], argTypes := #[22, 22] })
    (hs : a.eval s = v) (hx : a.eval x = x') (hr : (Builtin.append_ #[22, 22] o.type #[v, x']).run Try.prog w = .ok v' w') (hK : K (a.put o.dst v') w') : if Region.wanted o (yielded ops a.tmps) = true then Oper.wp Try.prog o a w K Q else E := by
  have hw : Region.wanted o (yielded ops a.tmps) = true := by simp [Region.wanted, hgd]
  rw [if_pos hw]
  unfold Oper.wp execOp
  simp only [ho, resolve, invoke, builtin, Sem.run_bind, Sem.run_pure, Result.andThen_ok, List.map_toArray, List.map_cons, List.map_nil, hs, hx, hr]
  exact hK
theorem cell_row {w : World} {g : Nat} {cur : Array Value} {e : TypeId} (h : w.heap[g]? = some (.cells cur e (0, 0))) (j : Nat) : w.cell? ⟨g, j, none⟩ = cur.toList[j]? := by
  simp [World.cell?, h]
set_option maxRecDepth 100000 in
set_option maxHeartbeats 1000000 in
theorem delete_row {N : Nat} (base g c m : Nat) (y : Tm N) (l : List (Tm N)) (w : World) (hm : l.length = m) (h : TRow base N (.slice (some ⟨g, 0, none⟩) (m + 1) c) (y :: l) w) (h0 : l ≠ []) :
    Calls Try.prog 92 #[.slice (some ⟨g, 0, none⟩) ((m : Nat) + 1) c, .int .i64 0, .int .i64 1] w fun e w' => e = .returned (.slice (some ⟨g, 0, none⟩) m c) ∧ TRow base N (.slice (some ⟨g, 0, none⟩) m c) l w' ∧ w.grownBy w' (some g) ∧ w'.heap.size = w.heap.size := by
  obtain ⟨it, hit, htz0, htz1, htz2⟩ := info_parts infoTermG
  have hm0 : 0 < m := by
    rw [← hm]
    exact List.length_pos_iff.2 h0
  obtain ⟨h1, h2⟩ := h
  rcases h2 with ⟨e, _⟩ | ⟨g', cap, cur, e, hg, hh, hc, hcm, hz, ht⟩
  · cases e
  · injection e with e1 e2 e3
    injection e1 with e1
    injection e1 with e1 _
    subst e1 e3
    simp only [List.length_cons, hm] at h1 hc ht e2
    have hcl : cur.toList.length = c * 4 := by rw [Array.length_toList, hz]
    have htl : cur.toList.take ((m + 1) * 4) = tCells N [y] ++ tCells N l := by
      rw [ht, ← tCells_append]
      rfl
    have ly : (tCells N [y]).length = 4 := by rw [tCells_length]; rfl
    have ll : (tCells N l).length = m * 4 := by rw [tCells_length, hm]
    have HN : Hid (∀ W : World, W.heap[g]? = some (.cells cur 24 (0, 0)) → ∀ j u, (tCells N l)[j]? = some u → W.cell? ((⟨g, 4, none⟩ : Addr).add j) = some u) := by
      intro W hW j u hj
      have hjl := (List.getElem?_eq_some_iff.1 hj).1
      rw [Addr.add_lit, cell_row hW]
      have e : (cur.toList.take ((m + 1) * 4))[4 + j]? = some u := by
        rw [htl, List.getElem?_append_right (by omega), ly, Nat.add_sub_cancel_left]
        exact hj
      rw [List.getElem?_take] at e
      split at e
      · exact e
      · cases e
    have HA : Hid (∀ (W : World) (ty : TypeId), W.heap[g]? = some (.cells cur 24 (0, 0)) → (Builtin.append_ #[22, 22] ty #[.slice (some ⟨g, 0, none⟩) 0 c, .slice (some ⟨g, 4, none⟩) m (c - 1)]).run Try.prog W =
      .ok (.slice (some ⟨g, 0, none⟩) m c) (W.setRow g (tCells N l ++ cur.toList.drop (m * 4)).toArray)) := by
      intro W ty hW
      have hr := run_append_in (P := Try.prog) W 22 ty 24 it Try.underlying22 hit g 0 c cur hW ⟨g, 4, none⟩ m (c - 1) (tCells N l) (by rw [ll, htz1]) (HN.out W hW) (ndCells_one _) (by omega) (by rw [ll, hz]; omega)
      simpa [ll] using hr
    have HC : Hid (∀ (W : World) (ty : TypeId), W.heap[g]? = some (.cells (tCells N l ++ cur.toList.drop (m * 4)).toArray 24 (0, 0)) → (Builtin.clear_ #[22] ty #[.slice (some ⟨g, m * 4, none⟩) 1 (c - m)]).run Try.prog W =
      .ok (.tuple #[]) (W.setRow g (tCells N l ++ zero4 ++ cur.toList.drop ((m + 1) * 4)).toArray)) := by
      intro W ty hW
      have hr := run_clear_one W ty g (m * 4) (c - m) _ hW (by simp only [List.size_toArray, List.length_append, List.length_drop, ll, hcl]; omega)
      rw [hr]
      refine congrArg (fun x => Result.ok (Value.tuple #[]) (W.setRow g (List.toArray x))) ?_
      rw [List.toList_toArray, List.take_append_of_le_length (by omega), List.take_of_length_le (by omega), List.drop_append, List.drop_of_length_le (by omega), ll, List.drop_drop, List.nil_append]
      rw [show m * 4 + (m * 4 + 4 - m * 4) = (m + 1) * 4 by omega]
    have hA := HA.out w.drew 22 hh
    have HB : Hid ((w.drew.setRow g (tCells N l ++ cur.toList.drop (m * 4)).toArray).heap[g]? = some (.cells (tCells N l ++ cur.toList.drop (m * 4)).toArray 24 (0, 0))) := setRow_heap w.drew g cur _ _ _ hh
    have hC := fun ty : TypeId => HC.out _ ty HB.out
    have s1 := fun W : World => slice_lo W g (m + 1) c (by omega) (by omega)
    have s2 := fun W : World => slice_none W g (m + 1) c
    have s3 := fun W : World => slice_rest W g (m + 1) c (by omega) (by omega)
    have s4 := fun W : World => slice_last W g m c (by omega)
    rw [Nat.add_sub_cancel] at s3
    go_enter Try.func92, Try.ntmps92
    go_wp2_with fail
    go_region_held3 (fun _ => True) (trivial) ((first | (refine step_append_run rfl _ _ rfl (by simp [Act.eval]) (by simp [Act.eval]) hA ?_)))
    go_wp2_with fail
    go_ret
    have hb : ∀ b, b ≠ g → ((w.drew.setRow g (tCells N l ++ cur.toList.drop (m * 4)).toArray).setRow g (tCells N l ++ (zero4 ++ cur.toList.drop ((m + 1) * 4))).toArray).heap[b]? = w.heap[b]? := fun b hb => (setRow_other _ _ _ _ hb).trans (setRow_other _ _ _ _ hb)
    refine ⟨rfl, ⟨by rw [ll, hm], Or.inr ⟨g, c, _, by rw [hm], hg, setRow_heap _ _ _ _ _ _ HB.out, by omega, hcm, ?_, ?_⟩⟩, ⟨rfl, rfl, rfl, by simp, fun b _ hne => hb b fun e => hne (by rw [e])⟩, by simp⟩
    · have hz4 : zero4.length = 4 := rfl
      simp only [List.size_toArray, List.length_append, List.length_drop, ll, hcl, hz4]
      omega
    · rw [List.toList_toArray, List.take_append_of_le_length (by omega), List.take_of_length_le (by omega)]
end Go.Proofs.Ytfginhifgljnmaa
namespace Go.Proofs.Ytfginhifgljnmaa
open Go.RowKit

def sameL {α β : Type} (f : α → β → Bool) : List α → List β → Bool
  | [], [] => true
  | a :: p, b :: q => f a b && sameL f p q
  | _, _ => false
def same : (n : Nat) → Tm n → (m : Nat) → Tm m → Bool
  | n + 1, x, m + 1, y => x.1.1 == y.1.1 && x.1.2.1 == y.1.2.1 && x.1.2.2.toList == y.1.2.2.toList && sameL (fun a b => same n a m b) x.2.2 y.2.2
  | _, _, _, _ => false

theorem ret_same {a b : Bool} (h : a = b) : Ending.returned (.bool a) = .returned (.bool b) := by rw [h]
theorem sameL_drop {α β : Type} (f : α → β → Bool) (p : List α) (q : List β) (k : Nat) (a : α) (b : β) (ha : p[k]? = some a) (hb : q[k]? = some b) :
    sameL f (p.drop k) (q.drop k) = (f a b && sameL f (p.drop (k + 1)) (q.drop (k + 1))) := by
  obtain ⟨h1, e1⟩ := List.getElem?_eq_some_iff.1 ha
  obtain ⟨h2, e2⟩ := List.getElem?_eq_some_iff.1 hb
  rw [List.drop_eq_getElem_cons h1, List.drop_eq_getElem_cons h2, e1, e2]
  rfl
theorem sameL_ne {α β : Type} (f : α → β → Bool) : (p : List α) → (q : List β) → ¬ p.length = q.length → sameL f p q = false
  | [], [], h => by simp at h
  | [], _ :: _, _ => rfl
  | _ :: _, [], _ => rfl
  | a :: p, b :: q, h => by
    simp only [sameL]
    rw [sameL_ne f p q (by simpa using h)]
    simp

def FSame (n : Nat) : Prop := ∀ (x : Tm n) (m : Nat) (y : Tm m) (B : Nat) (w : World), In B w n x → In B w m y → B ≤ w.heap.size →
  Calls Try.prog 15 #[val n x, val m y] w fun e w' => e = .returned (.bool (same n x m y)) ∧ Below w.heap.size w w'

theorem equal_ne (p q : Nat) (a c : Option Addr) (pc qc : Nat) (w : World) (_hpc : p ≤ 9223372036854775807) (_hqc : q ≤ 9223372036854775807) (hl : ((p : Int) == (q : Int)) = false) :
    Calls Try.prog 78 #[.slice a p pc, .slice c q qc, .func (Fn.func 15) #[] #[]] w fun e w' => e = .returned (.bool false) ∧ w' = w := by
  have hl' : ((p : Int) != (q : Int)) = true := by simpa using hl
  go_enter Try.func78, Try.ntmps78
  go_wp2_with fail
  go_ret
  exact ⟨rfl, rfl⟩

theorem equal_nil (a c : Option Addr) (pc qc : Nat) (w : World) :
    Calls Try.prog 78 #[.slice a 0 pc, .slice c 0 qc, .func (Fn.func 15) #[] #[]] w fun e w' => e = .returned (.bool true) ∧ w' = w := by
  go_enter Try.func78, Try.ntmps78
  go_wp2_with fail
  go_loop [17] (fun i => i = .int .i64 0) (fun _ => 0)
  case atStart => rfl
  case round =>
    obtain rfl := hrel
    go_wp2_with fail
    go_ret
    exact ⟨rfl, rfl⟩

set_option maxHeartbeats 400000 in
theorem equal_eq (n m : Nat) (ih : FSame n) (p : List (Tm n)) (q : List (Tm m)) (len : Nat) (hpl : Hid (p.length = len)) (hql : Hid (q.length = len)) (pb po qb qo pc qc : Nat) (B : Nat) (w : World)
    (hlen : len ≤ 9223372036854775807) (hpb : pb < B) (hqb : qb < B)
    (hp : ∀ (i : Nat) (y : Tm n), p[i]? = some y → Held w pb (po + i * 4) n y ∧ In B w n y)
    (hq : ∀ (i : Nat) (y : Tm m), q[i]? = some y → Held w qb (qo + i * 4) m y ∧ In B w m y)
    (hB : B ≤ w.heap.size) :
    Calls Try.prog 78 #[.slice (some ⟨pb, po, none⟩) len pc, .slice (some ⟨qb, qo, none⟩) len qc, .func (Fn.func 15) #[] #[]] w fun e w' =>
      e = .returned (.bool (sameL (fun a b => same n a m b) p q)) ∧ Below w.heap.size w w' := by
  go_enter Try.func78, Try.ntmps78
  go_wp2_with fail
  go_loopw [17] (fun i wr => ∃ k : Nat, k ≤ len ∧ i = .int .i64 k ∧ Below w.heap.size w wr ∧ Hid (sameL (fun a b => same n a m b) (p.drop k) (q.drop k) = sameL (fun a b => same n a m b) p q)) (fun i _ => len - (intOf i).toNat)
  case atStart => exact ⟨0, by omega, rfl, Below.refl _ _, rfl⟩
  case round =>
    obtain ⟨k, hk, rfl, hb, hd⟩ := hrel
    by_cases hlt : k < len
    · obtain ⟨x, hx⟩ : ∃ x, p[k]? = some x := ⟨p[k]'(by rw [hpl.out]; exact hlt), List.getElem?_eq_getElem _⟩
      obtain ⟨y, hy⟩ : ∃ y, q[k]? = some y := ⟨q[k]'(by rw [hql.out]; exact hlt), List.getElem?_eq_getElem _⟩
      obtain ⟨hx1, hx2⟩ := hp k x hx
      obtain ⟨hy1, hy2⟩ := hq k y hy
      have HS := hide (sameL_drop (fun a b => same n a m b) p q k x y hx hy)
      replace hx1 := hx1.below (hb.mono hB) hpb
      replace hy1 := hy1.below (hb.mono hB) hqb
      replace hx2 := hx2.below (hb.mono hB)
      replace hy2 := hy2.below (hb.mono hB)
      clear hp hq hx hy
      cases n with
      | zero => exact hx1.elim
      | succ n =>
      cases m with
      | zero => exact hy1.elim
      | succ m =>
      obtain ⟨x0, x1, x2, x3⟩ := hx1
      obtain ⟨y0, y1, y2, y3⟩ := hy1
      have hB' : B ≤ wr.heap.size := Nat.le_trans hB hb.size
      have HC : Hid (∀ (w1 : World), Below wr.heap.size wr w1 → Calls Try.prog 15 #[.agg #[.int .i64 x.1.1, .int .i64 x.1.2.1, .string x.1.2.2, .slice x.2.1.1 x.2.2.length x.2.1.2], .agg #[.int .i64 y.1.1, .int .i64 y.1.2.1, .string y.1.2.2, .slice y.2.1.1 y.2.2.length y.2.1.2]] w1 fun e w' => e = .returned (.bool (same (n + 1) x (m + 1) y)) ∧ Below w1.heap.size w1 w') :=
        fun w1 h1 => ih x (m + 1) y B w1 (hx2.below (h1.mono hB')) (hy2.below (h1.mono hB')) (Nat.le_trans hB' h1.size)
      clear ih hx2 hy2
      replace HS : Hid (sameL (fun a b => same (n + 1) a (m + 1) b) (p.drop k) (q.drop k) = (same (n + 1) x (m + 1) y && sameL (fun a b => same (n + 1) a (m + 1) b) (p.drop (k + 1)) (q.drop (k + 1)))) := HS
      generalize same (n + 1) x (m + 1) y = r at *
      generalize x.2.2.length = xl at *
      generalize y.2.2.length = yl at *
      have hk1 : (0 : Int) ≤ (k : Int) := by omega
      have hk2 : (k : Int) < (len : Int) := by omega
      have hpw : pb < wr.heap.size := by omega
      have hqw : qb < wr.heap.size := by omega
      go_wp2_with fail
      refine (HC.out _ (((Below.refl _ _).alloc (Nat.le_refl _) _).alloc (by simp) _)).mono ?_
      rintro e w1 ⟨rfl, hb1⟩
      have hb2 : Below w.heap.size w w1 := (hb.trans ((((Below.refl _ _).alloc (Nat.le_refl _) _).alloc (by simp) _).mono hb.size)).trans (hb1.mono (by have := hb.size; simp; omega))
      clear hb1
      cases r with
      | true =>
        go_wp2_with fail
        go_roundw
        case rel => exact ⟨k + 1, by omega, by go_num, hb2, by rw [← hd.out, HS.out]; rfl⟩
        case measure => simp [intOf]; omega
      | false =>
        go_wp2_with fail
        go_ret
        exact ⟨ret_same (by rw [← hd.out, HS.out]; rfl), hb2⟩
    · go_wp2_with fail
      go_ret
      refine ⟨ret_same ?_, hb⟩
      rw [← hd.out, List.drop_eq_nil_of_le (by rw [hpl.out]; omega), List.drop_eq_nil_of_le (by rw [hql.out]; omega)]
      rfl

theorem sameTerms_any (n m : Nat) (ih : FSame n) (p : List (Tm n)) (q : List (Tm m)) (a c : Option Addr) (pc qc : Nat) (B : Nat) (w : World)
    (hp : p = [] ∨ ∃ b o, a = some ⟨b, o, none⟩ ∧ b < B ∧ ∀ (i : Nat) (y : Tm n), p[i]? = some y → Held w b (o + i * 4) n y ∧ In B w n y)
    (hq : q = [] ∨ ∃ b o, c = some ⟨b, o, none⟩ ∧ b < B ∧ ∀ (i : Nat) (y : Tm m), q[i]? = some y → Held w b (o + i * 4) m y ∧ In B w m y)
    (hpl : p.length ≤ 9223372036854775807) (hql : q.length ≤ 9223372036854775807) (hB : B ≤ w.heap.size) :
    Calls Try.prog 34 #[.slice a p.length pc, .slice c q.length qc] w fun e w' => e = .returned (.bool (sameL (fun a b => same n a m b) p q)) ∧ Below w.heap.size w w' := by
  have HE : Hid (Calls Try.prog 78 #[.slice a p.length pc, .slice c q.length qc, .func (Fn.func 15) #[] #[]] w fun e w' =>
      e = .returned (.bool (sameL (fun a b => same n a m b) p q)) ∧ Below w.heap.size w w') := by
    by_cases hl : p.length = q.length
    · rcases hp with hp | ⟨pb, po, rfl, hpb, hp⟩
      · subst hp
        have hq0 : q = [] := List.eq_nil_of_length_eq_zero hl.symm
        subst hq0
        refine (equal_nil a c pc qc w).mono ?_
        rintro e w' ⟨rfl, rfl⟩
        exact ⟨rfl, Below.refl _ _⟩
      · rcases hq with hq | ⟨qb, qo, rfl, hqb, hq⟩
        · subst hq
          have hp0 : p = [] := List.eq_nil_of_length_eq_zero hl
          subst hp0
          refine (equal_nil _ c pc qc w).mono ?_
          rintro e w' ⟨rfl, rfl⟩
          exact ⟨rfl, Below.refl _ _⟩
        · have h := equal_eq n m ih p q p.length rfl hl.symm pb po qb qo pc qc B w (by omega) hpb hqb hp hq hB
          rw [hl] at h
          rw [hl]
          exact h
    · rw [sameL_ne _ _ _ hl]
      refine (equal_ne p.length q.length a c pc qc w hpl hql (by simp; omega)).mono ?_
      rintro e w' ⟨rfl, rfl⟩
      exact ⟨rfl, Below.refl _ _⟩
  clear hp hq ih hpl hql hB
  generalize p.length = pl at *
  generalize q.length = ql at *
  generalize sameL (fun a b => same n a m b) p q = r at *
  go_enter Try.func34, Try.ntmps34
  go_wp2_with fail
  refine HE.out.mono ?_
  rintro e w1 ⟨rfl, hb1⟩
  go_wp2_with fail
  go_ret
  exact ⟨rfl, hb1⟩

set_option maxHeartbeats 400000 in
theorem same_walk (w : World) (k k' u u' : Int) (s s' : ByteArray) (a a' : Option Addr) (l l' c c' : Nat) (r : Bool)
    (H : Hid (∀ w1 : World, Below w.heap.size w w1 → Calls Try.prog 34 #[.slice a l c, .slice a' l' c'] w1 fun e w' => e = .returned (.bool r) ∧ Below w1.heap.size w1 w')) :
    Calls Try.prog 15 #[.agg #[.int .i64 k, .int .i64 u, .string s, .slice a l c], .agg #[.int .i64 k', .int .i64 u', .string s', .slice a' l' c']] w fun e w' => e = .returned (.bool (k == k' && u == u' && s.toList == s'.toList && r)) ∧ Below w.heap.size w w' := by
  cases h1 : k == k'
  · go_enter Try.func15, Try.ntmps15
    go_wp2_with fail
    go_ret
    exact ⟨rfl, ((Below.refl _ _).alloc (Nat.le_refl _) _).alloc (by simp) _⟩
  cases h2 : u == u'
  · go_enter Try.func15, Try.ntmps15
    go_wp2_with fail
    go_ret
    exact ⟨rfl, ((Below.refl _ _).alloc (Nat.le_refl _) _).alloc (by simp) _⟩
  cases h3 : s.toList == s'.toList
  · go_enter Try.func15, Try.ntmps15
    go_wp2_with fail
    go_ret
    exact ⟨rfl, ((Below.refl _ _).alloc (Nat.le_refl _) _).alloc (by simp) _⟩
  go_enter Try.func15, Try.ntmps15
  go_wp2_with fail
  refine (H.out _ (((Below.refl _ _).alloc (Nat.le_refl _) _).alloc (by simp) _)).mono ?_
  rintro e w1 ⟨rfl, hb1⟩
  go_wp2_with fail
  all_goals go_ret
  all_goals exact ⟨rfl, (((Below.refl _ _).alloc (Nat.le_refl _) _).alloc (by simp) _).trans (hb1.mono (by simp; omega))⟩

theorem same_any (n : Nat) : FSame n := by
  induction n with
  | zero => intro x m y B w hx; exact hx.elim
  | succ n ih =>
    intro x m y B w hx hy hB
    cases m with
    | zero => exact hy.elim
    | succ m =>
    obtain ⟨⟨k, u, s⟩, ⟨a, pc⟩, p⟩ := x
    obtain ⟨⟨k', u', s'⟩, ⟨a', qc⟩, q⟩ := y
    obtain ⟨⟨_, _, _, hpl, hpc⟩, hp⟩ := hx
    obtain ⟨⟨_, _, _, hql, hqc⟩, hq⟩ := hy
    simp only at hpl hpc hp hql hqc hq
    unfold maxLen at hpc hqc
    refine same_walk w k k' u u' s s' a a' p.length q.length pc qc _ (fun w1 hw => sameTerms_any n m ih p q a a' pc qc B w1 ?_ ?_ (by omega) (by omega) (Nat.le_trans hB hw.size))
    · rcases hp with hp | ⟨b, o, e, hb, hp⟩
      · exact Or.inl hp
      · exact Or.inr ⟨b, o, e, hb, fun i y hy => ⟨(hp i y hy).1.below (hw.mono hB) hb, (hp i y hy).2.below (hw.mono hB)⟩⟩
    · rcases hq with hq | ⟨b, o, e, hb, hq⟩
      · exact Or.inl hq
      · exact Or.inr ⟨b, o, e, hb, fun i y hy => ⟨(hq i y hy).1.below (hw.mono hB) hb, (hq i y hy).2.below (hw.mono hB)⟩⟩
end Go.Proofs.Ytfginhifgljnmaa
namespace Go.Proofs.Ytfginhifgljnmaa
open Go.RowKit Go.Maps

/-- Ways: a box with a map, or with none; f: the rows; sl: where they lie. -/
def WyAt (base wp : Nat) (mo : Option Nat) (n N : Nat) (f : Int × Int → List (Tm N)) (sl : Int × Int → Value) (w : World) : Prop :=
  base ≤ wp ∧ w.heap[wp]? = some (.cells #[.map mo] 160 (0, 0)) ∧ ((mo = none ∧ f = (fun _ => []) ∧ sl = fun _ => nilS) ∨ ∃ mb, mo = some mb ∧ GM base mb n N f sl w)
/-- The blocks that they are made of. -/
def wyM (wp : Nat) (mo : Option Nat) (sl : Int × Int → Value) (b : Nat) : Prop := b = wp ∨ mo = some b ∨ ∃ k, I2 k ∧ (sl k).ownBlock = some b
variable {base wp n N : Nat} {mo : Option Nat} {f : Int × Int → List (Tm N)} {sl : Int × Int → Value} {w : World}
theorem WyAt.lt (h : WyAt base wp mo n N f sl w) (b : Nat) (hb : wyM wp mo sl b) : base ≤ b ∧ b < w.heap.size := by
  obtain ⟨h1, h2, h3⟩ := h
  rcases hb with rfl | hb
  · exact ⟨h1, (Array.getElem?_eq_some_iff.1 h2).1⟩
  · rcases h3 with ⟨rfl, _, rfl⟩ | ⟨mb, rfl, hg⟩
    · rcases hb with hb | ⟨k, _, hb⟩
      · cases hb
      · simp [nilS, Value.ownBlock] at hb
    · refine hg.lt b ?_
      rcases hb with hb | hb
      · exact Or.inl (Option.some.inj hb).symm
      · exact Or.inr hb
theorem gm_wy {wp mb b : Nat} {sl : Int × Int → Value} (h : gmM mb sl b) : wyM wp (some mb) sl b := by
  rcases h with rfl | h
  · exact Or.inr (Or.inl rfl)
  · exact Or.inr (Or.inr h)
theorem WyAt.kee {S : Nat → Prop} {w' : World} (h : WyAt base wp mo n N f sl w) (k : Kee S w w') (hS : ∀ b, wyM wp mo sl b → ¬ S b) : WyAt base wp mo n N f sl w' := by
  have hl := (h.lt wp (Or.inl rfl)).2
  obtain ⟨h1, h2, h3⟩ := h
  refine ⟨h1, (k.block wp hl (hS wp (Or.inl rfl))).trans h2, ?_⟩
  rcases h3 with h3 | ⟨mb, rfl, hg⟩
  · exact Or.inl h3
  · exact Or.inr ⟨mb, rfl, hg.kee k fun b hb => hS b (gm_wy hb)⟩
theorem WyAt.later {w' : World} (h : WyAt base wp mo n N f sl w) (k : Below w.heap.size w w') : WyAt base wp mo n N f sl w' := h.kee (kee_below k fun _ => False) fun _ _ hf => hf
theorem WyAt.row (h : WyAt base wp mo n N f sl w) {k : Int × Int} (hk : I2 k) : TRow base N (sl k) (f k) w := by
  rcases h.2.2 with ⟨_, rfl, rfl⟩ | ⟨mb, _, hg⟩
  · exact ⟨by simp [tCells, ndCells], Or.inl ⟨rfl, rfl⟩⟩
  · exact hg.row k hk
theorem WyAt.look (h : WyAt base wp mo n N f sl w) {k : Int × Int} (hk : I2 k) : (Instr.lookup 90 (.map mo) (pk k) false).run Try.prog w = .ok (sl k) w := by
  rcases h.2.2 with ⟨rfl, _, rfl⟩ | ⟨mb, rfl, hg⟩
  · exact look_none w hk
  · exact hg.look hk
theorem WyAt.cell (h : WyAt base wp mo n N f sl w) : w.cell? ⟨wp, 0, none⟩ = some (.map mo) ∧ ∀ j, w.frozen? ⟨wp, j, none⟩ = false := by
  have h2 := h.2.1
  exact ⟨by simp [World.cell?, h2], fun j => by simp [World.frozen?, h2]⟩
theorem TRow.sliced {v : Value} {l : List (Tm N)} (h : TRow base N v l w) : ∃ a c, v = .slice a l.length c := by
  rcases h.2 with ⟨rfl, e⟩ | ⟨g, cap, cur, rfl, _⟩
  · exact ⟨none, 0, by rw [e]⟩
  · exact ⟨_, _, rfl⟩
theorem wnew_any (N : Nat) (w : World) : Calls Try.prog 42 #[] w fun e w' => e = .returned (.pointer (some ⟨w.heap.size, 0, none⟩)) ∧ Below w.heap.size w w' ∧ w'.heap.size = w.heap.size + 1 ∧ WyAt w.heap.size w.heap.size none 0 N (fun _ => []) (fun _ => nilS) w' := by
  go_enter Try.func42, Try.ntmps42
  go_wp2_with fail
  go_ret
  exact ⟨rfl, (Below.refl _ _).alloc (Nat.le_refl _) _, by simp, Nat.le_refl _, heap_alloc_new _ _, Or.inl ⟨rfl, rfl, rfl⟩⟩
theorem wmany_any (h : WyAt base wp mo n N f sl w) {a b : Int} (hk : I2 (a, b)) : Calls Try.prog 49 #[.pointer (some ⟨wp, 0, none⟩), .int .i64 a, .int .i64 b] w fun e w' => e = .returned (.int .i64 (f (a, b)).length) ∧ w' = w := by
  have c0 := h.cell.1
  obtain ⟨sa, sc, hs⟩ := (h.row hk).sliced
  have hl := h.look hk
  rw [hs] at hl
  unfold pk at hl
  simp only at hl
  clear h
  go_enter Try.func49, Try.ntmps49
  go_wp2_with fail
  go_ret
  exact ⟨rfl, rfl⟩
theorem isp_any (a : Int) (w : World) : Calls Try.prog 90 #[.int .i64 a] w fun e w' => e = .returned (.bool (decide (1 ≤ a) && decide (a ≤ 99))) ∧ w' = w := by
  go_enter Try.func90, Try.ntmps90
  by_cases h1 : 1 ≤ a <;> by_cases h2 : a ≤ 99
  all_goals
    go_wp2_with fail
    go_ret
    simp [h1, h2]
end Go.Proofs.Ytfginhifgljnmaa
namespace Go.Proofs.Ytfginhifgljnmaa
open Go.RowKit Go.Maps

variable {base mb n N : Nat} {f : Int × Int → List (Tm N)} {sl : Int × Int → Value} {w wr : World}
/-- What was opened at a key: what is laid in there leaves a map again. -/
def Ent (base mb n N : Nat) (f : Int × Int → List (Tm N)) (sl : Int × Int → Value) (k : Int × Int) (st : Nat) (W W1 : World) : Prop :=
  ∀ (w2 : World) (v : Value) (l : List (Tm N)), w2.heap[mb]? = W1.heap[mb]? → Kee (fun b => b = mb ∨ (sl k).ownBlock = some b) W w2 → l ≠ [] → TRow base N v l w2 → (∀ b, v.ownBlock = some b → (sl k).ownBlock = some b ∨ W.heap.size ≤ b) →
    ∃ w3, (Instr.entryStore 90 (.map (some mb)) (goInt st) v).run Try.prog w2 = .ok () w3 ∧ GM base mb (n + 1) N (upd f k l) (upd sl k v) w3 ∧ Kee (fun b => b = mb) w2 w3 ∧ w3.heap.size = w2.heap.size
/-- What is left: a map with one term more, all else as it was. -/
def Grew (base mb n N : Nat) (f : Int × Int → List (Tm N)) (sl : Int × Int → Value) (k : Int × Int) (y : Tm N) (wr w6 : World) : Prop :=
  ∃ v, GM base mb (n + 1) N (upd f k (f k ++ [y])) (upd sl k v) w6 ∧ Kee (gmM mb sl) wr w6 ∧ ∀ b, gmM mb (upd sl k v) b → gmM mb sl b ∨ wr.heap.size ≤ b
theorem GM.open (h : GM base mb n N f sl wr) {k : Int × Int} (hk : I2 k) (hn : n < 1000000) {W : World} (hW : Below wr.heap.size wr W) :
    ∃ (st : Nat) (W1 : World), (Instr.mapEntry 90 (.map (some mb)) (pk k)).run Try.prog W = .ok (.tuple #[sl k, goInt st]) W1 ∧ Kee (fun b => b = mb) W W1 ∧ W1.heap.size = W.heap.size ∧ Ent base mb n N f sl k st W W1 :=
  (h.kee (kee_below hW fun _ => False) fun _ _ hf => hf).entry hk hn
theorem Ent.done (h : GM base mb n N f sl wr) {k : Int × Int} (hk : I2 k) {st L : Nat} {W W1 W2 w5 : World} (he : Ent base mb n N f sl k st W W1) (hW : Below wr.heap.size wr W) (k1 : Kee (fun b => b = mb) W W1) (hs1 : W1.heap.size = W.heap.size) (hW2 : Below W1.heap.size W1 W2)
    (hgr : W2.grownBy w5 (sl k).ownBlock) {g c : Nat} {y : Tm N} (hL : (f k).length = L) (ho : w5.ownsRow base 24 4 (.slice (some ⟨g, 0, none⟩) (L + 1) c) (L + 1) (tCells N (f k) ++ nd4 (hdT N y))) (hat : (sl k).ownBlock = some g ∨ g = W2.heap.size) :
    ∃ w6, (Instr.entryStore 90 (.map (some mb)) (goInt st) (.slice (some ⟨g, 0, none⟩) (L + 1) c)).run Try.prog w5 = .ok () w6 ∧ Grew base mb n N f sl k y wr w6 ∧ Kee (fun b => b = mb) w5 w6 ∧ w6.heap.size = w5.heap.size := by
  subst hL
  have hmb := h.lt mb (Or.inl rfl)
  have hsW := hW.size
  have hs2 := hW2.size
  have kg := kee_grown hgr
  have hv : (Value.slice (some ⟨g, 0, none⟩) ((f k).length + 1) c).ownBlock = some g := rfl
  have hloc : ∀ b, (Value.slice (some ⟨g, 0, none⟩) ((f k).length + 1) c).ownBlock = some b → (sl k).ownBlock = some b ∨ W.heap.size ≤ b := fun b hb => by
    rw [hv] at hb
    injection hb with hb
    subst hb
    rcases hat with e | e
    · exact Or.inl e
    · exact Or.inr (by omega)
  have hKW : Kee (fun b => b = mb ∨ (sl k).ownBlock = some b) W w5 := by
    refine Kee.trans (Kee.trans (k1.mono fun b _ e => Or.inl e) (kee_below hW2 fun _ => False) fun _ _ hf => hf.elim) kg fun b _ e => Or.inr e
  have hmb5 : w5.heap[mb]? = W1.heap[mb]? := (kg.block mb (by omega) (h.ne hk)).trans (hW2.block mb (by omega))
  obtain ⟨w6, hr, hG, hk6, hs6⟩ := he w5 _ (f k ++ [y]) hmb5 hKW (by simp) (by
    unfold TRow
    rw [tCells_append, List.length_append]
    have e : tCells N [y] = nd4 (hdT N y) := by simp [tCells, ndCells]
    rw [e]
    exact ho) hloc
  refine ⟨w6, hr, ⟨_, hG, ?_, fun b hb => ?_⟩, hk6, hs6⟩
  · refine Kee.trans (Kee.trans (kee_below hW _) (hKW.mono (T := fun b => b = mb ∨ (sl k).ownBlock = some b) fun b _ e => e) fun b _ e => ?_) hk6 fun b _ e => Or.inl e
    rcases e with e | e
    · exact Or.inl e
    · exact Or.inr ⟨k, hk, e⟩
  · rcases hb with hb | ⟨j, hj, hb⟩
    · exact Or.inl (Or.inl hb)
    · by_cases e : j = k
      · subst e
        rw [upd_same] at hb
        rcases hloc b hb with e | e
        · exact Or.inl (Or.inr ⟨j, hj, e⟩)
        · exact Or.inr (by omega)
      · rw [upd_other _ _ e] at hb
        exact Or.inl (Or.inr ⟨j, hj, hb⟩)
section
variable {ops : Array Oper} {o : Oper} {a : Act} {K : Act → World → Prop} {Q : Exit → Act → World → Prop} {E : Prop}
theorem step_entry {k : Int × Int} {W : World} {v : Value} {X : Nat → World → Prop} (hgd : o.guard = none) (m x : Operand) (ho : o.op = .mapEntry 90 m x) (hm : a.eval m = .map (some mb)) (hx : a.eval x = pk k)
    (hr : ∃ (st : Nat) (W1 : World), (Instr.mapEntry 90 (.map (some mb)) (pk k)).run Try.prog W = .ok (.tuple #[v, goInt st]) W1 ∧ X st W1) (hK : ∀ st W1, X st W1 → K (a.put o.dst (.tuple #[v, goInt st])) W1) : if Region.wanted o (yielded ops a.tmps) = true then Oper.wp Try.prog o a W K Q else E := by
  have hw : Region.wanted o (yielded ops a.tmps) = true := by simp [Region.wanted, hgd]
  rw [if_pos hw]
  obtain ⟨st, W1, hrun, hX⟩ := hr
  unfold Oper.wp execOp
  simp only [ho, hm, hx, Sem.run_bind, hrun, Result.andThen_ok, Sem.run_pure]
  exact hK st W1 hX
theorem step_estore {W : World} {v s : Value} {X : World → Prop} (hgd : o.guard = none) (m x y : Operand) (ho : o.op = .entryStore 90 m x y) (hm : a.eval m = .map (some mb)) (hx : a.eval x = s) (hy : a.eval y = v)
    (hr : ∃ W1 : World, (Instr.entryStore 90 (.map (some mb)) s v).run Try.prog W = .ok () W1 ∧ X W1) (hK : ∀ W1, X W1 → K (a.put o.dst undef) W1) : if Region.wanted o (yielded ops a.tmps) = true then Oper.wp Try.prog o a W K Q else E := by
  have hw : Region.wanted o (yielded ops a.tmps) = true := by simp [Region.wanted, hgd]
  rw [if_pos hw]
  obtain ⟨W1, hrun, hX⟩ := hr
  unfold Oper.wp execOp
  simp only [ho, hm, hx, hy, Sem.run_bind, hrun, Result.andThen_ok, Sem.run_pure]
  exact hK W1 hX
end
end Go.Proofs.Ytfginhifgljnmaa
