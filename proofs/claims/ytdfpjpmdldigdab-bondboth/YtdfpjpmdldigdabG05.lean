/- What is proved here: plain facts and contracts that the claimed theorem stands on, several texts in one: plain facts on terms that a call builds: which blocks they lie in (Off), that they stay where those blocks stay, and that a row of terms that is owned holds its terms. No condition. plain facts on a map from pairs of numbers to rows of terms: how it lies in memory, what is looked up in it, what a store and a delete leave, and how many pairs it has. No condition. plain facts on pairs of numbers from 1 to 99: who is with whom, who is told when one ends, and in which order, by two roads: one takes pairs away as it goes, the other does not. No condition. plain facts on pairs that are kept in the order in which they were asked for, held against pairs that are kept with the lower number first. No condition. the first of a row of terms is taken out by slices.Delete. No condition but that the row lies in memory. -/
import Derived.Test.YtdfpjpmdldigdabG04
import Derived.Maps.RangeWalk
import Derived.WideKeyPair
import Derived.WideKeyEntry
import Derived.Deep.AppendLies
import Derived.Deep.RegionHeld3
namespace Go.Proofs.Ytdfpjpmdldigdab
open Go.RowKit

/-- Every block that a term leads to is one of these. -/
def Off (P : Nat → Prop) : (n : Nat) → Tm n → Prop
  | 0, _ => False
  | n + 1, x => x.2.2 = [] ∨ ∃ b o, x.2.1.1 = some ⟨b, o, none⟩ ∧ P b ∧ ∀ (i : Nat) (y : Tm n), x.2.2[i]? = some y → Off P n y

theorem Off.mono {P Q : Nat → Prop} (h : ∀ b, P b → Q b) : {n : Nat} → {x : Tm n} → Off P n x → Off Q n x
  | 0, _, k => k
  | _ + 1, _, k => by
    rcases k with k | ⟨b, o, e, hb, k⟩
    · exact Or.inl k
    · exact Or.inr ⟨b, o, e, h b hb, fun i y hy => (k i y hy).mono h⟩

theorem block_cell {w w' : World} {b : Nat} (h : w'.heap[b]? = w.heap[b]?) (o : Nat) : w'.cell? ⟨b, o, none⟩ = w.cell? ⟨b, o, none⟩ := by
  simp [World.cell?, h]
theorem Held.block {w w' : World} {b o : Nat} (h : w'.heap[b]? = w.heap[b]?) : {n : Nat} → {x : Tm n} → Held w b o n x → Held w' b o n x
  | 0, _, k => k
  | _ + 1, _, k => by
    obtain ⟨k0, k1, k2, k3⟩ := k
    exact ⟨(block_cell h _).trans k0, (block_cell h _).trans k1, (block_cell h _).trans k2, (block_cell h _).trans k3⟩
theorem In.off {P : Nat → Prop} {w w' : World} (h : ∀ b, P b → w'.heap[b]? = w.heap[b]?) {B : Nat} : {n : Nat} → {x : Tm n} → Off P n x → In B w n x → In B w' n x
  | 0, _, _, k => k
  | _ + 1, _, p, k => by
    obtain ⟨k0, k1⟩ := k
    refine ⟨k0, ?_⟩
    rcases k1 with k1 | ⟨b, o, e, hb, k1⟩
    · exact Or.inl k1
    · rcases p with p | ⟨b', o', e', hb', p⟩
      · exact Or.inl p
      · rw [e] at e'
        injection e' with e'
        injection e' with e1 e2
        subst e1 e2
        exact Or.inr ⟨b, o, e, hb, fun i y hy => ⟨(k1 i y hy).1.block (h b hb'), (k1 i y hy).2.off h (p i y hy)⟩⟩
theorem In.offB {P : Nat → Prop} {B : Nat} {w : World} : {n : Nat} → {x : Tm n} → Off P n x → In B w n x → Off (fun b => P b ∧ b < B) n x
  | 0, _, p, _ => p
  | _ + 1, _, p, k => by
    obtain ⟨_, k1⟩ := k
    rcases p with p | ⟨b, o, e, hb, p⟩
    · exact Or.inl p
    · rcases k1 with k1 | ⟨b', o', e', hb', k1⟩
      · exact Or.inl k1
      · rw [e] at e'
        injection e' with e'
        injection e' with e1 e2
        subst e1 e2
        exact Or.inr ⟨b, o, e, ⟨hb, hb'⟩, fun i y hy => In.offB (p i y hy) (k1 i y hy).2⟩

/-- A term's own four cells. -/
def hdT : (n : Nat) → Tm n → Nd
  | 0, _ => ((0, 0, ⟨#[]⟩), (none, 0, 0))
  | n + 1, x => hdOf n x
theorem hd_held {w : World} {base g c L : Nat} {n : Nat} {l : List (Tm (n + 1))} (h : w.ownsRow base 24 4 (.slice (some ⟨g, 0, none⟩) L c) L (ndCells (l.map (hdT (n + 1))))) (k : Nat) (x : Tm (n + 1)) (hx : l[k]? = some x) :
    Held w g (0 + k * 4) (n + 1) x := by
  have h1 := own_nd h k (hdT (n + 1) x) (by simp [hx])
  rw [Nat.zero_add]
  exact h1

/-- What a tuple's reading has so far: terms l, in a row of blocks from base on; no term lies in the row's own block. -/
def RowOf (base : Nat) (n : Nat) (l : List (Tm n)) (v : Value) (w : World) : Prop :=
  w.ownsRow base 24 4 v l.length (ndCells (l.map (hdT n))) ∧ ∀ y ∈ l, In w.heap.size w n y ∧ Off (fun b => base ≤ b ∧ v.ownBlock ≠ some b) n y

/-- The row is a tuple. -/
theorem RowOf.tup {base n : Nat} {l : List (Tm (n + 1))} {v : Value} {w : World} (h : RowOf base (n + 1) l v w) : ∃ a c, v = .slice a l.length c ∧ Off (fun b => base ≤ b) (n + 2) ((4, 0, ⟨#[]⟩), (a, c), l) ∧ In w.heap.size w (n + 2) ((4, 0, ⟨#[]⟩), (a, c), l) := by
  obtain ⟨h1, h2⟩ := h
  have hI : I64 4 ∧ I64 0 ∧ (⟨#[]⟩ : ByteArray).size ≤ maxLen := ⟨⟨by omega, by omega⟩, ⟨by omega, by omega⟩, Nat.zero_le _⟩
  have h3 := h1
  obtain ⟨h3a, h3⟩ := h3
  rcases h3 with ⟨h3, h4⟩ | ⟨g, cap, cur, rfl, hg, hh, hc, hm, hz, he⟩
  · have : l = [] := List.eq_nil_of_length_eq_zero h4
    subst this
    refine ⟨none, 0, by rw [h3]; rfl, Or.inl rfl, ⟨hI.1, hI.2.1, hI.2.2, Nat.zero_le _, Nat.zero_le _⟩, Or.inl rfl⟩
  · have hlt : g < w.heap.size := (Array.getElem?_eq_some_iff.1 hh).1
    refine ⟨some ⟨g, 0, none⟩, cap, rfl, Or.inr ⟨g, 0, rfl, hg, fun i y hy => ((h2 y (List.mem_of_getElem? hy)).2).mono fun b hb => hb.1⟩, ⟨hI.1, hI.2.1, hI.2.2, hc, hm⟩, Or.inr ⟨g, 0, rfl, hlt, fun i y hy => ⟨hd_held h1 i y hy, (h2 y (List.mem_of_getElem? hy)).1⟩⟩⟩
end Go.Proofs.Ytdfpjpmdldigdab
namespace Go.Proofs.Ytdfpjpmdldigdab
open Go.RowKit Go.Maps

/-- All but the blocks of which S holds are as they were; new ones may be there. -/
structure Kee (S : Nat → Prop) (w w' : World) : Prop where
  os : w'.os = w.os
  tape : w'.tape = w.tape
  output : w'.output = w.output
  size : w.heap.size ≤ w'.heap.size
  block : ∀ b, b < w.heap.size → ¬ S b → w'.heap[b]? = w.heap[b]?
theorem Kee.refl (S : Nat → Prop) (w : World) : Kee S w w := ⟨rfl, rfl, rfl, Nat.le_refl _, fun _ _ _ => rfl⟩
theorem Kee.trans {S T : Nat → Prop} {w w1 w2 : World} (h : Kee S w w1) (k : Kee T w1 w2) (hT : ∀ b, b < w.heap.size → T b → S b) : Kee S w w2 :=
  ⟨k.os.trans h.os, k.tape.trans h.tape, k.output.trans h.output, Nat.le_trans h.size k.size, fun b hb hs => (k.block b (Nat.lt_of_lt_of_le hb h.size) (fun ht => hs (hT b hb ht))).trans (h.block b hb hs)⟩
theorem Kee.mono {S T : Nat → Prop} {w w1 : World} (h : Kee S w w1) (hT : ∀ b, b < w.heap.size → S b → T b) : Kee T w w1 := ⟨h.os, h.tape, h.output, h.size, fun b hb hs => h.block b hb fun k => hs (hT b hb k)⟩
theorem kee_below {w w' : World} (h : Below w.heap.size w w') (S : Nat → Prop) : Kee S w w' := ⟨h.os, h.tape, h.output, h.size, fun b hb _ => h.block b hb⟩
theorem kee_grown {w w' : World} {row : Option Nat} (h : w.grownBy w' row) : Kee (fun b => row = some b) w w' := ⟨h.os, h.tape, h.output, h.size, fun b hb hs => h.block b hb fun e => hs e.symm⟩
theorem kee_set (w : World) (q o : Nat) (v : Value) : Kee (fun b => b = q) w (w.setCell ⟨q, o, none⟩ v) :=
  ⟨rfl, rfl, rfl, by simp [World.setCell], fun b _ hne => by
    have : q ≠ b := fun e => hne e.symm
    simp [World.setCell, Array.getElem?_modify, this]⟩
theorem Kee.below {S : Nat → Prop} {w w' : World} {B : Nat} (h : Kee S w w') (hB : B ≤ w.heap.size) (hS : ∀ b, b < B → ¬ S b) : Below B w w' := ⟨h.os, h.tape, h.output, h.size, fun b hb => h.block b (by omega) (hS b hb)⟩
theorem Kee.cell {S : Nat → Prop} {w w' : World} (h : Kee S w w') {b : Nat} (o : Nat) (hb : b < w.heap.size) (hS : ¬ S b) : w'.cell? ⟨b, o, none⟩ = w.cell? ⟨b, o, none⟩ := by
  simp only [World.cell?, h.block b hb hS]
theorem row_kee {base : Nat} {e : TypeId} {sz : Nat} {v : Value} {n : Nat} {xs : List Value} {w w' : World} {S : Nat → Prop} (h : w.ownsRow base e sz v n xs) (k : Kee S w w') (h1 : ∀ b, v.ownBlock = some b → ¬ S b) : w'.ownsRow base e sz v n xs := by
  refine ⟨h.1, ?_⟩
  rcases h.2 with ⟨e, e0⟩ | ⟨g, cap, cur, e, hg, hh, hr⟩
  · exact Or.inl ⟨e, e0⟩
  · exact Or.inr ⟨g, cap, cur, e, hg, (k.block g (Array.getElem?_eq_some_iff.1 hh).1 (h1 g (by rw [e]; rfl))).trans hh, hr⟩
theorem Held.kee {S : Nat → Prop} {w w' : World} (h : Kee S w w') {b o : Nat} (hb : b < w.heap.size) (hS : ¬ S b) : {n : Nat} → {x : Tm n} → Held w b o n x → Held w' b o n x
  | 0, _, k => k
  | _ + 1, _, k => by
    obtain ⟨k0, k1, k2, k3⟩ := k
    exact ⟨(h.cell _ hb hS).trans k0, (h.cell _ hb hS).trans k1, (h.cell _ hb hS).trans k2, (h.cell _ hb hS).trans k3⟩
/-- A term that lies in blocks that stay, stays. -/
theorem In.kee {S : Nat → Prop} {w w' : World} (h : Kee S w w') : {n : Nat} → {x : Tm n} → In w.heap.size w n x → Off (fun b => ¬ S b) n x → In w'.heap.size w' n x
  | 0, _, k, _ => k
  | _ + 1, x, k, o => by
    obtain ⟨k0, k1⟩ := k
    refine ⟨k0, ?_⟩
    rcases k1 with k1 | ⟨b, f, e, hb, k1⟩
    · exact Or.inl k1
    · rcases o with o | ⟨b', f', e', hb', o⟩
      · exact Or.inl o
      · rw [e] at e'
        injection e' with e'
        injection e' with e1 e2
        subst e1 e2
        exact Or.inr ⟨b, f, e, Nat.lt_of_lt_of_le hb h.size, fun i y hy => ⟨(k1 i y hy).1.kee h hb hb', (k1 i y hy).2.kee h (o i y hy)⟩⟩

/-! ### the keys -/
theorem pairKey : WideMaps.ArrKey Try.prog 97 3 2 := ⟨Try.underlying97, by kernel_rfl, by kernel_rfl, by kernel_rfl⟩
theorem pairLaw : Keyed Try.prog 97 := Keyed.of_law pairKey.law
theorem types_some : ∃ m, Try.prog.types.size = m + 1 := by
  have h : (Try.prog.types.size == 0) = false := by kernel_rfl
  have h' : Try.prog.types.size ≠ 0 := beq_eq_false_iff_ne.1 h
  exact ⟨Try.prog.types.size - 1, by omega⟩
/-- A pair of numbers, as a value and as what is read of it. -/
def pk (k : Int × Int) : Value := .agg #[.int .i64 k.1, .int .i64 k.2]
def kl (k : Int × Int) : Lit := .string (keyBytes [.int .i64 k.1, .int .i64 k.2])
def I2 (k : Int × Int) : Prop := I64 k.1 ∧ I64 k.2
theorem wf_of {a : Int} (h : I64 a) : (Lit.int .i64 a).wf = true := WalkArith.wf_i64 (by unfold I64 at h; omega)
theorem of_wf {a : Int} (h : (Lit.int .i64 a).wf = true) : I64 a := by
  have : -9223372036854775808 ≤ a ∧ a ≤ 9223372036854775807 := by simpa [Lit.wf, IntKind.min, IntKind.max, IntKind.signed, IntKind.bits] using h
  exact this
theorem pk_key {k : Int × Int} (h : I2 k) : keyOf Try.prog 97 (pk k) = some (kl k) := WideMaps.keyOf_pair pairKey Try.underlying3 types_some (wf_of h.1) (wf_of h.2)
theorem kl_inj {k k' : Int × Int} (h : I2 k) (h' : I2 k') (e : kl k = kl k') : k = k' := by
  have h1 := pairLaw.inj (pk_key h) (e ▸ pk_key h')
  simp only [pk, Value.agg.injEq, Array.mk.injEq, List.cons.injEq, Value.int.injEq, true_and, and_true] at h1
  exact Prod.ext h1.1 h1.2
set_option maxRecDepth 100000 in
theorem key_pk {v : Value} {x : Lit} (h : keyOf Try.prog 97 v = some x) : ∃ k, I2 k ∧ v = pk k ∧ x = kl k := by
  have h0 := h
  unfold keyOf at h
  simp only [Try.underlying97] at h
  split at h
  · rename_i hf
    simp only [Bool.and_eq_true] at hf
    have hf2 := hf.2
    unfold Value.formed at hf2
    cases v <;> simp [Try.underlying97] at hf2
    rename_i cs
    rw [pairKey.size] at hf2
    obtain ⟨l⟩ := cs
    match l, hf2 with
    | [c0, c1], _ =>
      simp only [Option.map_eq_some_iff] at h
      obtain ⟨ls, hl, _⟩ := h
      obtain ⟨m, hm⟩ := types_some
      rw [hm] at hl
      unfold Program.keyLits at hl
      simp only [Try.underlying97, Value.cells] at hl
      rw [if_pos (by rw [pairKey.size]; rfl), show List.range 2 = [0, 1] from rfl, List.mapM_cons, List.mapM_cons, List.mapM_nil] at hl
      simp only [Option.map_eq_some_iff, bind, Option.bind_eq_some_iff, pure, pairKey.one] at hl
      obtain ⟨_, ⟨y0, g0, _, ⟨y1, g1, _⟩, _⟩, _⟩ := hl
      simp only [Nat.zero_mul, List.drop_zero, List.take_succ_cons, List.take_zero, Nat.one_mul, List.drop_succ_cons] at g0 g1
      have inv : ∀ c y, Program.keyLits Try.prog (m + 1) 3 [c] = some y → ∃ a, c = .int .i64 a ∧ I64 a := by
        intro c y hc
        unfold Program.keyLits at hc
        cases c <;> simp [Try.underlying3] at hc
        obtain ⟨⟨rfl, hw⟩, _⟩ := hc
        exact ⟨_, rfl, of_wf hw⟩
      obtain ⟨a, rfl, ha⟩ := inv _ _ g0
      obtain ⟨b, rfl, hb⟩ := inv _ _ g1
      refine ⟨(a, b), ⟨ha, hb⟩, rfl, ?_⟩
      have := pk_key (k := (a, b)) ⟨ha, hb⟩
      exact Option.some.inj (h0.symm.trans this)
  · cases h

/-! ### the map -/
/-- An element as it is. -/
def rawE (v : Value) : Option (DataW Value × List MemPlace) := some (.held v, [])
def upd {α : Type} (f : Int × Int → α) (k : Int × Int) (x : α) : Int × Int → α := fun j => if j = k then x else f j
theorem upd_same {α : Type} (f : Int × Int → α) (k : Int × Int) (x : α) : upd f k x k = x := if_pos rfl
theorem upd_other {α : Type} (f : Int × Int → α) {k j : Int × Int} (x : α) (h : j ≠ k) : upd f k x j = f j := if_neg h
def nilS : Value := .slice none 0 0
def tCells (N : Nat) (l : List (Tm N)) : List Value := ndCells (l.map (hdT N))
theorem tCells_length (N : Nat) (l : List (Tm N)) : (tCells N l).length = l.length * 4 := by simp [tCells, ndCells_length]
theorem tCells_append (N : Nat) (l r : List (Tm N)) : tCells N (l ++ r) = tCells N l ++ tCells N r := by simp [tCells, ndCells_append]
/-- A row of terms. -/
def TRow (base N : Nat) (v : Value) (l : List (Tm N)) (w : World) : Prop := w.ownsRow base 24 4 v l.length (tCells N l)
/-- Block mb is a map from pairs to rows of terms; no two rows lie in one block; f: the rows; sl: where they lie. -/
structure GM (base mb n N : Nat) (f : Int × Int → List (Tm N)) (sl : Int × Int → Value) (w : World) : Prop where
  lo : base ≤ mb
  map : ∃ D, w.ownsMap Try.prog 97 rawE mb n D ∧ (∀ k, I2 k → D.atKey (kl k) (.held nilS) = .held (sl k)) ∧ ∀ x, has D x = true ↔ ∃ k, I2 k ∧ x = kl k ∧ f k ≠ []
  row : ∀ k, I2 k → TRow base N (sl k) (f k) w
  apart : ∀ k j, I2 k → I2 j → k ≠ j → ∀ b, (sl k).ownBlock = some b → (sl j).ownBlock ≠ some b
/-- The blocks that it is made of. -/
def gmM (mb : Nat) (sl : Int × Int → Value) (b : Nat) : Prop := b = mb ∨ ∃ k, I2 k ∧ (sl k).ownBlock = some b
theorem own_cells {w : World} {base : Nat} {e : TypeId} {sz : Nat} {v : Value} {n : Nat} {xs : List Value} (h : w.ownsRow base e sz v n xs) (b : Nat) (hb : v.ownBlock = some b) : ∃ cur, w.heap[b]? = some (.cells cur e (0, 0)) := by
  rcases h.2 with ⟨rfl, _⟩ | ⟨g, cap, cur, rfl, _, hh, _⟩
  · simp [Value.ownBlock] at hb
  · simp [Value.ownBlock] at hb
    subst hb
    exact ⟨cur, hh⟩
variable {base mb n N : Nat} {f : Int × Int → List (Tm N)} {sl : Int × Int → Value} {w : World}
theorem GM.lt (h : GM base mb n N f sl w) (b : Nat) (hb : gmM mb sl b) : base ≤ b ∧ b < w.heap.size := by
  rcases hb with rfl | ⟨k, hk, hb⟩
  · obtain ⟨D, h1, _⟩ := h.map
    exact ⟨h.lo, h1.lt⟩
  · exact (h.row k hk).lt b hb
theorem GM.ne (h : GM base mb n N f sl w) {k : Int × Int} (hk : I2 k) : (sl k).ownBlock ≠ some mb := by
  intro e
  obtain ⟨c, hc⟩ := own_cells (h.row k hk) mb e
  obtain ⟨D, ⟨es, clock, hb, _⟩, _⟩ := h.map
  rw [hb] at hc
  cases hc
theorem GM.kee {S : Nat → Prop} {w' : World} (h : GM base mb n N f sl w) (k : Kee S w w') (hS : ∀ b, gmM mb sl b → ¬ S b) : GM base mb n N f sl w' := by
  refine ⟨h.lo, ?_, fun j hj => row_kee (h.row j hj) k fun b hb => hS b (Or.inr ⟨j, hj, hb⟩), h.apart⟩
  obtain ⟨D, h1, h2⟩ := h.map
  refine ⟨D, ?_, h2⟩
  have hlt := h1.lt
  obtain ⟨es, clock, hb, hr⟩ := h1
  exact ⟨es, clock, (k.block mb hlt (hS mb (Or.inl rfl))).trans hb, hr⟩
theorem GM.mono (h : GM base mb n N f sl w) {m : Nat} (hm : n ≤ m) : GM base mb m N f sl w := by
  obtain ⟨h1, ⟨D, h2, h3⟩, h4, h5⟩ := h
  exact ⟨h1, ⟨D, h2.mono hm, h3⟩, h4, h5⟩
theorem GM.new (w : World) (N : Nat) : GM w.heap.size w.heap.size 0 N (fun _ => []) (fun _ => nilS) (w.alloc (.map #[] 0)) :=
  ⟨Nat.le_refl _, ⟨.map [], World.ownsMap_made w _ _ _, fun k _ => by simp [DataW.atKey], fun x => ⟨fun h => by simp [has] at h, fun ⟨k, _, _, h⟩ => absurd rfl h⟩⟩,
    fun k _ => ⟨by simp [tCells, ndCells], Or.inl ⟨rfl, rfl⟩⟩, fun k j _ _ _ b hb => by simp [nilS, Value.ownBlock] at hb⟩
theorem TRow.rebase {base' : Nat} {v : Value} {l : List (Tm N)} (h : TRow base N v l w) (hb : base' ≤ base) : TRow base' N v l w := own_base h hb
theorem GM.rebase {base' : Nat} (h : GM base mb n N f sl w) (hb : base' ≤ base) : GM base' mb n N f sl w :=
  ⟨Nat.le_trans hb h.lo, h.map, fun k hk => (h.row k hk).rebase hb, h.apart⟩
theorem rawE_inv {v : Value} {d : DataW Value} {ps : List MemPlace} (h : rawE v = some (d, ps)) : d = .held v := by
  unfold rawE at h
  injection h with h
  injection h with h1 h2
  exact h1.symm
set_option maxRecDepth 100000 in
theorem zeroRow (w : World) : (zeroValue 22).run Try.prog w = .ok (.slice none 0 0) w := by kernel_rfl
set_option maxRecDepth 100000 in
theorem GM.look (h : GM base mb n N f sl w) {k : Int × Int} (hk : I2 k) : (Instr.lookup 94 (.map (some mb)) (pk k) false).run Try.prog w = .ok (sl k) w := by
  obtain ⟨D, h1, h2, _⟩ := h.map
  obtain ⟨v, ps, hrun, hv⟩ := h1.lookup pairLaw Try.underlying94 (zeroRow w) (zd := .held nilS) (zp := []) rfl (pk_key hk)
  rw [h2 k hk] at hv
  have e := rawE_inv hv
  injection e with e
  rw [hrun, e]
set_option maxRecDepth 100000 in
theorem look_none (w : World) {k : Int × Int} (hk : I2 k) : (Instr.lookup 94 (.map none) (pk k) false).run Try.prog w = .ok (.slice none 0 0) w := by
  have h := look_nil (P := Try.prog) (w := w) false pairLaw Try.underlying94 (zeroRow w) (pk_key hk)
  simpa using h
theorem atKey_put {D : DataW Value} (hm : IsMap D) {k j : Int × Int} (hk : I2 k) (hj : I2 j) (v : Value) (z : DataW Value) : (D.put (kl k) (.held v)).atKey (kl j) z = if j = k then .held v else D.atKey (kl j) z := by
  by_cases e : j = k
  · subst e
    rw [if_pos rfl, atKey_put_same hm (pairLaw.key (pk_key hj))]
  · rw [if_neg e, atKey_put_other fun e' => e (kl_inj hj hk e')]
/-- What is left where a row was laid in at its key. -/
theorem GM.put_of (h : GM base mb n N f sl w) {k : Int × Int} (hk : I2 k) {w1 w2 : World} (hK : Kee (fun b => b = mb ∨ (sl k).ownBlock = some b) w w1) {v : Value} {l : List (Tm N)} (hl : l ≠ []) (ho : TRow base N v l w1)
    (hloc : ∀ b, v.ownBlock = some b → (sl k).ownBlock = some b ∨ w.heap.size ≤ b) (hkk : Kee (fun b => b = mb) w1 w2)
    (hown : ∀ D, w.ownsMap Try.prog 97 rawE mb n D → w2.ownsMap Try.prog 97 rawE mb (n + 1) (D.put (kl k) (.held v))) : GM base mb (n + 1) N (upd f k l) (upd sl k v) w2 := by
  obtain ⟨D, h1, h2, h3⟩ := h.map
  have hlt := h1.lt
  have hmb : ∀ b, v.ownBlock = some b → b ≠ mb := fun b hb e => by
    subst e
    rcases hloc b hb with e | e
    · exact h.ne hk e
    · omega
  have hneq : ∀ j, I2 j → j ≠ k → ∀ b, (sl j).ownBlock = some b → v.ownBlock ≠ some b := fun j hj hjk b hb hv => by
    rcases hloc b hv with e | e
    · exact h.apart j k hj hk hjk b hb e
    · have := ((h.row j hj).lt b hb).2
      omega
  refine ⟨h.lo, ⟨_, hown D h1, fun j hj => ?_, fun x => ?_⟩, fun j hj => ?_, fun i j hi hj hij b => ?_⟩
  · rw [atKey_put h1.isMap hk hj]
    unfold upd
    split
    · rfl
    · exact h2 j hj
  · constructor
    · intro hx
      by_cases e : x = kl k
      · exact ⟨k, hk, e, by rw [upd_same]; exact hl⟩
      · rw [has_put_other e] at hx
        obtain ⟨j, hj, ej, hf⟩ := (h3 x).1 hx
        refine ⟨j, hj, ej, ?_⟩
        rw [upd_other _ _ fun e' => e (by rw [ej, e'])]
        exact hf
    · rintro ⟨j, hj, rfl, hf⟩
      by_cases e : j = k
      · rw [e, has_put_same h1.isMap (pairLaw.key (pk_key hk))]
      · rw [has_put_other fun e' => e (kl_inj hj hk e')]
        rw [upd_other _ _ e] at hf
        exact (h3 _).2 ⟨j, hj, rfl, hf⟩
  · by_cases e : j = k
    · subst e
      rw [upd_same, upd_same]
      exact row_kee ho hkk fun b hb e => hmb b hb e
    · rw [upd_other _ _ e, upd_other _ _ e]
      refine row_kee (row_kee (h.row j hj) hK fun b hb e' => ?_) hkk fun b hb e' => h.ne hj (by rw [hb, e'])
      rcases e' with e' | e'
      · exact h.ne hj (by rw [hb, e'])
      · exact h.apart j k hj hk e b hb e'
  · by_cases e1 : i = k
    · subst e1
      rw [upd_same, upd_other _ _ fun e => hij e.symm]
      exact fun hb hb' => hneq j hj (fun e => hij e.symm) b hb' hb
    · rw [upd_other _ _ e1]
      by_cases e2 : j = k
      · subst e2
        rw [upd_same]
        exact fun hb => hneq i hi hij b hb
      · rw [upd_other _ _ e2]
        exact h.apart i j hi hj hij b
theorem turned_kee {w2 : World} (ht : w.mapTurned w2 mb) : Kee (fun b => b = mb) w w2 ∧ w2.heap.size = w.heap.size := by
  refine ⟨(kee_grown ht.grown).mono fun b _ e => (Option.some.inj e).symm, ?_⟩
  obtain ⟨_, _, _, _, _, rfl⟩ := ht
  simp [ChangeMaps.setBlock]
/-- A row is laid in, at its key. -/
theorem GM.store (h : GM base mb n N f sl w) {k : Int × Int} (hk : I2 k) {w1 : World} (hK : Kee (fun b => (sl k).ownBlock = some b) w w1) {v : Value} {l : List (Tm N)} (hl : l ≠ []) (ho : TRow base N v l w1)
    (hloc : ∀ b, v.ownBlock = some b → (sl k).ownBlock = some b ∨ w.heap.size ≤ b) (hn : n < 1000000) :
    ∃ w2, (Instr.mapUpdate 94 (.map (some mb)) (pk k) v).run Try.prog w1 = .ok () w2 ∧ GM base mb (n + 1) N (upd f k l) (upd sl k v) w2 ∧ Kee (fun b => b = mb) w1 w2 ∧ w2.heap.size = w1.heap.size := by
  have hstep : ∀ D, w.ownsMap Try.prog 97 rawE mb n D → ∃ w2, (Instr.mapUpdate 94 (.map (some mb)) (pk k) v).run Try.prog w1 = .ok () w2 ∧ w2.ownsMap Try.prog 97 rawE mb (n + 1) (D.put (kl k) (.held v)) ∧ w1.mapTurned w2 mb := by
    intro D h1
    have hlt := h1.lt
    have h1' : w1.ownsMap Try.prog 97 rawE mb n D := by
      obtain ⟨es, clock, hb, hr⟩ := h1
      exact ⟨es, clock, (hK.block mb hlt (h.ne hk)).trans hb, hr⟩
    exact h1'.store (d := .held v) (ps := []) pairLaw Try.underlying94 (by unfold maxLen; omega) (pk_key hk) rfl
  obtain ⟨D, h1, _⟩ := h.map
  obtain ⟨w2, hrun, _, ht⟩ := hstep D h1
  obtain ⟨hkk, hsz⟩ := turned_kee ht
  refine ⟨w2, hrun, h.put_of hk (hK.mono fun b _ e => Or.inr e) hl ho hloc hkk (fun D' h' => ?_), hkk, hsz⟩
  obtain ⟨w3, hrun3, hown, _⟩ := hstep D' h'
  rw [hrun] at hrun3
  injection hrun3 with _ e
  rw [e]
  exact hown
set_option maxRecDepth 100000 in
/-- The entry at a key is opened, what is at it is appended to, and it is laid in. -/
theorem GM.entry (h : GM base mb n N f sl w) {k : Int × Int} (hk : I2 k) (hn : n < 1000000) : ∃ (st : Nat) (w1 : World), (Instr.mapEntry 94 (.map (some mb)) (pk k)).run Try.prog w = .ok (.tuple #[sl k, goInt st]) w1 ∧ Kee (fun b => b = mb) w w1 ∧ w1.heap.size = w.heap.size ∧
    ∀ (w2 : World) (v : Value) (l : List (Tm N)), w2.heap[mb]? = w1.heap[mb]? → Kee (fun b => b = mb ∨ (sl k).ownBlock = some b) w w2 → l ≠ [] → TRow base N v l w2 → (∀ b, v.ownBlock = some b → (sl k).ownBlock = some b ∨ w.heap.size ≤ b) →
      ∃ w3, (Instr.entryStore 94 (.map (some mb)) (goInt st) v).run Try.prog w2 = .ok () w3 ∧ GM base mb (n + 1) N (upd f k l) (upd sl k v) w3 ∧ Kee (fun b => b = mb) w2 w3 ∧ w3.heap.size = w2.heap.size := by
  obtain ⟨D, h1, h2, _⟩ := h.map
  obtain ⟨es, clock, hb, F, hs, hD⟩ := h1
  have h1 : w.ownsMap Try.prog 97 rawE mb n D := ⟨es, clock, hb, F, hs, hD⟩
  obtain ⟨v0, st, es1, c1, hrun, hv0, hst⟩ := WideElems.entry_then_store (e := 22) pairKey.law Try.underlying94 zeroRow hb F (pk_key hk)
  have e0 : v0 = sl k := by
    have hlook := h.look hk
    obtain ⟨v1, ps, hrun1, hv1⟩ := h1.lookup pairLaw Try.underlying94 (zeroRow w) (zd := .held nilS) (zp := []) rfl (pk_key hk)
    rw [hlook] at hrun1
    rcases Maps.fit_look false pairLaw Try.underlying94 (zeroRow w) hb F (pk_key hk) with ⟨hr, hno, _⟩ | ⟨e1, y, hm1, hk1, hr, _⟩
    · rw [hlook] at hr
      injection hr with hr _
      rcases hv0 with ⟨e2, hm2, hk2, _⟩ | ⟨_, rfl⟩
      · exact absurd hk2 (hno e2 hm2)
      · exact hr.symm
    · rw [hlook] at hr
      injection hr with hr _
      rcases hv0 with ⟨e2, hm2, hk2, rfl⟩ | ⟨hno, _⟩
      · have := entry_eq_of_key ((MapKept.stamped_iff es clock).1 F.stamped).2.2 hm1 hm2 (hk1.trans hk2.symm)
        simp at hr
        rw [hr, this]
      · exact absurd hk1 (hno e1 hm1)
  subst e0
  have ht : w.mapTurned (ChangeMaps.setBlock w mb (.map es1 c1)) mb := ⟨es, clock, es1, c1, hb, rfl⟩
  obtain ⟨hk1, hz1⟩ := turned_kee ht
  refine ⟨st, _, hrun, hk1, hz1, fun w2 v l hw2 hK hl ho hloc => ?_⟩
  have hb2 : w2.heap[mb]? = some (.map es1 c1) := hw2.trans (ChangeMaps.heap_setBlock_same hb _)
  obtain ⟨es', c', hr1, hr2⟩ := hst w2 v hb2
  have ht2 : w2.mapTurned (ChangeMaps.setBlock w2 mb (.map es' c')) mb := ⟨es1, c1, es', c', hb2, rfl⟩
  obtain ⟨hk2, hz2⟩ := turned_kee ht2
  refine ⟨_, hr1, h.put_of hk hK hl ho hloc hk2 (fun D' h' => ?_), hk2, hz2⟩
  obtain ⟨w3, hrun3, hown, _⟩ := h'.store (d := .held v) (ps := []) pairLaw Try.underlying94 (by unfold maxLen; omega) (pk_key hk) rfl
  rw [hr2] at hrun3
  injection hrun3 with _ e
  rw [← e] at hown
  obtain ⟨es3, c3, hb3, hr3⟩ := hown
  rw [ChangeMaps.heap_setBlock_same hb] at hb3
  exact ⟨es3, c3, (ChangeMaps.heap_setBlock_same hb2 _).trans hb3, hr3⟩
/-- A row is taken out. -/
theorem GM.drop (h : GM base mb n N f sl w) {k : Int × Int} (hk : I2 k) (ty : TypeId) :
    ∃ w2, (Builtin.delete_ #[94, 97] ty #[.map (some mb), pk k]).run Try.prog w = .ok (.tuple #[]) w2 ∧ GM base mb n N (upd f k []) (upd sl k nilS) w2 ∧ Kee (fun b => b = mb) w w2 ∧ w2.heap.size = w.heap.size := by
  obtain ⟨D, h1, h2, h3⟩ := h.map
  obtain ⟨w2, hrun, hown, ht⟩ := h1.drop pairLaw Try.underlying94 (pk_key hk) ty
  obtain ⟨hkk, hsz⟩ := turned_kee ht
  refine ⟨w2, hrun, ⟨h.lo, ⟨_, hown, fun j hj => ?_, fun x => ?_⟩, fun j hj => ?_, fun i j hi hj hij b => ?_⟩, hkk, hsz⟩
  · by_cases e : j = k
    · subst e
      rw [upd_same, atKey_del_same]
    · rw [upd_other _ _ e, atKey_del_other fun e' => e (kl_inj hj hk e')]
      exact h2 j hj
  · constructor
    · intro hx
      by_cases e : x = kl k
      · rw [e, has_del_same] at hx
        cases hx
      · rw [has_del_other e] at hx
        obtain ⟨j, hj, ej, hf⟩ := (h3 x).1 hx
        refine ⟨j, hj, ej, ?_⟩
        rw [upd_other _ _ fun e' => e (by rw [ej, e'])]
        exact hf
    · rintro ⟨j, hj, rfl, hf⟩
      by_cases e : j = k
      · rw [e, upd_same] at hf
        exact absurd rfl hf
      · rw [has_del_other fun e' => e (kl_inj hj hk e')]
        rw [upd_other _ _ e] at hf
        exact (h3 _).2 ⟨j, hj, rfl, hf⟩
  · by_cases e : j = k
    · subst e
      rw [upd_same, upd_same]
      exact ⟨by simp [tCells, ndCells], Or.inl ⟨rfl, rfl⟩⟩
    · rw [upd_other _ _ e, upd_other _ _ e]
      exact row_kee (h.row j hj) hkk fun b hb e' => h.ne hj (by rw [hb, e'])
  · by_cases e1 : i = k
    · subst e1
      rw [upd_same]
      intro hb
      simp [nilS, Value.ownBlock] at hb
    · rw [upd_other _ _ e1]
      by_cases e2 : j = k
      · subst e2
        rw [upd_same]
        intro _ hb
        simp [nilS, Value.ownBlock] at hb
      · rw [upd_other _ _ e2]
        exact h.apart i j hi hj hij b
end Go.Proofs.Ytdfpjpmdldigdab
namespace Go.Proofs.Ytdfpjpmdldigdab

/-- A pair, the lower number first. -/
def prN (x y : Int) : Int × Int := (min x y, max x y)
def pids : List Int := (List.range 99).map fun i : Nat => (i : Int) + 1
theorem mem_pids {y : Int} : y ∈ pids ↔ 1 ≤ y ∧ y ≤ 99 := by
  simp only [pids, List.mem_map, List.mem_range]
  constructor
  · rintro ⟨i, hi, rfl⟩
    omega
  · intro h
    exact ⟨(y - 1).toNat, by omega, by omega⟩
theorem pids_length : pids.length = 99 := by simp [pids]
theorem pids_nodup : pids.Nodup := by
  unfold pids
  refine List.Pairwise.map _ ?_ List.nodup_range
  intro a b h e
  exact h (by omega)
theorem pids_get (i : Nat) (h : i < 99) : pids[i]? = some ((i : Int) + 1) := by simp [pids, h]
/-- With whom one is. -/
def ofL (g : Int × Int → Bool) (x : Int) : List Int := pids.filter fun y => g (prN x y)
/-- Pairs as they are kept: of two unlike ones from 1 to 99, the lower first. -/
def OKg (g : Int × Int → Bool) : Prop := ∀ k, g k = true → 1 ≤ k.1 ∧ k.1 < k.2 ∧ k.2 ≤ 99
theorem mem_ofL {g : Int × Int → Bool} {x y : Int} : y ∈ ofL g x ↔ (1 ≤ y ∧ y ≤ 99) ∧ g (prN x y) = true := by
  rw [ofL, List.mem_filter, mem_pids]
theorem ofL_nodup (g : Int × Int → Bool) (x : Int) : (ofL g x).Nodup := pids_nodup.sublist List.filter_sublist
theorem ofL_length (g : Int × Int → Bool) (x : Int) : (ofL g x).length ≤ 99 := by
  have := List.length_filter_le (fun y => g (prN x y)) pids
  rw [pids_length] at this
  exact this
theorem prN_comm (x y : Int) : prN x y = prN y x := by simp [prN, Int.min_comm, Int.max_comm]
theorem prN_cases (x y : Int) : prN x y = (x, y) ∧ x ≤ y ∨ prN x y = (y, x) ∧ y ≤ x := by
  rcases Int.le_total x y with h | h
  · exact Or.inl ⟨by simp [prN, Int.min_eq_left h, Int.max_eq_right h], h⟩
  · exact Or.inr ⟨by simp [prN, Int.min_eq_right h, Int.max_eq_left h], h⟩
theorem ofL_range {g : Int × Int → Bool} (hg : OKg g) {x y : Int} (h : g (prN x y) = true) : (1 ≤ x ∧ x ≤ 99) ∧ (1 ≤ y ∧ y ≤ 99) ∧ x ≠ y := by
  have := hg _ h
  rcases prN_cases x y with ⟨e, _⟩ | ⟨e, _⟩ <;> (rw [e] at this; simp at this; omega)
theorem ofL_none {g : Int × Int → Bool} (hg : OKg g) {x : Int} (h : ¬ (1 ≤ x ∧ x ≤ 99)) : ofL g x = [] := by
  rw [ofL, List.filter_eq_nil_iff]
  intro y _ hy
  exact h (ofL_range hg hy).1
theorem ofL_self {g : Int × Int → Bool} (hg : OKg g) (x : Int) : x ∉ ofL g x := fun h => (ofL_range hg (mem_ofL.1 h).2).2.2 rfl
theorem ofL_symm {g : Int × Int → Bool} (hg : OKg g) {x y : Int} (h : y ∈ ofL g x) : x ∈ ofL g y := by
  have h2 := (mem_ofL.1 h).2
  exact mem_ofL.2 ⟨(ofL_range hg h2).1, by rw [prN_comm]; exact h2⟩
/-- All pairs that none of l is in. -/
def wo (g : Int × Int → Bool) (l : List Int) : Int × Int → Bool := fun k => g k && !l.contains k.1 && !l.contains k.2
theorem wo_iff {g : Int × Int → Bool} {l : List Int} {k : Int × Int} : wo g l k = true ↔ g k = true ∧ k.1 ∉ l ∧ k.2 ∉ l := by
  simp [wo, and_assoc]
theorem wo_pr {g : Int × Int → Bool} {l : List Int} {x y : Int} : wo g l (prN x y) = true ↔ g (prN x y) = true ∧ x ∉ l ∧ y ∉ l := by
  rw [wo_iff]
  rcases prN_cases x y with ⟨e, _⟩ | ⟨e, _⟩
  · rw [e]
  · rw [e]
    constructor
    · rintro ⟨a, b, c⟩
      exact ⟨a, c, b⟩
    · rintro ⟨a, b, c⟩
      exact ⟨a, c, b⟩
theorem OKg.wo {g : Int × Int → Bool} (hg : OKg g) (l : List Int) : OKg (wo g l) := fun k hk => hg k (wo_iff.1 hk).1
theorem wo_wo (g : Int × Int → Bool) (l r : List Int) : wo (wo g l) r = wo g (l ++ r) := by
  funext k
  rw [Bool.eq_iff_iff, wo_iff, wo_iff, wo_iff]
  simp only [List.mem_append, not_or]
  constructor
  · rintro ⟨⟨a, b, c⟩, d, e⟩
    exact ⟨a, ⟨b, d⟩, c, e⟩
  · rintro ⟨a, ⟨b, d⟩, c, e⟩
    exact ⟨⟨a, b, c⟩, d, e⟩
/-- The pairs of x with the first ones of l are taken out. -/
def cutL (g : Int × Int → Bool) (x : Int) (l : List Int) : Int × Int → Bool := l.foldl (fun g y => upd g (prN x y) false) g
theorem cutL_iff {g : Int × Int → Bool} {x : Int} {l : List Int} {k : Int × Int} : cutL g x l k = true ↔ g k = true ∧ ∀ y ∈ l, k ≠ prN x y := by
  induction l generalizing g with
  | nil => simp [cutL]
  | cons y l ih =>
    have h : cutL g x (y :: l) = cutL (upd g (prN x y) false) x l := rfl
    rw [h, ih]
    unfold upd
    by_cases e : k = prN x y
    · simp [e]
    · simp [e]
theorem cutL_snoc (g : Int × Int → Bool) (x : Int) (l : List Int) (y : Int) : cutL g x (l ++ [y]) = upd (cutL g x l) (prN x y) false := by simp [cutL]
theorem cut_all {g : Int × Int → Bool} (hg : OKg g) (x : Int) : cutL g x (ofL g x) = wo g [x] := by
  funext k
  rw [Bool.eq_iff_iff, cutL_iff, wo_iff]
  refine and_congr_right fun hk => ?_
  have hr := hg k hk
  simp only [List.mem_singleton]
  constructor
  · intro h
    refine ⟨fun e => ?_, fun e => ?_⟩
    · have e2 : k = prN x k.2 := by
        rcases prN_cases x k.2 with ⟨e', _⟩ | ⟨_, e'⟩
        · rw [e', ← e]
        · omega
      exact h k.2 (mem_ofL.2 ⟨by omega, e2 ▸ hk⟩) e2
    · have e2 : k = prN x k.1 := by
        rcases prN_cases x k.1 with ⟨_, e'⟩ | ⟨e', _⟩
        · omega
        · rw [e', ← e]
      exact h k.1 (mem_ofL.2 ⟨by omega, e2 ▸ hk⟩) e2
  · rintro ⟨h1, h2⟩ y _ e
    rcases prN_cases x y with ⟨e', _⟩ | ⟨e', _⟩
    · exact h1 (by rw [e, e'])
    · exact h2 (by rw [e, e'])

/-! ### who is told -/
/-- Of l all that aren't in t. -/
def newL (t l : List Int) : List Int := l.filter fun y => !t.contains y
/-- Who is told behind i rounds. -/
def toldR (g : Int × Int → Bool) (x : Int) : Nat → List Int
  | 0 => ofL g x
  | i + 1 => match (toldR g x i)[i]? with
    | some y => toldR g x i ++ newL (toldR g x i) (ofL (wo g (x :: (toldR g x i).take i)) y)
    | none => toldR g x i
def toldL (g : Int × Int → Bool) (x : Int) : List Int := toldR g x 99
theorem mem_newL {t l : List Int} {y : Int} : y ∈ newL t l ↔ y ∈ l ∧ y ∉ t := by simp [newL]
structure Told (g : Int × Int → Bool) (x : Int) (l : List Int) : Prop where
  nodup : l.Nodup
  self : x ∉ l
  rng : ∀ y ∈ l, 1 ≤ y ∧ y ≤ 99
  from' : ∀ i y, l[i]? = some y → ∃ k ∈ x :: l.take i, y ∈ ofL g k
theorem nodup_append {t l : List Int} (h1 : t.Nodup) (h2 : l.Nodup) (h3 : ∀ y ∈ l, y ∉ t) : (t ++ l).Nodup := by
  rw [List.nodup_append]
  exact ⟨h1, h2, fun a ha b hb e => h3 b hb (e ▸ ha)⟩
theorem nodup_ahead {l : List Int} {i : Nat} {y : Int} (h : l.Nodup) (hy : l[i]? = some y) : y ∉ l.take i := by
  intro hm
  obtain ⟨j, hj, ej⟩ := List.getElem_of_mem hm
  rw [List.length_take] at hj
  rw [List.getElem_take] at ej
  obtain ⟨hl, e2⟩ := List.getElem?_eq_some_iff.1 hy
  exact (List.pairwise_iff_getElem.1 h) j i (by omega) hl (by omega) (ej.trans e2.symm)
theorem told_told {g : Int × Int → Bool} (hg : OKg g) (x : Int) : ∀ i, Told g x (toldR g x i)
  | 0 => ⟨ofL_nodup g x, ofL_self hg x, fun y hy => (mem_ofL.1 hy).1, fun i y hy => ⟨x, by simp, List.mem_of_getElem? hy⟩⟩
  | i + 1 => by
    have ih := told_told hg x i
    unfold toldR
    split
    · rename_i y hy
      refine ⟨nodup_append ih.nodup ((ofL_nodup _ _).sublist List.filter_sublist) fun z hz => (mem_newL.1 hz).2, ?_, ?_, ?_⟩
      · intro h
        rcases List.mem_append.1 h with h | h
        · exact ih.self h
        · have := (wo_pr.1 (mem_ofL.1 (mem_newL.1 h).1).2).2.2
          simp at this
      · intro z hz
        rcases List.mem_append.1 hz with h | h
        · exact ih.rng z h
        · exact (mem_ofL.1 (mem_newL.1 h).1).1
      · intro j z hz
        rw [List.getElem?_append] at hz
        split at hz
        · rename_i hj
          obtain ⟨k, hk, hk2⟩ := ih.from' j z hz
          refine ⟨k, ?_, hk2⟩
          rw [List.take_append_of_le_length (by omega)]
          exact hk
        · rename_i hj
          have hm := mem_newL.1 (List.mem_of_getElem? hz)
          refine ⟨y, ?_, mem_ofL.2 ⟨(mem_ofL.1 hm.1).1, (wo_pr.1 (mem_ofL.1 hm.1).2).1⟩⟩
          refine List.mem_cons_of_mem _ ?_
          rw [List.take_append]
          refine List.mem_append_left _ ?_
          rw [List.take_of_length_le (by omega)]
          exact List.mem_of_getElem? hy
    · exact ih
theorem nodup_le {l : List Int} (h : l.Nodup) : ∀ {r : List Int}, (∀ y ∈ l, y ∈ r) → l.length ≤ r.length := by
  induction l with
  | nil => simp
  | cons y l ih =>
    intro r hr
    rw [List.nodup_cons] at h
    have hy := hr y (by simp)
    have := ih h.2 (r := r.erase y) fun z hz => (List.mem_erase_of_ne (fun e : z = y => h.1 (e ▸ hz))).2 (hr z (by simp [hz]))
    rw [List.length_erase_of_mem hy] at this
    have := List.length_pos_of_mem hy
    simp
    omega
theorem Told.le {g : Int × Int → Bool} {x : Int} {l : List Int} (h : Told g x l) : l.length ≤ 99 := by
  have := nodup_le h.nodup (r := pids) fun y hy => mem_pids.2 (h.rng y hy)
  rwa [pids_length] at this
theorem toldR_stop {g : Int × Int → Bool} {x : Int} {i : Nat} (h : (toldR g x i).length ≤ i) : ∀ j, toldR g x (i + j) = toldR g x i
  | 0 => rfl
  | j + 1 => by
    have ih := toldR_stop h j
    have : toldR g x (i + j + 1) = toldR g x (i + j) := by
      rw [toldR]
      rw [List.getElem?_eq_none (by rw [ih]; omega)]
    rw [← Nat.add_assoc, this, ih]
theorem toldR_end {g : Int × Int → Bool} (hg : OKg g) {x : Int} {i : Nat} (h : (toldR g x i).length ≤ i) : toldR g x i = toldL g x := by
  unfold toldL
  rcases Nat.le_total i 99 with h1 | h1
  · obtain ⟨j, e⟩ := Nat.le.dest h1
    rw [← e, toldR_stop h j]
  · obtain ⟨j, rfl⟩ := Nat.le.dest h1
    exact toldR_stop ((told_told hg x 99).le) j
/-- Who is come to along pairs is told. -/
def Closed9 (g : Int × Int → Bool) (x : Int) (t : List Int) (i : Nat) : Prop := ∀ y ∈ x :: t.take i, ∀ z ∈ ofL g y, z = x ∨ z ∈ t
theorem closed_R {g : Int × Int → Bool} (hg : OKg g) (x : Int) : ∀ i, Closed9 g x (toldR g x i) i
  | 0 => by
    intro y hy z hz
    simp at hy
    subst hy
    exact Or.inr hz
  | i + 1 => by
    have ih := closed_R hg x i
    have it := told_told hg x i
    have h0 : toldR g x (i + 1) = match (toldR g x i)[i]? with
      | some y => toldR g x i ++ newL (toldR g x i) (ofL (wo g (x :: (toldR g x i).take i)) y)
      | none => toldR g x i := rfl
    rw [h0]
    split
    · rename_i u hu
      have hlt := (List.getElem?_eq_some_iff.1 hu).1
      have ht : (toldR g x i ++ newL (toldR g x i) (ofL (wo g (x :: (toldR g x i).take i)) u)).take (i + 1) = (toldR g x i).take i ++ [u] := by
        rw [List.take_append_of_le_length (by omega), List.take_add_one, hu]
        rfl
      intro y hy z hz
      rw [ht] at hy
      have hy' : y ∈ x :: (toldR g x i).take i ∨ y = u := by
        simp only [List.mem_cons, List.mem_append, List.not_mem_nil, or_false] at hy ⊢
        rcases hy with hy | hy | hy
        · exact Or.inl (Or.inl hy)
        · exact Or.inl (Or.inr hy)
        · exact Or.inr hy
      rcases hy' with hy' | rfl
      · rcases ih y hy' z hz with e | e
        · exact Or.inl e
        · exact Or.inr (List.mem_append_left _ e)
      · by_cases h1 : z = x
        · exact Or.inl h1
        · refine Or.inr ?_
          by_cases h2 : z ∈ toldR g x i
          · exact List.mem_append_left _ h2
          · refine List.mem_append_right _ (mem_newL.2 ⟨mem_ofL.2 ⟨(mem_ofL.1 hz).1, wo_pr.2 ⟨(mem_ofL.1 hz).2, ?_, ?_⟩⟩, h2⟩)
            · intro h
              rcases List.mem_cons.1 h with h | h
              · rw [h] at hu
                exact it.self (List.mem_of_getElem? hu)
              · exact nodup_ahead it.nodup hu h
            · intro h
              rcases List.mem_cons.1 h with h | h
              · exact h1 h
              · exact h2 (List.mem_of_mem_take h)
    · rename_i hn
      have hn' := List.getElem?_eq_none_iff.1 hn
      intro y hy
      rw [List.take_of_length_le (by omega)] at hy
      exact ih y (by rw [List.take_of_length_le hn']; exact hy)
theorem toldL_told {g : Int × Int → Bool} (hg : OKg g) (x : Int) : Told g x (toldL g x) := told_told hg x 99
theorem toldL_closed {g : Int × Int → Bool} (hg : OKg g) {x y z : Int} (hy : y ∈ x :: toldL g x) (hz : z ∈ ofL g y) : z ∈ x :: toldL g x := by
  have h := closed_R hg x 99
  have := h y (by rw [List.take_of_length_le (told_told hg x 99).le]; exact hy) z hz
  exact List.mem_cons.2 this
/-- Who isn't told keeps whom it is with. -/
theorem ofL_apart {g : Int × Int → Bool} (hg : OKg g) {x y : Int} (hy : y ∉ x :: toldL g x) : ofL (wo g (x :: toldL g x)) y = ofL g y := by
  refine List.filter_congr fun z _ => ?_
  rw [Bool.eq_iff_iff, wo_pr]
  constructor
  · exact fun h => h.1
  · intro h
    refine ⟨h, hy, fun hz => hy ?_⟩
    have hr := ofL_range hg h
    exact toldL_closed hg hz (mem_ofL.2 ⟨hr.1, by rw [prN_comm]; exact h⟩)
theorem ofL_gone {g : Int × Int → Bool} {l : List Int} {y : Int} (hy : y ∈ l) : ofL (wo g l) y = [] := by
  rw [ofL, List.filter_eq_nil_iff]
  intro z _ hz
  exact (wo_pr.1 hz).2.1 hy

/-! ### the other road -/
/-- Who is told behind i rounds, who ends first among them, and no pair taken away. -/
def seenR (g : Int × Int → Bool) (x : Int) : Nat → List Int
  | 0 => [x]
  | i + 1 => match (seenR g x i)[i]? with
    | some y => seenR g x i ++ newL (seenR g x i) (ofL g y)
    | none => seenR g x i
theorem newL_same {g : Int × Int → Bool} {x y : Int} {t : List Int} {i : Nat} (hy : y ∉ x :: t.take i) : newL (x :: t) (ofL g y) = newL t (ofL (wo g (x :: t.take i)) y) := by
  unfold newL ofL
  rw [List.filter_filter, List.filter_filter]
  refine List.filter_congr fun z _ => ?_
  rw [Bool.eq_iff_iff]
  simp only [Bool.and_eq_true, Bool.not_eq_true', List.contains_eq_mem, decide_eq_false_iff_not, wo_pr]
  simp only [List.mem_cons, not_or]
  constructor
  · rintro ⟨⟨a, b⟩, c⟩
    exact ⟨b, c, by simpa using hy, a, fun h => b (List.mem_of_mem_take h)⟩
  · rintro ⟨b, c, _, a, _⟩
    exact ⟨⟨a, b⟩, c⟩
theorem told_ahead {g : Int × Int → Bool} {x y : Int} {l : List Int} (h : Told g x l) {i : Nat} (hy : l[i]? = some y) : y ∉ x :: l.take i := by
  intro hm
  rcases List.mem_cons.1 hm with e | hm
  · rw [e] at hy
    exact h.self (List.mem_of_getElem? hy)
  · exact nodup_ahead h.nodup hy hm
theorem seen_told {g : Int × Int → Bool} (hg : OKg g) (x : Int) : ∀ i, seenR g x (i + 1) = x :: toldR g x i
  | 0 => by
    have h : newL [x] (ofL g x) = ofL g x := by
      refine List.filter_eq_self.2 fun z hz => ?_
      have : z ≠ x := fun e => ofL_self hg x (e ▸ hz)
      simp [this]
    show [x] ++ newL [x] (ofL g x) = x :: ofL g x
    rw [h]
    rfl
  | i + 1 => by
    have ih := seen_told hg x i
    rw [seenR, ih, toldR]
    simp only [List.getElem?_cons_succ]
    cases hu : (toldR g x i)[i]? with
    | none => rfl
    | some y =>
      simp only [newL_same (told_ahead (told_told hg x i) hu), List.cons_append]
end Go.Proofs.Ytdfpjpmdldigdab
namespace Go.Proofs.Ytdfpjpmdldigdab

/-- With whom one is, where a pair may stand either way. -/
def lnkL (h : Int × Int → Bool) (x : Int) : List Int := pids.filter fun y => h (x, y) || h (y, x)
structure Dir (h g : Int × Int → Bool) : Prop where
  rng : ∀ k, h k = true → (1 ≤ k.1 ∧ k.1 ≤ 99) ∧ (1 ≤ k.2 ∧ k.2 ≤ 99) ∧ k.1 ≠ k.2
  same : ∀ x y, g (prN x y) = (h (x, y) || h (y, x))
  ok : OKg g
theorem Dir.lnk {h g : Int × Int → Bool} (d : Dir h g) (x : Int) : lnkL h x = ofL g x := List.filter_congr fun y _ => (d.same x y).symm
theorem Dir.none : Dir (fun _ => false) (fun _ => false) := ⟨fun _ h => (by cases h), fun _ _ => rfl, fun _ h => (by cases h)⟩
theorem prN_inj {x y u v : Int} : prN u v = prN x y ↔ (u = x ∧ v = y) ∨ (u = y ∧ v = x) := by
  rcases prN_cases x y with ⟨e, h1⟩ | ⟨e, h1⟩ <;> rcases prN_cases u v with ⟨e', h2⟩ | ⟨e', h2⟩ <;> (rw [e, e']; simp only [Prod.mk.injEq]; omega)
theorem OKg.link {g : Int × Int → Bool} (hg : OKg g) {x y : Int} (hx : 1 ≤ x ∧ x ≤ 99) (hy : 1 ≤ y ∧ y ≤ 99) (hne : x ≠ y) : OKg (upd g (prN x y) true) := by
  intro k hk
  unfold upd at hk
  split at hk
  · rename_i e
    rcases prN_cases x y with ⟨e', _⟩ | ⟨e', _⟩ <;> (rw [e, e']; simp; omega)
  · exact hg k hk
theorem Dir.link {h g : Int × Int → Bool} (d : Dir h g) {x y : Int} (hx : 1 ≤ x ∧ x ≤ 99) (hy : 1 ≤ y ∧ y ≤ 99) (hne : x ≠ y) : Dir (upd h (x, y) true) (upd g (prN x y) true) := by
  refine ⟨fun k hk => ?_, fun u v => ?_, d.ok.link hx hy hne⟩
  · unfold upd at hk
    split at hk
    · rename_i e
      rw [e]
      exact ⟨hx, hy, hne⟩
    · exact d.rng k hk
  · have hs := d.same u v
    unfold upd
    by_cases e : prN u v = prN x y
    · rw [if_pos e]
      rcases prN_inj.1 e with ⟨e1, e2⟩ | ⟨e1, e2⟩
      · rw [e1, e2, if_pos rfl]
        rfl
      · rw [e1, e2, if_pos (rfl : ((x, y) : Int × Int) = (x, y))]
        simp
    · rw [if_neg e, if_neg, if_neg, hs]
      · intro e'
        injection e' with e1 e2
        exact e (prN_inj.2 (Or.inr ⟨e2, e1⟩))
      · intro e'
        injection e' with e1 e2
        exact e (prN_inj.2 (Or.inl ⟨e1, e2⟩))
theorem Dir.wo {h g : Int × Int → Bool} (d : Dir h g) (l : List Int) : Dir (wo h l) (wo g l) := by
  refine ⟨fun k hk => d.rng k (wo_iff.1 hk).1, fun x y => ?_, d.ok.wo l⟩
  have hs := d.same x y
  rw [Bool.eq_iff_iff, wo_pr, hs, Bool.or_eq_true, Bool.or_eq_true, wo_iff, wo_iff]
  constructor
  · rintro ⟨a | a, b, c⟩
    · exact Or.inl ⟨a, b, c⟩
    · exact Or.inr ⟨a, c, b⟩
  · rintro (⟨a, b, c⟩ | ⟨a, b, c⟩)
    · exact ⟨Or.inl a, b, c⟩
    · exact ⟨Or.inr a, c, b⟩
/-- All pairs of t with l are taken out, either way. -/
def delL (h : Int × Int → Bool) (t : Int) (l : List Int) : Int × Int → Bool := l.foldl (fun h y => upd (upd h (t, y) false) (y, t) false) h
theorem delL_snoc (h : Int × Int → Bool) (t : Int) (l : List Int) (y : Int) : delL h t (l ++ [y]) = upd (upd (delL h t l) (t, y) false) (y, t) false := by simp [delL]
theorem delL_iff {h : Int × Int → Bool} {t : Int} {l : List Int} {k : Int × Int} : delL h t l k = true ↔ h k = true ∧ ∀ y ∈ l, k ≠ (t, y) ∧ k ≠ (y, t) := by
  induction l generalizing h with
  | nil => simp [delL]
  | cons y l ih =>
    have e : delL h t (y :: l) = delL (upd (upd h (t, y) false) (y, t) false) t l := rfl
    rw [e, ih]
    unfold upd
    by_cases e1 : k = (y, t)
    · simp [e1]
    · by_cases e2 : k = (t, y)
      · simp [e2]
      · simp [e1, e2]
theorem del_all {h : Int × Int → Bool} (hr : ∀ k, h k = true → (1 ≤ k.1 ∧ k.1 ≤ 99) ∧ (1 ≤ k.2 ∧ k.2 ≤ 99) ∧ k.1 ≠ k.2) (t : Int) : delL h t pids = wo h [t] := by
  funext k
  rw [Bool.eq_iff_iff, delL_iff, wo_iff]
  refine and_congr_right fun hk => ?_
  have hk2 := hr k hk
  simp only [List.mem_singleton]
  constructor
  · intro ha
    refine ⟨fun e => ?_, fun e => ?_⟩
    · exact (ha k.2 (mem_pids.2 hk2.2.1)).1 (Prod.ext e rfl)
    · exact (ha k.1 (mem_pids.2 hk2.1)).2 (Prod.ext rfl e)
  · rintro ⟨h1, h2⟩ y _
    exact ⟨fun e => h1 (by rw [e]), fun e => h2 (by rw [e])⟩
/-- The first ones of all numbers. -/
theorem pids_take (i : Nat) (h : i < 99) : pids.take (i + 1) = pids.take i ++ [(i : Int) + 1] := by
  rw [List.take_add_one, pids_get i h]
  rfl
def ofTo (g : Int × Int → Bool) (x : Int) (i : Nat) : List Int := (pids.take i).filter fun y => g (prN x y)
def lnkTo (h : Int × Int → Bool) (x : Int) (i : Nat) : List Int := (pids.take i).filter fun y => h (x, y) || h (y, x)
theorem ofTo_next (g : Int × Int → Bool) (x : Int) (i : Nat) (hi : i < 99) : ofTo g x (i + 1) = ofTo g x i ++ if g (prN x ((i : Int) + 1)) then [(i : Int) + 1] else [] := by
  rw [ofTo, pids_take i hi, List.filter_append, List.filter_cons, List.filter_nil]
  rfl
theorem ofTo_all (g : Int × Int → Bool) (x : Int) : ofTo g x 99 = ofL g x := by
  rw [ofTo, List.take_of_length_le (by rw [pids_length]; exact Nat.le_refl _)]
  rfl
theorem ofTo_length (g : Int × Int → Bool) (x : Int) (i : Nat) : (ofTo g x i).length ≤ i := by
  have := List.length_filter_le (fun y => g (prN x y)) (pids.take i)
  rw [List.length_take] at this
  unfold ofTo
  omega
theorem lnkTo_next (h : Int × Int → Bool) (x : Int) (i : Nat) (hi : i < 99) : lnkTo h x (i + 1) = lnkTo h x i ++ if h (x, (i : Int) + 1) || h ((i : Int) + 1, x) then [(i : Int) + 1] else [] := by
  rw [lnkTo, pids_take i hi, List.filter_append, List.filter_cons, List.filter_nil]
  rfl
theorem lnkTo_all (h : Int × Int → Bool) (x : Int) : lnkTo h x 99 = lnkL h x := by
  rw [lnkTo, List.take_of_length_le (by rw [pids_length]; exact Nat.le_refl _)]
  rfl
theorem lnkTo_length (h : Int × Int → Bool) (x : Int) (i : Nat) : (lnkTo h x i).length ≤ i := by
  have := List.length_filter_le (fun y => h (x, y) || h (y, x)) (pids.take i)
  rw [List.length_take] at this
  unfold lnkTo
  omega
/-- One by one, what is new. -/
theorem newL_next (t l : List Int) (y : Int) (hl : y ∉ l) : newL t (l ++ [y]) = newL t l ++ if (t ++ newL t l).contains y then [] else [y] := by
  unfold newL
  rw [List.filter_append, List.filter_cons, List.filter_nil]
  have h : (t ++ l.filter fun y => !t.contains y).contains y = t.contains y := by
    rw [Bool.eq_iff_iff]
    simp [hl]
  rw [h]
  cases t.contains y <;> rfl
theorem nodup_take {l : List Int} (h : l.Nodup) {i : Nat} {y : Int} (hy : l[i]? = some y) : y ∉ l.take i := nodup_ahead h hy
end Go.Proofs.Ytdfpjpmdldigdab
namespace Go.Proofs.Ytdfpjpmdldigdab
open Go.RowKit Go.Maps

/-- What is appended to a row that has room for it. -/
theorem run_append_in {P : Program} (w : World) (t ty e : TypeId) (i : TypeInfo) (ht : P.underlying t = some (.slice e)) (hi : P.info? e = some i)
    (g sLen sCap : Nat) (cur : Array Value) (hg : w.heap[g]? = some (.cells cur e (0, 0)))
    (a : Addr) (m c : Nat) (news : List Value) (hl : news.length = m * i.size) (hnews : ∀ j u, news[j]? = some u → w.cell? (a.add j) = some u) (h1 : ∀ u ∈ news, u.oneCell' = true)
    (hroom : sLen + m ≤ sCap) (hfit : sLen * i.size + news.length ≤ cur.size) :
    (Builtin.append_ #[t, t] ty #[.slice (some ⟨g, 0, none⟩) sLen sCap, .slice (some a) m c]).run P w =
      .ok (.slice (some ⟨g, 0, none⟩) (sLen + m) sCap) (w.setRow g (cur.toList.take (sLen * i.size) ++ news ++ cur.toList.drop (sLen * i.size + news.length)).toArray) := by
  have hf := run_firstCells_some (P := P) w i.size m a m c news hl hnews
  have hst := run_storeCells_at P g (sLen * i.size) e news 0 cur w hg (by simpa using hfit) h1
  simp only [Nat.add_zero] at hst
  simp [Builtin.append_, run_underlying ht, sizeOf, typeInfo, hi, Builtin.lenOf, hroom, hf, Addr.add_lit, hst]
theorem infoTermG : (Try.prog.info? 24).map (fun i => (i.zero, i.size, i.bytes)) = some (some (.agg #[.int .i64 0, .int .i64 0, .string ⟨#[]⟩, .slice none 0 0]), 4, 56) := by kernel_rfl
theorem zeroTerm (w : World) : (zeroValue 24).run Try.prog w = .ok (.agg #[.int .i64 0, .int .i64 0, .string ⟨#[]⟩, .slice none 0 0]) w := by kernel_rfl
def zero4 : List Value := [.int .i64 0, .int .i64 0, .string ⟨#[]⟩, .slice none 0 0]
/-- One element of a row is cleared. -/
theorem run_clear_one (w : World) (ty : TypeId) (g o c : Nat) (cur : Array Value) (hg : w.heap[g]? = some (.cells cur 24 (0, 0))) (hfit : o + 4 ≤ cur.size) :
    (Builtin.clear_ #[22] ty #[.slice (some ⟨g, o, none⟩) 1 c]).run Try.prog w = .ok (.tuple #[]) (w.setRow g (cur.toList.take o ++ zero4 ++ cur.toList.drop (o + 4)).toArray) := by
  have hst := run_storeCells_at Try.prog g o 24 zero4 0 cur w hg (by simpa [zero4] using hfit) (by simp [zero4, Value.oneCell'])
  have hz : (Builtin.zeroCells (Value.agg #[.int .i64 0, .int .i64 0, .string ⟨#[]⟩, .slice none 0 0]).cells 1).toList = zero4 := by
    simp [Builtin.zeroCells, Value.cells, zero4]
    rfl
  simp only [Nat.add_zero] at hst
  have hl : zero4.length = 4 := rfl
  rw [hl] at hst
  simp [Builtin.clear_, run_underlying Try.underlying22, hz, hst]

theorem slice_lo (w : World) (g L c : Nat) (h : L ≤ c) (h1 : 1 ≤ L) : (Instr.slice 22 (.slice (some ⟨g, 0, none⟩) L c) (some (.int .i64 0)) (some (.int .i64 1)) (some (.int .i64 L))).run Try.prog w = .ok (.slice (some ⟨g, 0, none⟩) 1 L) w := by
  have e2 : (1 : Int) ≤ (L : Int) := by omega
  simp [Instr.slice, run_underlying Try.underlying22, Instr.sliceBounds, Instr.sliceBound, asIntOf, e2, h, go_sem]
theorem slice_none (w : World) (g L c : Nat) : (Instr.slice 22 (.slice (some ⟨g, 0, none⟩) L c) none (some (.int .i64 0)) none).run Try.prog w = .ok (.slice (some ⟨g, 0, none⟩) 0 c) w := by
  simp [Instr.slice, run_underlying Try.underlying22, Instr.sliceBounds, Instr.sliceBound, asIntOf, go_sem]
theorem slice_rest (w : World) (g L c : Nat) (h : L ≤ c) (h1 : 2 ≤ L) : (Instr.slice 22 (.slice (some ⟨g, 0, none⟩) L c) (some (.int .i64 1)) none none).run Try.prog w = .ok (.slice (some ⟨g, 4, none⟩) (L - 1) (c - 1)) w := by
  have e2 : (1 : Int) ≤ (L : Int) := by omega
  have e3 : ¬ c = 1 := by omega
  simp [Instr.slice, run_underlying Try.underlying22, Instr.sliceBounds, Instr.sliceBound, asIntOf, e2, e3, go_sem, Addr.add_lit]
theorem slice_last (w : World) (g m c : Nat) (h : m + 1 ≤ c) : (Instr.slice 22 (.slice (some ⟨g, 0, none⟩) m c) (some (.int .i64 m)) (some (.int .i64 ((m : Int) + 1))) none).run Try.prog w = .ok (.slice (some ⟨g, m * 4, none⟩) 1 (c - m)) w := by
  have e2 : ¬ c = m := by omega
  have e3 : (m : Int) + 1 ≤ (c : Int) := by omega
  have e4 : (0 : Int) ≤ (m : Int) + 1 := by omega
  simp [Instr.slice, run_underlying Try.underlying22, Instr.sliceBounds, Instr.sliceBound, asIntOf, e2, e3, e4, go_sem, Addr.add_lit]
theorem step_append_run {w w' : World} {v x' v' : Value} {ops : Array Oper} {o : Oper} {a : Act} {K : Act → World → Prop} {Q : Exit → Act → World → Prop} {E : Prop} (hgd : o.guard = none) (s x : Operand) (ho : o.op = .call { callee := .builtin .append, args := #[s, x], argTypes := #[22, 22] })
    (hs : a.eval s = v) (hx : a.eval x = x') (hr : (Builtin.append_ #[22, 22] o.type #[v, x']).run Try.prog w = .ok v' w') (hK : K (a.put o.dst v') w') : if Region.wanted o (yielded ops a.tmps) = true then Oper.wp Try.prog o a w K Q else E := by
  have hw : Region.wanted o (yielded ops a.tmps) = true := by simp [Region.wanted, hgd]
  rw [if_pos hw]
  unfold Oper.wp execOp
  simp only [ho, resolve, invoke, builtin, Sem.run_bind, Sem.run_pure, Result.andThen_ok, List.map_toArray, List.map_cons, List.map_nil, hs, hx, hr]
  exact hK
theorem cell_row {w : World} {g : Nat} {cur : Array Value} {e : TypeId} (h : w.heap[g]? = some (.cells cur e (0, 0))) (j : Nat) : w.cell? ⟨g, j, none⟩ = cur.toList[j]? := by
  simp [World.cell?, h]
set_option maxRecDepth 100000 in
set_option maxHeartbeats 1000000 in
theorem delete_row {N : Nat} (base g c m : Nat) (y : Tm N) (l : List (Tm N)) (w : World) (hm : l.length = m) (h : TRow base N (.slice (some ⟨g, 0, none⟩) (m + 1) c) (y :: l) w) (h0 : l ≠ []) :
    Calls Try.prog 97 #[.slice (some ⟨g, 0, none⟩) ((m : Nat) + 1) c, .int .i64 0, .int .i64 1] w fun e w' => e = .returned (.slice (some ⟨g, 0, none⟩) m c) ∧ TRow base N (.slice (some ⟨g, 0, none⟩) m c) l w' ∧ w.grownBy w' (some g) ∧ w'.heap.size = w.heap.size := by
  obtain ⟨it, hit, htz0, htz1, htz2⟩ := info_parts infoTermG
  have hm0 : 0 < m := by
    rw [← hm]
    exact List.length_pos_iff.2 h0
  obtain ⟨h1, h2⟩ := h
  rcases h2 with ⟨e, _⟩ | ⟨g', cap, cur, e, hg, hh, hc, hcm, hz, ht⟩
  · cases e
  · injection e with e1 e2 e3
    injection e1 with e1
    injection e1 with e1 _
    subst e1 e3
    simp only [List.length_cons, hm] at h1 hc ht e2
    have hcl : cur.toList.length = c * 4 := by rw [Array.length_toList, hz]
    have htl : cur.toList.take ((m + 1) * 4) = tCells N [y] ++ tCells N l := by
      rw [ht, ← tCells_append]
      rfl
    have ly : (tCells N [y]).length = 4 := by rw [tCells_length]; rfl
    have ll : (tCells N l).length = m * 4 := by rw [tCells_length, hm]
    have HN : Hid (∀ W : World, W.heap[g]? = some (.cells cur 24 (0, 0)) → ∀ j u, (tCells N l)[j]? = some u → W.cell? ((⟨g, 4, none⟩ : Addr).add j) = some u) := by
      intro W hW j u hj
      have hjl := (List.getElem?_eq_some_iff.1 hj).1
      rw [Addr.add_lit, cell_row hW]
      have e : (cur.toList.take ((m + 1) * 4))[4 + j]? = some u := by
        rw [htl, List.getElem?_append_right (by omega), ly, Nat.add_sub_cancel_left]
        exact hj
      rw [List.getElem?_take] at e
      split at e
      · exact e
      · cases e
    have HA : Hid (∀ (W : World) (ty : TypeId), W.heap[g]? = some (.cells cur 24 (0, 0)) → (Builtin.append_ #[22, 22] ty #[.slice (some ⟨g, 0, none⟩) 0 c, .slice (some ⟨g, 4, none⟩) m (c - 1)]).run Try.prog W =
      .ok (.slice (some ⟨g, 0, none⟩) m c) (W.setRow g (tCells N l ++ cur.toList.drop (m * 4)).toArray)) := by
      intro W ty hW
      have hr := run_append_in (P := Try.prog) W 22 ty 24 it Try.underlying22 hit g 0 c cur hW ⟨g, 4, none⟩ m (c - 1) (tCells N l) (by rw [ll, htz1]) (HN.out W hW) (ndCells_one _) (by omega) (by rw [ll, hz]; omega)
      simpa [ll] using hr
    have HC : Hid (∀ (W : World) (ty : TypeId), W.heap[g]? = some (.cells (tCells N l ++ cur.toList.drop (m * 4)).toArray 24 (0, 0)) → (Builtin.clear_ #[22] ty #[.slice (some ⟨g, m * 4, none⟩) 1 (c - m)]).run Try.prog W =
      .ok (.tuple #[]) (W.setRow g (tCells N l ++ zero4 ++ cur.toList.drop ((m + 1) * 4)).toArray)) := by
      intro W ty hW
      have hr := run_clear_one W ty g (m * 4) (c - m) _ hW (by simp only [List.size_toArray, List.length_append, List.length_drop, ll, hcl]; omega)
      rw [hr]
      refine congrArg (fun x => Result.ok (Value.tuple #[]) (W.setRow g (List.toArray x))) ?_
      rw [List.toList_toArray, List.take_append_of_le_length (by omega), List.take_of_length_le (by omega), List.drop_append, List.drop_of_length_le (by omega), ll, List.drop_drop, List.nil_append]
      rw [show m * 4 + (m * 4 + 4 - m * 4) = (m + 1) * 4 by omega]
    have hA := HA.out w.drew 22 hh
    have HB : Hid ((w.drew.setRow g (tCells N l ++ cur.toList.drop (m * 4)).toArray).heap[g]? = some (.cells (tCells N l ++ cur.toList.drop (m * 4)).toArray 24 (0, 0))) := setRow_heap w.drew g cur _ _ _ hh
    have hC := fun ty : TypeId => HC.out _ ty HB.out
    have s1 := fun W : World => slice_lo W g (m + 1) c (by omega) (by omega)
    have s2 := fun W : World => slice_none W g (m + 1) c
    have s3 := fun W : World => slice_rest W g (m + 1) c (by omega) (by omega)
    have s4 := fun W : World => slice_last W g m c (by omega)
    rw [Nat.add_sub_cancel] at s3
    go_enter Try.func97, Try.ntmps97
    go_wp2_with fail
    go_region_held3 (fun _ => True) (trivial) ((first | (refine step_append_run rfl _ _ rfl (by simp [Act.eval]) (by simp [Act.eval]) hA ?_)))
    go_wp2_with fail
    go_ret
    have hb : ∀ b, b ≠ g → ((w.drew.setRow g (tCells N l ++ cur.toList.drop (m * 4)).toArray).setRow g (tCells N l ++ (zero4 ++ cur.toList.drop ((m + 1) * 4))).toArray).heap[b]? = w.heap[b]? := fun b hb => (setRow_other _ _ _ _ hb).trans (setRow_other _ _ _ _ hb)
    refine ⟨rfl, ⟨by rw [ll, hm], Or.inr ⟨g, c, _, by rw [hm], hg, setRow_heap _ _ _ _ _ _ HB.out, by omega, hcm, ?_, ?_⟩⟩, ⟨rfl, rfl, rfl, by simp, fun b _ hne => hb b fun e => hne (by rw [e])⟩, by simp⟩
    · have hz4 : zero4.length = 4 := rfl
      simp only [List.size_toArray, List.length_append, List.length_drop, ll, hcl, hz4]
      omega
    · rw [List.toList_toArray, List.take_append_of_le_length (by omega), List.take_of_length_le (by omega)]
end Go.Proofs.Ytdfpjpmdldigdab
