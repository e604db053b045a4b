/- What is proved here: plain facts on how a heap lies in memory: its box, the row of its words, the row of its names, and the map from a name to its number; what keeps them. No condition. -/
import Derived.Test.YtfaoeccnhbcjgabCpy
import Derived.Maps.OwnSet
namespace Go.Proofs.Ytfaoeccnhbcjgab
open Go.RowKit Go.Maps

/-- The heap's box: room, the words, the names, the numbers of the names. -/
def HB (hp : Nat) (room : Int) (tv lv mv : Value) (w : World) : Prop := w.heap[hp]? = some (.cells #[.int .i64 room, tv, lv, mv] 81)
theorem HB.lt {hp : Nat} {room : Int} {tv lv mv : Value} {w : World} (h : HB hp room tv lv mv w) : hp < w.heap.size := (Array.getElem?_eq_some_iff.1 h).1
theorem HB.cells {hp : Nat} {room : Int} {tv lv mv : Value} {w : World} (h : HB hp room tv lv mv w) :
    (w.cell? ⟨hp, 0, none⟩ = some (.int .i64 room) ∧ w.cell? ⟨hp, 1, none⟩ = some tv ∧ w.cell? ⟨hp, 2, none⟩ = some lv ∧ w.cell? ⟨hp, 3, none⟩ = some mv) ∧ ∀ j, w.frozen? ⟨hp, j, none⟩ = false := by
  unfold HB at h
  refine ⟨⟨?_, ?_, ?_, ?_⟩, fun j => ?_⟩
  all_goals simp [World.cell?, World.frozen?, h]
theorem HB.set1 {hp : Nat} {room : Int} {tv lv mv : Value} {w : World} (h : HB hp room tv lv mv w) (v : Value) : HB hp room v lv mv (w.setCell ⟨hp, 1, none⟩ v) := by
  unfold HB at *
  simp [World.setCell, Array.getElem?_modify, h]
theorem HB.set2 {hp : Nat} {room : Int} {tv lv mv : Value} {w : World} (h : HB hp room tv lv mv w) (v : Value) : HB hp room tv v mv (w.setCell ⟨hp, 2, none⟩ v) := by
  unfold HB at *
  simp [World.setCell, Array.getElem?_modify, h]
theorem HB.set3 {hp : Nat} {room : Int} {tv lv mv : Value} {w : World} (h : HB hp room tv lv mv w) (v : Value) : HB hp room tv lv v (w.setCell ⟨hp, 3, none⟩ v) := by
  unfold HB at *
  simp [World.setCell, Array.getElem?_modify, h]
theorem HB.kept {hp : Nat} {room : Int} {tv lv mv : Value} {w w' : World} (h : HB hp room tv lv mv w) (k : w'.heap[hp]? = w.heap[hp]?) : HB hp room tv lv mv w' := k.trans h

/-- All but the blocks of which S holds are as they were; new ones may be there. -/
structure Keep (S : Nat → Prop) (w w' : World) : Prop where
  os : w'.os = w.os
  tape : w'.tape = w.tape
  output : w'.output = w.output
  size : w.heap.size ≤ w'.heap.size
  block : ∀ b, b < w.heap.size → ¬ S b → w'.heap[b]? = w.heap[b]?
theorem Keep.refl (S : Nat → Prop) (w : World) : Keep S w w := ⟨rfl, rfl, rfl, Nat.le_refl _, fun _ _ _ => rfl⟩
theorem Keep.trans {S T : Nat → Prop} {w w1 w2 : World} (h : Keep S w w1) (k : Keep T w1 w2) (hT : ∀ b, b < w.heap.size → T b → S b) : Keep S w w2 :=
  ⟨k.os.trans h.os, k.tape.trans h.tape, k.output.trans h.output, Nat.le_trans h.size k.size, fun b hb hs => (k.block b (Nat.lt_of_lt_of_le hb h.size) (fun ht => hs (hT b hb ht))).trans (h.block b hb hs)⟩
theorem Keep.mono {S T : Nat → Prop} {w w1 : World} (h : Keep S w w1) (hT : ∀ b, S b → T b) : Keep T w w1 := ⟨h.os, h.tape, h.output, h.size, fun b hb hs => h.block b hb fun k => hs (hT b k)⟩
theorem keep_below {w w' : World} (h : Below w.heap.size w w') (S : Nat → Prop) : Keep S w w' := ⟨h.os, h.tape, h.output, h.size, fun b hb _ => h.block b hb⟩
theorem keep_grown {w w' : World} {row : Option Nat} (h : w.grownBy w' row) : Keep (fun b => row = some b) w w' := ⟨h.os, h.tape, h.output, h.size, fun b hb hs => h.block b hb fun e => hs e.symm⟩
theorem keep_set (w : World) (q o : Nat) (v : Value) : Keep (fun b => b = q) w (w.setCell ⟨q, o, none⟩ v) :=
  ⟨rfl, rfl, rfl, by simp [World.setCell], fun b _ hne => by
    have : ¬ q = b := fun e => hne e.symm
    simp [World.setCell, Array.getElem?_modify, this]⟩

/-- A map's own block. -/
def mapBlock : Value → Option Nat
  | .map (some b) => some b
  | _ => none
theorem strLaw : Keyed Try.prog 9 := string_keyed Try.underlying9
theorem zeroInt (w : World) : (zeroValue 3).run Try.prog w = .ok (.int .i64 0) w := by kernel_rfl
def strCells (l : List ByteArray) : List Value := l.map .string
/-- D tells each name's number. -/
def NumsOf (D : DataW Unit) (nm : List ByteArray) : Prop := ∀ s : ByteArray, (Maps.has D (.string s.data.toList) = true ↔ s ∈ nm) ∧ ∀ i : Nat, nm[i]? = some s → D.atKey (.string s.data.toList) (.lit (.int .i64 0)) = .lit (.int .i64 i)
/-- The names, in memory. -/
def NamesAt (base : Nat) (nm : List ByteArray) (lv mv : Value) (w : World) : Prop :=
  w.ownsRow base 9 1 lv nm.length (strCells nm) ∧ nm.Nodup ∧
  ((mv = .map none ∧ nm = [] ∧ lv = .slice none 0 0) ∨ ∃ mb D, mv = .map (some mb) ∧ base ≤ mb ∧ w.ownsMap Try.prog 9 (plainElem Try.prog 3) mb nm.length D ∧ NumsOf D nm ∧ lv.ownBlock ≠ some mb)
theorem NamesAt.kept {base : Nat} {nm : List ByteArray} {lv mv : Value} {w w' : World} {S : Nat → Prop} (h : NamesAt base nm lv mv w) (k : Keep S w w') (h1 : ∀ b, lv.ownBlock = some b → ¬ S b) (h2 : ∀ b, mapBlock mv = some b → ¬ S b) : NamesAt base nm lv mv w' := by
  obtain ⟨k1, k2, k3⟩ := h
  have hrow : w'.ownsRow base 9 1 lv nm.length (strCells nm) := by
    refine ⟨k1.1, ?_⟩
    rcases k1.2 with ⟨e, e0⟩ | ⟨g, cap, cur, e, hg, hh, hr⟩
    · exact Or.inl ⟨e, e0⟩
    · exact Or.inr ⟨g, cap, cur, e, hg, (k.block g (Array.getElem?_eq_some_iff.1 hh).1 (h1 g (by rw [e]; rfl))).trans hh, hr⟩
  refine ⟨hrow, k2, ?_⟩
  rcases k3 with k3 | ⟨mb, D, rfl, hb, hm, hn, hne⟩
  · exact Or.inl k3
  · refine Or.inr ⟨mb, D, rfl, hb, ?_, hn, hne⟩
    obtain ⟨es, clock, hh, hr⟩ := hm
    exact ⟨es, clock, (k.block mb (Array.getElem?_eq_some_iff.1 hh).1 (h2 mb rfl)).trans hh, hr⟩
end Go.Proofs.Ytfaoeccnhbcjgab
