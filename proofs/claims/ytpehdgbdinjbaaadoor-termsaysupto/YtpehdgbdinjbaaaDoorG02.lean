/- What is proved here: plain facts and contracts that the claimed theorem stands on, several texts in one: plain facts on terms p trees (a tree's index bounds its depth), how such a tree lies in the model's memory, and that it still lies there when only new memory has turned. No condition. strings.Builder's WriteByte and WriteString onto a builder that the call has made, and strconv.Itoa: what is written, and what stays as it was. Condition: what is held takes at most 2^47 bytes. the document's list of all terms in a term ('all'): for every term that lies in memory, with at most 2097152 terms in it, it returns two new slices, of the terms and of how deep they stand, and turns no memory that was there. a plain fact: a term has at most as many terms in it as it holds terms and letters. No condition. term.write of a term that lies in memory, onto a builder that the call has made, writes the plain function wtext of it, and turns nothing else. Conditions: what is held takes at most 2^47 bytes; the library's table of powers lies as its text lays it. term.write, for every term that lies in memory, onto a builder that the call has made: it writes the plain function wtext of it, and turns nothing else. Conditions: what is held takes at most 2^47 bytes; the library's table of powers lies as its text lays it. -/
import Derived.Test.YtpehdgbdinjbaaaDoorRows
import Derived.WalkKit
import Derived.WalkSpells
import Derived.WalkLawsBesides
import Derived.Test.YtpehdgbdinjbaaaDoorG01
import Derived.Lib.AppendIntMem
import Derived.Deep.AppendLies
import Derived.Lib.ItoaLen
namespace Go.Proofs.YtpehdgbdinjbaaaDoor
open Go.RowKit

theorem ret_int {k : IntKind} {a b : Int} (h : a = b) : Ending.returned (.int k a) = .returned (.int k b) := by rw [h]
theorem hide {p : Prop} (h : p) : Hid p := h

theorem below_undrew {w w1 : World} (h : Below w.drew.heap.size w.drew w1) : Below w.heap.size w w1 := ⟨h.os, h.tape, h.output, h.size, h.block⟩
theorem below_cells {B : Nat} {w w1 : World} (h : Below B w w1) : ∀ b o, b < B → w1.cell? ⟨b, o, none⟩ = w.cell? ⟨b, o, none⟩ := fun b o hb => h.cell (p := ⟨b, o, none⟩) hb

/-- A term: Kind, N, Name; where its Args lie, and their capacity; its Args, each one less deep. -/
def Tm : Nat → Type
  | 0 => Unit
  | n + 1 => (Int × Int × ByteArray) × (Option Addr × Nat) × List (Tm n)

/-- Its value, p a struct that is handed on. -/
def val : (n : Nat) → Tm n → Value
  | 0, _ => .nilIface
  | _ + 1, x => .agg #[.int .i64 x.1.1, .int .i64 x.1.2.1, .string x.1.2.2, .slice x.2.1.1 x.2.2.length x.2.1.2]

/-- Its four cells lie at an offset of a block. -/
def Held (w : World) (b o : Nat) : (n : Nat) → Tm n → Prop
  | 0, _ => False
  | _ + 1, x => w.cell? ⟨b, o, none⟩ = some (.int .i64 x.1.1) ∧ w.cell? ⟨b, o + 1, none⟩ = some (.int .i64 x.1.2.1) ∧
      w.cell? ⟨b, o + 2, none⟩ = some (.string x.1.2.2) ∧ w.cell? ⟨b, o + 3, none⟩ = some (.slice x.2.1.1 x.2.2.length x.2.1.2)

def I64 (k : Int) : Prop := -9223372036854775808 ≤ k ∧ k ≤ 9223372036854775807

/-- What a term leads to lies in blocks below B. -/
def In (B : Nat) (w : World) : (n : Nat) → Tm n → Prop
  | 0, _ => False
  | n + 1, x => (I64 x.1.1 ∧ I64 x.1.2.1 ∧ x.1.2.2.size ≤ maxLen ∧ x.2.2.length ≤ x.2.1.2 ∧ x.2.1.2 ≤ maxLen) ∧
      (x.2.2 = [] ∨ ∃ b o, x.2.1.1 = some ⟨b, o, none⟩ ∧ b < B ∧ ∀ (i : Nat) (y : Tm n), x.2.2[i]? = some y → Held w b (o + i * 4) n y ∧ In B w n y)

theorem Held.below {B : Nat} {w w' : World} (h : Below B w w') {b o : Nat} (hb : b < B) : {n : Nat} → {x : Tm n} → Held w b o n x → Held w' b o n x
  | 0, _, k => k
  | _ + 1, _, k => by
    obtain ⟨k0, k1, k2, k3⟩ := k
    exact ⟨(h.cell (p := ⟨b, o, none⟩) hb).trans k0, (h.cell (p := ⟨b, o + 1, none⟩) hb).trans k1, (h.cell (p := ⟨b, o + 2, none⟩) hb).trans k2, (h.cell (p := ⟨b, o + 3, none⟩) hb).trans k3⟩

theorem In.below {B : Nat} {w w' : World} (h : Below B w w') : {n : Nat} → {x : Tm n} → In B w n x → In B w' n x
  | 0, _, k => k
  | _ + 1, _, k => by
    obtain ⟨k0, k1⟩ := k
    refine ⟨k0, ?_⟩
    rcases k1 with k1 | ⟨b, o, e, hb, k1⟩
    · exact Or.inl k1
    · exact Or.inr ⟨b, o, e, hb, fun i y hy => ⟨(k1 i y hy).1.below h hb, (k1 i y hy).2.below h⟩⟩

theorem In.mono {B C : Nat} (hBC : B ≤ C) {w : World} : {n : Nat} → {x : Tm n} → In B w n x → In C w n x
  | 0, _, k => k
  | _ + 1, _, k => by
    obtain ⟨k0, k1⟩ := k
    refine ⟨k0, ?_⟩
    rcases k1 with k1 | ⟨b, o, e, hb, k1⟩
    · exact Or.inl k1
    · exact Or.inr ⟨b, o, e, by omega, fun i y hy => ⟨(k1 i y hy).1, (k1 i y hy).2.mono hBC⟩⟩

/-- -1, 0, 1: p two numbers stand to each other. -/
def cmpI (x y : Int) : Int := if x < y then -1 else if y < x then 1 else 0
def cmpS (x y : ByteArray) : Int := if Op.bytesLess x.toList y.toList then -1 else if !Op.bytesLess x.toList y.toList && !(x.toList == y.toList) then 1 else 0

/-- The first that isn't 0, of what two lists give place by place. -/
def ordL {α β : Type} (f : α → β → Int) : List α → List β → Int
  | a :: p, b :: q => if f a b = 0 then ordL f p q else f a b
  | _, _ => 0

def ord : (n : Nat) → Tm n → (m : Nat) → Tm m → Int
  | n + 1, x, m + 1, y =>
    if x.1.1 = y.1.1 then
      if x.1.1 = 1 ∨ x.1.1 = 3 ∨ x.1.1 = 5 then cmpI x.1.2.1 y.1.2.1
      else if x.1.1 = 2 then cmpS x.1.2.2 y.1.2.2
      else if x.1.1 = 4 then
        if x.2.2.length = y.2.2.length then ordL (fun a b => ord n a m b) x.2.2 y.2.2 else cmpI x.2.2.length y.2.2.length
      else 0
    else cmpI x.1.1 y.1.1
  | _, _, _, _ => 0

theorem ordL_drop {α β : Type} (f : α → β → Int) (p : List α) (q : List β) (k : Nat) (a : α) (b : β) (ha : p[k]? = some a) (hb : q[k]? = some b) :
    ordL f (p.drop k) (q.drop k) = if f a b = 0 then ordL f (p.drop (k + 1)) (q.drop (k + 1)) else f a b := by
  obtain ⟨h1, e1⟩ := List.getElem?_eq_some_iff.1 ha
  obtain ⟨h2, e2⟩ := List.getElem?_eq_some_iff.1 hb
  rw [List.drop_eq_getElem_cons h1, List.drop_eq_getElem_cons h2, e1, e2]
  rfl

end Go.Proofs.YtpehdgbdinjbaaaDoor
namespace Go.Proofs.YtpehdgbdinjbaaaDoor
open Go.RowKit

theorem infoByte : (Tryd.prog.info? 5).map (fun i => (i.zero, i.size, i.bytes)) = some (some (.int .u8 0), 1, 1) := by kernel_rfl
theorem sizeBuilder : (Tryd.prog.info? 41).map (·.size) = some 2 := by kernel_rfl
theorem liesBuilder : liesAt Tryd.prog Tryd.prog.depth 41 (2 / Tryd.prog.cellsOf 41) 0 41 1 = true := by kernel_rfl

/-- The builder in block b, from base B on, holds these bytes. -/
def Bu (B b : Nat) (l : List UInt8) (w : World) : Prop := Lib.IsBuilderF 41 5 B b (Lib.byteCells l) w
/-- What a write leaves: the bytes behind those that were, all below B, and every other block that is no row of bytes. -/
def Wrote (B b : Nat) (l : List UInt8) (w w' : World) : Prop := Bu B b l w' ∧ Below B w w' ∧ Lib.OthersKept 5 (some b) w w'

set_option maxRecDepth 100000 in
theorem copyCheck_used (b : Nat) (w : World) (h0 : w.cell? ⟨b, 0, none⟩ = some (.pointer (some ⟨b, 0, none⟩))) :
    Calls Tryd.prog 28 #[.pointer (some ⟨b, 0, none⟩)] w fun e w' => e = .returned (.tuple #[]) ∧ w' = w := by
  obtain ⟨j, hj, _⟩ := Option.map_eq_some_iff.1 sizeBuilder
  go_enter Tryd.func28, Tryd.ntmps28
  go_wp2
  rw [Lib.run_neq_ptr_same w _ Tryd.underlying38 hj]
  go_wp2
  go_end0
  exact ⟨rfl, rfl⟩

set_option maxRecDepth 100000 in
theorem copyCheck_fresh (b : Nat) (w : World) (h0 : w.cell? ⟨b, 0, none⟩ = some (.pointer none)) (hsh : w.shape? b = some (41, 2)) (hfz : w.frozen? ⟨b, 0, none⟩ = false) :
    Calls Tryd.prog 28 #[.pointer (some ⟨b, 0, none⟩)] w fun e w' => e = .returned (.tuple #[]) ∧ w' = w.setCell ⟨b, 0, none⟩ (.pointer (some ⟨b, 0, none⟩)) := by
  obtain ⟨j, hj, hjs⟩ := Option.map_eq_some_iff.1 sizeBuilder
  go_enter Tryd.func28, Tryd.ntmps28
  go_wp2
  rw [Lib.run_to_unsafe w ⟨b, 0, none⟩ Tryd.underlying38 Tryd.underlying59 hj (by rw [hjs]; decide) hsh (Nat.zero_lt_succ 1)]
  simp only [Result.andThen]
  rw [Oper.upon_value]
  go_wp2
  rw [run_callFunc_extern Tryd.func34 (by kernel_rfl) (by kernel_rfl) (by kernel_rfl) (e := Extern.AbiNoEscape.same) (by kernel_rfl)]
  rw [Lib.run_noEscape]
  simp only [Result.andThen]
  rw [Oper.upon_value]
  go_wp2
  rw [Lib.run_from_unsafe w ⟨b, 0, none⟩ Tryd.underlying59 Tryd.underlying38 hj hsh liesBuilder]
  simp only [Result.andThen]
  rw [Oper.upon_value]
  go_wp2
  go_end0
  exact ⟨rfl, rfl⟩

theorem copyCheck_any (B b : Nat) (l : List UInt8) (w : World) (h : Bu B b l w) :
    Calls Tryd.prog 28 #[.pointer (some ⟨b, 0, none⟩)] w fun e w' => e = .returned (.tuple #[]) ∧ Lib.BuilderAtF 41 5 B b (.pointer (some ⟨b, 0, none⟩)) (Lib.byteCells l) w' ∧ Below B w w' ∧ Lib.OthersKept 5 (some b) w w' := by
  rcases h with h | h
  · refine (copyCheck_fresh b w h.cell0 h.shape h.frozen0).mono ?_
    rintro e w' ⟨rfl, rfl⟩
    exact ⟨rfl, h.used _, (Below.refl B w).setCell (p := ⟨b, 0, none⟩) h.1 _, (Lib.OthersKept.refl _ _ w).setCell ⟨b, 0, none⟩ rfl _⟩
  · refine (copyCheck_used b w h.cell0).mono ?_
    rintro e w' ⟨rfl, rfl⟩
    exact ⟨rfl, h, Below.refl B _, Lib.OthersKept.refl _ _ _⟩

theorem lt_of_heap {w : World} {b : Nat} {o : Obj} (h : w.heap[b]? = some o) : b < w.heap.size := (Array.getElem?_eq_some_iff.1 h).1

set_option maxHeartbeats 1000000 in
set_option maxRecDepth 100000 in
theorem writeByte_any (B b : Nat) (l : List UInt8) (c : UInt8) (w : World) (h : Bu B b l w) (hlen : l.length + 1 ≤ 140737488355328) (hBw : B ≤ w.heap.size) :
    Calls Tryd.prog 22 #[.pointer (some ⟨b, 0, none⟩), .int .u8 c.toNat] w fun e w' => e = .returned .nilIface ∧ Wrote B b (l ++ [c]) w w' := by
  obtain ⟨i0, hi, hz0, hz1, hz2⟩ := info_parts infoByte
  have hbl := Lib.byteCells_length l
  have HBL := hide hbl
  have HI := hide (⟨hi, hz0, hz1, hz2⟩ : _ ∧ _ ∧ _ ∧ _)
  clear hbl hi hz0 hz1 hz2
  go_enter Tryd.func22, Tryd.ntmps22
  go_wp2_with fail
  refine (copyCheck_any B b l _ h).mono ?_
  rintro e w1 ⟨rfl, h1, hb1, hk1⟩
  obtain ⟨hB, v, hbk, hown, hne⟩ := h1
  have c0 : w1.cell? ⟨b, 0, none⟩ = some (.pointer (some ⟨b, 0, none⟩)) := by rw [Lib.cell_of_heap hbk]; rfl
  have c1 : w1.cell? ⟨b, 1, none⟩ = some v := by rw [Lib.cell_of_heap hbk]; rfl
  have H1 := hide (⟨hB, hbk, hown, hne, hb1, hk1⟩ : _ ∧ _ ∧ _ ∧ _ ∧ _ ∧ _)
  clear hB hbk hown hne hb1 hk1
  go_wp2_with (at_builtin; refine wpList_append_ownF _ rfl _ _ 39 rfl B 5 i0 (.int .u8 0) 1 1 Tryd.underlying39 HI.out.1 HI.out.2.1 HI.out.2.2.1 HI.out.2.2.2 rfl (by decide) _ _ _ rfl (H1.out.2.2.1.alloc _) ⟨w1.heap.size, 0, none⟩ 1 1 [.int .u8 c.toNat] rfl rfl ?c1 ?c2 ?c3 ?c4 ?c5 ?_)
  case c1 =>
    intro j u hj
    match j, hj with
    | 0, hj => simp at hj; subst hj; simp [Addr.add]
  case c2 => intro u hu; simp at hu; subst hu; rfl
  case c3 => rw [HBL.out]; unfold maxLen; omega
  case c4 => rw [HBL.out]; omega
  case c5 => have := H1.out.2.2.2.2.1.size; simp; omega
  intro v' w2 hown' hgrow _
  obtain ⟨hB, hbk, hown, hne, hb1, hk1⟩ := H1.out
  have hlt := lt_of_heap hbk
  have hb2 : w2.heap[b]? = some (.cells #[.pointer (some ⟨b, 0, none⟩), v] 41 (0, 0)) := by
    rw [hgrow.block b (by simp; omega) (fun e => hne e.symm), Lib.alloc_old w1 _ b hlt]
    exact hbk
  have d0 : w2.cell? ⟨b, 0, none⟩ = some (.pointer (some ⟨b, 0, none⟩)) := by rw [Lib.cell_of_heap hb2]; rfl
  have d1 : w2.cell? ⟨b, 1, none⟩ = some v := by rw [Lib.cell_of_heap hb2]; rfl
  have f1 : w2.frozen? ⟨b, 1, none⟩ = false := Lib.frozen_of_heap hb2 1
  obtain ⟨g, cap, rfl⟩ : ∃ g cap, v' = .slice (some ⟨g, 0, none⟩) ((Lib.byteCells l).length + 1) cap := by
    rcases hown'.2 with ⟨_, h0⟩ | ⟨g, cap, cur, fz, hv, _⟩
    · omega
    · exact ⟨g, cap, hv⟩
  have H2 := hide (⟨hown', hgrow, hb2⟩ : _ ∧ _ ∧ _)
  clear hown' hgrow hb2 hbk hown hne hb1 hk1 c0 c1
  go_wp2
  go_ret
  obtain ⟨hB, hbk, hown, hne, hb1, hk1⟩ := H1.out
  obtain ⟨hown', hgrow, hb2⟩ := H2.out
  refine ⟨rfl, Or.inr ?_, ?_, ((hk1.alloc _).grown hgrow (Lib.ownsRowF_kind (hown.alloc _))).setCell ⟨b, 1, none⟩ rfl _⟩
  · have e : Lib.byteCells (l ++ [c]) = Lib.byteCells l ++ [.int .u8 c.toNat] := by simp [Lib.byteCells]
    rw [e]
    exact Lib.BuilderAtF.put (T := 41) (e := 5) hB hb2 (by simpa using hown') (by decide)
  · exact ((hb1.alloc (by have := hb1.size; omega) _).grown hgrow (by have := hb1.size; simp; omega) (fun k hk => (hown.lt k hk).1)).setCell (p := ⟨b, 1, none⟩) hB _

set_option maxHeartbeats 1000000 in
set_option maxRecDepth 100000 in
theorem writeString_any (B b : Nat) (l : List UInt8) (s : ByteArray) (w : World) (h : Bu B b l w) (hlen : l.length + s.size ≤ 140737488355328) (hBw : B ≤ w.heap.size) :
    Calls Tryd.prog 21 #[.pointer (some ⟨b, 0, none⟩), .string s] w fun e w' => e = .returned (.tuple #[.int .i64 s.size, .nilIface]) ∧ Wrote B b (l ++ s.data.toList) w w' := by
  obtain ⟨i0, hi, hz0, hz1, hz2⟩ := info_parts infoByte
  have HBL := hide (Lib.byteCells_length l)
  have HI := hide (⟨hi, hz0, hz1, hz2⟩ : _ ∧ _ ∧ _ ∧ _)
  clear hi hz0 hz1 hz2
  go_enter Tryd.func21, Tryd.ntmps21
  go_wp2_with fail
  refine (copyCheck_any B b l _ h).mono ?_
  rintro e w1 ⟨rfl, h1, hb1, hk1⟩
  obtain ⟨hB, v, hbk, hown, hne⟩ := h1
  have c0 : w1.cell? ⟨b, 0, none⟩ = some (.pointer (some ⟨b, 0, none⟩)) := by rw [Lib.cell_of_heap hbk]; rfl
  have c1 : w1.cell? ⟨b, 1, none⟩ = some v := by rw [Lib.cell_of_heap hbk]; rfl
  have H1 := hide (⟨hB, hbk, hown, hne, hb1, hk1⟩ : _ ∧ _ ∧ _ ∧ _ ∧ _ ∧ _)
  clear hB hbk hown hne hb1 hk1
  go_wp2_with (at_builtin; refine Lib.wpList_append_own_stringF _ rfl _ _ 39 9 rfl B 5 i0 Tryd.underlying39 Tryd.underlying9 HI.out.1 HI.out.2.1 HI.out.2.2.1 HI.out.2.2.2 _ _ _ rfl H1.out.2.2.1 s rfl ?c3 ?c4 ?c5 ?_)
  case c3 => rw [HBL.out]; unfold maxLen; omega
  case c4 => rw [HBL.out]; omega
  case c5 => have := H1.out.2.2.2.2.1.size; omega
  intro v' w2 hown' hgrow _
  obtain ⟨hB, hbk, hown, hne, hb1, hk1⟩ := H1.out
  have hlt := lt_of_heap hbk
  have hb2 : w2.heap[b]? = some (.cells #[.pointer (some ⟨b, 0, none⟩), v] 41 (0, 0)) := by
    rw [hgrow.block b hlt (fun e => hne e.symm)]
    exact hbk
  have d0 : w2.cell? ⟨b, 0, none⟩ = some (.pointer (some ⟨b, 0, none⟩)) := by rw [Lib.cell_of_heap hb2]; rfl
  have d1 : w2.cell? ⟨b, 1, none⟩ = some v := by rw [Lib.cell_of_heap hb2]; rfl
  have f1 : w2.frozen? ⟨b, 1, none⟩ = false := Lib.frozen_of_heap hb2 1
  obtain ⟨ao, n', cap, rfl⟩ : ∃ ao n' cap, v' = .slice ao n' cap := by
    rcases hown'.2 with ⟨hv, _⟩ | ⟨g, cap, cur, fz, hv, _⟩
    · exact ⟨_, _, _, hv⟩
    · exact ⟨_, _, _, hv⟩
  have H2 := hide (⟨hown', hgrow, hb2⟩ : _ ∧ _ ∧ _)
  clear hown' hgrow hb2 hbk hown hne hb1 hk1 c0 c1
  go_wp2
  go_ret2
  obtain ⟨hB, hbk, hown, hne, hb1, hk1⟩ := H1.out
  obtain ⟨hown', hgrow, hb2⟩ := H2.out
  refine ⟨rfl, Or.inr ?_, ?_, (hk1.grown hgrow (Lib.ownsRowF_kind hown)).setCell ⟨b, 1, none⟩ rfl _⟩
  · have e : Lib.byteCells (l ++ s.data.toList) = Lib.byteCells l ++ Lib.strCells s := by rw [Lib.byteCells_append]; rfl
    rw [e]
    exact Lib.BuilderAtF.put (T := 41) (e := 5) hB hb2 (bs' := Lib.byteCells l ++ Lib.strCells s) (by simpa [Lib.strCells_length] using hown') (by decide)
  · exact (hb1.grown hgrow (by have := hb1.size; omega) (fun k hk => (hown.lt k hk).1)).setCell (p := ⟨b, 1, none⟩) hB _

theorem Bu.old {B b : Nat} {l : List UInt8} {w w' : World} (h : Bu B b l w) (hb : Below w.heap.size w w') : Bu B b l w' := by
  have key : ∀ p, Lib.BuilderAtF 41 5 B b p (Lib.byteCells l) w → Lib.BuilderAtF 41 5 B b p (Lib.byteCells l) w' := by
    rintro p ⟨hB, v, hbk, hown, hne⟩
    refine ⟨hB, v, (hb.block b (lt_of_heap hbk)).trans hbk, ?_, hne⟩
    obtain ⟨h1, h2⟩ := hown
    refine ⟨h1, ?_⟩
    rcases h2 with h2 | ⟨g, cap, cur, fz, hv, hg, hh, r⟩
    · exact Or.inl h2
    · exact Or.inr ⟨g, cap, cur, fz, hv, hg, (hb.block g (lt_of_heap hh)).trans hh, r⟩
  exact h.imp (key _) (key _)
theorem Bu.lt {B b : Nat} {l : List UInt8} {w : World} (h : Bu B b l w) : B ≤ b ∧ b < w.heap.size := by
  rcases h with h | h
  · exact ⟨h.1, h.lt⟩
  · exact ⟨h.1, h.lt⟩
/-- Where all that was is as it was, all is kept. -/
theorem kept_old {b : Option Nat} {w w' : World} (hb : Below w.heap.size w w') : Lib.OthersKept 5 b w w' := fun k _ hk _ _ => (hb.block k (lt_of_heap hk)).trans hk
/-- A box that is kept. -/
theorem kept_cell {b : Nat} {w w' : World} (h : Lib.OthersKept 5 (some b) w w') {k : Nat} {cs : Array Value} {t : TypeId} {fr : Nat × Nat} (hk : w.heap[k]? = some (.cells cs t fr)) (hne : k ≠ b) (ht : t ≠ 5) :
    w'.heap[k]? = some (.cells cs t fr) := h k _ hk (by simpa using hne) (fun c fz e => by injection e with _ e2 _; exact ht e2)

/-- The library's table of powers lies as its text lays it, whatever is done from block B on. -/
def Tab (B : Nat) (w : World) : Prop := Lib.TabBelow Tryd.prog B w "internal/strconv.uint64pow10" .u64 Lib.pow10Tab
theorem itoa_any (n : Int) (h0 : -9223372036854775808 ≤ n) (h1 : n ≤ 9223372036854775807) (B : Nat) (w : World) (htab : Tab B w) :
    Calls Tryd.prog 15 #[.int .i64 n] w fun e w' => e = .returned (.string ⟨(Lib.itoa n).toArray⟩) ∧ Below w.heap.size w w' := by
  refine (Tryd.strconv_Itoa n h0 h1 w htab.here).mono ?_
  rintro e w' ⟨rfl, k, os, rfl⟩
  exact ⟨rfl, Lib.below_grow _ _ (Nat.le_refl _) _ _⟩
end Go.Proofs.YtpehdgbdinjbaaaDoor
namespace Go.Proofs.YtpehdgbdinjbaaaDoor
open Go.RowKit

/-- One term of the list: its own cells, its Args as a slice. -/
abbrev Nd : Type := (Int × Int × ByteArray) × (Option Addr × Nat × Nat)
def nd4 (x : Nd) : List Value := [.int .i64 x.1.1, .int .i64 x.1.2.1, .string x.1.2.2, .slice x.2.1 x.2.2.1 x.2.2.2]
def ndCells (l : List Nd) : List Value := l.flatMap nd4
def ints (l : List Int) : List Value := l.map fun d => .int .i64 d

def nodes : (n : Nat) → Tm n → List Nd
  | 0, _ => [((0, 0, .empty), (none, 0, 0))]
  | n + 1, x => (x.1, (x.2.1.1, x.2.2.length, x.2.1.2)) :: x.2.2.flatMap fun y => nodes n y
def deeps : (n : Nat) → Tm n → Int → List Int
  | 0, _, d => [d]
  | n + 1, x, d => d :: x.2.2.flatMap fun y => deeps n y (d + 1)

theorem flat_length {α β γ : Type} (f : α → List β) (g : α → List γ) (h : ∀ a, (f a).length = (g a).length) (l : List α) : (l.flatMap f).length = (l.flatMap g).length := by
  induction l with
  | nil => rfl
  | cons a l ih => simp only [List.flatMap_cons, List.length_append, ih, h]
theorem deeps_length : (n : Nat) → (x : Tm n) → (d : Int) → (deeps n x d).length = (nodes n x).length
  | 0, _, _ => rfl
  | n + 1, x, d => by
    simp only [deeps, nodes, List.length_cons]
    rw [flat_length (fun y => deeps n y (d + 1)) (fun y => nodes n y) (fun y => deeps_length n y (d + 1))]
theorem ndCells_length (l : List Nd) : (ndCells l).length = l.length * 4 := by
  induction l with
  | nil => rfl
  | cons a l ih => simp only [ndCells, List.flatMap_cons, List.length_append, List.length_cons] at ih ⊢; rw [ih]; simp [nd4]; omega
theorem ndCells_append (l r : List Nd) : ndCells (l ++ r) = ndCells l ++ ndCells r := by simp [ndCells]
theorem ints_append (l r : List Int) : ints (l ++ r) = ints l ++ ints r := by simp [ints]
theorem ndCells_one (l : List Nd) : ∀ u ∈ ndCells l, u.oneCell' = true := by
  intro u hu
  simp only [ndCells, List.mem_flatMap, nd4] at hu
  obtain ⟨a, _, hu⟩ := hu
  simp at hu
  rcases hu with rfl | rfl | rfl | rfl <;> rfl
theorem ints_one (l : List Int) : ∀ u ∈ ints l, u.oneCell' = true := by
  intro u hu
  simp only [ints, List.mem_map] at hu
  obtain ⟨a, _, rfl⟩ := hu
  rfl
theorem take_flat {α β : Type} (f : α → List β) (l : List α) (k : Nat) (x : α) (h : l[k]? = some x) : (l.take (k + 1)).flatMap f = (l.take k).flatMap f ++ f x := by
  obtain ⟨h1, e1⟩ := List.getElem?_eq_some_iff.1 h
  rw [List.take_succ_eq_append_getElem h1, e1]
  simp
theorem take_le {α β : Type} (f : α → List β) (l : List α) (k : Nat) : ((l.take k).flatMap f).length ≤ (l.flatMap f).length := by
  conv => rhs; rw [← List.take_append_drop k l]
  rw [List.flatMap_append, List.length_append]
  omega

theorem own_one {w : World} {base e size : Nat} (cs : Array Value) (hb : base ≤ w.heap.size) (hs : cs.size = size) :
    (w.alloc (.cells cs e)).ownsRow base e size (.slice (some ⟨w.heap.size, 0, none⟩) 1 1) 1 cs.toList :=
  ⟨by simp [hs], .inr ⟨w.heap.size, 1, cs, rfl, hb, heap_alloc_new w _, Nat.le_refl _, by unfold maxLen; omega, by omega, by rw [List.take_of_length_le]; simp [hs]⟩⟩
theorem own_below {w w' : World} {base e size : Nat} {v : Value} {n : Nat} {xs : List Value} (h : w.ownsRow base e size v n xs) (hb : Below w.heap.size w w') : w'.ownsRow base e size v n xs :=
  h.kept (row := none) ⟨hb.os, hb.tape, hb.output, hb.size, fun k hk _ => hb.block k hk⟩ (by cases v.ownBlock <;> simp)
theorem own_base {w : World} {base base' e size : Nat} {v : Value} {n : Nat} {xs : List Value} (h : w.ownsRow base e size v n xs) (hb : base' ≤ base) : w.ownsRow base' e size v n xs := by
  obtain ⟨h1, h2⟩ := h
  refine ⟨h1, ?_⟩
  rcases h2 with h2 | ⟨g, cap, cur, hv, hg, hh, r⟩
  · exact Or.inl h2
  · exact Or.inr ⟨g, cap, cur, hv, by omega, hh, r⟩
theorem own_lt {w : World} {base e size : Nat} {g n cap : Nat} {xs : List Value} (h : w.ownsRow base e size (.slice (some ⟨g, 0, none⟩) n cap) n xs) : base ≤ g ∧ g < w.heap.size := h.lt g rfl

def F14 (n : Nat) : Prop := ∀ (x : Tm n) (d : Int) (B : Nat) (w : World), In B w n x → B ≤ w.heap.size → 0 ≤ d → d + (nodes n x).length ≤ 2097152 →
  Calls Tryd.prog 12 #[val n x, .int .i64 d] w fun e w' => ∃ g c h c', e = .returned (.tuple #[.slice (some ⟨g, 0, none⟩) (nodes n x).length c, .slice (some ⟨h, 0, none⟩) (nodes n x).length c']) ∧
    Hid (g ≠ h ∧ Below w.heap.size w w' ∧ w'.ownsRow w.heap.size 24 4 (.slice (some ⟨g, 0, none⟩) (nodes n x).length c) (nodes n x).length (ndCells (nodes n x)) ∧
      w'.ownsRow w.heap.size 3 1 (.slice (some ⟨h, 0, none⟩) (nodes n x).length c') (nodes n x).length (ints (deeps n x d)))

theorem infoTerm : (Tryd.prog.info? 24).map (fun i => (i.zero, i.size, i.bytes)) = some (some (.agg #[.int .i64 0, .int .i64 0, .string .empty, .slice none 0 0]), 4, 56) := by kernel_rfl
theorem infoInt : (Tryd.prog.info? 3).map (fun i => (i.zero, i.size, i.bytes)) = some (some (.int .i64 0), 1, 8) := by kernel_rfl

/-- What holds behind k rounds. -/
def AllP (n : Nat) (p : List (Tm n)) (hd : Nd) (d : Int) (w : World) (k g c h c' L : Nat) (wr : World) : Prop :=
  L = 1 + ((p.take k).flatMap fun y => nodes n y).length ∧ g ≠ h ∧ Below w.heap.size w wr ∧
    wr.ownsRow (w.heap.size + 1) 24 4 (.slice (some ⟨g, 0, none⟩) L c) L (ndCells (hd :: (p.take k).flatMap fun y => nodes n y)) ∧
    wr.ownsRow (w.heap.size + 1) 3 1 (.slice (some ⟨h, 0, none⟩) L c') L (ints (d :: (p.take k).flatMap fun y => deeps n y (d + 1)))

theorem all_start (n : Nat) (p : List (Tm n)) (hd : Nd) (d : Int) (w : World) (o : Obj) :
    AllP n p hd d w 0 (w.heap.size + 1) 1 (w.heap.size + 1 + 1) 1 1 (((w.alloc o).alloc (.cells (nd4 hd).toArray 24)).alloc (.cells #[.int .i64 d] 3)) := by
  refine ⟨by simp, by omega, (((Below.refl _ _).alloc (Nat.le_refl _) _).alloc (by simp) _).alloc (by simp; omega) _, ?_, ?_⟩
  · have h := own_one (w := w.alloc o) (base := w.heap.size + 1) (e := 24) (size := 4) (nd4 hd).toArray (by simp) (by simp [nd4])
    have h2 := h.alloc (.cells #[.int .i64 d] 3)
    have e : (w.alloc o).heap.size = w.heap.size + 1 := by simp
    rw [e] at h2
    simpa [ndCells] using h2
  · have h := own_one (w := (w.alloc o).alloc (.cells (nd4 hd).toArray 24)) (base := w.heap.size + 1) (e := 3) (size := 1) #[.int .i64 d] (by simp) (by simp)
    have e : ((w.alloc o).alloc (.cells (nd4 hd).toArray 24)).heap.size = w.heap.size + 1 + 1 := by simp
    rw [e] at h
    simpa [ints] using h

/-- Behind the call of itself, and behind the first append: what the second append needs. -/
theorem all_mid {n : Nat} {p : List (Tm n)} {hd : Nd} {d : Int} {w wr w1 w2 : World} {k g c h c' L : Nat} (H : AllP n p hd d w k g c h c' L wr) (hb : Below wr.heap.size wr w1) {h1 M c1 : Nat} {zs : List Value}
    (hr : w1.ownsRow wr.heap.size 3 1 (.slice (some ⟨h1, 0, none⟩) M c1) M zs) (hg : w1.grownBy w2 (some g)) :
    w2.ownsRow (w.heap.size + 1) 3 1 (.slice (some ⟨h, 0, none⟩) L c') L (ints (d :: (p.take k).flatMap fun y => deeps n y (d + 1))) ∧
      w2.ownsRow wr.heap.size 3 1 (.slice (some ⟨h1, 0, none⟩) M c1) M zs := by
  obtain ⟨_, hne, _, o1, o2⟩ := H
  have l1 := own_lt o1
  have l3 := own_lt hr
  refine ⟨(own_below o2 hb).kept hg (Or.inr (by simp [Value.ownBlock]; omega)), hr.kept hg (Or.inr (by simp [Value.ownBlock]; omega))⟩

/-- A round's end. -/
theorem all_end {n : Nat} {p : List (Tm n)} {hd : Nd} {d : Int} {w wr w1 w2 w3 : World} {k g c h c' L : Nat} (H : AllP n p hd d w k g c h c' L wr) (hb : Below wr.heap.size wr w1) (x : Tm n) (hx : p[k]? = some x)
    {g2 c2 g3 c3 : Nat} (h2 : w2.ownsRow (w.heap.size + 1) 24 4 (.slice (some ⟨g2, 0, none⟩) (L + (nodes n x).length) c2) (L + (nodes n x).length) (ndCells (hd :: (p.take k).flatMap fun y => nodes n y) ++ ndCells (nodes n x)))
    (gr2 : w1.grownBy w2 (some g)) (at2 : some g = some g2 ∨ g2 = w1.heap.size) (lt2 : g2 < w2.heap.size)
    (h3 : w3.ownsRow (w.heap.size + 1) 3 1 (.slice (some ⟨g3, 0, none⟩) (L + (nodes n x).length) c3) (L + (nodes n x).length) (ints (d :: (p.take k).flatMap fun y => deeps n y (d + 1)) ++ ints (deeps n x (d + 1))))
    (gr3 : w2.grownBy w3 (some h)) (at3 : some h = some g3 ∨ g3 = w2.heap.size) :
    AllP n p hd d w (k + 1) g2 c2 g3 c3 (L + (nodes n x).length) w3 ∧ (∀ o, w3.cell? ⟨w.heap.size, o, none⟩ = wr.cell? ⟨w.heap.size, o, none⟩) := by
  obtain ⟨hL, hne, hb0, o1, o2⟩ := H
  have l1 := own_lt o1
  have l2 := own_lt o2
  have z1 := hb.size
  have z2 := gr2.size
  have z3 := gr3.size
  have hg2h : g2 ≠ h := by
    rcases at2 with e | e
    · have : g = g2 := by simpa using e
      omega
    · omega
  have hne2 : g2 ≠ g3 := by
    rcases at3 with e | e
    · have : h = g3 := by simpa using e
      omega
    · omega
  refine ⟨⟨?_, hne2, ?_, ?_, ?_⟩, ?_⟩
  · rw [take_flat _ p k x hx, List.length_append]; omega
  · have r2 : ∀ j, some g = some j → w.heap.size ≤ j := fun j e => by
      have e' : g = j := by simpa using e
      omega
    have r3 : ∀ j, some h = some j → w.heap.size ≤ j := fun j e => by
      have e' : h = j := by simpa using e
      omega
    have z0 := hb0.size
    exact ((hb0.trans (hb.mono z0)).grown gr2 (by omega) r2).grown gr3 (by omega) r3
  · have e : ndCells (hd :: (p.take (k + 1)).flatMap fun y => nodes n y) = ndCells (hd :: (p.take k).flatMap fun y => nodes n y) ++ ndCells (nodes n x) := by
      rw [take_flat _ p k x hx, ← ndCells_append]; rfl
    rw [e]
    exact h2.kept gr3 (Or.inr (by simp [Value.ownBlock]; omega))
  · have e : ints (d :: (p.take (k + 1)).flatMap fun y => deeps n y (d + 1)) = ints (d :: (p.take k).flatMap fun y => deeps n y (d + 1)) ++ ints (deeps n x (d + 1)) := by
      rw [take_flat _ p k x hx, ← ints_append]; rfl
    rw [e]
    exact h3
  · intro o
    rw [gr3.cell_far _ (by simp; omega) (by simp; omega), gr2.cell_far _ (by simp; omega) (by simp; omega)]
    exact hb.cell (p := ⟨w.heap.size, o, none⟩) (by simp; omega)

set_option maxHeartbeats 1000000 in
theorem all_loop (n : Nat) (ih : F14 n) (k0 u0 : Int) (s : ByteArray) (a : Option Addr) (pc len : Nat) (p : List (Tm n)) (hpl : Hid (p.length = len)) (d : Int) (B : Nat) (w : World)
    (hp : Hid (p = [] ∨ ∃ b o, a = some ⟨b, o, none⟩ ∧ b < B ∧ ∀ (i : Nat) (y : Tm n), p[i]? = some y → Held w b (o + i * 4) n y ∧ In B w n y))
    (hlen : len ≤ 9223372036854775807) (hB : B ≤ w.heap.size) (hd0 : 0 ≤ d) (hsum : Hid (d + (1 + (p.flatMap fun y => nodes n y).length : Nat) ≤ 2097152)) :
    Calls Tryd.prog 12 #[.agg #[.int .i64 k0, .int .i64 u0, .string s, .slice a len pc], .int .i64 d] w fun e w' =>
      ∃ g c h c' L, e = .returned (.tuple #[.slice (some ⟨g, 0, none⟩) L c, .slice (some ⟨h, 0, none⟩) L c']) ∧ Hid (L = 1 + (p.flatMap fun y => nodes n y).length) ∧
        Hid (g ≠ h ∧ Below w.heap.size w w' ∧ w'.ownsRow w.heap.size 24 4 (.slice (some ⟨g, 0, none⟩) L c) L (ndCells ((((k0, u0, s), (a, len, pc)) : Nd) :: p.flatMap fun y => nodes n y)) ∧
          w'.ownsRow w.heap.size 3 1 (.slice (some ⟨h, 0, none⟩) L c') L (ints (d :: p.flatMap fun y => deeps n y (d + 1)))) := by
  obtain ⟨it, hit, htz0, htz1, htz2⟩ := info_parts infoTerm
  obtain ⟨ii, hii, hiz0, hiz1, hiz2⟩ := info_parts infoInt
  have HT := hide (⟨hit, htz0, htz1, htz2⟩ : _ ∧ _ ∧ _ ∧ _)
  have HI := hide (⟨hii, hiz0, hiz1, hiz2⟩ : _ ∧ _ ∧ _ ∧ _)
  clear hit htz0 htz1 htz2 hii hiz0 hiz1 hiz2
  have hd1 : d ≤ 2097152 := by have := hsum.out; omega
  go_enter Tryd.func12, Tryd.ntmps12
  go_wp2_with fail
  go_loopw [6, 7, 8] (fun v1 v2 i wr => ∃ k g c h c' L : Nat, k ≤ len ∧ i = .int .i64 k ∧ v1 = .slice (some ⟨g, 0, none⟩) L c ∧ v2 = .slice (some ⟨h, 0, none⟩) L c' ∧ wr.cell? ⟨w.heap.size, 3, none⟩ = some (.slice a len pc) ∧ Hid (AllP n p ((k0, u0, s), (a, len, pc)) d w k g c h c' L wr)) (fun _ _ i _ => len - (intOf i).toNat)
  case atStart => exact ⟨0, _, _, _, _, _, by omega, rfl, rfl, rfl, by simp [go_sem], all_start n p ((k0, u0, s), (a, len, pc)) d w _⟩
  case round =>
    obtain ⟨k, g, c, h, c', L, hk, rfl, rfl, rfl, ha0, HA⟩ := hrel
    by_cases hlt : k < len
    · obtain ⟨x, hx⟩ : ∃ x, p[k]? = some x := ⟨p[k]'(by rw [hpl.out]; exact hlt), List.getElem?_eq_getElem _⟩
      have hb := HA.out.2.2.1
      have hLx : L + (nodes n x).length ≤ 2097152 ∧ d + 1 + (nodes n x).length ≤ 2097152 := by
        have e1 := HA.out.1
        have e2 := take_le (fun y => nodes n y) p (k + 1)
        rw [take_flat _ p k x hx, List.length_append] at e2
        have e3 := hsum.out
        omega
      rcases hp.out with hp | ⟨pb, po, rfl, hpb, hp⟩
      · subst hp; simp at hx
      obtain ⟨hx1, hx2⟩ := hp k x hx
      replace hx1 := hx1.below (hb.mono hB) hpb
      replace hx2 := hx2.below (hb.mono hB)
      have HX := hide hx
      clear hp hx
      cases n with
      | zero => exact hx1.elim
      | succ n =>
      obtain ⟨x0, x1, x2, x3⟩ := hx1
      have hB' : B ≤ wr.heap.size := Nat.le_trans hB hb.size
      have hM : 0 < (nodes (n + 1) x).length := by simp [nodes]
      have HC := hide (show Calls Tryd.prog 12 #[.agg #[.int .i64 x.1.1, .int .i64 x.1.2.1, .string x.1.2.2, .slice x.2.1.1 x.2.2.length x.2.1.2], .int .i64 (d + 1)] wr _ from ih x (d + 1) B wr hx2 hB' (by omega) hLx.2)
      clear ih hx2 hb
      generalize x.2.2.length = xl at *
      have HM := hide hM
      have HL := hide hLx.1
      clear hM hLx
      have hk1 : (0 : Int) ≤ (k : Int) := by omega
      have hk2 : (k : Int) < (len : Int) := by omega
      go_wp2_with fail
      refine HC.out.mono ?_
      rintro e w1 ⟨g1, c1, h1, c1', rfl, HR⟩
      have HW : Hid (w1.heap.size = w1.heap.size) := rfl
      go_wp2_with (first
        | (at_builtin; refine wpList_append_lies _ rfl _ _ 22 rfl (w.heap.size + 1) 24 it _ 4 56 Tryd.underlying22 HT.out.1 HT.out.2.1 HT.out.2.2.1 HT.out.2.2.2 rfl (by decide) _ L _ rfl (own_below HA.out.2.2.2.1 HR.out.2.1) ⟨g1, 0, none⟩ _ _ (ndCells (nodes (n + 1) x)) rfl (ndCells_length _) (HR.out.2.2.1.cells rfl) (ndCells_one _) HM.out (by have := HL.out; unfold maxLen; omega) (by have := HL.out; omega) (by have := HA.out.2.2.1.size; have := HR.out.2.1.size; have := own_lt HA.out.2.2.2.1; omega) _ rfl ?_; intro g2 c2 w2 hown2 hgrow2 hat2 hlt2; have H2 := hide (⟨hown2, hgrow2, hat2, hlt2⟩ : _ ∧ _ ∧ _ ∧ _); clear hown2 hgrow2 hat2 hlt2)
        | (at_builtin; refine wpList_append_lies _ rfl _ _ 32 rfl (w.heap.size + 1) 3 ii _ 1 8 Tryd.underlying32 HI.out.1 HI.out.2.1 HI.out.2.2.1 HI.out.2.2.2 rfl (by decide) _ L _ rfl (all_mid HA.out HR.out.2.1 HR.out.2.2.2 H2.out.2.1).1 ⟨h1, 0, none⟩ _ _ (ints (deeps (n + 1) x (d + 1))) rfl (by simp [ints, deeps_length]) ((all_mid HA.out HR.out.2.1 HR.out.2.2.2 H2.out.2.1).2.cells rfl) (ints_one _) HM.out (by have := HL.out; unfold maxLen; omega) (by have := HL.out; omega) (by have := HA.out.2.2.1.size; have := HR.out.2.1.size; have := own_lt HA.out.2.2.2.1; have := H2.out.2.1.size; omega) _ rfl ?_; intro g3 c3 w3 hown3 hgrow3 hat3 hlt3; have H3 := hide (⟨hown3, hgrow3, hat3, hlt3⟩ : _ ∧ _ ∧ _ ∧ _); clear hown3 hgrow3 hat3 hlt3))
      have HE := all_end HA.out HR.out.2.1 x HX.out H2.out.1 H2.out.2.1 H2.out.2.2.1 H2.out.2.2.2 H3.out.1 H3.out.2.1 H3.out.2.2.1
      go_roundw
      case rel => exact ⟨k + 1, _, _, _, _, _, by omega, by go_num, rfl, rfl, (HE.2 3).trans ha0, HE.1⟩
      case measure => simp [intOf]; omega
    · go_wp2_with fail
      go_ret2
      have ht : p.take k = p := List.take_of_length_le (by rw [hpl.out]; omega)
      obtain ⟨e1, e2, e3, e4, e5⟩ := HA.out
      rw [ht] at e1 e4 e5
      exact ⟨g, c, h, c', L, rfl, e1, e2, e3, own_base e4 (by omega), own_base e5 (by omega)⟩

theorem all_any (n : Nat) : F14 n := by
  induction n with
  | zero => intro x d B w hx; exact hx.elim
  | succ n ih =>
    intro x d B w hx hB hd hsum
    obtain ⟨⟨k, u, s⟩, ⟨a, pc⟩, p⟩ := x
    obtain ⟨⟨hk, hu, hs, hpl, hpc⟩, hp⟩ := hx
    simp only at hpl hpc hp
    unfold maxLen at hpc
    have hL : (nodes (n + 1) ((k, u, s), (a, pc), p)).length = 1 + (p.flatMap fun y => nodes n y).length := by simp only [nodes, List.length_cons]; omega
    rw [hL] at hsum
    refine (all_loop n ih k u s a pc p.length p rfl d B w hp (by omega) hB hd hsum).mono ?_
    rintro e w' ⟨g, c, h, c', L, rfl, hL', H⟩
    rw [hL, ← hL'.out]
    exact ⟨g, c, h, c', rfl, H⟩
end Go.Proofs.YtpehdgbdinjbaaaDoor
namespace Go.Proofs.YtpehdgbdinjbaaaDoor

/-- How much a term holds: its terms, and the letters of their names. -/
def wt : (n : Nat) → Tm n → Nat
  | 0, _ => 1
  | n + 1, x => 1 + x.1.2.2.size + (x.2.2.map fun y => wt n y).sum

theorem nodes_wt : (n : Nat) → (x : Tm n) → (nodes n x).length ≤ wt n x
  | 0, _ => by simp [nodes, wt]
  | n + 1, x => by
    have key : ∀ l : List (Tm n), (l.flatMap fun y => nodes n y).length ≤ (l.map fun y => wt n y).sum := by
      intro l
      induction l with
      | nil => simp
      | cons y l ih =>
        have := nodes_wt n y
        simp only [List.flatMap_cons, List.length_append, List.map_cons, List.sum_cons]
        omega
    have := key x.2.2
    simp only [nodes, wt, List.length_cons]
    omega
end Go.Proofs.YtpehdgbdinjbaaaDoor
namespace Go.Proofs.YtpehdgbdinjbaaaDoor
open Go.RowKit

/-- Texts, a blank between each two. -/
def jn (l : List (List UInt8)) : List UInt8 := ((l.map fun a => 32 :: a).flatten).tail
theorem jn_snoc (l : List (List UInt8)) (a : List UInt8) : jn (l ++ [a]) = if l = [] then a else jn l ++ 32 :: a := by
  unfold jn
  cases l with
  | nil => simp
  | cons b l => simp
/-- What term.write writes. -/
def wtext : (n : Nat) → Tm n → List UInt8
  | 0, _ => []
  | n + 1, x =>
    if x.1.1 = 1 then Lib.itoa x.1.2.1 else if x.1.1 = 2 then x.1.2.2.data.toList else if x.1.1 = 3 then 35 :: Lib.itoa x.1.2.1
    else if x.1.1 = 4 then 40 :: jn (x.2.2.map fun y => wtext n y) ++ [41] else if x.1.1 = 5 then 36 :: Lib.itoa x.1.2.1 else if x.1.1 = 6 then [95] else []
theorem jn_len (n : Nat) (f : Tm n → List UInt8) (l : List (Tm n)) (h : ∀ y ∈ l, (f y).length + 1 ≤ 24 * wt n y) : (jn (l.map f)).length ≤ 24 * (l.map fun y => wt n y).sum := by
  have key : ∀ l : List (Tm n), (∀ y ∈ l, (f y).length + 1 ≤ 24 * wt n y) → (((l.map f).map fun a => 32 :: a).flatten).length ≤ 24 * (l.map fun y => wt n y).sum := by
    intro l
    induction l with
    | nil => simp
    | cons y l ih =>
      intro h
      have hy := h y (by simp)
      have hr := ih (fun z hz => h z (by simp [hz]))
      simp only [List.map_cons, List.flatten_cons, List.length_append, List.length_cons, List.sum_cons]
      omega
  unfold jn
  rw [List.length_tail]
  have := key l h
  omega
theorem in_kid {B : Nat} {w : World} {n : Nat} {x : Tm (n + 1)} (h : In B w (n + 1) x) {y : Tm n} (hy : y ∈ x.2.2) : In B w n y := by
  rcases h.2 with h | ⟨b, o, _, _, h⟩
  · rw [h] at hy; cases hy
  · obtain ⟨i, hi⟩ := List.getElem?_of_mem hy
    exact (h i y hi).2
theorem wtext_len : (n : Nat) → (x : Tm n) → (B : Nat) → (w : World) → In B w n x → (wtext n x).length + 1 ≤ 24 * wt n x
  | 0, _, _, _, h => h.elim
  | n + 1, x, B, w, h => by
    have hl := jn_len n (fun y => wtext n y) x.2.2 (fun y hy => wtext_len n y B w (in_kid h hy))
    have hu : I64 x.1.2.1 := h.1.2.1
    obtain ⟨⟨k, u, s⟩, ⟨a, c⟩, p⟩ := x
    have hi := Lib.itoa_length_le u hu.1 hu.2
    have hs : s.data.toList.length = s.size := by rw [Array.length_toList]; rfl
    simp only at hl
    show (if k = 1 then Lib.itoa u else if k = 2 then s.data.toList else if k = 3 then 35 :: Lib.itoa u
      else if k = 4 then 40 :: jn (p.map fun y => wtext n y) ++ [41] else if k = 5 then 36 :: Lib.itoa u else if k = 6 then [95] else []).length + 1 ≤ 24 * (1 + s.size + (p.map fun y => wt n y).sum)
    repeat' split
    all_goals (try simp only [List.length_cons, List.length_append, List.length_nil])
    all_goals omega

theorem Wrote.trans {B b : Nat} {l l' : List UInt8} {w w1 w2 : World} (h : Wrote B b l w w1) (h' : Wrote B b l' w1 w2) : Wrote B b l' w w2 := ⟨h'.1, h.2.1.trans h'.2.1, h.2.2.trans h'.2.2⟩
theorem Wrote.old {B b : Nat} {l : List UInt8} {w w' : World} (h : Bu B b l w) (hb : Below w.heap.size w w') (hB : B ≤ w.heap.size) : Wrote B b l w w' := ⟨h.old hb, hb.mono hB, kept_old hb⟩

def FW (n : Nat) : Prop := ∀ (x : Tm n) (C B b : Nat) (l : List UInt8) (w : World), In C w n x → C ≤ B → Bu B b l w → B ≤ w.heap.size → Tab B w → l.length + 24 * wt n x ≤ 140737488355328 →
  Calls Tryd.prog 16 #[.pointer (some ⟨b, 0, none⟩), val n x] w fun e w' => e = .returned (.tuple #[]) ∧ Wrote B b (l ++ wtext n x) w w'

/-- A byte that stands as a number. -/
theorem writeByte_at (B b : Nat) (l : List UInt8) (c : Int) (c8 : UInt8) (hc : (c8.toNat : Int) = c) (w : World) (h : Bu B b l w) (hlen : l.length + 1 ≤ 140737488355328) (hBw : B ≤ w.heap.size) :
    Calls Tryd.prog 22 #[.pointer (some ⟨b, 0, none⟩), .int .u8 c] w fun e w' => e = .returned .nilIface ∧ Wrote B b (l ++ [c8]) w w' := by
  rw [← hc]
  exact writeByte_any B b l c8 w h hlen hBw
theorem box_at (w : World) (cs : Array Value) (t : TypeId) : (w.alloc (.cells cs t)).heap[w.heap.size]? = some (.cells cs t (0, 0)) := heap_alloc_new w _

set_option maxHeartbeats 1000000 in
theorem write_num (k u : Int) (s : ByteArray) (a : Option Addr) (n c : Nat) (B b : Nat) (l : List UInt8) (w : World) (hu : I64 u) (h : Bu B b l w) (hB : B ≤ w.heap.size) (ht : Tab B w) (hlen : l.length + 24 ≤ 140737488355328) (c8 : UInt8) (hk : (k = 3 ∧ c8 = 35) ∨ (k = 5 ∧ c8 = 36)) :
    Calls Tryd.prog 16 #[.pointer (some ⟨b, 0, none⟩), .agg #[.int .i64 k, .int .i64 u, .string s, .slice a n c]] w fun e w' => e = .returned (.tuple #[]) ∧ Wrote B b (l ++ c8 :: Lib.itoa u) w w' := by
  have HI := hide (Lib.itoa_length_le u hu.1 hu.2)
  have HW : Hid (∀ o, Wrote B b l w (w.alloc o)) := fun o => Wrote.old h ((Below.refl _ _).alloc (Nat.le_refl _) o) hB
  have HT := hide ht
  have HU := hide hu
  have hlt := h.lt
  clear h ht hu
  rcases hk with ⟨rfl, rfl⟩ | ⟨rfl, rfl⟩
  all_goals
    go_enter Tryd.func16, Tryd.ntmps16
    go_wp2_with fail
    refine (writeByte_at B b l _ _ (by first | exact (rfl : (((35 : UInt8).toNat : Nat) : Int) = 35) | exact (rfl : (((36 : UInt8).toNat : Nat) : Int) = 36)) _ (HW.out _).1 (by omega) (by simp; omega)).mono ?_
    rintro e w1 ⟨rfl, h1⟩
    have H1 := hide ((HW.out _).trans h1)
    have hbx := kept_cell h1.2.2 (box_at w _ 24) (by omega) (by decide)
    have hc : w1.cell? ⟨w.heap.size, 1, none⟩ = some (.int .i64 u) := by rw [Lib.cell_of_heap hbx]; rfl
    have HZ1 : Hid (B ≤ w1.heap.size) := by have := h1.2.1.size; simp at this; simp only [Hid]; omega
    clear h1 hbx
    go_wp2_with fail
    refine (itoa_any u HU.out.1 HU.out.2 B _ (HT.out.on H1.out.2.1)).mono ?_
    rintro e w2 ⟨rfl, hb2⟩
    have H2 := hide (Wrote.old H1.out.1 hb2 HZ1.out)
    have HZ2 : Hid (B ≤ w2.heap.size) := Nat.le_trans HZ1.out hb2.size
    clear hb2
    go_wp2_with fail
    refine (writeString_any B b _ _ _ H2.out.1 (by have := HI.out; simp [ByteArray.size]; omega) HZ2.out).mono ?_
    rintro e w3 ⟨rfl, h3⟩
    have H3 := hide ((H1.out.trans H2.out).trans h3)
    clear h3
    go_wp2_with fail
    go_end0
    exact ⟨rfl, by have := H3.out; simpa using this⟩
end Go.Proofs.YtpehdgbdinjbaaaDoor
namespace Go.Proofs.YtpehdgbdinjbaaaDoor
open Go.RowKit

set_option maxHeartbeats 400000 in
theorem write_int (u : Int) (s : ByteArray) (a : Option Addr) (n c : Nat) (B b : Nat) (l : List UInt8) (w : World) (hu : I64 u) (h : Bu B b l w) (hB : B ≤ w.heap.size) (ht : Tab B w) (hlen : l.length + 24 ≤ 140737488355328) :
    Calls Tryd.prog 16 #[.pointer (some ⟨b, 0, none⟩), .agg #[.int .i64 1, .int .i64 u, .string s, .slice a n c]] w fun e w' => e = .returned (.tuple #[]) ∧ Wrote B b (l ++ Lib.itoa u) w w' := by
  have HI := hide (Lib.itoa_length_le u hu.1 hu.2)
  have HW : Hid (∀ o, Wrote B b l w (w.alloc o)) := fun o => Wrote.old h ((Below.refl _ _).alloc (Nat.le_refl _) o) hB
  have HT := hide ht
  have HU := hide hu
  clear h ht hu
  go_enter Tryd.func16, Tryd.ntmps16
  go_wp2_with fail
  refine (itoa_any u HU.out.1 HU.out.2 B _ (HT.out.on (HW.out _).2.1)).mono ?_
  rintro e w2 ⟨rfl, hb2⟩
  have H2 := hide ((HW.out _).trans (Wrote.old (HW.out _).1 hb2 (by simp; omega)))
  have HZ2 : Hid (B ≤ w2.heap.size) := by have := hb2.size; simp at this; simp only [Hid]; omega
  clear hb2
  go_wp2_with fail
  refine (writeString_any B b _ _ _ H2.out.1 (by have := HI.out; simp [ByteArray.size]; omega) HZ2.out).mono ?_
  rintro e w3 ⟨rfl, h3⟩
  have H3 := hide (H2.out.trans h3)
  clear h3
  go_wp2_with fail
  go_end0
  exact ⟨rfl, by have := H3.out; simpa using this⟩

theorem write_name (u : Int) (s : ByteArray) (a : Option Addr) (n c : Nat) (B b : Nat) (l : List UInt8) (w : World) (h : Bu B b l w) (hB : B ≤ w.heap.size) (hlen : l.length + s.size ≤ 140737488355328) :
    Calls Tryd.prog 16 #[.pointer (some ⟨b, 0, none⟩), .agg #[.int .i64 2, .int .i64 u, .string s, .slice a n c]] w fun e w' => e = .returned (.tuple #[]) ∧ Wrote B b (l ++ s.data.toList) w w' := by
  have HW : Hid (∀ o, Wrote B b l w (w.alloc o)) := fun o => Wrote.old h ((Below.refl _ _).alloc (Nat.le_refl _) o) hB
  clear h
  go_enter Tryd.func16, Tryd.ntmps16
  go_wp2_with fail
  refine (writeString_any B b _ _ _ (HW.out _).1 hlen (by simp; omega)).mono ?_
  rintro e w3 ⟨rfl, h3⟩
  have H3 := hide ((HW.out _).trans h3)
  clear h3
  go_wp2_with fail
  go_end0
  exact ⟨rfl, H3.out⟩

theorem write_wild (u : Int) (s : ByteArray) (a : Option Addr) (n c : Nat) (B b : Nat) (l : List UInt8) (w : World) (h : Bu B b l w) (hB : B ≤ w.heap.size) (hlen : l.length + 1 ≤ 140737488355328) :
    Calls Tryd.prog 16 #[.pointer (some ⟨b, 0, none⟩), .agg #[.int .i64 6, .int .i64 u, .string s, .slice a n c]] w fun e w' => e = .returned (.tuple #[]) ∧ Wrote B b (l ++ [95]) w w' := by
  have HW : Hid (∀ o, Wrote B b l w (w.alloc o)) := fun o => Wrote.old h ((Below.refl _ _).alloc (Nat.le_refl _) o) hB
  clear h
  go_enter Tryd.func16, Tryd.ntmps16
  go_wp2_with fail
  refine (writeByte_at B b l _ 95 rfl _ (HW.out _).1 hlen (by simp; omega)).mono ?_
  rintro e w3 ⟨rfl, h3⟩
  have H3 := hide ((HW.out _).trans h3)
  clear h3
  go_wp2_with fail
  go_end0
  exact ⟨rfl, H3.out⟩

theorem write_else (k u : Int) (s : ByteArray) (a : Option Addr) (n c : Nat) (B b : Nat) (l : List UInt8) (w : World) (h : Bu B b l w) (hB : B ≤ w.heap.size) (k1 : ¬ k = 1) (k2 : ¬ k = 2) (k3 : ¬ k = 3) (k4 : ¬ k = 4) (k5 : ¬ k = 5) (k6 : ¬ k = 6) :
    Calls Tryd.prog 16 #[.pointer (some ⟨b, 0, none⟩), .agg #[.int .i64 k, .int .i64 u, .string s, .slice a n c]] w fun e w' => e = .returned (.tuple #[]) ∧ Wrote B b l w w' := by
  have HW : Hid (∀ o, Wrote B b l w (w.alloc o)) := fun o => Wrote.old h ((Below.refl _ _).alloc (Nat.le_refl _) o) hB
  have e1 : (k == 1) = false := by simpa using k1
  have e2 : (k == 2) = false := by simpa using k2
  have e3 : (k == 3) = false := by simpa using k3
  have e4 : (k == 4) = false := by simpa using k4
  have e5 : (k == 5) = false := by simpa using k5
  have e6 : (k == 6) = false := by simpa using k6
  clear h k1 k2 k3 k4 k5 k6
  go_enter Tryd.func16, Tryd.ntmps16
  go_wp2_with fail
  go_end0
  exact ⟨rfl, HW.out _⟩

/-- The text behind k of the parts. -/
def jnTo (n : Nat) (p : List (Tm n)) (k : Nat) : List UInt8 := jn ((p.take k).map fun y => wtext n y)
theorem jnTo_succ (n : Nat) (p : List (Tm n)) (k : Nat) (x : Tm n) (h : p[k]? = some x) : jnTo n p (k + 1) = if k = 0 then wtext n x else jnTo n p k ++ 32 :: wtext n x := by
  obtain ⟨h1, e1⟩ := List.getElem?_eq_some_iff.1 h
  unfold jnTo
  rw [List.take_succ_eq_append_getElem h1, e1, List.map_append, List.map_cons, List.map_nil, jn_snoc]
  by_cases hk : k = 0
  · subst hk; simp
  · rw [if_neg hk, if_neg]
    intro e
    have := congrArg List.length e
    rw [List.length_map, List.length_take, List.length_nil] at this
    omega
theorem jnTo_len (n : Nat) (p : List (Tm n)) (k : Nat) (h : ∀ y ∈ p, (wtext n y).length + 1 ≤ 24 * wt n y) : (jnTo n p k).length ≤ 24 * ((p.take k).map fun y => wt n y).sum :=
  jn_len n (fun y => wtext n y) (p.take k) (fun y hy => h y (List.mem_of_mem_take hy))
theorem wt_take (n : Nat) (p : List (Tm n)) (k : Nat) : ((p.take k).map fun y => wt n y).sum ≤ (p.map fun y => wt n y).sum := by
  conv => rhs; rw [← List.take_append_drop k p]
  rw [List.map_append, List.sum_append]
  omega
theorem wt_take_succ (n : Nat) (p : List (Tm n)) (k : Nat) (x : Tm n) (h : p[k]? = some x) : ((p.take k).map fun y => wt n y).sum + wt n x ≤ (p.map fun y => wt n y).sum := by
  have h1 := wt_take n p (k + 1)
  obtain ⟨h2, e2⟩ := List.getElem?_eq_some_iff.1 h
  rw [List.take_succ_eq_append_getElem h2, e2] at h1
  simpa using h1

set_option maxHeartbeats 1000000 in
theorem writeTuple_any (n : Nat) (ih : FW n) (p : List (Tm n)) (len : Nat) (hpl : Hid (p.length = len)) (a : Option Addr) (pc C B b : Nat) (l : List UInt8) (w : World)
    (hp : Hid (p = [] ∨ ∃ b o, a = some ⟨b, o, none⟩ ∧ b < C ∧ ∀ (i : Nat) (y : Tm n), p[i]? = some y → Held w b (o + i * 4) n y ∧ In C w n y))
    (hlen : len ≤ 9223372036854775807) (hCB : C ≤ B) (h : Bu B b l w) (hB : B ≤ w.heap.size) (ht : Tab B w) (hsum : l.length + 24 * (1 + (p.map fun y => wt n y).sum) ≤ 140737488355328) :
    Calls Tryd.prog 23 #[.pointer (some ⟨b, 0, none⟩), .slice a len pc] w fun e w' => e = .returned (.tuple #[]) ∧ Wrote B b (l ++ (40 :: jn (p.map fun y => wtext n y) ++ [41])) w w' := by
  have HLE : Hid (∀ k, (jnTo n p k).length ≤ 24 * ((p.take k).map fun y => wt n y).sum) := fun k => jnTo_len n p k (fun y hy => by
    rcases hp.out with hp | ⟨pb, po, _, _, hp⟩
    · rw [hp] at hy; cases hy
    · obtain ⟨i, hi⟩ := List.getElem?_of_mem hy
      exact wtext_len n y C w (hp i y hi).2)
  have HSUM := hide hsum
  have HH := hide h
  have HT := hide ht
  clear h ht hsum
  go_enter Tryd.func23, Tryd.ntmps23
  go_wp2_with fail
  refine (writeByte_at B b l _ 40 rfl _ HH.out (by have := HSUM.out; omega) hB).mono ?_
  rintro e w1 ⟨rfl, h1⟩
  have H1 := hide h1
  clear h1
  go_wp2_with fail
  go_loopw [10] (fun i wr => ∃ k : Nat, k ≤ len ∧ i = .int .i64 k ∧ Hid (Wrote B b (l ++ 40 :: jnTo n p k) w wr)) (fun i _ => len - (intOf i).toNat)
  case atStart => exact ⟨0, by omega, rfl, by have := H1.out; simpa [Hid, jnTo, jn] using this⟩
  case round =>
    obtain ⟨k, hk, rfl, HR⟩ := hrel
    have HZ : Hid (B ≤ wr.heap.size) := Nat.le_trans hB HR.out.2.1.size
    by_cases hlt : k < len
    · obtain ⟨x, hx⟩ : ∃ x, p[k]? = some x := ⟨p[k]'(by rw [hpl.out]; exact hlt), List.getElem?_eq_getElem _⟩
      have HS := hide (jnTo_succ n p k x hx)
      have HXL : Hid ((l ++ 40 :: jnTo n p k).length + 1 + 24 * wt n x ≤ 140737488355328) := by
        have h1 := wt_take_succ n p k x hx
        have h2 := HLE.out k
        have h3 := HSUM.out
        simp only [Hid, List.length_append, List.length_cons]
        omega
      rcases hp.out with hp | ⟨pb, po, rfl, hpb, hp⟩
      · subst hp; simp at hx
      obtain ⟨hx1, hx2⟩ := hp k x hx
      replace hx1 := hx1.below (HR.out.2.1.mono hCB) hpb
      replace hx2 := hx2.below (HR.out.2.1.mono hCB)
      clear hp hx
      cases n with
      | zero => exact hx1.elim
      | succ n =>
      obtain ⟨x0, x1, x2, x3⟩ := hx1
      have HC : Hid (∀ (l' : List UInt8) (w1 : World), Below B wr w1 → Bu B b l' w1 → l'.length + 24 * wt (n + 1) x ≤ 140737488355328 → Calls Tryd.prog 16 #[.pointer (some ⟨b, 0, none⟩), .agg #[.int .i64 x.1.1, .int .i64 x.1.2.1, .string x.1.2.2, .slice x.2.1.1 x.2.2.length x.2.1.2]] w1 fun e w' => e = .returned (.tuple #[]) ∧ Wrote B b (l' ++ wtext (n + 1) x) w1 w') :=
        fun l' w1 h1 h2 h3 => ih x C B b l' w1 (hx2.below (h1.mono hCB)) hCB h2 (Nat.le_trans HZ.out h1.size) (HT.out.on (HR.out.2.1.trans h1)) h3
      have HBL := hide HR.out.1.lt
      clear ih hx2
      generalize x.2.2.length = xl at *
      generalize wtext (n + 1) x = tx at *
      have HWR : Hid (∀ o, Wrote B b (l ++ 40 :: jnTo (n + 1) p k) wr (wr.alloc o)) := fun o => Wrote.old HR.out.1 ((Below.refl _ _).alloc (Nat.le_refl _) o) HZ.out
      have hk1 : (0 : Int) ≤ (k : Int) := by omega
      have hk2 : (k : Int) < (len : Int) := by omega
      by_cases hk0 : k = 0
      · have HK0 := hide hk0
        have hk3 : ¬ (0 : Int) < (k : Int) := by omega
        clear hk0
        go_wp2_with fail
        refine (HC.out (l ++ 40 :: jnTo (n + 1) p k) _ (HWR.out _).2.1 (HWR.out _).1 (by have := HXL.out; omega)).mono ?_
        rintro e w3 ⟨rfl, h3⟩
        have H3 := hide ((HR.out.trans (HWR.out _)).trans h3)
        clear h3
        go_wp2_with fail
        go_roundw
        case rel =>
          refine ⟨k + 1, by omega, by go_num, hide ?_⟩
          have := H3.out
          rw [HS.out, if_pos HK0.out]
          have e0 : jnTo (n + 1) p k = [] := by rw [HK0.out]; rfl
          rw [e0] at this
          simpa using this
        case measure => simp [intOf]; omega
      · have HK0 := hide hk0
        have hk3 : (0 : Int) < (k : Int) := by omega
        clear hk0
        go_wp2_with fail
        refine (writeByte_at B b _ _ 32 rfl _ (HWR.out _).1 (by have := HXL.out; omega) (by have := HZ.out; simp; omega)).mono ?_
        rintro e w2 ⟨rfl, h2⟩
        have H2 := hide ((HR.out.trans (HWR.out _)).trans h2)
        have HB2 := hide ((HWR.out _).2.1.trans h2.2.1)
        have hbx := kept_cell h2.2.2 (box_at wr _ 24) (by have := HBL.out; omega) (by decide)
        have y0 : w2.cell? ⟨wr.heap.size, 0, none⟩ = some (.int .i64 x.1.1) := by rw [Lib.cell_of_heap hbx]; rfl
        have y1 : w2.cell? ⟨wr.heap.size, 1, none⟩ = some (.int .i64 x.1.2.1) := by rw [Lib.cell_of_heap hbx]; rfl
        have y2 : w2.cell? ⟨wr.heap.size, 2, none⟩ = some (.string x.1.2.2) := by rw [Lib.cell_of_heap hbx]; rfl
        have y3 : w2.cell? ⟨wr.heap.size, 3, none⟩ = some (.slice x.2.1.1 xl x.2.1.2) := by rw [Lib.cell_of_heap hbx]; rfl
        clear h2 hbx
        go_wp2_with fail
        refine (HC.out _ _ HB2.out H2.out.1 (by have := HXL.out; simp at this ⊢; omega)).mono ?_
        rintro e w3 ⟨rfl, h3⟩
        have H3 := hide (H2.out.trans h3)
        clear h3
        go_wp2_with fail
        go_roundw
        case rel =>
          refine ⟨k + 1, by omega, by go_num, hide ?_⟩
          have := H3.out
          rw [HS.out, if_neg HK0.out]
          simpa using this
        case measure => simp [intOf]; omega
    · go_wp2_with fail
      refine (writeByte_at B b _ _ 41 rfl _ HR.out.1 (by have h1 := HSUM.out; have h2 := HLE.out k; have h3 := wt_take n p k; simp; omega) HZ.out).mono ?_
      rintro e w3 ⟨rfl, h3⟩
      have H3 := hide (HR.out.trans h3)
      clear h3
      go_wp2_with fail
      go_end0
      refine ⟨rfl, ?_⟩
      have e : jnTo n p k = jn (p.map fun y => wtext n y) := by unfold jnTo; rw [List.take_of_length_le (by rw [hpl.out]; omega)]
      have := H3.out
      rw [e] at this
      simpa using this

set_option maxHeartbeats 400000 in
theorem write_tup (u : Int) (s : ByteArray) (a : Option Addr) (n c : Nat) (B b : Nat) (l t : List UInt8) (w : World) (h : Bu B b l w) (hB : B ≤ w.heap.size)
    (H : Hid (∀ w1, Below w.heap.size w w1 → Bu B b l w1 → Calls Tryd.prog 23 #[.pointer (some ⟨b, 0, none⟩), .slice a n c] w1 fun e w' => e = .returned (.tuple #[]) ∧ Wrote B b (l ++ t) w1 w')) :
    Calls Tryd.prog 16 #[.pointer (some ⟨b, 0, none⟩), .agg #[.int .i64 4, .int .i64 u, .string s, .slice a n c]] w fun e w' => e = .returned (.tuple #[]) ∧ Wrote B b (l ++ t) w w' := by
  have HW : Hid (∀ o, Wrote B b l w (w.alloc o)) := fun o => Wrote.old h ((Below.refl _ _).alloc (Nat.le_refl _) o) hB
  clear h
  go_enter Tryd.func16, Tryd.ntmps16
  go_wp2_with fail
  refine (H.out _ ((Below.refl _ _).alloc (Nat.le_refl _) _) (HW.out _).1).mono ?_
  rintro e w3 ⟨rfl, h3⟩
  have H3 := hide ((HW.out _).trans h3)
  clear h3
  go_wp2_with fail
  go_end0
  exact ⟨rfl, H3.out⟩

theorem write_any (n : Nat) : FW n := by
  induction n with
  | zero => intro x C B b l w hx; exact hx.elim
  | succ n ih =>
    intro x C B b l w hx hCB h hB ht hlen
    obtain ⟨⟨k, u, s⟩, ⟨a, pc⟩, p⟩ := x
    have hx0 := hx
    obtain ⟨⟨_, hu, hs, hpl, hpc⟩, hp⟩ := hx
    simp only at hu hs hpl hpc hp
    unfold maxLen at hpc
    have hw : wt (n + 1) ((k, u, s), (a, pc), p) = 1 + s.size + (p.map fun y => wt n y).sum := rfl
    rw [hw] at hlen
    show Calls Tryd.prog 16 #[.pointer (some ⟨b, 0, none⟩), .agg #[.int .i64 k, .int .i64 u, .string s, .slice a p.length pc]] w fun e w' => e = .returned (.tuple #[]) ∧ Wrote B b (l ++ (if k = 1 then Lib.itoa u else if k = 2 then s.data.toList else if k = 3 then 35 :: Lib.itoa u
      else if k = 4 then 40 :: jn (p.map fun y => wtext n y) ++ [41] else if k = 5 then 36 :: Lib.itoa u else if k = 6 then [95] else [])) w w'
    by_cases k1 : k = 1
    · subst k1
      exact write_int u s a p.length pc B b l w hu h hB ht (by omega)
    rw [if_neg k1]
    by_cases k2 : k = 2
    · subst k2
      exact write_name u s a p.length pc B b l w h hB (by omega)
    rw [if_neg k2]
    by_cases k3 : k = 3
    · subst k3
      exact write_num 3 u s a p.length pc B b l w hu h hB ht (by omega) 35 (Or.inl ⟨rfl, rfl⟩)
    rw [if_neg k3]
    by_cases k4 : k = 4
    · subst k4
      refine write_tup u s a p.length pc B b l _ w h hB (fun w1 hw1 hb1 => writeTuple_any n ih p p.length rfl a pc C B b l w1 ?_ (by omega) hCB hb1 (Nat.le_trans hB hw1.size) (ht.on (hw1.mono hB)) (by omega))
      rcases hp with hp | ⟨pb, po, e, hpb, hp⟩
      · exact Or.inl hp
      · exact Or.inr ⟨pb, po, e, hpb, fun i y hy => ⟨(hp i y hy).1.below (hw1.mono (Nat.le_trans hCB hB)) hpb, (hp i y hy).2.below (hw1.mono (Nat.le_trans hCB hB))⟩⟩
    rw [if_neg k4]
    by_cases k5 : k = 5
    · subst k5
      exact write_num 5 u s a p.length pc B b l w hu h hB ht (by omega) 36 (Or.inr ⟨rfl, rfl⟩)
    rw [if_neg k5]
    by_cases k6 : k = 6
    · subst k6
      exact write_wild u s a p.length pc B b l w h hB (by omega)
    rw [if_neg k6, List.append_nil]
    exact write_else k u s a p.length pc B b l w h hB k1 k2 k3 k4 k5 k6
end Go.Proofs.YtpehdgbdinjbaaaDoor
