/- What is proved here: plain facts on terms p trees (a tree's index bounds its depth), how such a tree lies in the model's memory, and that it still lies there when only new memory has turned. No condition. -/
import Derived.Test.YtfaoeccnhbcjgabRows
import Derived.WalkKit
import Derived.WalkSpells
import Derived.WalkLawsBesides
namespace Go.Proofs.Ytfaoeccnhbcjgab
open Go.RowKit

theorem ret_int {k : IntKind} {a b : Int} (h : a = b) : Ending.returned (.int k a) = .returned (.int k b) := by rw [h]
theorem hide {p : Prop} (h : p) : Hid p := h

theorem below_undrew {w w1 : World} (h : Below w.drew.heap.size w.drew w1) : Below w.heap.size w w1 := ⟨h.os, h.tape, h.output, h.size, h.block⟩
theorem below_cells {B : Nat} {w w1 : World} (h : Below B w w1) : ∀ b o, b < B → w1.cell? ⟨b, o, none⟩ = w.cell? ⟨b, o, none⟩ := fun b o hb => h.cell (p := ⟨b, o, none⟩) hb

/-- A term: Kind, N, Name; where its Args lie, and their capacity; its Args, each one less deep. -/
def Tm : Nat → Type
  | 0 => Unit
  | n + 1 => (Int × Int × ByteArray) × (Option Addr × Nat) × List (Tm n)

/-- Its value, p a struct that is handed on. -/
def val : (n : Nat) → Tm n → Value
  | 0, _ => .nilIface
  | _ + 1, x => .agg #[.int .i64 x.1.1, .int .i64 x.1.2.1, .string x.1.2.2, .slice x.2.1.1 x.2.2.length x.2.1.2]

/-- Its four cells lie at an offset of a block. -/
def Held (w : World) (b o : Nat) : (n : Nat) → Tm n → Prop
  | 0, _ => False
  | _ + 1, x => w.cell? ⟨b, o, none⟩ = some (.int .i64 x.1.1) ∧ w.cell? ⟨b, o + 1, none⟩ = some (.int .i64 x.1.2.1) ∧
      w.cell? ⟨b, o + 2, none⟩ = some (.string x.1.2.2) ∧ w.cell? ⟨b, o + 3, none⟩ = some (.slice x.2.1.1 x.2.2.length x.2.1.2)

def I64 (k : Int) : Prop := -9223372036854775808 ≤ k ∧ k ≤ 9223372036854775807

/-- What a term leads to lies in blocks below B. -/
def In (B : Nat) (w : World) : (n : Nat) → Tm n → Prop
  | 0, _ => False
  | n + 1, x => (I64 x.1.1 ∧ I64 x.1.2.1 ∧ x.1.2.2.size ≤ maxLen ∧ x.2.2.length ≤ x.2.1.2 ∧ x.2.1.2 ≤ maxLen) ∧
      (x.2.2 = [] ∨ ∃ b o, x.2.1.1 = some ⟨b, o, none⟩ ∧ b < B ∧ ∀ (i : Nat) (y : Tm n), x.2.2[i]? = some y → Held w b (o + i * 4) n y ∧ In B w n y)

theorem Held.below {B : Nat} {w w' : World} (h : Below B w w') {b o : Nat} (hb : b < B) : {n : Nat} → {x : Tm n} → Held w b o n x → Held w' b o n x
  | 0, _, k => k
  | _ + 1, _, k => by
    obtain ⟨k0, k1, k2, k3⟩ := k
    exact ⟨(h.cell (p := ⟨b, o, none⟩) hb).trans k0, (h.cell (p := ⟨b, o + 1, none⟩) hb).trans k1, (h.cell (p := ⟨b, o + 2, none⟩) hb).trans k2, (h.cell (p := ⟨b, o + 3, none⟩) hb).trans k3⟩

theorem In.below {B : Nat} {w w' : World} (h : Below B w w') : {n : Nat} → {x : Tm n} → In B w n x → In B w' n x
  | 0, _, k => k
  | _ + 1, _, k => by
    obtain ⟨k0, k1⟩ := k
    refine ⟨k0, ?_⟩
    rcases k1 with k1 | ⟨b, o, e, hb, k1⟩
    · exact Or.inl k1
    · exact Or.inr ⟨b, o, e, hb, fun i y hy => ⟨(k1 i y hy).1.below h hb, (k1 i y hy).2.below h⟩⟩

theorem In.mono {B C : Nat} (hBC : B ≤ C) {w : World} : {n : Nat} → {x : Tm n} → In B w n x → In C w n x
  | 0, _, k => k
  | _ + 1, _, k => by
    obtain ⟨k0, k1⟩ := k
    refine ⟨k0, ?_⟩
    rcases k1 with k1 | ⟨b, o, e, hb, k1⟩
    · exact Or.inl k1
    · exact Or.inr ⟨b, o, e, by omega, fun i y hy => ⟨(k1 i y hy).1, (k1 i y hy).2.mono hBC⟩⟩

/-- -1, 0, 1: p two numbers stand to each other. -/
def cmpI (x y : Int) : Int := if x < y then -1 else if y < x then 1 else 0
def cmpS (x y : ByteArray) : Int := if Op.bytesLess x.toList y.toList then -1 else if !Op.bytesLess x.toList y.toList && !(x.toList == y.toList) then 1 else 0

/-- The first that isn't 0, of what two lists give place by place. -/
def ordL {α β : Type} (f : α → β → Int) : List α → List β → Int
  | a :: p, b :: q => if f a b = 0 then ordL f p q else f a b
  | _, _ => 0

def ord : (n : Nat) → Tm n → (m : Nat) → Tm m → Int
  | n + 1, x, m + 1, y =>
    if x.1.1 = y.1.1 then
      if x.1.1 = 1 ∨ x.1.1 = 3 ∨ x.1.1 = 5 then cmpI x.1.2.1 y.1.2.1
      else if x.1.1 = 2 then cmpS x.1.2.2 y.1.2.2
      else if x.1.1 = 4 then
        if x.2.2.length = y.2.2.length then ordL (fun a b => ord n a m b) x.2.2 y.2.2 else cmpI x.2.2.length y.2.2.length
      else 0
    else cmpI x.1.1 y.1.1
  | _, _, _, _ => 0

theorem ordL_drop {α β : Type} (f : α → β → Int) (p : List α) (q : List β) (k : Nat) (a : α) (b : β) (ha : p[k]? = some a) (hb : q[k]? = some b) :
    ordL f (p.drop k) (q.drop k) = if f a b = 0 then ordL f (p.drop (k + 1)) (q.drop (k + 1)) else f a b := by
  obtain ⟨h1, e1⟩ := List.getElem?_eq_some_iff.1 ha
  obtain ⟨h2, e2⟩ := List.getElem?_eq_some_iff.1 hb
  rw [List.drop_eq_getElem_cons h1, List.drop_eq_getElem_cons h2, e1, e2]
  rfl

end Go.Proofs.Ytfaoeccnhbcjgab
