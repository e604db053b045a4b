/- What is proved here: plain facts and contracts that the claimed theorem stands on, several texts in one: plain facts on terms p trees (a tree's index bounds its depth), how such a tree lies in the model's memory, and that it still lies there when only new memory has turned. No condition. the document's list of all terms in a term ('all'): for every term that lies in memory, with at most 2097152 terms in it, it returns two new slices, of the terms and of how deep they stand, and turns no memory that was there. a plain fact: a term has at most as many terms in it as it holds terms and letters. No condition. whatever reads as a term is a tree that lies in memory, no larger than the reading's bulk; and a row over terms follows from what the call does. No condition. the document's In, Name and Size: In tells whether a number lies between two others; Name tells whether a text is 1 to 8 small letters; Size of a term that lies in memory is the plain function sz. Size's condition: at most 2097152 terms in it. plain facts on the document's Check as a function of the list of all terms in a term. No condition. -/
import Derived.Test.YtdlckjjfbobmpaaRows
import Derived.WalkKit
import Derived.WalkSpells
import Derived.WalkLawsBesides
import Derived.Deep.AppendLies
import Derived.ProofKit
import Derived.OpenShut
import Derived.JoinedCond
namespace Go.Proofs.Ytdlckjjfbobmpaa
open Go.RowKit

theorem ret_int {k : IntKind} {a b : Int} (h : a = b) : Ending.returned (.int k a) = .returned (.int k b) := by rw [h]
theorem hide {p : Prop} (h : p) : Hid p := h

theorem below_undrew {w w1 : World} (h : Below w.drew.heap.size w.drew w1) : Below w.heap.size w w1 := ⟨h.os, h.tape, h.output, h.size, h.block⟩
theorem below_cells {B : Nat} {w w1 : World} (h : Below B w w1) : ∀ b o, b < B → w1.cell? ⟨b, o, none⟩ = w.cell? ⟨b, o, none⟩ := fun b o hb => h.cell (p := ⟨b, o, none⟩) hb

/-- A term: Kind, N, Name; where its Args lie, and their capacity; its Args, each one less deep. -/
def Tm : Nat → Type
  | 0 => Unit
  | n + 1 => (Int × Int × ByteArray) × (Option Addr × Nat) × List (Tm n)

/-- Its value, p a struct that is handed on. -/
def val : (n : Nat) → Tm n → Value
  | 0, _ => .nilIface
  | _ + 1, x => .agg #[.int .i64 x.1.1, .int .i64 x.1.2.1, .string x.1.2.2, .slice x.2.1.1 x.2.2.length x.2.1.2]

/-- Its four cells lie at an offset of a block. -/
def Held (w : World) (b o : Nat) : (n : Nat) → Tm n → Prop
  | 0, _ => False
  | _ + 1, x => w.cell? ⟨b, o, none⟩ = some (.int .i64 x.1.1) ∧ w.cell? ⟨b, o + 1, none⟩ = some (.int .i64 x.1.2.1) ∧
      w.cell? ⟨b, o + 2, none⟩ = some (.string x.1.2.2) ∧ w.cell? ⟨b, o + 3, none⟩ = some (.slice x.2.1.1 x.2.2.length x.2.1.2)

def I64 (k : Int) : Prop := -9223372036854775808 ≤ k ∧ k ≤ 9223372036854775807

/-- What a term leads to lies in blocks below B. -/
def In (B : Nat) (w : World) : (n : Nat) → Tm n → Prop
  | 0, _ => False
  | n + 1, x => (I64 x.1.1 ∧ I64 x.1.2.1 ∧ x.1.2.2.size ≤ maxLen ∧ x.2.2.length ≤ x.2.1.2 ∧ x.2.1.2 ≤ maxLen) ∧
      (x.2.2 = [] ∨ ∃ b o, x.2.1.1 = some ⟨b, o, none⟩ ∧ b < B ∧ ∀ (i : Nat) (y : Tm n), x.2.2[i]? = some y → Held w b (o + i * 4) n y ∧ In B w n y)

theorem Held.below {B : Nat} {w w' : World} (h : Below B w w') {b o : Nat} (hb : b < B) : {n : Nat} → {x : Tm n} → Held w b o n x → Held w' b o n x
  | 0, _, k => k
  | _ + 1, _, k => by
    obtain ⟨k0, k1, k2, k3⟩ := k
    exact ⟨(h.cell (p := ⟨b, o, none⟩) hb).trans k0, (h.cell (p := ⟨b, o + 1, none⟩) hb).trans k1, (h.cell (p := ⟨b, o + 2, none⟩) hb).trans k2, (h.cell (p := ⟨b, o + 3, none⟩) hb).trans k3⟩

theorem In.below {B : Nat} {w w' : World} (h : Below B w w') : {n : Nat} → {x : Tm n} → In B w n x → In B w' n x
  | 0, _, k => k
  | _ + 1, _, k => by
    obtain ⟨k0, k1⟩ := k
    refine ⟨k0, ?_⟩
    rcases k1 with k1 | ⟨b, o, e, hb, k1⟩
    · exact Or.inl k1
    · exact Or.inr ⟨b, o, e, hb, fun i y hy => ⟨(k1 i y hy).1.below h hb, (k1 i y hy).2.below h⟩⟩

theorem In.mono {B C : Nat} (hBC : B ≤ C) {w : World} : {n : Nat} → {x : Tm n} → In B w n x → In C w n x
  | 0, _, k => k
  | _ + 1, _, k => by
    obtain ⟨k0, k1⟩ := k
    refine ⟨k0, ?_⟩
    rcases k1 with k1 | ⟨b, o, e, hb, k1⟩
    · exact Or.inl k1
    · exact Or.inr ⟨b, o, e, by omega, fun i y hy => ⟨(k1 i y hy).1, (k1 i y hy).2.mono hBC⟩⟩

/-- -1, 0, 1: p two numbers stand to each other. -/
def cmpI (x y : Int) : Int := if x < y then -1 else if y < x then 1 else 0
def cmpS (x y : ByteArray) : Int := if Op.bytesLess x.toList y.toList then -1 else if !Op.bytesLess x.toList y.toList && !(x.toList == y.toList) then 1 else 0

/-- The first that isn't 0, of what two lists give place by place. -/
def ordL {α β : Type} (f : α → β → Int) : List α → List β → Int
  | a :: p, b :: q => if f a b = 0 then ordL f p q else f a b
  | _, _ => 0

def ord : (n : Nat) → Tm n → (m : Nat) → Tm m → Int
  | n + 1, x, m + 1, y =>
    if x.1.1 = y.1.1 then
      if x.1.1 = 1 ∨ x.1.1 = 3 ∨ x.1.1 = 5 then cmpI x.1.2.1 y.1.2.1
      else if x.1.1 = 2 then cmpS x.1.2.2 y.1.2.2
      else if x.1.1 = 4 then
        if x.2.2.length = y.2.2.length then ordL (fun a b => ord n a m b) x.2.2 y.2.2 else cmpI x.2.2.length y.2.2.length
      else 0
    else cmpI x.1.1 y.1.1
  | _, _, _, _ => 0

theorem ordL_drop {α β : Type} (f : α → β → Int) (p : List α) (q : List β) (k : Nat) (a : α) (b : β) (ha : p[k]? = some a) (hb : q[k]? = some b) :
    ordL f (p.drop k) (q.drop k) = if f a b = 0 then ordL f (p.drop (k + 1)) (q.drop (k + 1)) else f a b := by
  obtain ⟨h1, e1⟩ := List.getElem?_eq_some_iff.1 ha
  obtain ⟨h2, e2⟩ := List.getElem?_eq_some_iff.1 hb
  rw [List.drop_eq_getElem_cons h1, List.drop_eq_getElem_cons h2, e1, e2]
  rfl

end Go.Proofs.Ytdlckjjfbobmpaa
namespace Go.Proofs.Ytdlckjjfbobmpaa
open Go.RowKit

/-- One term of the list: its own cells, its Args as a slice. -/
abbrev Nd : Type := (Int × Int × ByteArray) × (Option Addr × Nat × Nat)
def nd4 (x : Nd) : List Value := [.int .i64 x.1.1, .int .i64 x.1.2.1, .string x.1.2.2, .slice x.2.1 x.2.2.1 x.2.2.2]
def ndCells (l : List Nd) : List Value := l.flatMap nd4
def ints (l : List Int) : List Value := l.map fun d => .int .i64 d

def nodes : (n : Nat) → Tm n → List Nd
  | 0, _ => [((0, 0, .empty), (none, 0, 0))]
  | n + 1, x => (x.1, (x.2.1.1, x.2.2.length, x.2.1.2)) :: x.2.2.flatMap fun y => nodes n y
def deeps : (n : Nat) → Tm n → Int → List Int
  | 0, _, d => [d]
  | n + 1, x, d => d :: x.2.2.flatMap fun y => deeps n y (d + 1)

theorem flat_length {α β γ : Type} (f : α → List β) (g : α → List γ) (h : ∀ a, (f a).length = (g a).length) (l : List α) : (l.flatMap f).length = (l.flatMap g).length := by
  induction l with
  | nil => rfl
  | cons a l ih => simp only [List.flatMap_cons, List.length_append, ih, h]
theorem deeps_length : (n : Nat) → (x : Tm n) → (d : Int) → (deeps n x d).length = (nodes n x).length
  | 0, _, _ => rfl
  | n + 1, x, d => by
    simp only [deeps, nodes, List.length_cons]
    rw [flat_length (fun y => deeps n y (d + 1)) (fun y => nodes n y) (fun y => deeps_length n y (d + 1))]
theorem ndCells_length (l : List Nd) : (ndCells l).length = l.length * 4 := by
  induction l with
  | nil => rfl
  | cons a l ih => simp only [ndCells, List.flatMap_cons, List.length_append, List.length_cons] at ih ⊢; rw [ih]; simp [nd4]; omega
theorem ndCells_append (l r : List Nd) : ndCells (l ++ r) = ndCells l ++ ndCells r := by simp [ndCells]
theorem ints_append (l r : List Int) : ints (l ++ r) = ints l ++ ints r := by simp [ints]
theorem ndCells_one (l : List Nd) : ∀ u ∈ ndCells l, u.oneCell' = true := by
  intro u hu
  simp only [ndCells, List.mem_flatMap, nd4] at hu
  obtain ⟨a, _, hu⟩ := hu
  simp at hu
  rcases hu with rfl | rfl | rfl | rfl <;> rfl
theorem ints_one (l : List Int) : ∀ u ∈ ints l, u.oneCell' = true := by
  intro u hu
  simp only [ints, List.mem_map] at hu
  obtain ⟨a, _, rfl⟩ := hu
  rfl
theorem take_flat {α β : Type} (f : α → List β) (l : List α) (k : Nat) (x : α) (h : l[k]? = some x) : (l.take (k + 1)).flatMap f = (l.take k).flatMap f ++ f x := by
  obtain ⟨h1, e1⟩ := List.getElem?_eq_some_iff.1 h
  rw [List.take_succ_eq_append_getElem h1, e1]
  simp
theorem take_le {α β : Type} (f : α → List β) (l : List α) (k : Nat) : ((l.take k).flatMap f).length ≤ (l.flatMap f).length := by
  conv => rhs; rw [← List.take_append_drop k l]
  rw [List.flatMap_append, List.length_append]
  omega

theorem own_one {w : World} {base e size : Nat} (cs : Array Value) (hb : base ≤ w.heap.size) (hs : cs.size = size) :
    (w.alloc (.cells cs e)).ownsRow base e size (.slice (some ⟨w.heap.size, 0, none⟩) 1 1) 1 cs.toList :=
  ⟨by simp [hs], .inr ⟨w.heap.size, 1, cs, rfl, hb, heap_alloc_new w _, Nat.le_refl _, by unfold maxLen; omega, by omega, by rw [List.take_of_length_le]; simp [hs]⟩⟩
theorem own_below {w w' : World} {base e size : Nat} {v : Value} {n : Nat} {xs : List Value} (h : w.ownsRow base e size v n xs) (hb : Below w.heap.size w w') : w'.ownsRow base e size v n xs :=
  h.kept (row := none) ⟨hb.os, hb.tape, hb.output, hb.size, fun k hk _ => hb.block k hk⟩ (by cases v.ownBlock <;> simp)
theorem own_base {w : World} {base base' e size : Nat} {v : Value} {n : Nat} {xs : List Value} (h : w.ownsRow base e size v n xs) (hb : base' ≤ base) : w.ownsRow base' e size v n xs := by
  obtain ⟨h1, h2⟩ := h
  refine ⟨h1, ?_⟩
  rcases h2 with h2 | ⟨g, cap, cur, hv, hg, hh, r⟩
  · exact Or.inl h2
  · exact Or.inr ⟨g, cap, cur, hv, by omega, hh, r⟩
theorem own_lt {w : World} {base e size : Nat} {g n cap : Nat} {xs : List Value} (h : w.ownsRow base e size (.slice (some ⟨g, 0, none⟩) n cap) n xs) : base ≤ g ∧ g < w.heap.size := h.lt g rfl

def F14 (n : Nat) : Prop := ∀ (x : Tm n) (d : Int) (B : Nat) (w : World), In B w n x → B ≤ w.heap.size → 0 ≤ d → d + (nodes n x).length ≤ 2097152 →
  Calls Try.prog 26 #[val n x, .int .i64 d] w fun e w' => ∃ g c h c', e = .returned (.tuple #[.slice (some ⟨g, 0, none⟩) (nodes n x).length c, .slice (some ⟨h, 0, none⟩) (nodes n x).length c']) ∧
    Hid (g ≠ h ∧ Below w.heap.size w w' ∧ w'.ownsRow w.heap.size 32 4 (.slice (some ⟨g, 0, none⟩) (nodes n x).length c) (nodes n x).length (ndCells (nodes n x)) ∧
      w'.ownsRow w.heap.size 3 1 (.slice (some ⟨h, 0, none⟩) (nodes n x).length c') (nodes n x).length (ints (deeps n x d)))

theorem infoTerm : (Try.prog.info? 32).map (fun i => (i.zero, i.size, i.bytes)) = some (some (.agg #[.int .i64 0, .int .i64 0, .string .empty, .slice none 0 0]), 4, 56) := by kernel_rfl
theorem infoInt : (Try.prog.info? 3).map (fun i => (i.zero, i.size, i.bytes)) = some (some (.int .i64 0), 1, 8) := by kernel_rfl

/-- What holds behind k rounds. -/
def AllP (n : Nat) (p : List (Tm n)) (hd : Nd) (d : Int) (w : World) (k g c h c' L : Nat) (wr : World) : Prop :=
  L = 1 + ((p.take k).flatMap fun y => nodes n y).length ∧ g ≠ h ∧ Below w.heap.size w wr ∧
    wr.ownsRow (w.heap.size + 1) 32 4 (.slice (some ⟨g, 0, none⟩) L c) L (ndCells (hd :: (p.take k).flatMap fun y => nodes n y)) ∧
    wr.ownsRow (w.heap.size + 1) 3 1 (.slice (some ⟨h, 0, none⟩) L c') L (ints (d :: (p.take k).flatMap fun y => deeps n y (d + 1)))

theorem all_start (n : Nat) (p : List (Tm n)) (hd : Nd) (d : Int) (w : World) (o : Obj) :
    AllP n p hd d w 0 (w.heap.size + 1) 1 (w.heap.size + 1 + 1) 1 1 (((w.alloc o).alloc (.cells (nd4 hd).toArray 32)).alloc (.cells #[.int .i64 d] 3)) := by
  refine ⟨by simp, by omega, (((Below.refl _ _).alloc (Nat.le_refl _) _).alloc (by simp) _).alloc (by simp; omega) _, ?_, ?_⟩
  · have h := own_one (w := w.alloc o) (base := w.heap.size + 1) (e := 32) (size := 4) (nd4 hd).toArray (by simp) (by simp [nd4])
    have h2 := h.alloc (.cells #[.int .i64 d] 3)
    have e : (w.alloc o).heap.size = w.heap.size + 1 := by simp
    rw [e] at h2
    simpa [ndCells] using h2
  · have h := own_one (w := (w.alloc o).alloc (.cells (nd4 hd).toArray 32)) (base := w.heap.size + 1) (e := 3) (size := 1) #[.int .i64 d] (by simp) (by simp)
    have e : ((w.alloc o).alloc (.cells (nd4 hd).toArray 32)).heap.size = w.heap.size + 1 + 1 := by simp
    rw [e] at h
    simpa [ints] using h

/-- Behind the call of itself, and behind the first append: what the second append needs. -/
theorem all_mid {n : Nat} {p : List (Tm n)} {hd : Nd} {d : Int} {w wr w1 w2 : World} {k g c h c' L : Nat} (H : AllP n p hd d w k g c h c' L wr) (hb : Below wr.heap.size wr w1) {h1 M c1 : Nat} {zs : List Value}
    (hr : w1.ownsRow wr.heap.size 3 1 (.slice (some ⟨h1, 0, none⟩) M c1) M zs) (hg : w1.grownBy w2 (some g)) :
    w2.ownsRow (w.heap.size + 1) 3 1 (.slice (some ⟨h, 0, none⟩) L c') L (ints (d :: (p.take k).flatMap fun y => deeps n y (d + 1))) ∧
      w2.ownsRow wr.heap.size 3 1 (.slice (some ⟨h1, 0, none⟩) M c1) M zs := by
  obtain ⟨_, hne, _, o1, o2⟩ := H
  have l1 := own_lt o1
  have l3 := own_lt hr
  refine ⟨(own_below o2 hb).kept hg (Or.inr (by simp [Value.ownBlock]; omega)), hr.kept hg (Or.inr (by simp [Value.ownBlock]; omega))⟩

/-- A round's end. -/
theorem all_end {n : Nat} {p : List (Tm n)} {hd : Nd} {d : Int} {w wr w1 w2 w3 : World} {k g c h c' L : Nat} (H : AllP n p hd d w k g c h c' L wr) (hb : Below wr.heap.size wr w1) (x : Tm n) (hx : p[k]? = some x)
    {g2 c2 g3 c3 : Nat} (h2 : w2.ownsRow (w.heap.size + 1) 32 4 (.slice (some ⟨g2, 0, none⟩) (L + (nodes n x).length) c2) (L + (nodes n x).length) (ndCells (hd :: (p.take k).flatMap fun y => nodes n y) ++ ndCells (nodes n x)))
    (gr2 : w1.grownBy w2 (some g)) (at2 : some g = some g2 ∨ g2 = w1.heap.size) (lt2 : g2 < w2.heap.size)
    (h3 : w3.ownsRow (w.heap.size + 1) 3 1 (.slice (some ⟨g3, 0, none⟩) (L + (nodes n x).length) c3) (L + (nodes n x).length) (ints (d :: (p.take k).flatMap fun y => deeps n y (d + 1)) ++ ints (deeps n x (d + 1))))
    (gr3 : w2.grownBy w3 (some h)) (at3 : some h = some g3 ∨ g3 = w2.heap.size) :
    AllP n p hd d w (k + 1) g2 c2 g3 c3 (L + (nodes n x).length) w3 ∧ (∀ o, w3.cell? ⟨w.heap.size, o, none⟩ = wr.cell? ⟨w.heap.size, o, none⟩) := by
  obtain ⟨hL, hne, hb0, o1, o2⟩ := H
  have l1 := own_lt o1
  have l2 := own_lt o2
  have z1 := hb.size
  have z2 := gr2.size
  have z3 := gr3.size
  have hg2h : g2 ≠ h := by
    rcases at2 with e | e
    · have : g = g2 := by simpa using e
      omega
    · omega
  have hne2 : g2 ≠ g3 := by
    rcases at3 with e | e
    · have : h = g3 := by simpa using e
      omega
    · omega
  refine ⟨⟨?_, hne2, ?_, ?_, ?_⟩, ?_⟩
  · rw [take_flat _ p k x hx, List.length_append]; omega
  · have r2 : ∀ j, some g = some j → w.heap.size ≤ j := fun j e => by
      have e' : g = j := by simpa using e
      omega
    have r3 : ∀ j, some h = some j → w.heap.size ≤ j := fun j e => by
      have e' : h = j := by simpa using e
      omega
    have z0 := hb0.size
    exact ((hb0.trans (hb.mono z0)).grown gr2 (by omega) r2).grown gr3 (by omega) r3
  · have e : ndCells (hd :: (p.take (k + 1)).flatMap fun y => nodes n y) = ndCells (hd :: (p.take k).flatMap fun y => nodes n y) ++ ndCells (nodes n x) := by
      rw [take_flat _ p k x hx, ← ndCells_append]; rfl
    rw [e]
    exact h2.kept gr3 (Or.inr (by simp [Value.ownBlock]; omega))
  · have e : ints (d :: (p.take (k + 1)).flatMap fun y => deeps n y (d + 1)) = ints (d :: (p.take k).flatMap fun y => deeps n y (d + 1)) ++ ints (deeps n x (d + 1)) := by
      rw [take_flat _ p k x hx, ← ints_append]; rfl
    rw [e]
    exact h3
  · intro o
    rw [gr3.cell_far _ (by simp; omega) (by simp; omega), gr2.cell_far _ (by simp; omega) (by simp; omega)]
    exact hb.cell (p := ⟨w.heap.size, o, none⟩) (by simp; omega)

set_option maxHeartbeats 1000000 in
theorem all_loop (n : Nat) (ih : F14 n) (k0 u0 : Int) (s : ByteArray) (a : Option Addr) (pc len : Nat) (p : List (Tm n)) (hpl : Hid (p.length = len)) (d : Int) (B : Nat) (w : World)
    (hp : Hid (p = [] ∨ ∃ b o, a = some ⟨b, o, none⟩ ∧ b < B ∧ ∀ (i : Nat) (y : Tm n), p[i]? = some y → Held w b (o + i * 4) n y ∧ In B w n y))
    (hlen : len ≤ 9223372036854775807) (hB : B ≤ w.heap.size) (hd0 : 0 ≤ d) (hsum : Hid (d + (1 + (p.flatMap fun y => nodes n y).length : Nat) ≤ 2097152)) :
    Calls Try.prog 26 #[.agg #[.int .i64 k0, .int .i64 u0, .string s, .slice a len pc], .int .i64 d] w fun e w' =>
      ∃ g c h c' L, e = .returned (.tuple #[.slice (some ⟨g, 0, none⟩) L c, .slice (some ⟨h, 0, none⟩) L c']) ∧ Hid (L = 1 + (p.flatMap fun y => nodes n y).length) ∧
        Hid (g ≠ h ∧ Below w.heap.size w w' ∧ w'.ownsRow w.heap.size 32 4 (.slice (some ⟨g, 0, none⟩) L c) L (ndCells ((((k0, u0, s), (a, len, pc)) : Nd) :: p.flatMap fun y => nodes n y)) ∧
          w'.ownsRow w.heap.size 3 1 (.slice (some ⟨h, 0, none⟩) L c') L (ints (d :: p.flatMap fun y => deeps n y (d + 1)))) := by
  obtain ⟨it, hit, htz0, htz1, htz2⟩ := info_parts infoTerm
  obtain ⟨ii, hii, hiz0, hiz1, hiz2⟩ := info_parts infoInt
  have HT := hide (⟨hit, htz0, htz1, htz2⟩ : _ ∧ _ ∧ _ ∧ _)
  have HI := hide (⟨hii, hiz0, hiz1, hiz2⟩ : _ ∧ _ ∧ _ ∧ _)
  clear hit htz0 htz1 htz2 hii hiz0 hiz1 hiz2
  have hd1 : d ≤ 2097152 := by have := hsum.out; omega
  go_enter Try.func26, Try.ntmps26
  go_wp2_with fail
  go_loopw [6, 7, 8] (fun v1 v2 i wr => ∃ k g c h c' L : Nat, k ≤ len ∧ i = .int .i64 k ∧ v1 = .slice (some ⟨g, 0, none⟩) L c ∧ v2 = .slice (some ⟨h, 0, none⟩) L c' ∧ wr.cell? ⟨w.heap.size, 3, none⟩ = some (.slice a len pc) ∧ Hid (AllP n p ((k0, u0, s), (a, len, pc)) d w k g c h c' L wr)) (fun _ _ i _ => len - (intOf i).toNat)
  case atStart => exact ⟨0, _, _, _, _, _, by omega, rfl, rfl, rfl, by simp [go_sem], all_start n p ((k0, u0, s), (a, len, pc)) d w _⟩
  case round =>
    obtain ⟨k, g, c, h, c', L, hk, rfl, rfl, rfl, ha0, HA⟩ := hrel
    by_cases hlt : k < len
    · obtain ⟨x, hx⟩ : ∃ x, p[k]? = some x := ⟨p[k]'(by rw [hpl.out]; exact hlt), List.getElem?_eq_getElem _⟩
      have hb := HA.out.2.2.1
      have hLx : L + (nodes n x).length ≤ 2097152 ∧ d + 1 + (nodes n x).length ≤ 2097152 := by
        have e1 := HA.out.1
        have e2 := take_le (fun y => nodes n y) p (k + 1)
        rw [take_flat _ p k x hx, List.length_append] at e2
        have e3 := hsum.out
        omega
      rcases hp.out with hp | ⟨pb, po, rfl, hpb, hp⟩
      · subst hp; simp at hx
      obtain ⟨hx1, hx2⟩ := hp k x hx
      replace hx1 := hx1.below (hb.mono hB) hpb
      replace hx2 := hx2.below (hb.mono hB)
      have HX := hide hx
      clear hp hx
      cases n with
      | zero => exact hx1.elim
      | succ n =>
      obtain ⟨x0, x1, x2, x3⟩ := hx1
      have hB' : B ≤ wr.heap.size := Nat.le_trans hB hb.size
      have hM : 0 < (nodes (n + 1) x).length := by simp [nodes]
      have HC := hide (show Calls Try.prog 26 #[.agg #[.int .i64 x.1.1, .int .i64 x.1.2.1, .string x.1.2.2, .slice x.2.1.1 x.2.2.length x.2.1.2], .int .i64 (d + 1)] wr _ from ih x (d + 1) B wr hx2 hB' (by omega) hLx.2)
      clear ih hx2 hb
      generalize x.2.2.length = xl at *
      have HM := hide hM
      have HL := hide hLx.1
      clear hM hLx
      have hk1 : (0 : Int) ≤ (k : Int) := by omega
      have hk2 : (k : Int) < (len : Int) := by omega
      go_wp2_with fail
      refine HC.out.mono ?_
      rintro e w1 ⟨g1, c1, h1, c1', rfl, HR⟩
      have HW : Hid (w1.heap.size = w1.heap.size) := rfl
      go_wp2_with (first
        | (at_builtin; refine wpList_append_lies _ rfl _ _ 29 rfl (w.heap.size + 1) 32 it _ 4 56 Try.underlying29 HT.out.1 HT.out.2.1 HT.out.2.2.1 HT.out.2.2.2 rfl (by decide) _ L _ rfl (own_below HA.out.2.2.2.1 HR.out.2.1) ⟨g1, 0, none⟩ _ _ (ndCells (nodes (n + 1) x)) rfl (ndCells_length _) (HR.out.2.2.1.cells rfl) (ndCells_one _) HM.out (by have := HL.out; unfold maxLen; omega) (by have := HL.out; omega) (by have := HA.out.2.2.1.size; have := HR.out.2.1.size; have := own_lt HA.out.2.2.2.1; omega) _ rfl ?_; intro g2 c2 w2 hown2 hgrow2 hat2 hlt2; have H2 := hide (⟨hown2, hgrow2, hat2, hlt2⟩ : _ ∧ _ ∧ _ ∧ _); clear hown2 hgrow2 hat2 hlt2)
        | (at_builtin; refine wpList_append_lies _ rfl _ _ 33 rfl (w.heap.size + 1) 3 ii _ 1 8 Try.underlying33 HI.out.1 HI.out.2.1 HI.out.2.2.1 HI.out.2.2.2 rfl (by decide) _ L _ rfl (all_mid HA.out HR.out.2.1 HR.out.2.2.2 H2.out.2.1).1 ⟨h1, 0, none⟩ _ _ (ints (deeps (n + 1) x (d + 1))) rfl (by simp [ints, deeps_length]) ((all_mid HA.out HR.out.2.1 HR.out.2.2.2 H2.out.2.1).2.cells rfl) (ints_one _) HM.out (by have := HL.out; unfold maxLen; omega) (by have := HL.out; omega) (by have := HA.out.2.2.1.size; have := HR.out.2.1.size; have := own_lt HA.out.2.2.2.1; have := H2.out.2.1.size; omega) _ rfl ?_; intro g3 c3 w3 hown3 hgrow3 hat3 hlt3; have H3 := hide (⟨hown3, hgrow3, hat3, hlt3⟩ : _ ∧ _ ∧ _ ∧ _); clear hown3 hgrow3 hat3 hlt3))
      have HE := all_end HA.out HR.out.2.1 x HX.out H2.out.1 H2.out.2.1 H2.out.2.2.1 H2.out.2.2.2 H3.out.1 H3.out.2.1 H3.out.2.2.1
      go_roundw
      case rel => exact ⟨k + 1, _, _, _, _, _, by omega, by go_num, rfl, rfl, (HE.2 3).trans ha0, HE.1⟩
      case measure => simp [intOf]; omega
    · go_wp2_with fail
      go_ret2
      have ht : p.take k = p := List.take_of_length_le (by rw [hpl.out]; omega)
      obtain ⟨e1, e2, e3, e4, e5⟩ := HA.out
      rw [ht] at e1 e4 e5
      exact ⟨g, c, h, c', L, rfl, e1, e2, e3, own_base e4 (by omega), own_base e5 (by omega)⟩

theorem all_any (n : Nat) : F14 n := by
  induction n with
  | zero => intro x d B w hx; exact hx.elim
  | succ n ih =>
    intro x d B w hx hB hd hsum
    obtain ⟨⟨k, u, s⟩, ⟨a, pc⟩, p⟩ := x
    obtain ⟨⟨hk, hu, hs, hpl, hpc⟩, hp⟩ := hx
    simp only at hpl hpc hp
    unfold maxLen at hpc
    have hL : (nodes (n + 1) ((k, u, s), (a, pc), p)).length = 1 + (p.flatMap fun y => nodes n y).length := by simp only [nodes, List.length_cons]; omega
    rw [hL] at hsum
    refine (all_loop n ih k u s a pc p.length p rfl d B w hp (by omega) hB hd hsum).mono ?_
    rintro e w' ⟨g, c, h, c', L, rfl, hL', H⟩
    rw [hL, ← hL'.out]
    exact ⟨g, c, h, c', rfl, H⟩
end Go.Proofs.Ytdlckjjfbobmpaa
namespace Go.Proofs.Ytdlckjjfbobmpaa

/-- How much a term holds: its terms, and the letters of their names. -/
def wt : (n : Nat) → Tm n → Nat
  | 0, _ => 1
  | n + 1, x => 1 + x.1.2.2.size + (x.2.2.map fun y => wt n y).sum

theorem nodes_wt : (n : Nat) → (x : Tm n) → (nodes n x).length ≤ wt n x
  | 0, _ => by simp [nodes, wt]
  | n + 1, x => by
    have key : ∀ l : List (Tm n), (l.flatMap fun y => nodes n y).length ≤ (l.map fun y => wt n y).sum := by
      intro l
      induction l with
      | nil => simp
      | cons y l ih =>
        have := nodes_wt n y
        simp only [List.flatMap_cons, List.length_append, List.map_cons, List.sum_cons]
        omega
    have := key x.2.2
    simp only [nodes, wt, List.length_cons]
    omega
end Go.Proofs.Ytdlckjjfbobmpaa
namespace Go.Proofs.Ytdlckjjfbobmpaa
open Go.ChangeShapes Go.WideShapes Go.ChangeAt Go.RowKit

theorem own : ownKnob Try.prog.godebug = none := by kernel_rfl
theorem laidOut : laidOutB Try.prog = true := by kernel_rfl
theorem cellsTerm : Try.prog.cellsOf 32 = 4 := by kernel_rfl
theorem cellsInt : Try.prog.cellsOf 3 = 1 := by kernel_rfl
theorem cellsString : Try.prog.cellsOf 9 = 1 := by kernel_rfl
theorem cellsTerms : Try.prog.cellsOf 29 = 1 := by kernel_rfl

theorem list_of {α : Type} {P : Nat → α → Prop} : (len : Nat) → (∀ i, i < len → ∃ y, P i y) → ∃ l : List α, l.length = len ∧ ∀ i y, l[i]? = some y → P i y
  | 0, _ => ⟨[], rfl, fun i y h => by simp at h⟩
  | len + 1, h => by
    obtain ⟨l, hl, hp⟩ := list_of len (fun i hi => h i (by omega))
    obtain ⟨z, hz⟩ := h len (by omega)
    refine ⟨l ++ [z], by simp [hl], fun i y hy => ?_⟩
    by_cases hi : i < l.length
    · rw [List.getElem?_append_left hi] at hy
      exact hp i y hy
    · rw [List.getElem?_append_right (by omega)] at hy
      have h0 : i - l.length = 0 := by
        by_cases h0 : i - l.length = 0
        · exact h0
        · rw [List.getElem?_eq_none (by simp; omega)] at hy; cases hy
      rw [h0] at hy
      have e1 : z = y := by simpa using hy
      have e2 : i = len := by omega
      rw [e2, ← e1]
      exact hz

theorem wt_le {H : Type} {n : Nat} : (p : List (Tm n)) → (es : List (DataW H)) → (∀ (i : Nat) (y : Tm n) (e : DataW H), p[i]? = some y → es[i]? = some e → wt n y ≤ Rows.uptoBulk e) → p.length = es.length → (p.map fun y => wt n y).sum ≤ Rows.uptoBulkAll es
  | [], es, _, h => by simp
  | y :: p, [], _, h => by simp at h
  | y :: p, e :: es, hp, h => by
    have h0 := hp 0 y e (by simp) (by simp)
    have h1 := wt_le p es (fun i y' e' hy he => hp (i + 1) y' e' (by simpa using hy) (by simpa using he)) (by simpa using h)
    simp only [List.map_cons, List.sum_cons, Rows.uptoBulkAll]
    omega

theorem add_add (b o i j : Nat) : ((⟨b, o, none⟩ : Addr).add i).add j = ⟨b, o + i + j, none⟩ := by
  unfold Addr.add
  split <;> split <;> simp_all
theorem spot_none {w : World} {a : Addr} {v : Value} (h : w.cell? ((a.add 0).add 0) = some v) : a = ⟨a.block, a.off, none⟩ := by
  have e : (a.add 0).add 0 = a := rfl
  rw [e] at h
  unfold World.cell? at h
  split at h
  · split at h
    · cases h
    · rename_i hs
      cases a with
      | mk b o s => cases s with
        | none => rfl
        | some q => simp at hs
  · cases h

theorem wf64 {k : Int} (h : (Lit.int .i64 k).wf = true) : I64 k := by
  have : -9223372036854775808 ≤ k ∧ k ≤ 9223372036854775807 := by simpa [Lit.wf, IntKind.min, IntKind.max, IntKind.signed, IntKind.bits] using h
  exact this

set_option maxRecDepth 100000 in
theorem tree_of {H : Type} (enc : TypeId × Value → H) (w : World) (sp : Nat → Bool) : (n f : Nat) → f ≤ 2 * n + 1 → (cs : List Value) → (x : DataW H × List MemPlace) →
    DataW.trod enc Try.prog w 0 sp true f 32 cs = some x →
    ∃ t : Tm (n + 1), cs = [.int .i64 t.1.1, .int .i64 t.1.2.1, .string t.1.2.2, .slice t.2.1.1 t.2.2.length t.2.1.2] ∧ In w.heap.size w (n + 1) t ∧ wt (n + 1) t ≤ Rows.uptoBulk x.1 := by
  intro n
  induction n with
  | zero =>
    intro f hf cs x h
    obtain ⟨xs, m, rfl, rfl, hl, hx, hg⟩ := DataW.trod_struct Try.underlying32 h
    have h0 : DataW.trod enc Try.prog w 0 sp true m 3 ((cs.drop 0).take (Try.prog.cellsOf 3)) = xs[0]? := hg 0 _ rfl
    obtain rfl : m = 0 := by omega
    have hx' : xs.length = 4 := hx
    rw [List.getElem?_eq_getElem (by omega)] at h0
    cases h0
  | succ n ih =>
    intro f hf cs x h
    obtain ⟨xs, m, rfl, rfl, hl, hx, hg⟩ := DataW.trod_struct Try.underlying32 h
    have h0 : DataW.trod enc Try.prog w 0 sp true m 3 ((cs.drop 0).take (Try.prog.cellsOf 3)) = xs[0]? := hg 0 _ rfl
    have h1 : DataW.trod enc Try.prog w 0 sp true m 3 ((cs.drop 1).take (Try.prog.cellsOf 3)) = xs[1]? := hg 1 _ rfl
    have h2 : DataW.trod enc Try.prog w 0 sp true m 9 ((cs.drop 2).take (Try.prog.cellsOf 9)) = xs[2]? := hg 2 _ rfl
    have h3 : DataW.trod enc Try.prog w 0 sp true m 29 ((cs.drop 3).take (Try.prog.cellsOf 29)) = xs[3]? := hg 3 _ rfl
    rw [cellsInt] at h0 h1
    rw [cellsString] at h2
    rw [cellsTerms] at h3
    rw [cellsTerm] at hl
    obtain ⟨c0, c1, c2, c3, rfl⟩ : ∃ c0 c1 c2 c3, cs = [c0, c1, c2, c3] := by
      match cs, hl with
      | [c0, c1, c2, c3], _ => exact ⟨c0, c1, c2, c3, rfl⟩
    obtain ⟨y0, y1, y2, y3, rfl⟩ : ∃ y0 y1 y2 y3, xs = [y0, y1, y2, y3] := by
      match xs, hx with
      | [y0, y1, y2, y3], _ => exact ⟨y0, y1, y2, y3, rfl⟩
    obtain ⟨k, e0, z0, w0⟩ := DataW.trod_int Try.underlying3 (x := y0) (by simpa using h0)
    obtain ⟨u, e1, z1, w1⟩ := DataW.trod_int Try.underlying3 (x := y1) (by simpa using h1)
    obtain ⟨s, e2, z2, w2⟩ := DataW.trod_string Try.underlying9 (x := y2) (by simpa using h2)
    have h3' : DataW.trod enc Try.prog w 0 sp true m 29 [c3] = some y3 := by simpa using h3
    simp at e0 e1 e2
    subst e0 e1 e2 z0 z1 z2
    rcases DataW.trod_slice Try.underlying29 h3' with ⟨e3, rfl⟩ | ⟨a, len, cap, elems, rest, m', rfl, e3, rfl, _, hlc, hcm, hel, hat, _, _⟩
    · simp at e3
      subst e3
      refine ⟨((k, u, s), (none, 0), []), rfl, ⟨⟨wf64 w0, wf64 w1, w2, Nat.le_refl _, Nat.zero_le _⟩, Or.inl rfl⟩, ?_⟩
      have es : s.data.toList.length = s.size := by rw [Array.length_toList]; rfl
      simp only [wt, Rows.uptoBulk, Rows.uptoBulkAll, List.map_cons, List.map_nil, List.sum_nil]
      omega
    · simp at e3
      subst e3
      simp only [cellsTerm] at hat
      have key : ∀ i, i < len → ∃ t : Tm (n + 1), (∃ b o, a = ⟨b, o, none⟩ ∧ b < w.heap.size ∧ Held w b (o + i * 4) (n + 1) t) ∧ In w.heap.size w (n + 1) t ∧ ∀ e, (elems.map (·.1))[i]? = some e → wt (n + 1) t ≤ Rows.uptoBulk e := by
        intro i hi
        have hi' := hat i hi
        have hi0 := hat 0 (by omega)
        rw [List.getElem?_eq_getElem (by omega)] at hi' hi0
        obtain ⟨cs', hcs, htr⟩ := Option.bind_eq_some_iff.1 hi'
        obtain ⟨cs0, hcs0, htr0⟩ := Option.bind_eq_some_iff.1 hi0
        obtain ⟨_, hlen, hcell⟩ := World.cells?_some hcs
        obtain ⟨_, hlen0, hcell0⟩ := World.cells?_some hcs0
        obtain ⟨t, rfl, hin, hb⟩ := ih m' (by omega) cs' _ htr
        have ha := spot_none (w := w) (a := a) (v := cs0[0]'(by omega)) (by have := hcell0 0 (by omega); rw [List.getElem?_eq_getElem (by omega)] at this; simpa using this)
        have hadd : ∀ j, (a.add (i * 4)).add j = ⟨a.block, a.off + i * 4 + j, none⟩ := fun j => by
          have := add_add a.block a.off (i * 4) j
          rw [← ha] at this
          exact this
        have c0 := hcell 0 (by omega)
        have c1 := hcell 1 (by omega)
        have c2 := hcell 2 (by omega)
        have c3 := hcell 3 (by omega)
        rw [hadd] at c0 c1 c2 c3
        simp at c0 c1 c2 c3
        refine ⟨t, ⟨a.block, a.off, ha, World.block_lt_of_cell? w ⟨a.block, a.off + i * 4, none⟩ c0, c0, c1, c2, c3⟩, hin, fun e he => ?_⟩
        rw [List.getElem?_map, List.getElem?_eq_getElem (by omega)] at he
        have : (elems[i]).1 = e := by simpa using he
        rw [← this]
        exact hb
      obtain ⟨p, hpl, hp⟩ := list_of len key
      refine ⟨((k, u, s), (some a, cap), p), by simp [hpl], ⟨⟨wf64 w0, wf64 w1, w2, by simp only; omega, hcm⟩, ?_⟩, ?_⟩
      · rcases Nat.eq_zero_or_pos len with h | h
        · exact Or.inl (List.eq_nil_of_length_eq_zero (hpl.trans h))
        · obtain ⟨⟨b, o, rfl, hb, _⟩, _, _⟩ := hp 0 (p[0]'(by rw [hpl]; exact h)) (List.getElem?_eq_getElem (by rw [hpl]; exact h))
          refine Or.inr ⟨b, o, rfl, hb, fun i y hy => ?_⟩
          obtain ⟨⟨b', o', e, _, hh⟩, hin, _⟩ := hp i y hy
          simp at e
          obtain ⟨rfl, rfl⟩ := e
          exact ⟨hh, hin⟩
      · have hs := wt_le p (elems.map (·.1)) (fun i y e hy he => (hp i y hy).2.2 e he) (by simp; omega)
        have es : s.data.toList.length = s.size := by rw [Array.length_toList]; rfl
        simp only [wt, Rows.uptoBulk, Rows.uptoBulkAll, List.map_cons, List.map_nil] at hs ⊢
        omega

set_option maxRecDepth 100000 in
theorem open_term {H : Type} {enc : TypeId × Value → H} {W : World} {r : Reach} {b0 : Nat} {v : Value} {d : DataW H} {p : List MemPlace} (hv : Value.okWide Try.prog W r b0 32 v)
    (h : DataW.Trod enc Try.prog W 0 (fun _ => true) true 32 v d p) : ∃ n, ∃ t : Tm (n + 1), v = val (n + 1) t ∧ In W.heap.size W (n + 1) t ∧ wt (n + 1) t ≤ Rows.uptoBulk d := by
  obtain ⟨cs, rfl, _⟩ := okWide_struct Try.underlying32 hv
  obtain ⟨f, hf⟩ := h
  obtain ⟨t, e, hin, hb⟩ := tree_of enc W (fun _ => true) f f (by omega) _ _ hf
  refine ⟨f, t, ?_, hin, hb⟩
  have : cs = #[.int .i64 t.1.1, .int .i64 t.1.2.1, .string t.1.2.2, .slice t.2.1.1 t.2.2.length t.2.1.2] := by
    simp [Value.cells] at e
    exact Array.toList_inj.1 e
  rw [this]
  rfl
end Go.Proofs.Ytdlckjjfbobmpaa
namespace Go.Proofs.Ytdlckjjfbobmpaa
open Go.RowKit

def inB (n lo hi : Int) : Bool := decide (lo ≤ n) && decide (n ≤ hi)
def lowB (c : UInt8) : Bool := decide (97 ≤ (c.toNat : Int)) && decide ((c.toNat : Int) ≤ 122)
def lowsB (l : List UInt8) : Bool := l.all lowB
def nameB (s : ByteArray) : Bool := inB s.size 1 8 && lowsB s.data.toList

theorem ret_bool {a b : Bool} (h : a = b) : Ending.returned (.bool a) = .returned (.bool b) := by rw [h]

theorem in_any (n lo hi : Int) (w : World) :
    Calls Try.prog 5 #[.int .i64 n, .int .i64 lo, .int .i64 hi] w fun e w' => e = .returned (.bool (inB n lo hi)) ∧ w' = w := by
  go_enter Try.func5, Try.ntmps5
  by_cases h1 : lo ≤ n
  · by_cases h2 : n ≤ hi
    · go_wp2
      all_goals go_ret
      all_goals exact ⟨ret_bool (by simp [inB, h1, h2]), rfl⟩
    · go_wp2
      all_goals go_ret
      all_goals exact ⟨ret_bool (by simp [inB, h1, h2]), rfl⟩
  · go_wp2
    all_goals go_ret
    all_goals exact ⟨ret_bool (by simp [inB]; omega), rfl⟩

theorem take_snoc (s : ByteArray) (k : Nat) (h : k < s.size) : s.data.toList.take (k + 1) = s.data.toList.take k ++ [s[k]] := by
  rw [List.take_succ_eq_append_getElem (by simpa using h)]; rfl
theorem lowsB_snoc (s : ByteArray) (k : Nat) (h : k < s.size) : lowsB (s.data.toList.take (k + 1)) = (lowsB (s.data.toList.take k) && lowB s[k]) := by
  rw [take_snoc s k h]; simp [lowsB]

set_option maxHeartbeats 400000 in
theorem name_any (s : ByteArray) (w : World) (hs : s.size ≤ 9223372036854775807) :
    Calls Try.prog 27 #[.string s] w fun e w' => e = .returned (.bool (nameB s)) ∧ w' = w := by
  go_enter Try.func27, Try.ntmps27
  go_wp2_with (go_at_call 5; refine (in_any _ _ _ _).mono ?_; rintro e w' ⟨rfl, rfl⟩)
  go_loop [3, 4] (fun ok i => ∃ k : Nat, ∃ b : Bool, k ≤ s.size ∧ i = .int .i64 k ∧ ok = .bool b ∧ Hid (b = (inB s.size 1 8 && lowsB (s.data.toList.take k)))) (fun _ i => s.size - (intOf i).toNat)
  case atStart => exact ⟨0, _, Nat.zero_le _, rfl, rfl, by simp [Hid, lowsB]⟩
  case round =>
    obtain ⟨k, b, hk, rfl, rfl, hb⟩ := hrel
    by_cases hlt : k < s.size
    · have HS := hide (lowsB_snoc s k hlt)
      cases b with
      | false =>
        go_wp2_with fail
        go_round
        case rel => exact ⟨k + 1, false, by omega, by go_num, rfl, by have := hb.out; simp only [Hid]; rw [HS.out, ← Bool.and_assoc, ← this]; rfl⟩
        case measure => simp [intOf]; omega
      | true =>
        by_cases h1 : 97 ≤ (s[k].toNat : Int)
        · by_cases h2 : (s[k].toNat : Int) ≤ 122
          · go_wp2_with fail
            go_round
            case rel => exact ⟨k + 1, true, by omega, by go_num, rfl, by have := hb.out; simp only [Hid]; rw [HS.out, ← Bool.and_assoc, ← this]; simp [lowB, h1, h2]⟩
            case measure => simp [intOf]; omega
          · go_wp2_with fail
            go_round
            case rel => exact ⟨k + 1, false, by omega, by go_num, rfl, by have := hb.out; simp only [Hid]; rw [HS.out, ← Bool.and_assoc, ← this]; simp [lowB, h2]⟩
            case measure => simp [intOf]; omega
        · go_wp2_with fail
          go_round
          case rel => exact ⟨k + 1, false, by omega, by go_num, rfl, by have := hb.out; simp only [Hid]; rw [HS.out, ← Bool.and_assoc, ← this]; simp [lowB, h1]⟩
          case measure => simp [intOf]; omega
    · go_wp2_with fail
      go_ret
      exact ⟨ret_bool (by rw [hb.out, List.take_of_length_le (by simp; omega)]; rfl), rfl⟩

/-- How many words a term has. -/
def sz : (n : Nat) → Tm n → Int
  | 0, _ => 0
  | n + 1, x => if x.1.1 = 4 then 1 + (x.2.2.map fun y => 1 + sz n y).sum else 0

theorem sz_bound : (n : Nat) → (x : Tm n) → 0 ≤ sz n x ∧ sz n x + 1 ≤ 2 * ((nodes n x).length : Int)
  | 0, _ => ⟨by simp [sz], by simp [sz, nodes]⟩
  | n + 1, x => by
    have key : ∀ l : List (Tm n), 0 ≤ (l.map fun y => 1 + sz n y).sum ∧ (l.map fun y => 1 + sz n y).sum ≤ 2 * ((l.flatMap fun y => nodes n y).length : Int) := by
      intro l
      induction l with
      | nil => exact ⟨by simp, by simp⟩
      | cons y l ih =>
        have hy := sz_bound n y
        simp only [List.map_cons, List.sum_cons, List.flatMap_cons, List.length_append]
        exact ⟨by omega, by omega⟩
    have k := key x.2.2
    simp only [sz, nodes, List.length_cons]
    by_cases h4 : x.1.1 = 4
    · rw [if_pos h4]
      exact ⟨by omega, by omega⟩
    · rw [if_neg h4]
      exact ⟨by omega, by omega⟩

/-- So many words behind k of the parts. -/
def szTo (n : Nat) (p : List (Tm n)) (k : Nat) : Int := 1 + ((p.take k).map fun y => 1 + sz n y).sum
theorem szTo_succ (n : Nat) (p : List (Tm n)) (k : Nat) (x : Tm n) (h : p[k]? = some x) : szTo n p (k + 1) = szTo n p k + (1 + sz n x) := by
  obtain ⟨h1, e1⟩ := List.getElem?_eq_some_iff.1 h
  unfold szTo
  rw [List.take_succ_eq_append_getElem h1, e1]
  simp
  omega
theorem szTo_bound (n : Nat) (p : List (Tm n)) (k : Nat) : 0 ≤ szTo n p k ∧ szTo n p k ≤ 2 * (1 + (p.flatMap fun y => nodes n y).length : Int) := by
  have h := take_le (fun y => nodes n y) p k
  have key : ∀ l : List (Tm n), 0 ≤ (l.map fun y => 1 + sz n y).sum ∧ (l.map fun y => 1 + sz n y).sum ≤ 2 * ((l.flatMap fun y => nodes n y).length : Int) := by
    intro l
    induction l with
    | nil => exact ⟨by simp, by simp⟩
    | cons y l ih =>
      have hy := sz_bound n y
      simp only [List.map_cons, List.sum_cons, List.flatMap_cons, List.length_append]
      exact ⟨by omega, by omega⟩
  have k := key (p.take k)
  unfold szTo
  exact ⟨by omega, by omega⟩

def F17 (n : Nat) : Prop := ∀ (x : Tm n) (B : Nat) (w : World), In B w n x → B ≤ w.heap.size → (nodes n x).length ≤ 2097152 →
  Calls Try.prog 8 #[val n x] w fun e w' => e = .returned (.int .i64 (sz n x)) ∧ Below w.heap.size w w'

theorem rsize_else (k0 u0 : Int) (s : ByteArray) (a : Option Addr) (len pc : Nat) (w : World) (h : ¬ k0 = 4) :
    Calls Try.prog 8 #[.agg #[.int .i64 k0, .int .i64 u0, .string s, .slice a len pc]] w fun e w' => e = .returned (.int .i64 0) ∧ Below w.heap.size w w' := by
  have h4 : (k0 == 4) = false := by simpa using h
  clear h
  go_enter Try.func8, Try.ntmps8
  go_wp2_with fail
  go_ret
  exact ⟨rfl, (Below.refl _ _).alloc (Nat.le_refl _) _⟩

set_option maxHeartbeats 400000 in
theorem rsize_tup (n : Nat) (ih : F17 n) (u0 : Int) (s : ByteArray) (a : Option Addr) (pc len : Nat) (p : List (Tm n)) (hpl : Hid (p.length = len)) (B : Nat) (w : World)
    (hp : Hid (p = [] ∨ ∃ b o, a = some ⟨b, o, none⟩ ∧ b < B ∧ ∀ (i : Nat) (y : Tm n), p[i]? = some y → Held w b (o + i * 4) n y ∧ In B w n y))
    (hlen : len ≤ 9223372036854775807) (hB : B ≤ w.heap.size) (hsum : Hid (1 + (p.flatMap fun y => nodes n y).length ≤ 2097152)) :
    Calls Try.prog 8 #[.agg #[.int .i64 4, .int .i64 u0, .string s, .slice a len pc]] w fun e w' =>
      e = .returned (.int .i64 (1 + (p.map fun y => 1 + sz n y).sum)) ∧ Below w.heap.size w w' := by
  go_enter Try.func8, Try.ntmps8
  go_wp2_with fail
  go_loopw [3, 4] (fun t i wr => ∃ k : Nat, ∃ r : Int, k ≤ len ∧ i = .int .i64 k ∧ t = .int .i64 r ∧ Hid (r = szTo n p k) ∧ Below w.heap.size w wr ∧ w.heap.size + 1 ≤ wr.heap.size ∧ wr.cell? ⟨w.heap.size, 3, none⟩ = some (.slice a len pc)) (fun _ i _ => len - (intOf i).toNat)
  case atStart => exact ⟨0, 1, by omega, rfl, rfl, by simp [Hid, szTo], (Below.refl _ _).alloc (Nat.le_refl _) _, by simp, by simp [go_sem]⟩
  case round =>
    obtain ⟨k, r, hk, rfl, rfl, hr, hb, hwr, ha0⟩ := hrel
    by_cases hlt : k < len
    · obtain ⟨x, hx⟩ : ∃ x, p[k]? = some x := ⟨p[k]'(by rw [hpl.out]; exact hlt), List.getElem?_eq_getElem _⟩
      have HS := hide (szTo_succ n p k x hx)
      have e1 := szTo_bound n p k
      rw [← hr.out] at e1
      have e2 := sz_bound n x
      have e3 : (nodes n x).length ≤ (p.flatMap fun y => nodes n y).length := by
        have e4 := take_le (fun y => nodes n y) p (k + 1)
        rw [take_flat _ p k x hx, List.length_append] at e4
        omega
      have e5 := hsum.out
      have hx9 : (nodes n x).length ≤ 2097152 := by omega
      have r1 : 0 ≤ r ∧ r ≤ 4194304 := by omega
      have r2 : 0 ≤ sz n x ∧ sz n x ≤ 4194304 := by omega
      clear e1 e2 e3 e5
      rcases hp.out with hp | ⟨pb, po, rfl, hpb, hp⟩
      · subst hp; simp at hx
      obtain ⟨hx1, hx2⟩ := hp k x hx
      replace hx1 := hx1.below (hb.mono hB) hpb
      replace hx2 := hx2.below (hb.mono hB)
      clear hp hx
      cases n with
      | zero => exact hx1.elim
      | succ n =>
      obtain ⟨x0, x1, x2, x3⟩ := hx1
      have hB' : B ≤ wr.heap.size := Nat.le_trans hB hb.size
      have HC := hide (show Calls Try.prog 8 #[.agg #[.int .i64 x.1.1, .int .i64 x.1.2.1, .string x.1.2.2, .slice x.2.1.1 x.2.2.length x.2.1.2]] wr _ from ih x B wr hx2 hB' hx9)
      clear ih hx2 hx9
      generalize x.2.2.length = xl at *
      generalize sz (n + 1) x = z at *
      obtain ⟨r11, r12⟩ := r1
      obtain ⟨r21, r22⟩ := r2
      have hk1 : (0 : Int) ≤ (k : Int) := by omega
      have hk2 : (k : Int) < (len : Int) := by omega
      go_wp2_with fail
      refine HC.out.mono ?_
      rintro e w1 ⟨rfl, hb1⟩
      have hd0 : w1.cell? ⟨w.heap.size, 3, none⟩ = some (.slice (some ⟨pb, po, none⟩) len pc) := (hb1.cell (p := ⟨w.heap.size, 3, none⟩) (by simp; omega)).trans ha0
      have hz1 := hb1.size
      have hb2 : Below w.heap.size w w1 := hb.trans (hb1.mono hb.size)
      go_wp2_with fail
      go_roundw
      case rel => exact ⟨k + 1, r + (1 + z), by omega, by go_num, by go_num, by simp only [Hid]; rw [HS.out, ← hr.out], hb2, by omega, hd0⟩
      case measure => simp [intOf]; omega
    · go_wp2_with fail
      go_ret
      refine ⟨ret_int ?_, hb⟩
      rw [hr.out]
      unfold szTo
      rw [List.take_of_length_le (by rw [hpl.out]; omega)]

theorem rsize_any (n : Nat) : F17 n := by
  induction n with
  | zero => intro x B w hx; exact hx.elim
  | succ n ih =>
    intro x B w hx hB hsum
    obtain ⟨⟨k, u, s⟩, ⟨a, pc⟩, p⟩ := x
    obtain ⟨⟨hk, hu, hs, hpl, hpc⟩, hp⟩ := hx
    simp only at hpl hpc hp
    unfold maxLen at hpc
    have hL : (nodes (n + 1) ((k, u, s), (a, pc), p)).length = 1 + (p.flatMap fun y => nodes n y).length := by simp only [nodes, List.length_cons]; omega
    rw [hL] at hsum
    show Calls Try.prog 8 #[.agg #[.int .i64 k, .int .i64 u, .string s, .slice a p.length pc]] w fun e w' => e = .returned (.int .i64 (if k = 4 then 1 + (p.map fun y => 1 + sz n y).sum else 0)) ∧ Below w.heap.size w w'
    by_cases h4 : k = 4
    · subst h4
      exact rsize_tup n ih u s a pc p.length p rfl B w hp (by omega) hB hsum
    · rw [if_neg h4]
      exact rsize_else k u s a p.length pc w h4
end Go.Proofs.Ytdlckjjfbobmpaa
namespace Go.Proofs.Ytdlckjjfbobmpaa
open Go.RowKit

/-- Is a term right by itself? -/
def good (x : Nd) : Bool :=
  (if x.1.1 = 1 then x.1.2.2.toList.isEmpty && inB x.1.2.1 (-1099511627776) 1099511627776
   else if x.1.1 = 2 then nameB x.1.2.2 && x.1.2.1 == 0
   else if x.1.1 = 3 then x.1.2.2.toList.isEmpty && inB x.1.2.1 1 99
   else if x.1.1 = 4 then x.1.2.2.toList.isEmpty && x.1.2.1 == 0 && decide ((x.2.2.1 : Int) ≤ 8)
   else if x.1.1 = 5 then x.1.2.2.toList.isEmpty && inB x.1.2.1 0 3
   else if x.1.1 = 6 then x.1.2.2.toList.isEmpty && x.1.2.1 == 0
   else false) && (x.1.1 == 4 || !decide ((0 : Int) < (x.2.2.1 : Int)))
def deeper (x : Nd) (d m : Int) : Int := if x.1.1 = 4 ∧ m < d + 1 then d + 1 else m

/-- What Check says, of what is still to be looked at, so deep as it has been. -/
def chkL (z : Int) : List Nd → List Int → Int → Int
  | x :: l, d :: ds, m => if good x then chkL z l ds (deeper x d m) else 5
  | _, _, m => if 12 < m ∨ 200 < z then 2 else 0
def chk (n : Nat) (x : Tm n) : Int := chkL (sz n x) (nodes n x) (deeps n x 0) 0

theorem chkL_drop (z : Int) (l : List Nd) (ds : List Int) (m : Int) (k : Nat) (x : Nd) (d : Int) (hx : l[k]? = some x) (hd : ds[k]? = some d) :
    chkL z (l.drop k) (ds.drop k) m = if good x then chkL z (l.drop (k + 1)) (ds.drop (k + 1)) (deeper x d m) else 5 := by
  obtain ⟨h1, e1⟩ := List.getElem?_eq_some_iff.1 hx
  obtain ⟨h2, e2⟩ := List.getElem?_eq_some_iff.1 hd
  rw [List.drop_eq_getElem_cons h1, List.drop_eq_getElem_cons h2, e1, e2]
  rfl
theorem chkL_nil (z : Int) (l : List Nd) (ds : List Int) (m : Int) (k : Nat) (h : l.length ≤ k) : chkL z (l.drop k) (ds.drop k) m = if 12 < m ∨ 200 < z then 2 else 0 := by
  rw [List.drop_eq_nil_of_le h]
  cases ds.drop k <;> rfl

theorem deeps_bound : (n : Nat) → (x : Tm n) → (d : Int) → ∀ e ∈ deeps n x d, d ≤ e ∧ e + 1 ≤ d + (nodes n x).length
  | 0, _, d => by
    intro e he
    simp only [deeps, List.mem_singleton] at he
    subst he
    simp [nodes]
  | n + 1, x, d => by
    intro e he
    simp only [deeps, List.mem_cons, List.mem_flatMap] at he
    simp only [nodes, List.length_cons]
    rcases he with rfl | ⟨y, hy, he⟩
    · omega
    · have h1 := deeps_bound n y (d + 1) e he
      have h2 : (nodes n y).length ≤ (x.2.2.flatMap fun y => nodes n y).length := by
        obtain ⟨i, hi⟩ := List.getElem?_of_mem hy
        have e4 := take_le (fun y => nodes n y) x.2.2 (i + 1)
        rw [take_flat _ x.2.2 i y hi, List.length_append] at e4
        omega
      omega

theorem ndCells_at (l : List Nd) (k : Nat) (x : Nd) (hx : l[k]? = some x) (j : Nat) (hj : j < 4) : (ndCells l)[k * 4 + j]? = (nd4 x)[j]? := by
  induction l generalizing k with
  | nil => simp at hx
  | cons y l ih =>
    have e : ndCells (y :: l) = nd4 y ++ ndCells l := rfl
    have hy : (nd4 y).length = 4 := rfl
    rw [e]
    cases k with
    | zero =>
      have : y = x := by simpa using hx
      subst this
      rw [List.getElem?_append_left (by omega)]
      simp
    | succ k =>
      rw [List.getElem?_append_right (by omega), hy, ← ih k (by simpa using hx)]
      congr 1
      omega

theorem add_none (g j : Nat) : (⟨g, 0, none⟩ : Addr).add j = ⟨g, j, none⟩ := by unfold Addr.add; split <;> simp_all

theorem own_nd {w : World} {base g c L : Nat} {l : List Nd} (h : w.ownsRow base 32 4 (.slice (some ⟨g, 0, none⟩) L c) L (ndCells l)) (k : Nat) (x : Nd) (hx : l[k]? = some x) :
    w.cell? ⟨g, k * 4, none⟩ = some (.int .i64 x.1.1) ∧ w.cell? ⟨g, k * 4 + 1, none⟩ = some (.int .i64 x.1.2.1) ∧ w.cell? ⟨g, k * 4 + 2, none⟩ = some (.string x.1.2.2) ∧ w.cell? ⟨g, k * 4 + 3, none⟩ = some (.slice x.2.1 x.2.2.1 x.2.2.2) := by
  have hc := h.cells (g := g) rfl
  refine ⟨?_, ?_, ?_, ?_⟩
  · have := hc (k * 4 + 0) (.int .i64 x.1.1) (by rw [ndCells_at l k x hx 0 (by omega)]; rfl)
    rw [add_none] at this; exact this
  · have := hc (k * 4 + 1) (.int .i64 x.1.2.1) (by rw [ndCells_at l k x hx 1 (by omega)]; rfl)
    rw [add_none] at this; exact this
  · have := hc (k * 4 + 2) (.string x.1.2.2) (by rw [ndCells_at l k x hx 2 (by omega)]; rfl)
    rw [add_none] at this; exact this
  · have := hc (k * 4 + 3) (.slice x.2.1 x.2.2.1 x.2.2.2) (by rw [ndCells_at l k x hx 3 (by omega)]; rfl)
    rw [add_none] at this; exact this
theorem own_int {w : World} {base h c L : Nat} {l : List Int} (o : w.ownsRow base 3 1 (.slice (some ⟨h, 0, none⟩) L c) L (ints l)) (k : Nat) (d : Int) (hd : l[k]? = some d) :
    w.cell? ⟨h, k, none⟩ = some (.int .i64 d) := by
  have := o.cells (g := h) rfl k (.int .i64 d) (by simp [ints, hd])
  rw [add_none] at this; exact this

theorem nodes_len : (n : Nat) → (x : Tm n) → (B : Nat) → (w : World) → In B w n x → ∀ y ∈ nodes n x, y.2.2.1 ≤ 9223372036854775807 ∧ y.1.2.2.size ≤ 9223372036854775807
  | 0, _, _, _, h => h.elim
  | n + 1, x, B, w, h => by
    intro y hy
    obtain ⟨⟨_, _, hs, hl, hc⟩, hk⟩ := h
    simp only [nodes, List.mem_cons, List.mem_flatMap] at hy
    unfold maxLen at hc hs
    rcases hy with rfl | ⟨z, hz, hy⟩
    · exact ⟨by simp only; omega, by simp only; omega⟩
    · rcases hk with hk | ⟨b, o, _, _, hk⟩
      · rw [hk] at hz; cases hz
      · obtain ⟨i, hi⟩ := List.getElem?_of_mem hz
        exact nodes_len n z B w (hk i z hi).2 y hy
end Go.Proofs.Ytdlckjjfbobmpaa
