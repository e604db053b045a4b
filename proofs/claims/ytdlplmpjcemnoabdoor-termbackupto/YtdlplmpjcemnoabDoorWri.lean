/- What is proved here: term.write of a term that lies in memory, onto a builder that the call has made, writes the plain function wtext of it, and turns nothing else. Conditions: what is held takes at most 2^47 bytes; the library's table of powers lies as its text lays it. -/
import Derived.Test.YtdlplmpjcemnoabDoorBld
import Derived.Test.YtdlplmpjcemnoabDoorWt
import Derived.Lib.ItoaLen
namespace Go.Proofs.YtdlplmpjcemnoabDoor
open Go.RowKit

/-- Texts, a blank between each two. -/
def jn (l : List (List UInt8)) : List UInt8 := ((l.map fun a => 32 :: a).flatten).tail
theorem jn_snoc (l : List (List UInt8)) (a : List UInt8) : jn (l ++ [a]) = if l = [] then a else jn l ++ 32 :: a := by
  unfold jn
  cases l with
  | nil => simp
  | cons b l => simp
/-- What term.write writes. -/
def wtext : (n : Nat) → Tm n → List UInt8
  | 0, _ => []
  | n + 1, x =>
    if x.1.1 = 1 then Lib.itoa x.1.2.1 else if x.1.1 = 2 then x.1.2.2.data.toList else if x.1.1 = 3 then 35 :: Lib.itoa x.1.2.1
    else if x.1.1 = 4 then 40 :: jn (x.2.2.map fun y => wtext n y) ++ [41] else if x.1.1 = 5 then 36 :: Lib.itoa x.1.2.1 else if x.1.1 = 6 then [95] else []
theorem jn_len (n : Nat) (f : Tm n → List UInt8) (l : List (Tm n)) (h : ∀ y ∈ l, (f y).length + 1 ≤ 24 * wt n y) : (jn (l.map f)).length ≤ 24 * (l.map fun y => wt n y).sum := by
  have key : ∀ l : List (Tm n), (∀ y ∈ l, (f y).length + 1 ≤ 24 * wt n y) → (((l.map f).map fun a => 32 :: a).flatten).length ≤ 24 * (l.map fun y => wt n y).sum := by
    intro l
    induction l with
    | nil => simp
    | cons y l ih =>
      intro h
      have hy := h y (by simp)
      have hr := ih (fun z hz => h z (by simp [hz]))
      simp only [List.map_cons, List.flatten_cons, List.length_append, List.length_cons, List.sum_cons]
      omega
  unfold jn
  rw [List.length_tail]
  have := key l h
  omega
theorem in_kid {B : Nat} {w : World} {n : Nat} {x : Tm (n + 1)} (h : In B w (n + 1) x) {y : Tm n} (hy : y ∈ x.2.2) : In B w n y := by
  rcases h.2 with h | ⟨b, o, _, _, h⟩
  · rw [h] at hy; cases hy
  · obtain ⟨i, hi⟩ := List.getElem?_of_mem hy
    exact (h i y hi).2
theorem wtext_len : (n : Nat) → (x : Tm n) → (B : Nat) → (w : World) → In B w n x → (wtext n x).length + 1 ≤ 24 * wt n x
  | 0, _, _, _, h => h.elim
  | n + 1, x, B, w, h => by
    have hl := jn_len n (fun y => wtext n y) x.2.2 (fun y hy => wtext_len n y B w (in_kid h hy))
    have hu : I64 x.1.2.1 := h.1.2.1
    obtain ⟨⟨k, u, s⟩, ⟨a, c⟩, p⟩ := x
    have hi := Lib.itoa_length_le u hu.1 hu.2
    have hs : s.data.toList.length = s.size := by rw [Array.length_toList]; rfl
    simp only at hl
    show (if k = 1 then Lib.itoa u else if k = 2 then s.data.toList else if k = 3 then 35 :: Lib.itoa u
      else if k = 4 then 40 :: jn (p.map fun y => wtext n y) ++ [41] else if k = 5 then 36 :: Lib.itoa u else if k = 6 then [95] else []).length + 1 ≤ 24 * (1 + s.size + (p.map fun y => wt n y).sum)
    repeat' split
    all_goals (try simp only [List.length_cons, List.length_append, List.length_nil])
    all_goals omega

theorem Wrote.trans {B b : Nat} {l l' : List UInt8} {w w1 w2 : World} (h : Wrote B b l w w1) (h' : Wrote B b l' w1 w2) : Wrote B b l' w w2 := ⟨h'.1, h.2.1.trans h'.2.1, h.2.2.trans h'.2.2⟩
theorem Wrote.old {B b : Nat} {l : List UInt8} {w w' : World} (h : Bu B b l w) (hb : Below w.heap.size w w') (hB : B ≤ w.heap.size) : Wrote B b l w w' := ⟨h.old hb, hb.mono hB, kept_old hb⟩

def FW (n : Nat) : Prop := ∀ (x : Tm n) (C B b : Nat) (l : List UInt8) (w : World), In C w n x → C ≤ B → Bu B b l w → B ≤ w.heap.size → Tab B w → l.length + 24 * wt n x ≤ 140737488355328 →
  Calls Tryd.prog 12 #[.pointer (some ⟨b, 0, none⟩), val n x] w fun e w' => e = .returned (.tuple #[]) ∧ Wrote B b (l ++ wtext n x) w w'

/-- A byte that stands as a number. -/
theorem writeByte_at (B b : Nat) (l : List UInt8) (c : Int) (c8 : UInt8) (hc : (c8.toNat : Int) = c) (w : World) (h : Bu B b l w) (hlen : l.length + 1 ≤ 140737488355328) (hBw : B ≤ w.heap.size) :
    Calls Tryd.prog 24 #[.pointer (some ⟨b, 0, none⟩), .int .u8 c] w fun e w' => e = .returned .nilIface ∧ Wrote B b (l ++ [c8]) w w' := by
  rw [← hc]
  exact writeByte_any B b l c8 w h hlen hBw
theorem box_at (w : World) (cs : Array Value) (t : TypeId) : (w.alloc (.cells cs t)).heap[w.heap.size]? = some (.cells cs t (0, 0)) := heap_alloc_new w _

set_option maxHeartbeats 1000000 in
theorem write_num (k u : Int) (s : ByteArray) (a : Option Addr) (n c : Nat) (B b : Nat) (l : List UInt8) (w : World) (hu : I64 u) (h : Bu B b l w) (hB : B ≤ w.heap.size) (ht : Tab B w) (hlen : l.length + 24 ≤ 140737488355328) (c8 : UInt8) (hk : (k = 3 ∧ c8 = 35) ∨ (k = 5 ∧ c8 = 36)) :
    Calls Tryd.prog 12 #[.pointer (some ⟨b, 0, none⟩), .agg #[.int .i64 k, .int .i64 u, .string s, .slice a n c]] w fun e w' => e = .returned (.tuple #[]) ∧ Wrote B b (l ++ c8 :: Lib.itoa u) w w' := by
  have HI := hide (Lib.itoa_length_le u hu.1 hu.2)
  have HW : Hid (∀ o, Wrote B b l w (w.alloc o)) := fun o => Wrote.old h ((Below.refl _ _).alloc (Nat.le_refl _) o) hB
  have HT := hide ht
  have HU := hide hu
  have hlt := h.lt
  clear h ht hu
  rcases hk with ⟨rfl, rfl⟩ | ⟨rfl, rfl⟩
  all_goals
    go_enter Tryd.func12, Tryd.ntmps12
    go_wp2_with fail
    refine (writeByte_at B b l _ _ (by first | exact (rfl : (((35 : UInt8).toNat : Nat) : Int) = 35) | exact (rfl : (((36 : UInt8).toNat : Nat) : Int) = 36)) _ (HW.out _).1 (by omega) (by simp; omega)).mono ?_
    rintro e w1 ⟨rfl, h1⟩
    have H1 := hide ((HW.out _).trans h1)
    have hbx := kept_cell h1.2.2 (box_at w _ 24) (by omega) (by decide)
    have hc : w1.cell? ⟨w.heap.size, 1, none⟩ = some (.int .i64 u) := by rw [Lib.cell_of_heap hbx]; rfl
    have HZ1 : Hid (B ≤ w1.heap.size) := by have := h1.2.1.size; simp at this; simp only [Hid]; omega
    clear h1 hbx
    go_wp2_with fail
    refine (itoa_any u HU.out.1 HU.out.2 B _ (HT.out.on H1.out.2.1)).mono ?_
    rintro e w2 ⟨rfl, hb2⟩
    have H2 := hide (Wrote.old H1.out.1 hb2 HZ1.out)
    have HZ2 : Hid (B ≤ w2.heap.size) := Nat.le_trans HZ1.out hb2.size
    clear hb2
    go_wp2_with fail
    refine (writeString_any B b _ _ _ H2.out.1 (by have := HI.out; simp [ByteArray.size]; omega) HZ2.out).mono ?_
    rintro e w3 ⟨rfl, h3⟩
    have H3 := hide ((H1.out.trans H2.out).trans h3)
    clear h3
    go_wp2_with fail
    go_end0
    exact ⟨rfl, by have := H3.out; simpa using this⟩
end Go.Proofs.YtdlplmpjcemnoabDoor
