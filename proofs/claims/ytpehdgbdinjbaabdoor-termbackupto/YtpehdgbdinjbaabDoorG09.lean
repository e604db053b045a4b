/- What is proved here: plain facts and contracts that the claimed theorem stands on, several texts in one: term.write, for every term that lies in memory, onto a builder that the call has made: it writes the plain function wtext of it, and turns nothing else. Conditions: what is held takes at most 2^47 bytes; the library's table of powers lies as its text lays it. term.Print of a term that lies in memory returns the plain function wtext of it where Check finds it right, else the empty text, and Check's answer; it turns no memory that was there. Conditions: it holds at most 2097152 terms and letters; the library's table of powers lies as its text lays it. the small terms that the statements make for themselves (num, word, two): what they return, and that it lies in new memory. No condition. the statement's own small reading (clerkkeep.read) answers true. Only new memory turns. Condition: the library's table of powers lies as its text lays it. clerkkeep.TermBack, called with a term that lies in memory and holds at most 2097152 terms and letters, and with a text, returns true and turns no memory that was there, where the library's table of powers lies as its text lays it. clerkkeep.TermBack, called with a term that lies in memory and holds at most 2097152 terms and letters, and with a text, returns true and turns no memory that was there, where the library's table of powers lies as its text lays it. -/
import Derived.Test.YtpehdgbdinjbaabDoorG07
import Derived.Test.YtpehdgbdinjbaabDoorG06
import Derived.Test.YtpehdgbdinjbaabDoorG01
import Derived.Handy
import Derived.Test.YtpehdgbdinjbaabDoorG08
namespace Go.Proofs.YtpehdgbdinjbaabDoor
open Go.RowKit

set_option maxHeartbeats 400000 in
theorem write_int (u : Int) (s : ByteArray) (a : Option Addr) (n c : Nat) (B b : Nat) (l : List UInt8) (w : World) (hu : I64 u) (h : Bu B b l w) (hB : B ≤ w.heap.size) (ht : Tab B w) (hlen : l.length + 24 ≤ 140737488355328) :
    Calls Tryd.prog 17 #[.pointer (some ⟨b, 0, none⟩), .agg #[.int .i64 1, .int .i64 u, .string s, .slice a n c]] w fun e w' => e = .returned (.tuple #[]) ∧ Wrote B b (l ++ Lib.itoa u) w w' := by
  have HI := hide (Lib.itoa_length_le u hu.1 hu.2)
  have HW : Hid (∀ o, Wrote B b l w (w.alloc o)) := fun o => Wrote.old h ((Below.refl _ _).alloc (Nat.le_refl _) o) hB
  have HT := hide ht
  have HU := hide hu
  clear h ht hu
  go_enter Tryd.func17, Tryd.ntmps17
  go_wp2_with fail
  refine (itoa_any u HU.out.1 HU.out.2 B _ (HT.out.on (HW.out _).2.1)).mono ?_
  rintro e w2 ⟨rfl, hb2⟩
  have H2 := hide ((HW.out _).trans (Wrote.old (HW.out _).1 hb2 (by simp; omega)))
  have HZ2 : Hid (B ≤ w2.heap.size) := by have := hb2.size; simp at this; simp only [Hid]; omega
  clear hb2
  go_wp2_with fail
  refine (writeString_any B b _ _ _ H2.out.1 (by have := HI.out; simp [ByteArray.size]; omega) HZ2.out).mono ?_
  rintro e w3 ⟨rfl, h3⟩
  have H3 := hide (H2.out.trans h3)
  clear h3
  go_wp2_with fail
  go_end0
  exact ⟨rfl, by have := H3.out; simpa using this⟩

theorem write_name (u : Int) (s : ByteArray) (a : Option Addr) (n c : Nat) (B b : Nat) (l : List UInt8) (w : World) (h : Bu B b l w) (hB : B ≤ w.heap.size) (hlen : l.length + s.size ≤ 140737488355328) :
    Calls Tryd.prog 17 #[.pointer (some ⟨b, 0, none⟩), .agg #[.int .i64 2, .int .i64 u, .string s, .slice a n c]] w fun e w' => e = .returned (.tuple #[]) ∧ Wrote B b (l ++ s.data.toList) w w' := by
  have HW : Hid (∀ o, Wrote B b l w (w.alloc o)) := fun o => Wrote.old h ((Below.refl _ _).alloc (Nat.le_refl _) o) hB
  clear h
  go_enter Tryd.func17, Tryd.ntmps17
  go_wp2_with fail
  refine (writeString_any B b _ _ _ (HW.out _).1 hlen (by simp; omega)).mono ?_
  rintro e w3 ⟨rfl, h3⟩
  have H3 := hide ((HW.out _).trans h3)
  clear h3
  go_wp2_with fail
  go_end0
  exact ⟨rfl, H3.out⟩

theorem write_wild (u : Int) (s : ByteArray) (a : Option Addr) (n c : Nat) (B b : Nat) (l : List UInt8) (w : World) (h : Bu B b l w) (hB : B ≤ w.heap.size) (hlen : l.length + 1 ≤ 140737488355328) :
    Calls Tryd.prog 17 #[.pointer (some ⟨b, 0, none⟩), .agg #[.int .i64 6, .int .i64 u, .string s, .slice a n c]] w fun e w' => e = .returned (.tuple #[]) ∧ Wrote B b (l ++ [95]) w w' := by
  have HW : Hid (∀ o, Wrote B b l w (w.alloc o)) := fun o => Wrote.old h ((Below.refl _ _).alloc (Nat.le_refl _) o) hB
  clear h
  go_enter Tryd.func17, Tryd.ntmps17
  go_wp2_with fail
  refine (writeByte_at B b l _ 95 rfl _ (HW.out _).1 hlen (by simp; omega)).mono ?_
  rintro e w3 ⟨rfl, h3⟩
  have H3 := hide ((HW.out _).trans h3)
  clear h3
  go_wp2_with fail
  go_end0
  exact ⟨rfl, H3.out⟩

theorem write_else (k u : Int) (s : ByteArray) (a : Option Addr) (n c : Nat) (B b : Nat) (l : List UInt8) (w : World) (h : Bu B b l w) (hB : B ≤ w.heap.size) (k1 : ¬ k = 1) (k2 : ¬ k = 2) (k3 : ¬ k = 3) (k4 : ¬ k = 4) (k5 : ¬ k = 5) (k6 : ¬ k = 6) :
    Calls Tryd.prog 17 #[.pointer (some ⟨b, 0, none⟩), .agg #[.int .i64 k, .int .i64 u, .string s, .slice a n c]] w fun e w' => e = .returned (.tuple #[]) ∧ Wrote B b l w w' := by
  have HW : Hid (∀ o, Wrote B b l w (w.alloc o)) := fun o => Wrote.old h ((Below.refl _ _).alloc (Nat.le_refl _) o) hB
  have e1 : (k == 1) = false := by simpa using k1
  have e2 : (k == 2) = false := by simpa using k2
  have e3 : (k == 3) = false := by simpa using k3
  have e4 : (k == 4) = false := by simpa using k4
  have e5 : (k == 5) = false := by simpa using k5
  have e6 : (k == 6) = false := by simpa using k6
  clear h k1 k2 k3 k4 k5 k6
  go_enter Tryd.func17, Tryd.ntmps17
  go_wp2_with fail
  go_end0
  exact ⟨rfl, HW.out _⟩

/-- The text behind k of the parts. -/
def jnTo (n : Nat) (p : List (Tm n)) (k : Nat) : List UInt8 := jn ((p.take k).map fun y => wtext n y)
theorem jnTo_succ (n : Nat) (p : List (Tm n)) (k : Nat) (x : Tm n) (h : p[k]? = some x) : jnTo n p (k + 1) = if k = 0 then wtext n x else jnTo n p k ++ 32 :: wtext n x := by
  obtain ⟨h1, e1⟩ := List.getElem?_eq_some_iff.1 h
  unfold jnTo
  rw [List.take_succ_eq_append_getElem h1, e1, List.map_append, List.map_cons, List.map_nil, jn_snoc]
  by_cases hk : k = 0
  · subst hk; simp
  · rw [if_neg hk, if_neg]
    intro e
    have := congrArg List.length e
    rw [List.length_map, List.length_take, List.length_nil] at this
    omega
theorem jnTo_len (n : Nat) (p : List (Tm n)) (k : Nat) (h : ∀ y ∈ p, (wtext n y).length + 1 ≤ 24 * wt n y) : (jnTo n p k).length ≤ 24 * ((p.take k).map fun y => wt n y).sum :=
  jn_len n (fun y => wtext n y) (p.take k) (fun y hy => h y (List.mem_of_mem_take hy))
theorem wt_take (n : Nat) (p : List (Tm n)) (k : Nat) : ((p.take k).map fun y => wt n y).sum ≤ (p.map fun y => wt n y).sum := by
  conv => rhs; rw [← List.take_append_drop k p]
  rw [List.map_append, List.sum_append]
  omega
theorem wt_take_succ (n : Nat) (p : List (Tm n)) (k : Nat) (x : Tm n) (h : p[k]? = some x) : ((p.take k).map fun y => wt n y).sum + wt n x ≤ (p.map fun y => wt n y).sum := by
  have h1 := wt_take n p (k + 1)
  obtain ⟨h2, e2⟩ := List.getElem?_eq_some_iff.1 h
  rw [List.take_succ_eq_append_getElem h2, e2] at h1
  simpa using h1

set_option maxHeartbeats 1000000 in
theorem writeTuple_any (n : Nat) (ih : FW n) (p : List (Tm n)) (len : Nat) (hpl : Hid (p.length = len)) (a : Option Addr) (pc C B b : Nat) (l : List UInt8) (w : World)
    (hp : Hid (p = [] ∨ ∃ b o, a = some ⟨b, o, none⟩ ∧ b < C ∧ ∀ (i : Nat) (y : Tm n), p[i]? = some y → Held w b (o + i * 4) n y ∧ In C w n y))
    (hlen : len ≤ 9223372036854775807) (hCB : C ≤ B) (h : Bu B b l w) (hB : B ≤ w.heap.size) (ht : Tab B w) (hsum : l.length + 24 * (1 + (p.map fun y => wt n y).sum) ≤ 140737488355328) :
    Calls Tryd.prog 36 #[.pointer (some ⟨b, 0, none⟩), .slice a len pc] w fun e w' => e = .returned (.tuple #[]) ∧ Wrote B b (l ++ (40 :: jn (p.map fun y => wtext n y) ++ [41])) w w' := by
  have HLE : Hid (∀ k, (jnTo n p k).length ≤ 24 * ((p.take k).map fun y => wt n y).sum) := fun k => jnTo_len n p k (fun y hy => by
    rcases hp.out with hp | ⟨pb, po, _, _, hp⟩
    · rw [hp] at hy; cases hy
    · obtain ⟨i, hi⟩ := List.getElem?_of_mem hy
      exact wtext_len n y C w (hp i y hi).2)
  have HSUM := hide hsum
  have HH := hide h
  have HT := hide ht
  clear h ht hsum
  go_enter Tryd.func36, Tryd.ntmps36
  go_wp2_with fail
  refine (writeByte_at B b l _ 40 rfl _ HH.out (by have := HSUM.out; omega) hB).mono ?_
  rintro e w1 ⟨rfl, h1⟩
  have H1 := hide h1
  clear h1
  go_wp2_with fail
  go_loopw [10] (fun i wr => ∃ k : Nat, k ≤ len ∧ i = .int .i64 k ∧ Hid (Wrote B b (l ++ 40 :: jnTo n p k) w wr)) (fun i _ => len - (intOf i).toNat)
  case atStart => exact ⟨0, by omega, rfl, by have := H1.out; simpa [Hid, jnTo, jn] using this⟩
  case round =>
    obtain ⟨k, hk, rfl, HR⟩ := hrel
    have HZ : Hid (B ≤ wr.heap.size) := Nat.le_trans hB HR.out.2.1.size
    by_cases hlt : k < len
    · obtain ⟨x, hx⟩ : ∃ x, p[k]? = some x := ⟨p[k]'(by rw [hpl.out]; exact hlt), List.getElem?_eq_getElem _⟩
      have HS := hide (jnTo_succ n p k x hx)
      have HXL : Hid ((l ++ 40 :: jnTo n p k).length + 1 + 24 * wt n x ≤ 140737488355328) := by
        have h1 := wt_take_succ n p k x hx
        have h2 := HLE.out k
        have h3 := HSUM.out
        simp only [Hid, List.length_append, List.length_cons]
        omega
      rcases hp.out with hp | ⟨pb, po, rfl, hpb, hp⟩
      · subst hp; simp at hx
      obtain ⟨hx1, hx2⟩ := hp k x hx
      replace hx1 := hx1.below (HR.out.2.1.mono hCB) hpb
      replace hx2 := hx2.below (HR.out.2.1.mono hCB)
      clear hp hx
      cases n with
      | zero => exact hx1.elim
      | succ n =>
      obtain ⟨x0, x1, x2, x3⟩ := hx1
      have HC : Hid (∀ (l' : List UInt8) (w1 : World), Below B wr w1 → Bu B b l' w1 → l'.length + 24 * wt (n + 1) x ≤ 140737488355328 → Calls Tryd.prog 17 #[.pointer (some ⟨b, 0, none⟩), .agg #[.int .i64 x.1.1, .int .i64 x.1.2.1, .string x.1.2.2, .slice x.2.1.1 x.2.2.length x.2.1.2]] w1 fun e w' => e = .returned (.tuple #[]) ∧ Wrote B b (l' ++ wtext (n + 1) x) w1 w') :=
        fun l' w1 h1 h2 h3 => ih x C B b l' w1 (hx2.below (h1.mono hCB)) hCB h2 (Nat.le_trans HZ.out h1.size) (HT.out.on (HR.out.2.1.trans h1)) h3
      have HBL := hide HR.out.1.lt
      clear ih hx2
      generalize x.2.2.length = xl at *
      generalize wtext (n + 1) x = tx at *
      have HWR : Hid (∀ o, Wrote B b (l ++ 40 :: jnTo (n + 1) p k) wr (wr.alloc o)) := fun o => Wrote.old HR.out.1 ((Below.refl _ _).alloc (Nat.le_refl _) o) HZ.out
      have hk1 : (0 : Int) ≤ (k : Int) := by omega
      have hk2 : (k : Int) < (len : Int) := by omega
      by_cases hk0 : k = 0
      · have HK0 := hide hk0
        have hk3 : ¬ (0 : Int) < (k : Int) := by omega
        clear hk0
        go_wp2_with fail
        refine (HC.out (l ++ 40 :: jnTo (n + 1) p k) _ (HWR.out _).2.1 (HWR.out _).1 (by have := HXL.out; omega)).mono ?_
        rintro e w3 ⟨rfl, h3⟩
        have H3 := hide ((HR.out.trans (HWR.out _)).trans h3)
        clear h3
        go_wp2_with fail
        go_roundw
        case rel =>
          refine ⟨k + 1, by omega, by go_num, hide ?_⟩
          have := H3.out
          rw [HS.out, if_pos HK0.out]
          have e0 : jnTo (n + 1) p k = [] := by rw [HK0.out]; rfl
          rw [e0] at this
          simpa using this
        case measure => simp [intOf]; omega
      · have HK0 := hide hk0
        have hk3 : (0 : Int) < (k : Int) := by omega
        clear hk0
        go_wp2_with fail
        refine (writeByte_at B b _ _ 32 rfl _ (HWR.out _).1 (by have := HXL.out; omega) (by have := HZ.out; simp; omega)).mono ?_
        rintro e w2 ⟨rfl, h2⟩
        have H2 := hide ((HR.out.trans (HWR.out _)).trans h2)
        have HB2 := hide ((HWR.out _).2.1.trans h2.2.1)
        have hbx := kept_cell h2.2.2 (box_at wr _ 24) (by have := HBL.out; omega) (by decide)
        have y0 : w2.cell? ⟨wr.heap.size, 0, none⟩ = some (.int .i64 x.1.1) := by rw [Lib.cell_of_heap hbx]; rfl
        have y1 : w2.cell? ⟨wr.heap.size, 1, none⟩ = some (.int .i64 x.1.2.1) := by rw [Lib.cell_of_heap hbx]; rfl
        have y2 : w2.cell? ⟨wr.heap.size, 2, none⟩ = some (.string x.1.2.2) := by rw [Lib.cell_of_heap hbx]; rfl
        have y3 : w2.cell? ⟨wr.heap.size, 3, none⟩ = some (.slice x.2.1.1 xl x.2.1.2) := by rw [Lib.cell_of_heap hbx]; rfl
        clear h2 hbx
        go_wp2_with fail
        refine (HC.out _ _ HB2.out H2.out.1 (by have := HXL.out; simp at this ⊢; omega)).mono ?_
        rintro e w3 ⟨rfl, h3⟩
        have H3 := hide (H2.out.trans h3)
        clear h3
        go_wp2_with fail
        go_roundw
        case rel =>
          refine ⟨k + 1, by omega, by go_num, hide ?_⟩
          have := H3.out
          rw [HS.out, if_neg HK0.out]
          simpa using this
        case measure => simp [intOf]; omega
    · go_wp2_with fail
      refine (writeByte_at B b _ _ 41 rfl _ HR.out.1 (by have h1 := HSUM.out; have h2 := HLE.out k; have h3 := wt_take n p k; simp; omega) HZ.out).mono ?_
      rintro e w3 ⟨rfl, h3⟩
      have H3 := hide (HR.out.trans h3)
      clear h3
      go_wp2_with fail
      go_end0
      refine ⟨rfl, ?_⟩
      have e : jnTo n p k = jn (p.map fun y => wtext n y) := by unfold jnTo; rw [List.take_of_length_le (by rw [hpl.out]; omega)]
      have := H3.out
      rw [e] at this
      simpa using this

set_option maxHeartbeats 400000 in
theorem write_tup (u : Int) (s : ByteArray) (a : Option Addr) (n c : Nat) (B b : Nat) (l t : List UInt8) (w : World) (h : Bu B b l w) (hB : B ≤ w.heap.size)
    (H : Hid (∀ w1, Below w.heap.size w w1 → Bu B b l w1 → Calls Tryd.prog 36 #[.pointer (some ⟨b, 0, none⟩), .slice a n c] w1 fun e w' => e = .returned (.tuple #[]) ∧ Wrote B b (l ++ t) w1 w')) :
    Calls Tryd.prog 17 #[.pointer (some ⟨b, 0, none⟩), .agg #[.int .i64 4, .int .i64 u, .string s, .slice a n c]] w fun e w' => e = .returned (.tuple #[]) ∧ Wrote B b (l ++ t) w w' := by
  have HW : Hid (∀ o, Wrote B b l w (w.alloc o)) := fun o => Wrote.old h ((Below.refl _ _).alloc (Nat.le_refl _) o) hB
  clear h
  go_enter Tryd.func17, Tryd.ntmps17
  go_wp2_with fail
  refine (H.out _ ((Below.refl _ _).alloc (Nat.le_refl _) _) (HW.out _).1).mono ?_
  rintro e w3 ⟨rfl, h3⟩
  have H3 := hide ((HW.out _).trans h3)
  clear h3
  go_wp2_with fail
  go_end0
  exact ⟨rfl, H3.out⟩

theorem write_any (n : Nat) : FW n := by
  induction n with
  | zero => intro x C B b l w hx; exact hx.elim
  | succ n ih =>
    intro x C B b l w hx hCB h hB ht hlen
    obtain ⟨⟨k, u, s⟩, ⟨a, pc⟩, p⟩ := x
    have hx0 := hx
    obtain ⟨⟨_, hu, hs, hpl, hpc⟩, hp⟩ := hx
    simp only at hu hs hpl hpc hp
    unfold maxLen at hpc
    have hw : wt (n + 1) ((k, u, s), (a, pc), p) = 1 + s.size + (p.map fun y => wt n y).sum := rfl
    rw [hw] at hlen
    show Calls Tryd.prog 17 #[.pointer (some ⟨b, 0, none⟩), .agg #[.int .i64 k, .int .i64 u, .string s, .slice a p.length pc]] w fun e w' => e = .returned (.tuple #[]) ∧ Wrote B b (l ++ (if k = 1 then Lib.itoa u else if k = 2 then s.data.toList else if k = 3 then 35 :: Lib.itoa u
      else if k = 4 then 40 :: jn (p.map fun y => wtext n y) ++ [41] else if k = 5 then 36 :: Lib.itoa u else if k = 6 then [95] else [])) w w'
    by_cases k1 : k = 1
    · subst k1
      exact write_int u s a p.length pc B b l w hu h hB ht (by omega)
    rw [if_neg k1]
    by_cases k2 : k = 2
    · subst k2
      exact write_name u s a p.length pc B b l w h hB (by omega)
    rw [if_neg k2]
    by_cases k3 : k = 3
    · subst k3
      exact write_num 3 u s a p.length pc B b l w hu h hB ht (by omega) 35 (Or.inl ⟨rfl, rfl⟩)
    rw [if_neg k3]
    by_cases k4 : k = 4
    · subst k4
      refine write_tup u s a p.length pc B b l _ w h hB (fun w1 hw1 hb1 => writeTuple_any n ih p p.length rfl a pc C B b l w1 ?_ (by omega) hCB hb1 (Nat.le_trans hB hw1.size) (ht.on (hw1.mono hB)) (by omega))
      rcases hp with hp | ⟨pb, po, e, hpb, hp⟩
      · exact Or.inl hp
      · exact Or.inr ⟨pb, po, e, hpb, fun i y hy => ⟨(hp i y hy).1.below (hw1.mono (Nat.le_trans hCB hB)) hpb, (hp i y hy).2.below (hw1.mono (Nat.le_trans hCB hB))⟩⟩
    rw [if_neg k4]
    by_cases k5 : k = 5
    · subst k5
      exact write_num 5 u s a p.length pc B b l w hu h hB ht (by omega) 36 (Or.inr ⟨rfl, rfl⟩)
    rw [if_neg k5]
    by_cases k6 : k = 6
    · subst k6
      exact write_wild u s a p.length pc B b l w h hB (by omega)
    rw [if_neg k6, List.append_nil]
    exact write_else k u s a p.length pc B b l w h hB k1 k2 k3 k4 k5 k6
end Go.Proofs.YtpehdgbdinjbaabDoor
namespace Go.Proofs.YtpehdgbdinjbaabDoor
open Go.RowKit

theorem Tab.mono {B B' : Nat} {w : World} (h : Tab B w) (hB : B ≤ B') : Tab B' w := fun w' hb => h w' (hb.mono hB)

set_option maxHeartbeats 400000 in
theorem print_walk (w : World) (k u : Int) (s : ByteArray) (a : Option Addr) (l c : Nat) (e0 : Int) (t t' : List UInt8) (HE : Hid ((if e0 = 0 then t else []) = t'))
    (HC : Hid (∀ w1, Below w.heap.size w w1 → Calls Tryd.prog 16 #[.agg #[.int .i64 k, .int .i64 u, .string s, .slice a l c]] w1 fun e w' => e = .returned (.int .i64 e0) ∧ Below w1.heap.size w1 w'))
    (HW : Hid (∀ w1 b, Below w.heap.size w w1 → w.heap.size ≤ b → Bu b b [] w1 → b ≤ w1.heap.size → Calls Tryd.prog 17 #[.pointer (some ⟨b, 0, none⟩), .agg #[.int .i64 k, .int .i64 u, .string s, .slice a l c]] w1 fun e w' => e = .returned (.tuple #[]) ∧ Wrote b b t w1 w')) :
    Calls Tryd.prog 6 #[.agg #[.int .i64 k, .int .i64 u, .string s, .slice a l c]] w fun e w' => e = .returned (.tuple #[.string ⟨t'.toArray⟩, .int .i64 e0]) ∧ Below w.heap.size w w' := by
  go_enter Tryd.func6, Tryd.ntmps6
  go_wp2_with fail
  refine (HC.out _ ((Below.refl _ _).alloc (Nat.le_refl _) _)).mono ?_
  rintro e w1 ⟨rfl, hb1⟩
  have HB1 : Hid (Below w.heap.size w w1 ∧ w.heap.size + 1 ≤ w1.heap.size) := ⟨((Below.refl _ _).alloc (Nat.le_refl _) _).trans (hb1.mono (by simp)), by have := hb1.size; simpa using this⟩
  have hcc := below_cells hb1
  simp only [World.size_alloc] at hcc
  have a0 := (hcc w.heap.size 0 (by omega)).trans (by simp [go_sem] : _ = some (Value.int .i64 k))
  have a1 := (hcc w.heap.size 1 (by omega)).trans (by simp [go_sem] : _ = some (Value.int .i64 u))
  have a2 := (hcc w.heap.size 2 (by omega)).trans (by simp [go_sem] : _ = some (Value.string s))
  have a3 := (hcc w.heap.size 3 (by omega)).trans (by simp [go_sem] : _ = some (Value.slice a l c))
  clear hcc hb1
  by_cases h0 : e0 = 0
  · subst h0
    have hw1 : w.heap.size < w1.heap.size := by have := HB1.out.2; omega
    have HF : Hid (Bu w1.heap.size w1.heap.size [] (w1.alloc (.cells #[.pointer none, .slice none 0 0] 47))) := Lib.IsBuilderF.of (Lib.fresh_isBuilder 47 5 w1)
    go_wp2_with fail
    refine (HW.out _ w1.heap.size (HB1.out.1.alloc HB1.out.1.size _) (by omega) HF.out (by simp)).mono ?_
    rintro e w2 ⟨rfl, h2⟩
    have H2 := hide h2
    clear h2
    have HZ2 : Hid (w1.heap.size ≤ w2.heap.size ∧ Below w.heap.size w w2) := by
      have h3 := H2.out.2.1.size
      simp at h3
      refine ⟨by omega, (HB1.out.1.alloc HB1.out.1.size _).trans (H2.out.2.1.mono (by omega))⟩
    go_wp2_with fail
    refine (Tryd.Builder_String_any_k w1.heap.size w1.heap.size t w2 H2.out.1 HZ2.out.1).mono ?_
    rintro e w3 ⟨rfl, _, hb3, _⟩
    have HB3 : Hid (Below w.heap.size w w3) := HZ2.out.2.trans (hb3.mono (by omega))
    clear hb3
    have HE2 : Hid (t = t') := HE.out
    go_wp2_with fail
    go_ret2
    refine ⟨?_, HB3.out⟩
    rw [← HE2.out]
    rfl
  · have hn : (e0 != 0) = true := by simpa using h0
    have HE2 : Hid ([] = t') := (if_neg h0).symm.trans HE.out
    clear h0
    go_wp2_with fail
    go_ret2
    refine ⟨?_, HB1.out.1⟩
    rw [← HE2.out]
    rfl

theorem print_any (n : Nat) (x : Tm n) (B : Nat) (w : World) (hx : In B w n x) (hB : B ≤ w.heap.size) (ht : Tab w.heap.size w) (hN : (nodes n x).length ≤ 2097152) (hw : wt n x ≤ 2097152) :
    Calls Tryd.prog 6 #[val n x] w fun e w' => e = .returned (.tuple #[.string ⟨(if chk n x = 0 then wtext n x else []).toArray⟩, .int .i64 (chk n x)]) ∧ Below w.heap.size w w' := by
  cases n with
  | zero => exact hx.elim
  | succ n =>
  exact print_walk w x.1.1 x.1.2.1 x.1.2.2 x.2.1.1 x.2.2.length x.2.1.2 (chk (n + 1) x) (wtext (n + 1) x) _ rfl
    (fun w1 hw1 => tcheck_any (n + 1) x B w1 (hx.below (hw1.mono hB)) (Nat.le_trans hB hw1.size) hN)
    (fun w1 b hw1 hwb hbu hb1 => write_any (n + 1) x B b b [] w1 (hx.below (hw1.mono hB)) (by omega) hbu hb1 (Tab.mono (ht.on hw1) hwb) (by simp; omega))
end Go.Proofs.YtpehdgbdinjbaabDoor
namespace Go.Proofs.YtpehdgbdinjbaabDoor
open Go.RowKit

theorem num_any (n : Int) (w : World) :
    Calls Tryd.prog 30 #[.int .i64 n] w fun e w' => e = .returned (.agg #[.int .i64 1, .int .i64 n, .string ⟨#[]⟩, .slice none 0 0]) ∧ Below w.heap.size w w' := by
  go_enter Tryd.func30, Tryd.ntmps30
  go_wp2_with fail
  exact bodyPost_ret (v := .agg #[.int .i64 1, .int .i64 n, .string ⟨#[]⟩, .slice none 0 0]) (by simp [results, Tryd.results30, go_sem]) rfl ⟨rfl, (Below.refl _ _).alloc (Nat.le_refl _) _⟩

theorem kword_any (s : ByteArray) (w : World) :
    Calls Tryd.prog 29 #[.string s] w fun e w' => e = .returned (.agg #[.int .i64 2, .int .i64 0, .string s, .slice none 0 0]) ∧ Below w.heap.size w w' := by
  go_enter Tryd.func29, Tryd.ntmps29
  go_wp2_with fail
  exact bodyPost_ret (v := .agg #[.int .i64 2, .int .i64 0, .string s, .slice none 0 0]) (by simp [results, Tryd.results29, go_sem]) rfl ⟨rfl, (Below.refl _ _).alloc (Nat.le_refl _) _⟩

theorem tuple_any (a : Option Addr) (l c : Nat) (w : World) :
    Calls Tryd.prog 13 #[.slice a l c] w fun e w' => e = .returned (.agg #[.int .i64 4, .int .i64 0, .string ⟨#[]⟩, .slice a l c]) ∧ Below w.heap.size w w' := by
  go_enter Tryd.func13, Tryd.ntmps13
  go_wp2_with fail
  exact bodyPost_ret (v := .agg #[.int .i64 4, .int .i64 0, .string ⟨#[]⟩, .slice a l c]) (by simp [results, Tryd.results13, go_sem]) rfl ⟨rfl, (Below.refl _ _).alloc (Nat.le_refl _) _⟩

def numT (n : Int) : Tm 1 := ((1, n, ⟨#[]⟩), (none, 0), [])
def wordT (s : ByteArray) : Tm 1 := ((2, 0, s), (none, 0), [])
def twoT (g : Nat) : Tm 2 := ((4, 0, ⟨#[]⟩), (some ⟨g, 0, none⟩, 2), [wordT ⟨#[97]⟩, numT 5])

theorem num_in (n : Int) (h : I64 n) (B : Nat) (w : World) : In B w 1 (numT n) := ⟨⟨by simp [numT, I64], h, Nat.zero_le _, by simp [numT], by simp [numT]⟩, Or.inl rfl⟩
theorem word_in (s : ByteArray) (h : s.size ≤ maxLen) (B : Nat) (w : World) : In B w 1 (wordT s) := ⟨⟨by simp [wordT, I64], by simp [wordT, I64], h, by simp [wordT], by simp [wordT]⟩, Or.inl rfl⟩

theorem two_in (g B : Nat) (w : World) (hg : g < B) (t : TypeId) (fr : Nat × Nat)
    (h : w.heap[g]? = some (.cells #[.int .i64 2, .int .i64 0, .string ⟨#[97]⟩, .slice none 0 0, .int .i64 1, .int .i64 5, .string ⟨#[]⟩, .slice none 0 0] t fr)) : In B w 2 (twoT g) := by
  have hc : ∀ j, w.cell? ⟨g, j, none⟩ = #[Value.int .i64 2, .int .i64 0, .string ⟨#[97]⟩, .slice none 0 0, .int .i64 1, .int .i64 5, .string ⟨#[]⟩, .slice none 0 0][j]? := fun j => by simp [World.cell?, h]
  refine ⟨⟨by simp [twoT, I64], by simp [twoT, I64], Nat.zero_le _, by simp [twoT], by simp [twoT, maxLen]⟩, Or.inr ⟨g, 0, rfl, hg, fun i y hy => ?_⟩⟩
  match i, hy with
  | 0, hy =>
    have : wordT ⟨#[97]⟩ = y := by simpa [twoT] using hy
    subst this
    exact ⟨⟨hc 0, hc 1, hc 2, hc 3⟩, word_in _ (by show (1 : Nat) ≤ 2 ^ 63 - 1; omega) B w⟩
  | 1, hy =>
    have : numT 5 = y := by simpa [twoT] using hy
    subst this
    exact ⟨⟨hc 4, hc 5, hc 6, hc 7⟩, num_in 5 (by simp [I64]) B w⟩
  | i + 2, hy => simp [twoT] at hy

theorem two_any (w : World) :
    Calls Tryd.prog 14 #[] w fun e w' => ∃ g, e = .returned (.agg #[.int .i64 4, .int .i64 0, .string ⟨#[]⟩, .slice (some ⟨g, 0, none⟩) 2 2]) ∧ Hid (Below w.heap.size w w' ∧ In w'.heap.size w' 2 (twoT g)) := by
  go_enter Tryd.func14, Tryd.ntmps14
  go_wp2_with fail
  refine (kword_any _ _).mono ?_
  rintro e w1 ⟨rfl, hb1⟩
  have HB1 := hide hb1
  clear hb1
  go_wp2_with fail
  refine (num_any _ _).mono ?_
  rintro e w2 ⟨rfl, hb2⟩
  have HB2 := hide (HB1.out.trans (hb2.mono HB1.out.size))
  clear hb2 HB1
  go_wp2_with fail
  refine (tuple_any _ _ _ _).mono ?_
  rintro e w3 ⟨rfl, hb3⟩
  have HB3 := hide ((HB2.out.alloc HB2.out.size _).trans (hb3.mono (Nat.le_trans HB2.out.size (by simp))))
  have HG : Hid (w3.heap[w2.heap.size]? = some (.cells #[.int .i64 2, .int .i64 0, .string ⟨#[97]⟩, .slice none 0 0, .int .i64 1, .int .i64 5, .string ⟨#[]⟩, .slice none 0 0] 24 (0, 0)) ∧ w2.heap.size < w3.heap.size ∧ w.heap.size < w2.heap.size) :=
    ⟨(hb3.block w2.heap.size (by simp)).trans (heap_alloc_new w2 _), by have := hb3.size; simp at this; omega, by have := HB2.out.size; simp at this; omega⟩
  clear hb3 HB2
  have hc := fun o => HB3.out.cell (p := ⟨w.heap.size, o, none⟩) (by simp)
  have hf := fun o => HB3.out.frozen (p := ⟨w.heap.size, o, none⟩) (by simp)
  have c0 := (hc 0).trans (by simp [go_sem] : _ = some (Value.int .i64 0))
  have c1 := (hc 1).trans (by simp [go_sem] : _ = some (Value.int .i64 0))
  have c2 := (hc 2).trans (by simp [go_sem] : _ = some (Value.string ⟨#[]⟩))
  have c3 := (hc 3).trans (by simp [go_sem] : _ = some (Value.slice none 0 0))
  have f0 := (hf 0).trans (by simp [go_sem] : _ = false)
  have f1 := (hf 1).trans (by simp [go_sem] : _ = false)
  have f2 := (hf 2).trans (by simp [go_sem] : _ = false)
  have f3 := (hf 3).trans (by simp [go_sem] : _ = false)
  clear hc hf
  go_wp2_with fail
  refine bodyPost_ret (v := .agg #[.int .i64 4, .int .i64 0, .string ⟨#[]⟩, .slice (some ⟨w2.heap.size, 0, none⟩) 2 2]) (by simp [results, Tryd.results14, go_sem, c0, c1, c2, c3]) rfl ⟨w2.heap.size, rfl, ?_⟩
  refine hide ⟨?_, ?_⟩
  · have hb : Below w.heap.size w w3 := ((Below.refl _ _).alloc (Nat.le_refl _) _).trans (HB3.out.mono (by simp))
    go_grown
  · refine two_in _ _ _ (by simp [World.setCell]; exact HG.out.2.1) 24 (0, 0) ?_
    have hne := HG.out.2.2
    rw [Below.heap_setCell _ _ _ _ (by simp; omega), Below.heap_setCell _ _ _ _ (by simp; omega), Below.heap_setCell _ _ _ _ (by simp; omega), Below.heap_setCell _ _ _ _ (by simp; omega)]
    exact HG.out.1
end Go.Proofs.YtpehdgbdinjbaabDoor
namespace Go.Proofs.YtpehdgbdinjbaabDoor
open Go.RowKit

/-- The small text, and the term that it tells. -/
def rdS : ByteArray := ⟨#[32, 40, 40, 32, 97, 32, 32, 53, 41, 35, 51, 32, 41, 32]⟩
def rdX : Tm 3 := ((4, 0, ⟨#[]⟩), (none, 0), [((4, 0, ⟨#[]⟩), (none, 0), [((2, 0, ⟨#[97]⟩), (none, 0), []), ((1, 5, ⟨#[]⟩), (none, 0), [])]), ((3, 3, ⟨#[]⟩), (none, 0), [])])
theorem dec5 : Lib.decDigits 5 = [53] := by rw [dec_small (by omega)]; rfl
theorem dec3 : Lib.decDigits 3 = [51] := by rw [dec_small (by omega)]; rfl
theorem rd_toks : toks rdS 0 = [(1, ⟨#[40]⟩), (2, ⟨#[40]⟩), (4, ⟨#[97]⟩), (7, ⟨#[53]⟩), (8, ⟨#[41]⟩), (9, ⟨#[35, 51]⟩), (12, ⟨#[41]⟩)] := by
  have en : enB 32 = true ∧ enB 41 = true := by decide
  rw [tk_bl (s := rdS) (i := 0) (post := [40, 40, 32, 97, 32, 32, 53, 41, 35, 51, 32, 41, 32]) rfl]
  rw [tk_br (s := rdS) (i := 0 + 1) (c := 40) (post := [40, 32, 97, 32, 32, 53, 41, 35, 51, 32, 41, 32]) rfl (Or.inl rfl)]
  rw [tk_br (s := rdS) (i := 0 + 1 + 1) (c := 40) (post := [32, 97, 32, 32, 53, 41, 35, 51, 32, 41, 32]) rfl (Or.inl rfl)]
  rw [tk_bl (s := rdS) (i := 0 + 1 + 1 + 1) (post := [97, 32, 32, 53, 41, 35, 51, 32, 41, 32]) rfl]
  rw [tk_word (s := rdS) (i := 0 + 1 + 1 + 1 + 1) (l := [97]) (post := [32, 32, 53, 41, 35, 51, 32, 41, 32]) rfl (by simp) (by simp [enB]) (Or.inr ⟨32, _, rfl, en.1⟩)]
  rw [tk_bl (s := rdS) (i := 0 + 1 + 1 + 1 + 1 + [(97 : UInt8)].length) (post := [32, 53, 41, 35, 51, 32, 41, 32]) rfl]
  rw [tk_bl (s := rdS) (i := 0 + 1 + 1 + 1 + 1 + [(97 : UInt8)].length + 1) (post := [53, 41, 35, 51, 32, 41, 32]) rfl]
  rw [tk_word (s := rdS) (i := 0 + 1 + 1 + 1 + 1 + [(97 : UInt8)].length + 1 + 1) (l := [53]) (post := [41, 35, 51, 32, 41, 32]) rfl (by simp) (by simp [enB]) (Or.inr ⟨41, _, rfl, en.2⟩)]
  rw [tk_br (s := rdS) (i := 0 + 1 + 1 + 1 + 1 + [(97 : UInt8)].length + 1 + 1 + [(53 : UInt8)].length) (c := 41) (post := [35, 51, 32, 41, 32]) rfl (Or.inr rfl)]
  rw [tk_word (s := rdS) (i := 0 + 1 + 1 + 1 + 1 + [(97 : UInt8)].length + 1 + 1 + [(53 : UInt8)].length + 1) (l := [35, 51]) (post := [32, 41, 32]) rfl (by simp) (by simp [enB]) (Or.inr ⟨32, _, rfl, en.1⟩)]
  rw [tk_bl (s := rdS) (i := 0 + 1 + 1 + 1 + 1 + [(97 : UInt8)].length + 1 + 1 + [(53 : UInt8)].length + 1 + [(35 : UInt8), 51].length) (post := [41, 32]) rfl]
  rw [tk_br (s := rdS) (i := 0 + 1 + 1 + 1 + 1 + [(97 : UInt8)].length + 1 + 1 + [(53 : UInt8)].length + 1 + [(35 : UInt8), 51].length + 1) (c := 41) (post := [32]) rfl (Or.inr rfl)]
  rw [tk_bl (s := rdS) (i := 0 + 1 + 1 + 1 + 1 + [(97 : UInt8)].length + 1 + 1 + [(53 : UInt8)].length + 1 + [(35 : UInt8), 51].length + 1 + 1) (post := []) rfl]
  rw [toks_nil rdS _ (fun hlt => absurd (Nat.lt_of_le_of_lt (wordB_ge rdS _) hlt) (by decide))]
  rfl
theorem rd_is : Is 3 rdX (toks rdS 0) [] := by
  have t1 := tells_name ⟨#[97]⟩ (by decide)
  have t2 := tells_nat 5 (by decide)
  have t3 := tells_pid 3 (by decide)
  rw [dec5] at t2
  rw [dec3] at t3
  rw [rd_toks]
  refine ⟨_, _, rfl, Or.inr ⟨isO_open, rfl, (12, ⟨#[41]⟩), ⟨_, ⟨_, _, rfl, Or.inr ⟨isO_open, rfl, (8, ⟨#[41]⟩), ⟨_, ⟨_, _, rfl, Or.inl ⟨t1.2.2.2.2, t1.2.2.1, t1.2.2.2.1.symm, rfl, rfl⟩⟩, _, ⟨_, _, rfl, Or.inl ⟨t2.2.2.2.2, t2.2.2.1, t2.2.2.2.1.symm, rfl, rfl⟩⟩, rfl⟩, isC_close⟩⟩, _, ⟨_, _, rfl, Or.inl ⟨t3.2.2.2.2, t3.2.2.1, t3.2.2.2.1.symm, rfl, rfl⟩⟩, rfl⟩, isC_close⟩⟩
theorem one97 : (⟨#[97]⟩ : ByteArray).size = 1 := rfl
/-- The five terms in the small one, whatever their parts' places. -/
def five (a b : Option Addr) (m k : Nat) : List Nd := [((4, 0, ⟨#[]⟩), (a, 2, m)), ((4, 0, ⟨#[]⟩), (b, 2, k)), ((2, 0, ⟨#[97]⟩), (none, 0, 0)), ((1, 5, ⟨#[]⟩), (none, 0, 0)), ((3, 3, ⟨#[]⟩), (none, 0, 0))]
theorem five_good (a b : Option Addr) (m k : Nat) : chkL 6 (five a b m k) [0, 1, 2, 2, 1] 0 = 0 := by
  simp [five, chkL, good, deeper, ByteArray.toList_eq, nameB, inB, lowsB, lowB, one97]
theorem rd_chk : chk 3 rdX = 0 ∧ sz 3 rdX = 6 := by
  have h1 : nodes 3 rdX = five none none 0 0 := rfl
  have h2 : deeps 3 rdX 0 = [0, 1, 2, 2, 1] := rfl
  have h3 : sz 3 rdX = 6 := rfl
  refine ⟨?_, h3⟩
  unfold chk
  rw [h1, h2, h3]
  exact five_good _ _ _ _

/-- What is printed. -/
def pidT : Tm 2 := ((3, 3, ⟨#[]⟩), (none, 0), [])
def rdP (g h : Nat) : Tm 3 := ((4, 0, ⟨#[]⟩), (some ⟨h, 0, none⟩, 2), [twoT g, pidT])
theorem rdP_facts (g h : Nat) : chk 3 (rdP g h) = 0 ∧ (nodes 3 (rdP g h)).length = 5 ∧ wt 3 (rdP g h) = 6 ∧ wtext 3 (rdP g h) = [40, 40, 97, 32, 53, 41, 32, 35, 51, 41] := by
  have h1 : nodes 3 (rdP g h) = five (some ⟨h, 0, none⟩) (some ⟨g, 0, none⟩) 2 2 := rfl
  have h2 : deeps 3 (rdP g h) 0 = [0, 1, 2, 2, 1] := rfl
  have h3 : sz 3 (rdP g h) = 6 := rfl
  refine ⟨?_, rfl, rfl, ?_⟩
  · unfold chk
    rw [h1, h2, h3]
    exact five_good _ _ _ _
  · have a1 : wtext 1 (numT 5) = [53] := by simp [wtext, numT, Lib.itoa, dec5]
    have a2 : wtext 1 (wordT ⟨#[97]⟩) = [97] := by simp [wtext, wordT]
    have a3 : wtext 2 pidT = [35, 51] := by simp [wtext, pidT, Lib.itoa, dec3]
    have a4 : wtext 2 (twoT g) = 40 :: jn [wtext 1 (wordT ⟨#[97]⟩), wtext 1 (numT 5)] ++ [41] := rfl
    have a5 : wtext 3 (rdP g h) = 40 :: jn [wtext 2 (twoT g), wtext 2 pidT] ++ [41] := rfl
    rw [a5, a4, a3, a2, a1]
    rfl

theorem rdP_in {B : Nat} {w : World} {g h : Nat} (hg : In B w 2 (twoT g)) (hh : h < B) {t : TypeId} {fr : Nat × Nat}
    (hc : w.heap[h]? = some (.cells #[.int .i64 4, .int .i64 0, .string ⟨#[]⟩, .slice (some ⟨g, 0, none⟩) 2 2, .int .i64 3, .int .i64 3, .string ⟨#[]⟩, .slice none 0 0] t fr)) : In B w 3 (rdP g h) := by
  have hj : ∀ j, w.cell? ⟨h, j, none⟩ = #[Value.int .i64 4, .int .i64 0, .string ⟨#[]⟩, .slice (some ⟨g, 0, none⟩) 2 2, .int .i64 3, .int .i64 3, .string ⟨#[]⟩, .slice none 0 0][j]? := fun j => by simp [World.cell?, hc]
  refine ⟨⟨by simp [rdP, I64], by simp [rdP, I64], Nat.zero_le _, by simp [rdP], by simp [rdP, maxLen]⟩, Or.inr ⟨h, 0, rfl, hh, fun i y hy => ?_⟩⟩
  match i, hy with
  | 0, hy =>
    have : twoT g = y := by simpa [rdP] using hy
    subst this
    exact ⟨⟨hj 0, hj 1, hj 2, hj 3⟩, hg⟩
  | 1, hy =>
    have : pidT = y := by simpa [rdP] using hy
    subst this
    exact ⟨⟨hj 4, hj 5, hj 6, hj 7⟩, ⟨⟨by simp [pidT, I64], by simp [pidT, I64], Nat.zero_le _, by simp [pidT], by simp [pidT]⟩, Or.inl rfl⟩⟩
  | i + 2, hy => simp [rdP] at hy

theorem rd_parse {w w' : World} {v : Value} {p e : Int} (h : PRes rdS w w' v p e) : e = 0 ∧ ∃ (n : Nat) (x : Tm n), v = val n x ∧ In w'.heap.size w' n x ∧ sz n x = 6 ∧ (nodes n x).length ≤ 2097152 := by
  have he : exp rdS.size (toks rdS 0) 0 = none := is_exp rdS.size 3 rdX _ _ rd_is 0
  have hz : rdS.size = 14 := rfl
  rcases h with ⟨h, _⟩ | ⟨q, _, h, _⟩ | ⟨_, _, n, x, i1, i2, _, rfl, rfl, h⟩
  · omega
  · rw [he] at h; exact absurd h (by simp)
  · obtain ⟨hs, _⟩ := Is.one n 3 x rdX _ _ _ i1 rd_is
    have h1 := same_tchk n 3 x rdX hs
    have h2 := (same_parts n 3 x rdX hs).2.2
    rw [rd_chk.1] at h1
    rw [rd_chk.2] at h2
    have h3 := Is.nodes n x _ _ i1
    rw [rd_toks] at h3
    simp at h3
    rcases h with ⟨h, _⟩ | ⟨_, h⟩
    · exact absurd h1 h
    · exact ⟨h1, n, x, h, i2, h2, by omega⟩

theorem read_in {w w1 w2 : World} {g : Nat} (b1 : Below w.heap.size w w1) (h1 : In w1.heap.size w1 2 (twoT g)) {t : TypeId}
    (b2 : Below (w1.alloc (.cells #[.int .i64 4, .int .i64 0, .string ⟨#[]⟩, .slice (some ⟨g, 0, none⟩) 2 2, .int .i64 3, .int .i64 3, .string ⟨#[]⟩, .slice none 0 0] t)).heap.size (w1.alloc (.cells #[.int .i64 4, .int .i64 0, .string ⟨#[]⟩, .slice (some ⟨g, 0, none⟩) 2 2, .int .i64 3, .int .i64 3, .string ⟨#[]⟩, .slice none 0 0] t)) w2) :
    In w2.heap.size w2 3 (rdP g w1.heap.size) ∧ Below w.heap.size w w2 := by
  have z := b2.size
  simp at z
  have b3 : Below w1.heap.size w1 w2 := (below_new (Below.refl _ _) _).trans (b2.mono (by simp))
  refine ⟨rdP_in ((h1.below b3).mono (by omega)) (by omega) ((b2.block _ (by simp)).trans (heap_alloc_new w1 _)), b1.trans (b3.mono b1.size)⟩

set_option maxHeartbeats 1000000 in
theorem kread_any (w : World) (ht : Tab w.heap.size w) : Calls Tryd.prog 5 #[] w fun e w' => e = .returned (.bool true) ∧ Below w.heap.size w w' := by
  have HT := hide ht
  clear ht
  go_enter Tryd.func5, Tryd.ntmps5
  go_wp2_with (first
    | (go_at_call 14; refine (two_any w).mono ?_; rintro e w1 ⟨g, rfl, H1⟩)
    | (go_at_call 13; refine (tuple_any _ _ _ _).mono ?_; rintro e w2 ⟨rfl, hb2⟩; have HB2 := hide hb2; clear hb2)
    | (go_at_call 6; obtain ⟨HI, HB2'⟩ := read_in H1.out.1 H1.out.2 HB2.out; replace HI := hide HI; replace HB2' := hide HB2'; refine (show Calls _ _ #[.agg #[.int .i64 4, .int .i64 0, .string ⟨#[]⟩, .slice (some ⟨w1.heap.size, 0, none⟩) 2 2]] _ _ from print_any 3 (rdP g w1.heap.size) w2.heap.size w2 HI.out (Nat.le_refl _) (Tab.mono (HT.out.on HB2'.out) HB2'.out.size) (by rw [(rdP_facts g w1.heap.size).2.1]; omega) (by rw [(rdP_facts g w1.heap.size).2.2.1]; omega)).mono ?_; rw [(rdP_facts g w1.heap.size).1, (rdP_facts g w1.heap.size).2.2.2]; rintro e w3 ⟨rfl, hb3⟩; have HB3 := hide (HB2'.out.trans (hb3.mono HB2'.out.size)); clear hb3)
    | (go_at_call 7; refine (show Calls _ _ #[.string rdS] _ _ from parse_any rdS w3 (by unfold maxLen; decide)).mono ?_; rintro e w4 ⟨k, u, t, a, l, c, p, q, rfl, H4⟩; obtain ⟨rfl, n, x, hv, HX⟩ := rd_parse H4.out.1; replace HX := hide HX; replace hv := hide hv)
    | (go_at_call 15; rw [hv.out]; refine (tsize_any n x w4.heap.size _ (HX.out.1.below ((Below.refl _ _).alloc (Nat.le_refl _) _)) (by simp) HX.out.2.2).mono ?_; rw [HX.out.2.1]; rintro e w5 ⟨rfl, hb5⟩; have HB5 := hide hb5; clear hb5))
  go_ret
  have hb4 : Below w.heap.size w w4 := HB3.out.trans (H4.out.2.mono HB3.out.size)
  exact ⟨by simp, (below_new hb4 _).trans (HB5.out.mono (below_new hb4 _).size)⟩
end Go.Proofs.YtpehdgbdinjbaabDoor
namespace Go.Proofs.YtpehdgbdinjbaabDoor
open Go.RowKit

/-- What is printed of a right term is read as it was, as long as it isn't too long. -/
theorem back_res {n : Nat} {x : Tm n} {s : ByteArray} {w w' : World} {v : Value} {p e : Int} (h0 : chk n x = 0) (hs : s.data.toList = wtext n x) (h : PRes s w w' v p e) :
    (2048 < s.size ∧ e = 2) ∨ (s.size ≤ 2048 ∧ e = 0 ∧ ∃ (m : Nat) (y : Tm m), v = val m y ∧ In w'.heap.size w' m y ∧ same m y n x = true) := by
  have hf : formedB n x = true := by
    rw [formed_good]
    exact List.all_eq_true.2 (chk_good n x h0)
  have his := text_is s n x hf 0 [] (by simpa using hs) (Or.inl rfl)
  have hend : toks s (0 + (wtext n x).length) = [] := by
    apply toks_nil
    have h1 := wordB_ge s (0 + (wtext n x).length)
    have h2 : s.data.toList.length = s.size := by simp
    rw [hs] at h2
    omega
  rw [hend] at his
  have hexp : exp s.size (toks s 0) 0 = none := is_exp s.size n x _ _ his 0
  rcases h with ⟨h, _, _, h3⟩ | ⟨q, _, h, _⟩ | ⟨h1, _, m, y, i1, i2, _, _, rfl, h⟩
  · exact Or.inl ⟨h, h3⟩
  · rw [hexp] at h; exact absurd h (by simp)
  · obtain ⟨hsm, _⟩ := Is.one m n y x _ _ _ i1 his
    have h2 := same_tchk m n y x hsm
    rw [h0] at h2
    rcases h with ⟨h, _⟩ | ⟨_, h⟩
    · exact absurd h2 h
    · exact Or.inr ⟨h1, h2, m, y, h, i2, hsm⟩

theorem good_small {a : Nd} (h : good a = true) : a.1.2.2.size ≤ 8 := by
  have he : ∀ s : ByteArray, s.toList.isEmpty = true → s.size ≤ 8 := fun s h => by
    rw [ByteArray.toList_eq] at h
    have h2 : s.data.toList.length = s.size := by simp
    have h3 : s.data.toList = [] := by simpa using h
    rw [h3] at h2
    simp at h2
    omega
  simp only [good, Bool.and_eq_true] at h
  obtain ⟨h, _⟩ := h
  split at h
  · exact he _ (by simp at h; simpa using h.1)
  · split at h
    · simp only [nameB, inB, Bool.and_eq_true, decide_eq_true_eq] at h
      omega
    · split at h
      · exact he _ (by simp at h; simpa using h.1)
      · split at h
        · exact he _ (by simp at h; simpa using h.1.1)
        · split at h
          · exact he _ (by simp at h; simpa using h.1)
          · split at h
            · exact he _ (by simp at h; simpa using h.1)
            · exact absurd h (by simp)
theorem wt_small : (n : Nat) → (x : Tm n) → (∀ a ∈ nodes n x, a.1.2.2.size ≤ 8) → wt n x ≤ 9 * (nodes n x).length
  | 0, _, _ => by simp [wt, nodes]
  | n + 1, x, h => by
    have key : ∀ l : List (Tm n), (∀ y ∈ l, ∀ a ∈ nodes n y, a.1.2.2.size ≤ 8) → (l.map fun y => wt n y).sum ≤ 9 * (l.flatMap fun y => nodes n y).length := by
      intro l
      induction l with
      | nil => simp
      | cons y l ih =>
        intro h
        have h1 := wt_small n y (h y (by simp))
        have h2 := ih (fun z hz => h z (by simp [hz]))
        simp only [List.map_cons, List.sum_cons, List.flatMap_cons, List.length_append]
        omega
    have h1 := key x.2.2 (fun y hy a ha => h a (nodes_mem hy ha))
    have h2 := h (x.1, (x.2.1.1, x.2.2.length, x.2.1.2)) (by simp [nodes])
    simp only [wt, nodes, List.length_cons]
    simp only at h2
    omega

theorem scan_le {L : Nat} : (ts : List Tok) → (∀ t ∈ ts, t.1 ≤ L) → (d p : Nat) → scanD L ts d = some p → p ≤ L
  | [], _, 0, p, h => by simp [scanD] at h
  | [], _, _ + 1, p, h => by simp [scanD] at h; omega
  | t :: ts, ht, 0, p, h => by simp [scanD] at h; have := ht t (by simp); omega
  | t :: ts, ht, d + 1, p, h => by
    have k := scan_le ts (fun u hu => ht u (by simp [hu]))
    simp only [scanD] at h
    split at h
    · exact k _ _ h
    · split at h
      · exact k _ _ h
      · split at h
        · exact k _ _ h
        · injection h with h
          have := ht t (by simp)
          omega
theorem exp_le {L : Nat} (ts : List Tok) (ht : ∀ t ∈ ts, t.1 ≤ L) (d p : Nat) (h : exp L ts d = some p) : p ≤ L := by
  cases ts with
  | nil => simp [exp] at h; omega
  | cons t ts =>
    have k := scan_le ts (fun u hu => ht u (by simp [hu]))
    simp only [exp] at h
    split at h
    · exact k _ _ h
    · split at h
      · exact k _ _ h
      · injection h with h
        have := ht t (by simp)
        omega
theorem toks_place (s : ByteArray) : (f i : Nat) → ∀ t ∈ toksF f s i, t.1 ≤ s.size
  | 0, i, t, h => by simp [toksF] at h
  | f + 1, i, t, h => by
    simp only [toksF] at h
    by_cases hw : wordB s i < s.size
    · rw [if_pos hw] at h
      rcases List.mem_cons.1 h with h | h
      · subst h; simp only; omega
      · exact toks_place s f (wordE s i) t h
    · rw [if_neg hw] at h
      simp at h

/-- What a text's reading tells: an error, at a place in the text; or a right term. -/
theorem back_read {s : ByteArray} {w w' : World} {v : Value} {p e : Int} (h : PRes s w w' v p e) :
    (e ≠ 0 ∧ 0 ≤ p ∧ p ≤ s.size) ∨ (e = 0 ∧ ∃ (n : Nat) (x : Tm n), v = val n x ∧ In w'.heap.size w' n x ∧ Off (fun q => w.heap.size ≤ q) n x ∧ chk n x = 0 ∧ (nodes n x).length ≤ 2097152 ∧ wt n x ≤ 2097152) := by
  rcases h with ⟨h, _, rfl, rfl⟩ | ⟨q, _, h, _, rfl, rfl⟩ | ⟨h1, _, n, x, i1, i2, i3, rfl, rfl, h⟩
  · exact Or.inl ⟨by omega, by omega, by omega⟩
  · have := exp_le _ (toks_place s _ _) _ _ h
    exact Or.inl ⟨by omega, by omega, by omega⟩
  · rcases h with ⟨h, _⟩ | ⟨h, rfl⟩
    · exact Or.inl ⟨h, by omega, by omega⟩
    · have k1 := Is.nodes n x _ _ i1
      have k2 := toks_length s s.size 0 (by omega)
      have k3 := wt_small n x (fun a ha => good_small (chk_good n x h a ha))
      simp at k1
      exact Or.inr ⟨h, n, x, rfl, i2, i3, h, by omega, by omega⟩
end Go.Proofs.YtpehdgbdinjbaabDoor
namespace Go.Proofs.YtpehdgbdinjbaabDoor
open Go.RowKit

/-- Print, of a right term or of another. -/
def PrOut (n : Nat) (x : Tm n) (T : ByteArray) (E : Int) : Prop := E = chk n x ∧ T.size ≤ maxLen ∧ (E = 0 → T.data.toList = wtext n x)
theorem print_out (n : Nat) (x : Tm n) (B : Nat) (w : World) (hx : In B w n x) (hB : B ≤ w.heap.size) (ht : Tab w.heap.size w) (hN : (nodes n x).length ≤ 2097152) (hw : wt n x ≤ 2097152) :
    Calls Tryd.prog 6 #[val n x] w fun e w' => ∃ T E, e = .returned (.tuple #[.string T, .int .i64 E]) ∧ Hid (PrOut n x T E ∧ Below w.heap.size w w') := by
  refine (print_any n x B w hx hB ht hN hw).mono ?_
  rintro e w' ⟨rfl, hb⟩
  have hl := wtext_len n x B w hx
  refine ⟨_, _, rfl, ⟨rfl, ?_, fun h => by rw [if_pos h]⟩, hb⟩
  rw [size_of_list]
  unfold maxLen
  split
  · omega
  · simp
/-- What the reading of a printed text tells. -/
def BkRes (n : Nat) (x : Tm n) (T : ByteArray) (w w' : World) (v : Value) (f : Int) : Prop :=
  Below w.heap.size w w' ∧ ((2048 < T.size ∧ f = 2) ∨ (T.size ≤ 2048 ∧ f = 0 ∧ ∃ (m : Nat) (y : Tm m), v = val m y ∧ In w'.heap.size w' m y ∧ same m y n x = true))
theorem parse_out (n : Nat) (x : Tm n) (T : ByteArray) (E : Int) (w : World) (h : PrOut n x T E) (h0 : E = 0) :
    Calls Tryd.prog 7 #[.string T] w fun e w' => ∃ (k u : Int) (t : ByteArray) (a : Option Addr) (l c : Nat) (p f : Int), e = .returned (.tuple #[.agg #[.int .i64 k, .int .i64 u, .string t, .slice a l c], .int .i64 p, .int .i64 f]) ∧
      Hid (BkRes n x T w w' (.agg #[.int .i64 k, .int .i64 u, .string t, .slice a l c]) f) := by
  refine (parse_any T w h.2.1).mono ?_
  rintro e w' ⟨k, u, t, a, l, c, p, f, rfl, H⟩
  exact ⟨k, u, t, a, l, c, p, f, rfl, H.out.2, back_res (h.1.symm.trans h0) (h.2.2 h0) H.out.1⟩

theorem bk_box {w w' : World} {v0 v1 v2 v3 : Value} (b : Below (w.alloc (.cells #[v0, v1, v2, v3] 24)).heap.size (w.alloc (.cells #[v0, v1, v2, v3] 24)) w') : Bx w.heap.size v0 v1 v2 v3 w' :=
  (Bx.new w v0 v1 v2 v3).block (b.block _ (by simp))
theorem bk_below {w w' : World} {o : Obj} (b : Below (w.alloc o).heap.size (w.alloc o) w') : Below w.heap.size w w' := (below_new (Below.refl _ _) _).trans (b.mono (by simp))

theorem bk_new {n : Nat} {x : Tm n} {w : World} {v : Value} {o : Obj} (h : ∃ (m : Nat) (y : Tm m), v = val m y ∧ In w.heap.size w m y ∧ same m y n x = true) : ∃ (m : Nat) (y : Tm m), v = val m y ∧ In (w.alloc o).heap.size (w.alloc o) m y ∧ same m y n x = true := by
  obtain ⟨m, y, h1, h2, h3⟩ := h
  exact ⟨m, y, h1, (h2.below ((Below.refl _ _).alloc (Nat.le_refl _) o)).mono (by simp), h3⟩
theorem Bx.set4 {q : Nat} {v0 v1 v2 v3 : Value} {w : World} (h : Bx q v0 v1 v2 v3 w) (u0 u1 u2 u3 : Value) : Bx q u0 u1 u2 u3 ((((w.setCell ⟨q, 0, none⟩ u0).setCell ⟨q, 1, none⟩ u1).setCell ⟨q, 2, none⟩ u2).setCell ⟨q, 3, none⟩ u3) := by
  unfold Bx at *
  simp [World.setCell, Array.getElem?_modify, h]
/-- The term that was read, once its box is written. -/
theorem bk_in {w wp w5 : World} {n : Nat} {y : Tm n} (hlt : w.heap.size < wp.heap.size) (h : In w5.heap.size w5 n y) (k : Off (fun q => wp.heap.size ≤ q) n y) (v0 v1 v2 v3 : Value) :
    In w5.heap.size ((((w5.setCell ⟨w.heap.size, 0, none⟩ v0).setCell ⟨w.heap.size, 1, none⟩ v1).setCell ⟨w.heap.size, 2, none⟩ v2).setCell ⟨w.heap.size, 3, none⟩ v3) n y :=
  In.off (fun q hq => set4_block (by omega) _ _ _ _) k h

theorem bk_print (n : Nat) (x : Tm n) (B : Nat) (w : World) (v : Value) (hv : v = val n x) (hx : In B w n x) (hB : B ≤ w.heap.size) (ht : Tab w.heap.size w) (hN : (nodes n x).length ≤ 2097152) (hw : wt n x ≤ 2097152) :
    Calls Tryd.prog 6 #[v] w fun e w' => ∃ T E, e = .returned (.tuple #[.string T, .int .i64 E]) ∧ Hid (PrOut n x T E ∧ Below w.heap.size w w') := by
  subst hv
  exact print_out n x B w hx hB ht hN hw
theorem bk_same (n : Nat) (x : Tm n) (w : World) (v u : Value) (hu : u = val n x) (h : ∃ (m : Nat) (y : Tm m), v = val m y ∧ In w.heap.size w m y ∧ same m y n x = true) (hx : In w.heap.size w n x) :
    Calls Tryd.prog 8 #[v, u] w fun e w' => e = .returned (.bool true) ∧ Below w.heap.size w w' := by
  obtain ⟨m, y, rfl, hy, hsm⟩ := h
  subst hu
  rw [← hsm]
  exact same_any m y n x w.heap.size w hy hx (Nat.le_refl _)

set_option maxHeartbeats 1000000 in
theorem back_walk (n : Nat) (x : Tm n) (B : Nat) (w : World) (k u : Int) (t : ByteArray) (a : Option Addr) (l c : Nat) (s : ByteArray) (hv : .agg #[.int .i64 k, .int .i64 u, .string t, .slice a l c] = val n x) (hs : s.size ≤ maxLen) (hx : In B w n x) (hB : B ≤ w.heap.size) (ht : Tab w.heap.size w) (hN : (nodes n x).length ≤ 2097152) (hw : wt n x ≤ 2097152) :
    Calls Tryd.prog 3 #[.agg #[.int .i64 k, .int .i64 u, .string t, .slice a l c], .string s] w fun e w' => e = .returned (.bool true) ∧ Below w.heap.size w w' := by
  have HT : Hid (∀ w', Below w.heap.size w w' → Tab w'.heap.size w') := fun w' hb => Tab.mono (ht.on hb) hb.size
  have HPR : Hid (∀ w1, Below w.heap.size w w1 → Calls Tryd.prog 6 #[.agg #[.int .i64 k, .int .i64 u, .string t, .slice a l c]] w1 fun e w' => ∃ T E, e = .returned (.tuple #[.string T, .int .i64 E]) ∧ Hid (PrOut n x T E ∧ Below w1.heap.size w1 w')) := by
    intro w1 h1
    rw [hv]
    exact print_out n x B w1 (hx.below (h1.mono hB)) (Nat.le_trans hB h1.size) (HT.out w1 h1) hN hw
  have HSM : Hid (∀ (w1 : World) (v : Value), Below w.heap.size w w1 → (∃ (m : Nat) (y : Tm m), v = val m y ∧ In w1.heap.size w1 m y ∧ same m y n x = true) → Calls Tryd.prog 8 #[v, .agg #[.int .i64 k, .int .i64 u, .string t, .slice a l c]] w1 fun e w' => e = .returned (.bool true) ∧ Below w1.heap.size w1 w') := by
    rintro w1 v h1 ⟨m, y, rfl, hy, hsm⟩
    rw [hv, ← hsm]
    exact same_any m y n x w1.heap.size w1 hy ((hx.below (h1.mono hB)).mono (Nat.le_trans hB h1.size)) (Nat.le_refl _)
  have hs' : s.size ≤ 9223372036854775807 := by unfold maxLen at hs; omega
  replace hs := hide hs
  clear hv hx ht hN hw
  have hzero : True := trivial
  go_enter Tryd.func3, Tryd.ntmps3
  go_wp2_with (first
    | (go_at_call 5; refine (kread_any _ (HT.out _ (below_new (Below.refl _ _) _))).mono ?_; rintro e w1 ⟨rfl, hb⟩; have HP := hide hb; obtain ⟨⟨x0, x1, x2, x3⟩, f0, f1, f2, f3⟩ := (bk_box hb).cells; clear hb)
    | (go_at_call 6; have hone := hzero; clear hzero; refine (HPR.out _ (bk_below HP.out)).mono ?_; rintro e w2 ⟨T, E, rfl, HQ⟩; have HP := hide (HP.out.trans (HQ.out.2.mono HP.out.size)); obtain ⟨⟨y0, y1, y2, y3⟩, g0, g1, g2, g3⟩ := (bk_box HP.out).cells; by_cases hE : E = 0)
    | (go_at_call 7; have htwo := hone; clear hone; refine (parse_out n x T E _ HQ.out.1 hE).mono ?_; rintro e w3 ⟨k1, u1, t1, a1, l1, c1, p1, e1, rfl, HR⟩; have HP := hide (HP.out.trans (HR.out.1.mono HP.out.size)); obtain ⟨⟨z0, z1, z2, z3⟩, h0, h1, h2, h3⟩ := (bk_box HP.out).cells; have hlt3 : w.heap.size < w3.heap.size := ((bk_box HP.out).lt); rcases HR.out.2 with ⟨hbig, rfl⟩ | ⟨hsm, rfl, HY⟩; all_goals (first | (replace HY := hide HY) | skip))
    | (go_at_call 8; have hthree := htwo; clear htwo; have HP4 := hide (below_new HP.out (.cells #[.int .i64 k1, .int .i64 u1, .string t1, .slice a1 l1 c1] 24)); refine (HSM.out (w3.alloc (.cells #[.int .i64 k1, .int .i64 u1, .string t1, .slice a1 l1 c1] 24)) (.agg #[.int .i64 k1, .int .i64 u1, .string t1, .slice a1 l1 c1]) (bk_below HP4.out) (bk_new (o := (.cells #[.int .i64 k1, .int .i64 u1, .string t1, .slice a1 l1 c1] 24)) HY.out)).mono ?_; rintro e w4 ⟨rfl, hb⟩; have HP := hide (HP4.out.trans (hb.mono HP4.out.size)); clear hb; obtain ⟨⟨s0, s1, s2, s3⟩, r0, r1, r2, r3⟩ := (bk_box HP.out).cells))
  · go_ret
    exact ⟨rfl, below_new (bk_below HP.out) _⟩
  all_goals
    have hltp := (bk_box HP.out).lt
    refine (parse_any s _ hs.out).mono ?_
    rintro e w5 ⟨k5, u5, t5, a5, l5, c5, p5, e5, rfl, H5⟩
    have HP := hide (HP.out.trans (H5.out.2.mono HP.out.size))
    have HX5 := hide (bk_box HP.out)
    obtain ⟨⟨q0, q1, q2, q3⟩, m0, m1, m2, m3⟩ := HX5.out.cells
    have HB5 := hide (bk_below HP.out)
    rcases back_read H5.out.1 with ⟨he, hp1, hp2⟩ | ⟨rfl, n5, y5, hv5, i5, o5, hc5, hn5, hw5⟩
    · have he2 : (e5 != 0) = true := by simpa using he
      go_wp2_with fail
      go_ret
      exact ⟨by simp, below_set4 HB5.out _ _ _ _⟩
    · have HI5 := hide (bk_in hltp i5 o5 (.int .i64 k5) (.int .i64 u5) (.string t5) (.slice a5 l5 c5))
      have HB6 := hide (below_set4 HB5.out (.int .i64 k5) (.int .i64 u5) (.string t5) (.slice a5 l5 c5))
      have HX6 := hide (HX5.out.set4 (.int .i64 k5) (.int .i64 u5) (.string t5) (.slice a5 l5 c5))
      have HV := hide (⟨hv5, hc5, hn5, hw5⟩ : _ ∧ _ ∧ _ ∧ _)
      clear hv5 i5 o5 hc5 hn5 hw5
      go_wp2_with fail
      refine (bk_print n5 y5 w5.heap.size _ _ HV.out.1 HI5.out (by rw [set4_size]; exact Nat.le_refl _) (HT.out _ HB6.out) HV.out.2.2.1 HV.out.2.2.2).mono ?_
      rintro e w7 ⟨T7, E7, rfl, H7⟩
      obtain rfl : E7 = 0 := H7.out.1.1.trans HV.out.2.1
      have HX7 := hide (HX6.out.block (H7.out.2.block _ HX6.out.lt))
      have HB7 := hide (HB6.out.trans (H7.out.2.mono HB6.out.size))
      have HI7 := hide ((HI5.out.below (H7.out.2.mono (by rw [set4_size]; exact Nat.le_refl _))).mono (show w5.heap.size ≤ w7.heap.size by have := H7.out.2.size; rw [set4_size] at this; exact this))
      clear HX6 HI5
      go_wp2_with fail
      refine (parse_out n5 y5 T7 0 w7 H7.out.1 rfl).mono ?_
      rintro e w8 ⟨k8, u8, t8, a8, l8, c8, p8, e8, rfl, H8⟩
      have HX8 := hide (HX7.out.block (H8.out.1.block _ HX7.out.lt))
      have HB8 := hide (HB7.out.trans (H8.out.1.mono HB7.out.size))
      have HI8 := hide ((HI7.out.below H8.out.1).mono H8.out.1.size)
      obtain ⟨⟨v0, v1, v2, v3⟩, b0, b1, b2, b3⟩ := HX8.out.cells
      have hlt8 : w.heap.size < w8.heap.size := HX8.out.lt
      have hT7 : T7.size ≤ 9223372036854775807 := by have := H7.out.1.2.1; unfold maxLen at this; omega
      rcases H8.out.2 with ⟨hbig8, rfl⟩ | ⟨hsm8, rfl, HY8⟩
      · have hbig9 : (2048 : Int) < T7.size := by omega
        go_wp2_with fail
        go_ret
        exact ⟨by simp, below_new HB8.out _⟩
      · have hsm9 : (T7.size : Int) ≤ 2048 := by omega
        replace HY8 := hide HY8
        go_wp2_with fail
        refine (bk_same n5 y5 _ _ _ HV.out.1 (bk_new HY8.out) ((HI8.out.below ((Below.refl _ _).alloc (Nat.le_refl _) _)).mono (by simp))).mono ?_
        rintro e w9 ⟨rfl, hb9⟩
        have HB9 := hide ((below_new HB8.out _).trans (hb9.mono (below_new HB8.out _).size))
        clear hb9
        go_wp2_with fail
        go_ret
        exact ⟨by simp, HB9.out⟩

theorem back_any (n : Nat) (x : Tm n) (s : ByteArray) (B : Nat) (w : World) (hs : s.size ≤ maxLen) (hx : In B w n x) (hB : B ≤ w.heap.size) (ht : Tab w.heap.size w) (hw : wt n x ≤ 2097152) :
    Calls Tryd.prog 3 #[val n x, .string s] w fun e w' => e = .returned (.bool true) ∧ Below w.heap.size w w' := by
  have hN := nodes_wt n x
  cases n with
  | zero => exact hx.elim
  | succ n => exact back_walk (n + 1) x B w x.1.1 x.1.2.1 x.1.2.2 x.2.1.1 x.2.2.length x.2.1.2 s rfl hs hx hB ht (by omega) hw
end Go.Proofs.YtpehdgbdinjbaabDoor
