/- What is proved here: term.write, for every term that lies in memory, onto a builder that the call has made: it writes the plain function wtext of it, and turns nothing else. Conditions: what is held takes at most 2^47 bytes; the library's table of powers lies as its text lays it. -/
import Derived.Test.YtdlplmpjcemnoabDoorWri
namespace Go.Proofs.YtdlplmpjcemnoabDoor
open Go.RowKit

set_option maxHeartbeats 400000 in
theorem write_int (u : Int) (s : ByteArray) (a : Option Addr) (n c : Nat) (B b : Nat) (l : List UInt8) (w : World) (hu : I64 u) (h : Bu B b l w) (hB : B ≤ w.heap.size) (ht : Tab B w) (hlen : l.length + 24 ≤ 140737488355328) :
    Calls Tryd.prog 12 #[.pointer (some ⟨b, 0, none⟩), .agg #[.int .i64 1, .int .i64 u, .string s, .slice a n c]] w fun e w' => e = .returned (.tuple #[]) ∧ Wrote B b (l ++ Lib.itoa u) w w' := by
  have HI := hide (Lib.itoa_length_le u hu.1 hu.2)
  have HW : Hid (∀ o, Wrote B b l w (w.alloc o)) := fun o => Wrote.old h ((Below.refl _ _).alloc (Nat.le_refl _) o) hB
  have HT := hide ht
  have HU := hide hu
  clear h ht hu
  go_enter Tryd.func12, Tryd.ntmps12
  go_wp2_with fail
  refine (itoa_any u HU.out.1 HU.out.2 B _ (HT.out.on (HW.out _).2.1)).mono ?_
  rintro e w2 ⟨rfl, hb2⟩
  have H2 := hide ((HW.out _).trans (Wrote.old (HW.out _).1 hb2 (by simp; omega)))
  have HZ2 : Hid (B ≤ w2.heap.size) := by have := hb2.size; simp at this; simp only [Hid]; omega
  clear hb2
  go_wp2_with fail
  refine (writeString_any B b _ _ _ H2.out.1 (by have := HI.out; simp [ByteArray.size]; omega) HZ2.out).mono ?_
  rintro e w3 ⟨rfl, h3⟩
  have H3 := hide (H2.out.trans h3)
  clear h3
  go_wp2_with fail
  go_end0
  exact ⟨rfl, by have := H3.out; simpa using this⟩

theorem write_name (u : Int) (s : ByteArray) (a : Option Addr) (n c : Nat) (B b : Nat) (l : List UInt8) (w : World) (h : Bu B b l w) (hB : B ≤ w.heap.size) (hlen : l.length + s.size ≤ 140737488355328) :
    Calls Tryd.prog 12 #[.pointer (some ⟨b, 0, none⟩), .agg #[.int .i64 2, .int .i64 u, .string s, .slice a n c]] w fun e w' => e = .returned (.tuple #[]) ∧ Wrote B b (l ++ s.data.toList) w w' := by
  have HW : Hid (∀ o, Wrote B b l w (w.alloc o)) := fun o => Wrote.old h ((Below.refl _ _).alloc (Nat.le_refl _) o) hB
  clear h
  go_enter Tryd.func12, Tryd.ntmps12
  go_wp2_with fail
  refine (writeString_any B b _ _ _ (HW.out _).1 hlen (by simp; omega)).mono ?_
  rintro e w3 ⟨rfl, h3⟩
  have H3 := hide ((HW.out _).trans h3)
  clear h3
  go_wp2_with fail
  go_end0
  exact ⟨rfl, H3.out⟩

theorem write_wild (u : Int) (s : ByteArray) (a : Option Addr) (n c : Nat) (B b : Nat) (l : List UInt8) (w : World) (h : Bu B b l w) (hB : B ≤ w.heap.size) (hlen : l.length + 1 ≤ 140737488355328) :
    Calls Tryd.prog 12 #[.pointer (some ⟨b, 0, none⟩), .agg #[.int .i64 6, .int .i64 u, .string s, .slice a n c]] w fun e w' => e = .returned (.tuple #[]) ∧ Wrote B b (l ++ [95]) w w' := by
  have HW : Hid (∀ o, Wrote B b l w (w.alloc o)) := fun o => Wrote.old h ((Below.refl _ _).alloc (Nat.le_refl _) o) hB
  clear h
  go_enter Tryd.func12, Tryd.ntmps12
  go_wp2_with fail
  refine (writeByte_at B b l _ 95 rfl _ (HW.out _).1 hlen (by simp; omega)).mono ?_
  rintro e w3 ⟨rfl, h3⟩
  have H3 := hide ((HW.out _).trans h3)
  clear h3
  go_wp2_with fail
  go_end0
  exact ⟨rfl, H3.out⟩

theorem write_else (k u : Int) (s : ByteArray) (a : Option Addr) (n c : Nat) (B b : Nat) (l : List UInt8) (w : World) (h : Bu B b l w) (hB : B ≤ w.heap.size) (k1 : ¬ k = 1) (k2 : ¬ k = 2) (k3 : ¬ k = 3) (k4 : ¬ k = 4) (k5 : ¬ k = 5) (k6 : ¬ k = 6) :
    Calls Tryd.prog 12 #[.pointer (some ⟨b, 0, none⟩), .agg #[.int .i64 k, .int .i64 u, .string s, .slice a n c]] w fun e w' => e = .returned (.tuple #[]) ∧ Wrote B b l w w' := by
  have HW : Hid (∀ o, Wrote B b l w (w.alloc o)) := fun o => Wrote.old h ((Below.refl _ _).alloc (Nat.le_refl _) o) hB
  have e1 : (k == 1) = false := by simpa using k1
  have e2 : (k == 2) = false := by simpa using k2
  have e3 : (k == 3) = false := by simpa using k3
  have e4 : (k == 4) = false := by simpa using k4
  have e5 : (k == 5) = false := by simpa using k5
  have e6 : (k == 6) = false := by simpa using k6
  clear h k1 k2 k3 k4 k5 k6
  go_enter Tryd.func12, Tryd.ntmps12
  go_wp2_with fail
  go_end0
  exact ⟨rfl, HW.out _⟩

/-- The text behind k of the parts. -/
def jnTo (n : Nat) (p : List (Tm n)) (k : Nat) : List UInt8 := jn ((p.take k).map fun y => wtext n y)
theorem jnTo_succ (n : Nat) (p : List (Tm n)) (k : Nat) (x : Tm n) (h : p[k]? = some x) : jnTo n p (k + 1) = if k = 0 then wtext n x else jnTo n p k ++ 32 :: wtext n x := by
  obtain ⟨h1, e1⟩ := List.getElem?_eq_some_iff.1 h
  unfold jnTo
  rw [List.take_succ_eq_append_getElem h1, e1, List.map_append, List.map_cons, List.map_nil, jn_snoc]
  by_cases hk : k = 0
  · subst hk; simp
  · rw [if_neg hk, if_neg]
    intro e
    have := congrArg List.length e
    rw [List.length_map, List.length_take, List.length_nil] at this
    omega
theorem jnTo_len (n : Nat) (p : List (Tm n)) (k : Nat) (h : ∀ y ∈ p, (wtext n y).length + 1 ≤ 24 * wt n y) : (jnTo n p k).length ≤ 24 * ((p.take k).map fun y => wt n y).sum :=
  jn_len n (fun y => wtext n y) (p.take k) (fun y hy => h y (List.mem_of_mem_take hy))
theorem wt_take (n : Nat) (p : List (Tm n)) (k : Nat) : ((p.take k).map fun y => wt n y).sum ≤ (p.map fun y => wt n y).sum := by
  conv => rhs; rw [← List.take_append_drop k p]
  rw [List.map_append, List.sum_append]
  omega
theorem wt_take_succ (n : Nat) (p : List (Tm n)) (k : Nat) (x : Tm n) (h : p[k]? = some x) : ((p.take k).map fun y => wt n y).sum + wt n x ≤ (p.map fun y => wt n y).sum := by
  have h1 := wt_take n p (k + 1)
  obtain ⟨h2, e2⟩ := List.getElem?_eq_some_iff.1 h
  rw [List.take_succ_eq_append_getElem h2, e2] at h1
  simpa using h1

set_option maxHeartbeats 1000000 in
theorem writeTuple_any (n : Nat) (ih : FW n) (p : List (Tm n)) (len : Nat) (hpl : Hid (p.length = len)) (a : Option Addr) (pc C B b : Nat) (l : List UInt8) (w : World)
    (hp : Hid (p = [] ∨ ∃ b o, a = some ⟨b, o, none⟩ ∧ b < C ∧ ∀ (i : Nat) (y : Tm n), p[i]? = some y → Held w b (o + i * 4) n y ∧ In C w n y))
    (hlen : len ≤ 9223372036854775807) (hCB : C ≤ B) (h : Bu B b l w) (hB : B ≤ w.heap.size) (ht : Tab B w) (hsum : l.length + 24 * (1 + (p.map fun y => wt n y).sum) ≤ 140737488355328) :
    Calls Tryd.prog 25 #[.pointer (some ⟨b, 0, none⟩), .slice a len pc] w fun e w' => e = .returned (.tuple #[]) ∧ Wrote B b (l ++ (40 :: jn (p.map fun y => wtext n y) ++ [41])) w w' := by
  have HLE : Hid (∀ k, (jnTo n p k).length ≤ 24 * ((p.take k).map fun y => wt n y).sum) := fun k => jnTo_len n p k (fun y hy => by
    rcases hp.out with hp | ⟨pb, po, _, _, hp⟩
    · rw [hp] at hy; cases hy
    · obtain ⟨i, hi⟩ := List.getElem?_of_mem hy
      exact wtext_len n y C w (hp i y hi).2)
  have HSUM := hide hsum
  have HH := hide h
  have HT := hide ht
  clear h ht hsum
  go_enter Tryd.func25, Tryd.ntmps25
  go_wp2_with fail
  refine (writeByte_at B b l _ 40 rfl _ HH.out (by have := HSUM.out; omega) hB).mono ?_
  rintro e w1 ⟨rfl, h1⟩
  have H1 := hide h1
  clear h1
  go_wp2_with fail
  go_loopw [10] (fun i wr => ∃ k : Nat, k ≤ len ∧ i = .int .i64 k ∧ Hid (Wrote B b (l ++ 40 :: jnTo n p k) w wr)) (fun i _ => len - (intOf i).toNat)
  case atStart => exact ⟨0, by omega, rfl, by have := H1.out; simpa [Hid, jnTo, jn] using this⟩
  case round =>
    obtain ⟨k, hk, rfl, HR⟩ := hrel
    have HZ : Hid (B ≤ wr.heap.size) := Nat.le_trans hB HR.out.2.1.size
    by_cases hlt : k < len
    · obtain ⟨x, hx⟩ : ∃ x, p[k]? = some x := ⟨p[k]'(by rw [hpl.out]; exact hlt), List.getElem?_eq_getElem _⟩
      have HS := hide (jnTo_succ n p k x hx)
      have HXL : Hid ((l ++ 40 :: jnTo n p k).length + 1 + 24 * wt n x ≤ 140737488355328) := by
        have h1 := wt_take_succ n p k x hx
        have h2 := HLE.out k
        have h3 := HSUM.out
        simp only [Hid, List.length_append, List.length_cons]
        omega
      rcases hp.out with hp | ⟨pb, po, rfl, hpb, hp⟩
      · subst hp; simp at hx
      obtain ⟨hx1, hx2⟩ := hp k x hx
      replace hx1 := hx1.below (HR.out.2.1.mono hCB) hpb
      replace hx2 := hx2.below (HR.out.2.1.mono hCB)
      clear hp hx
      cases n with
      | zero => exact hx1.elim
      | succ n =>
      obtain ⟨x0, x1, x2, x3⟩ := hx1
      have HC : Hid (∀ (l' : List UInt8) (w1 : World), Below B wr w1 → Bu B b l' w1 → l'.length + 24 * wt (n + 1) x ≤ 140737488355328 → Calls Tryd.prog 12 #[.pointer (some ⟨b, 0, none⟩), .agg #[.int .i64 x.1.1, .int .i64 x.1.2.1, .string x.1.2.2, .slice x.2.1.1 x.2.2.length x.2.1.2]] w1 fun e w' => e = .returned (.tuple #[]) ∧ Wrote B b (l' ++ wtext (n + 1) x) w1 w') :=
        fun l' w1 h1 h2 h3 => ih x C B b l' w1 (hx2.below (h1.mono hCB)) hCB h2 (Nat.le_trans HZ.out h1.size) (HT.out.on (HR.out.2.1.trans h1)) h3
      have HBL := hide HR.out.1.lt
      clear ih hx2
      generalize x.2.2.length = xl at *
      generalize wtext (n + 1) x = tx at *
      have HWR : Hid (∀ o, Wrote B b (l ++ 40 :: jnTo (n + 1) p k) wr (wr.alloc o)) := fun o => Wrote.old HR.out.1 ((Below.refl _ _).alloc (Nat.le_refl _) o) HZ.out
      have hk1 : (0 : Int) ≤ (k : Int) := by omega
      have hk2 : (k : Int) < (len : Int) := by omega
      by_cases hk0 : k = 0
      · have HK0 := hide hk0
        have hk3 : ¬ (0 : Int) < (k : Int) := by omega
        clear hk0
        go_wp2_with fail
        refine (HC.out (l ++ 40 :: jnTo (n + 1) p k) _ (HWR.out _).2.1 (HWR.out _).1 (by have := HXL.out; omega)).mono ?_
        rintro e w3 ⟨rfl, h3⟩
        have H3 := hide ((HR.out.trans (HWR.out _)).trans h3)
        clear h3
        go_wp2_with fail
        go_roundw
        case rel =>
          refine ⟨k + 1, by omega, by go_num, hide ?_⟩
          have := H3.out
          rw [HS.out, if_pos HK0.out]
          have e0 : jnTo (n + 1) p k = [] := by rw [HK0.out]; rfl
          rw [e0] at this
          simpa using this
        case measure => simp [intOf]; omega
      · have HK0 := hide hk0
        have hk3 : (0 : Int) < (k : Int) := by omega
        clear hk0
        go_wp2_with fail
        refine (writeByte_at B b _ _ 32 rfl _ (HWR.out _).1 (by have := HXL.out; omega) (by have := HZ.out; simp; omega)).mono ?_
        rintro e w2 ⟨rfl, h2⟩
        have H2 := hide ((HR.out.trans (HWR.out _)).trans h2)
        have HB2 := hide ((HWR.out _).2.1.trans h2.2.1)
        have hbx := kept_cell h2.2.2 (box_at wr _ 24) (by have := HBL.out; omega) (by decide)
        have y0 : w2.cell? ⟨wr.heap.size, 0, none⟩ = some (.int .i64 x.1.1) := by rw [Lib.cell_of_heap hbx]; rfl
        have y1 : w2.cell? ⟨wr.heap.size, 1, none⟩ = some (.int .i64 x.1.2.1) := by rw [Lib.cell_of_heap hbx]; rfl
        have y2 : w2.cell? ⟨wr.heap.size, 2, none⟩ = some (.string x.1.2.2) := by rw [Lib.cell_of_heap hbx]; rfl
        have y3 : w2.cell? ⟨wr.heap.size, 3, none⟩ = some (.slice x.2.1.1 xl x.2.1.2) := by rw [Lib.cell_of_heap hbx]; rfl
        clear h2 hbx
        go_wp2_with fail
        refine (HC.out _ _ HB2.out H2.out.1 (by have := HXL.out; simp at this ⊢; omega)).mono ?_
        rintro e w3 ⟨rfl, h3⟩
        have H3 := hide (H2.out.trans h3)
        clear h3
        go_wp2_with fail
        go_roundw
        case rel =>
          refine ⟨k + 1, by omega, by go_num, hide ?_⟩
          have := H3.out
          rw [HS.out, if_neg HK0.out]
          simpa using this
        case measure => simp [intOf]; omega
    · go_wp2_with fail
      refine (writeByte_at B b _ _ 41 rfl _ HR.out.1 (by have h1 := HSUM.out; have h2 := HLE.out k; have h3 := wt_take n p k; simp; omega) HZ.out).mono ?_
      rintro e w3 ⟨rfl, h3⟩
      have H3 := hide (HR.out.trans h3)
      clear h3
      go_wp2_with fail
      go_end0
      refine ⟨rfl, ?_⟩
      have e : jnTo n p k = jn (p.map fun y => wtext n y) := by unfold jnTo; rw [List.take_of_length_le (by rw [hpl.out]; omega)]
      have := H3.out
      rw [e] at this
      simpa using this

set_option maxHeartbeats 400000 in
theorem write_tup (u : Int) (s : ByteArray) (a : Option Addr) (n c : Nat) (B b : Nat) (l t : List UInt8) (w : World) (h : Bu B b l w) (hB : B ≤ w.heap.size)
    (H : Hid (∀ w1, Below w.heap.size w w1 → Bu B b l w1 → Calls Tryd.prog 25 #[.pointer (some ⟨b, 0, none⟩), .slice a n c] w1 fun e w' => e = .returned (.tuple #[]) ∧ Wrote B b (l ++ t) w1 w')) :
    Calls Tryd.prog 12 #[.pointer (some ⟨b, 0, none⟩), .agg #[.int .i64 4, .int .i64 u, .string s, .slice a n c]] w fun e w' => e = .returned (.tuple #[]) ∧ Wrote B b (l ++ t) w w' := by
  have HW : Hid (∀ o, Wrote B b l w (w.alloc o)) := fun o => Wrote.old h ((Below.refl _ _).alloc (Nat.le_refl _) o) hB
  clear h
  go_enter Tryd.func12, Tryd.ntmps12
  go_wp2_with fail
  refine (H.out _ ((Below.refl _ _).alloc (Nat.le_refl _) _) (HW.out _).1).mono ?_
  rintro e w3 ⟨rfl, h3⟩
  have H3 := hide ((HW.out _).trans h3)
  clear h3
  go_wp2_with fail
  go_end0
  exact ⟨rfl, H3.out⟩

theorem write_any (n : Nat) : FW n := by
  induction n with
  | zero => intro x C B b l w hx; exact hx.elim
  | succ n ih =>
    intro x C B b l w hx hCB h hB ht hlen
    obtain ⟨⟨k, u, s⟩, ⟨a, pc⟩, p⟩ := x
    have hx0 := hx
    obtain ⟨⟨_, hu, hs, hpl, hpc⟩, hp⟩ := hx
    simp only at hu hs hpl hpc hp
    unfold maxLen at hpc
    have hw : wt (n + 1) ((k, u, s), (a, pc), p) = 1 + s.size + (p.map fun y => wt n y).sum := rfl
    rw [hw] at hlen
    show Calls Tryd.prog 12 #[.pointer (some ⟨b, 0, none⟩), .agg #[.int .i64 k, .int .i64 u, .string s, .slice a p.length pc]] w fun e w' => e = .returned (.tuple #[]) ∧ Wrote B b (l ++ (if k = 1 then Lib.itoa u else if k = 2 then s.data.toList else if k = 3 then 35 :: Lib.itoa u
      else if k = 4 then 40 :: jn (p.map fun y => wtext n y) ++ [41] else if k = 5 then 36 :: Lib.itoa u else if k = 6 then [95] else [])) w w'
    by_cases k1 : k = 1
    · subst k1
      exact write_int u s a p.length pc B b l w hu h hB ht (by omega)
    rw [if_neg k1]
    by_cases k2 : k = 2
    · subst k2
      exact write_name u s a p.length pc B b l w h hB (by omega)
    rw [if_neg k2]
    by_cases k3 : k = 3
    · subst k3
      exact write_num 3 u s a p.length pc B b l w hu h hB ht (by omega) 35 (Or.inl ⟨rfl, rfl⟩)
    rw [if_neg k3]
    by_cases k4 : k = 4
    · subst k4
      refine write_tup u s a p.length pc B b l _ w h hB (fun w1 hw1 hb1 => writeTuple_any n ih p p.length rfl a pc C B b l w1 ?_ (by omega) hCB hb1 (Nat.le_trans hB hw1.size) (ht.on (hw1.mono hB)) (by omega))
      rcases hp with hp | ⟨pb, po, e, hpb, hp⟩
      · exact Or.inl hp
      · exact Or.inr ⟨pb, po, e, hpb, fun i y hy => ⟨(hp i y hy).1.below (hw1.mono (Nat.le_trans hCB hB)) hpb, (hp i y hy).2.below (hw1.mono (Nat.le_trans hCB hB))⟩⟩
    rw [if_neg k4]
    by_cases k5 : k = 5
    · subst k5
      exact write_num 5 u s a p.length pc B b l w hu h hB ht (by omega) 36 (Or.inr ⟨rfl, rfl⟩)
    rw [if_neg k5]
    by_cases k6 : k = 6
    · subst k6
      exact write_wild u s a p.length pc B b l w h hB (by omega)
    rw [if_neg k6, List.append_nil]
    exact write_else k u s a p.length pc B b l w h hB k1 k2 k3 k4 k5 k6
end Go.Proofs.YtdlplmpjcemnoabDoor
