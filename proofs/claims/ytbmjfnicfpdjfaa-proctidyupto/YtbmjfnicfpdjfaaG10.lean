/- What is proved here: plain facts and contracts that the claimed theorem stands on, several texts in one: code.areActs, areClauses, isProgram of lists that lie in memory return what plain functions say, and turn no memory that was there. No condition but that they lie there. code.atom, code.tuple and code.tellAct: the term that tells an act lies in new memory, with the act's own terms in it. No condition but that the act lies in memory. code.tellClause: the term that tells a clause lies in new memory, with the clause's own terms in it. Condition: it lies in memory, and has at most 8 acts. -/
import Derived.Test.YtbmjfnicfpdjfaaG09
import Derived.Handy
import Derived.Deep.RegionHeld3
import Derived.Deep.AppendLies
namespace Go.Proofs.Ytbmjfnicfpdjfaa
open Go.RowKit

def AcHeld (n : Nat) (w : World) (b o : Nat) (x : Ac (n + 1)) : Prop :=
  w.cell? ⟨b, o, none⟩ = some (.int .i64 x.1) ∧
  (w.cell? ⟨b, o + 1, none⟩ = some (.int .i64 x.2.1.1.1.1) ∧ w.cell? ⟨b, o + 2, none⟩ = some (.int .i64 x.2.1.1.1.2.1) ∧ w.cell? ⟨b, o + 3, none⟩ = some (.string x.2.1.1.1.2.2) ∧ w.cell? ⟨b, o + 4, none⟩ = some (.slice x.2.1.1.2.1.1 x.2.1.1.2.2.length x.2.1.1.2.1.2)) ∧
  (w.cell? ⟨b, o + 5, none⟩ = some (.int .i64 x.2.1.2.1.1) ∧ w.cell? ⟨b, o + 6, none⟩ = some (.int .i64 x.2.1.2.1.2.1) ∧ w.cell? ⟨b, o + 7, none⟩ = some (.string x.2.1.2.1.2.2) ∧ w.cell? ⟨b, o + 8, none⟩ = some (.slice x.2.1.2.2.1.1 x.2.1.2.2.2.length x.2.1.2.2.1.2)) ∧
  w.cell? ⟨b, o + 9, none⟩ = some (.string x.2.2.1) ∧ w.cell? ⟨b, o + 10, none⟩ = some (.int .i64 x.2.2.2)
def ClHeld (n : Nat) (w : World) (b o : Nat) (x : Cl (n + 1)) : Prop :=
  (w.cell? ⟨b, o, none⟩ = some (.int .i64 x.1.1.1.1) ∧ w.cell? ⟨b, o + 1, none⟩ = some (.int .i64 x.1.1.1.2.1) ∧ w.cell? ⟨b, o + 2, none⟩ = some (.string x.1.1.1.2.2) ∧ w.cell? ⟨b, o + 3, none⟩ = some (.slice x.1.1.2.1.1 x.1.1.2.2.length x.1.1.2.1.2)) ∧
  (w.cell? ⟨b, o + 4, none⟩ = some (.int .i64 x.1.2.1.1.1) ∧ w.cell? ⟨b, o + 5, none⟩ = some (.int .i64 x.1.2.1.1.2.1) ∧ w.cell? ⟨b, o + 6, none⟩ = some (.string x.1.2.1.1.2.2) ∧ w.cell? ⟨b, o + 7, none⟩ = some (.slice x.1.2.1.2.1.1 x.1.2.1.2.2.length x.1.2.1.2.1.2)) ∧
  w.cell? ⟨b, o + 8, none⟩ = some (.slice x.2.1.1 x.2.2.length x.2.1.2) ∧
  (w.cell? ⟨b, o + 9, none⟩ = some (.int .i64 x.1.2.2.1.1) ∧ w.cell? ⟨b, o + 10, none⟩ = some (.int .i64 x.1.2.2.1.2.1) ∧ w.cell? ⟨b, o + 11, none⟩ = some (.string x.1.2.2.1.2.2) ∧ w.cell? ⟨b, o + 12, none⟩ = some (.slice x.1.2.2.2.1.1 x.1.2.2.2.2.length x.1.2.2.2.1.2))
theorem Lay.ac {n B : Nat} {w : World} {I : Ac (n + 1) → Prop} {a : Option Addr} {p : List (Ac (n + 1))} (h : Lay B w 11 (ac11 (n + 1)) I a p) (k : Nat) (x : Ac (n + 1)) (hx : p[k]? = some x) : ∃ b o, a = some ⟨b, o, none⟩ ∧ b < B ∧ AcHeld n w b (o + k * 11) x ∧ I x := by
  rcases h with h | ⟨b, o, e, hb, h⟩
  · subst h; simp at hx
  · obtain ⟨h1, h2⟩ := h k x hx
    exact ⟨b, o, e, hb, ⟨h1 0 _ rfl, ⟨h1 1 _ rfl, h1 2 _ rfl, h1 3 _ rfl, h1 4 _ rfl⟩, ⟨h1 5 _ rfl, h1 6 _ rfl, h1 7 _ rfl, h1 8 _ rfl⟩, h1 9 _ rfl, h1 10 _ rfl⟩, h2⟩
theorem Lay.cl {n B : Nat} {w : World} {I : Cl (n + 1) → Prop} {a : Option Addr} {p : List (Cl (n + 1))} (h : Lay B w 13 (cl13 (n + 1)) I a p) (k : Nat) (x : Cl (n + 1)) (hx : p[k]? = some x) : ∃ b o, a = some ⟨b, o, none⟩ ∧ b < B ∧ ClHeld n w b (o + k * 13) x ∧ I x := by
  rcases h with h | ⟨b, o, e, hb, h⟩
  · subst h; simp at hx
  · obtain ⟨h1, h2⟩ := h k x hx
    exact ⟨b, o, e, hb, ⟨⟨h1 0 _ rfl, h1 1 _ rfl, h1 2 _ rfl, h1 3 _ rfl⟩, ⟨h1 4 _ rfl, h1 5 _ rfl, h1 6 _ rfl, h1 7 _ rfl⟩, h1 8 _ rfl, h1 9 _ rfl, h1 10 _ rfl, h1 11 _ rfl, h1 12 _ rfl⟩, h2⟩
theorem Lay.bh {n B : Nat} {w : World} {I : Bh (n + 1) → Prop} {a : Option Addr} {p : List (Bh (n + 1))} (h : Lay B w 2 (bh2 (n + 1)) I a p) (k : Nat) (x : Bh (n + 1)) (hx : p[k]? = some x) : ∃ b o, a = some ⟨b, o, none⟩ ∧ b < B ∧ (w.cell? ⟨b, o + k * 2, none⟩ = some (.string x.1) ∧ w.cell? ⟨b, o + k * 2 + 1, none⟩ = some (.slice x.2.1.1 x.2.2.length x.2.1.2)) ∧ I x := by
  rcases h with h | ⟨b, o, e, hb, h⟩
  · subst h; simp at hx
  · obtain ⟨h1, h2⟩ := h k x hx
    exact ⟨b, o, e, hb, ⟨h1 0 _ rfl, h1 1 _ rfl⟩, h2⟩
theorem lay_below {α : Type} {I : Nat → World → α → Prop} {O : (Nat → Prop) → α → Prop} (hS : Stays I O) {k : Nat} {f : α → List Value} {a : Option Addr} {B : Nat} {w w' : World} (hb : Below B w w') {l : List α} (h : Lay B w k f (I B w) a l) : Lay B w' k f (I B w') a l := (lay_stays hS k f a).below hb h

set_option maxHeartbeats 1000000 in
theorem areActs_any (n : Nat) (p : List (Ac (n + 1))) (len : Nat) (hpl : Hid (p.length = len)) (a : Option Addr) (pc B : Nat) (w : World)
    (hp : Hid (Lay B w 11 (ac11 (n + 1)) (AcIn (n + 1) B w) a p)) (hlen : len ≤ 9223372036854775807) (hB : B ≤ w.heap.size) :
    Calls Try.prog 70 #[.slice a len pc] w fun e w' => e = .returned (.bool (decide ((len : Int) ≤ 8) && p.all (actB (n + 1)))) ∧ Below w.heap.size w w' := by
  by_cases h8 : (8 : Int) < len
  · have h8' : decide ((len : Int) ≤ 8) = false := by simp; omega
    rw [h8']
    go_enter Try.func70, Try.ntmps70
    go_wp2_with fail
    go_ret
    exact ⟨rfl, Below.refl _ _⟩
  have h8' : decide ((len : Int) ≤ 8) = true := by simp; omega
  rw [h8', Bool.true_and]
  clear h8'
  go_enter Try.func70, Try.ntmps70
  go_wp2_with fail
  go_loopw [10] (fun i wr => ∃ k : Nat, k ≤ len ∧ i = .int .i64 k ∧ Below w.heap.size w wr ∧ Hid ((p.drop k).all (actB (n + 1)) = p.all (actB (n + 1)))) (fun i _ => len - (intOf i).toNat)
  case atStart => exact ⟨0, by omega, rfl, Below.refl _ _, rfl⟩
  case round =>
    obtain ⟨k, hk, rfl, hb, hd⟩ := hrel
    by_cases hlt : k < len
    · obtain ⟨x, hx⟩ : ∃ x, p[k]? = some x := ⟨p[k]'(by rw [hpl.out]; exact hlt), List.getElem?_eq_getElem _⟩
      have HS := hide (all_drop (actB (n + 1)) p k x hx)
      obtain ⟨pb, po, rfl, hpb, ⟨x0, ⟨x1, x2, x3, x4⟩, ⟨x5, x6, x7, x8⟩, x9, x10⟩, hi⟩ := (lay_below (ac_stays (n + 1)) (hb.mono hB) hp.out).ac k x hx
      have HC := fun w1 => hide (isAct_any n x w1 hi.2.2.2.1)
      replace HC : Hid (∀ w1, Calls Try.prog 85 #[.agg #[.int .i64 x.1, .int .i64 x.2.1.1.1.1, .int .i64 x.2.1.1.1.2.1, .string x.2.1.1.1.2.2, .slice x.2.1.1.2.1.1 x.2.1.1.2.2.length x.2.1.1.2.1.2, .int .i64 x.2.1.2.1.1, .int .i64 x.2.1.2.1.2.1, .string x.2.1.2.1.2.2, .slice x.2.1.2.2.1.1 x.2.1.2.2.2.length x.2.1.2.2.1.2, .string x.2.2.1, .int .i64 x.2.2.2]] w1 fun e w' => e = .returned (.bool (actB (n + 1) x)) ∧ Below w1.heap.size w1 w') := fun w1 => (HC w1).out
      clear hi hx
      generalize actB (n + 1) x = r at *
      have hk1 : (0 : Int) ≤ (k : Int) := by omega
      have hk2 : (k : Int) < (len : Int) := by omega
      go_wp2_with fail
      refine (HC.out _).mono ?_
      rintro e w1 ⟨rfl, hb1⟩
      have hb2 : Below w.heap.size w w1 := (hb.trans (((Below.refl _ _).alloc (Nat.le_refl _) _).mono hb.size)).trans (hb1.mono (by have := hb.size; simp; omega))
      clear hb1
      cases r with
      | true =>
        go_wp2_with fail
        go_roundw
        case rel => exact ⟨k + 1, by omega, by go_num, hb2, by rw [← hd.out, HS.out]; rfl⟩
        case measure => simp [intOf]; omega
      | false =>
        go_wp2_with fail
        go_ret
        exact ⟨ret_bool (by rw [← hd.out, HS.out]; rfl), hb2⟩
    · go_wp2_with fail
      go_ret
      refine ⟨ret_bool ?_, hb⟩
      rw [← hd.out, List.drop_eq_nil_of_le (by rw [hpl.out]; omega)]
      rfl

set_option maxHeartbeats 1000000 in
theorem areClauses_any (n : Nat) (p : List (Cl (n + 1))) (len : Nat) (hpl : Hid (p.length = len)) (a : Option Addr) (pc B : Nat) (w : World)
    (hp : Hid (Lay B w 13 (cl13 (n + 1)) (ClIn (n + 1) B w) a p)) (hlen : len ≤ 9223372036854775807) (hB : B ≤ w.heap.size) :
    Calls Try.prog 56 #[.slice a len pc] w fun e w' => e = .returned (.bool (decide (1 ≤ (len : Int)) && decide ((len : Int) ≤ 6) && p.all (clB (n + 1)))) ∧ Below w.heap.size w w' := by
  by_cases h1 : (len : Int) < 1
  · have h1' : decide (1 ≤ (len : Int)) = false := by simp; omega
    rw [h1']
    go_enter Try.func56, Try.ntmps56
    go_wp2_with fail
    go_ret
    exact ⟨rfl, Below.refl _ _⟩
  by_cases h8 : (6 : Int) < len
  · have h8' : decide ((len : Int) ≤ 6) = false := by simp; omega
    rw [h8']
    go_enter Try.func56, Try.ntmps56
    go_wp2_with fail
    go_ret
    exact ⟨ret_bool (by simp), Below.refl _ _⟩
  have h8' : (decide (1 ≤ (len : Int)) && decide ((len : Int) ≤ 6)) = true := by simp; omega
  rw [h8', Bool.true_and]
  clear h8'
  go_enter Try.func56, Try.ntmps56
  go_wp2_with fail
  go_loopw [15] (fun i wr => ∃ k : Nat, k ≤ len ∧ i = .int .i64 k ∧ Below w.heap.size w wr ∧ Hid ((p.drop k).all (clB (n + 1)) = p.all (clB (n + 1)))) (fun i _ => len - (intOf i).toNat)
  case atStart => exact ⟨0, by omega, rfl, Below.refl _ _, rfl⟩
  case round =>
    obtain ⟨k, hk, rfl, hb, hd⟩ := hrel
    by_cases hlt : k < len
    · obtain ⟨x, hx⟩ : ∃ x, p[k]? = some x := ⟨p[k]'(by rw [hpl.out]; exact hlt), List.getElem?_eq_getElem _⟩
      have HS := hide (all_drop (clB (n + 1)) p k x hx)
      obtain ⟨pb, po, rfl, hpb, ⟨⟨x0, x1, x2, x3⟩, ⟨x4, x5, x6, x7⟩, x8, x9, x10, x11, x12⟩, hi⟩ := (lay_below (cl_stays (n + 1)) (hb.mono hB) hp.out).cl k x hx
      have hB' : B ≤ wr.heap.size := Nat.le_trans hB hb.size
      have HC : Hid (∀ w1, Below wr.heap.size wr w1 → Calls Try.prog 70 #[.slice x.2.1.1 x.2.2.length x.2.1.2] w1 fun e w' => e = .returned (.bool (clB (n + 1) x)) ∧ Below w1.heap.size w1 w') :=
        fun w1 hw => areActs_any n x.2.2 x.2.2.length rfl x.2.1.1 x.2.1.2 B w1 (lay_below (ac_stays (n + 1)) (hw.mono hB') hi.2.2) (by have := hi.2.1; unfold maxLen at this; omega) (Nat.le_trans hB' hw.size)
      clear hi hx
      generalize clB (n + 1) x = r at *
      have hk1 : (0 : Int) ≤ (k : Int) := by omega
      have hk2 : (k : Int) < (len : Int) := by omega
      go_wp2_with fail
      refine (HC.out _ ((Below.refl _ _).alloc (Nat.le_refl _) _)).mono ?_
      rintro e w1 ⟨rfl, hb1⟩
      have hb2 : Below w.heap.size w w1 := (hb.trans (((Below.refl _ _).alloc (Nat.le_refl _) _).mono hb.size)).trans (hb1.mono (by have := hb.size; simp; omega))
      clear hb1
      cases r with
      | true =>
        go_wp2_with fail
        go_roundw
        case rel => exact ⟨k + 1, by omega, by go_num, hb2, by rw [← hd.out, HS.out]; rfl⟩
        case measure => simp [intOf]; omega
      | false =>
        go_wp2_with fail
        go_ret
        exact ⟨ret_bool (by rw [← hd.out, HS.out]; rfl), hb2⟩
    · go_wp2_with fail
      go_ret
      refine ⟨ret_bool ?_, hb⟩
      rw [← hd.out, List.drop_eq_nil_of_le (by rw [hpl.out]; omega)]
      rfl

theorem bhB_is (n : Nat) (x : Bh n) : bhB n x = (nameB x.1 && (decide (1 ≤ (x.2.2.length : Int)) && decide ((x.2.2.length : Int) ≤ 6) && x.2.2.all (clB n))) := by
  simp only [bhB, Bool.and_assoc]

set_option maxHeartbeats 1000000 in
theorem isProgram_any (n : Nat) (p : List (Bh (n + 1))) (len : Nat) (hpl : Hid (p.length = len)) (a : Option Addr) (pc B : Nat) (w : World)
    (hp : Hid (PgIn (n + 1) B w a p)) (hlen : len ≤ 9223372036854775807) (hB : B ≤ w.heap.size) :
    Calls Try.prog 42 #[.slice a len pc] w fun e w' => e = .returned (.bool (pgB (n + 1) p)) ∧ Below w.heap.size w w' := by
  have HP : Hid (pgB (n + 1) p = (decide (1 ≤ (len : Int)) && decide ((len : Int) ≤ 7) && p.all (bhB (n + 1)))) := by
    show pgB (n + 1) p = _
    rw [← hpl.out]
    rfl
  rw [HP.out]
  by_cases h1 : (len : Int) < 1
  · have h1' : decide (1 ≤ (len : Int)) = false := by simp; omega
    rw [h1']
    go_enter Try.func42, Try.ntmps42
    go_wp2_with fail
    go_ret
    exact ⟨rfl, Below.refl _ _⟩
  by_cases h8 : (7 : Int) < len
  · have h8' : decide ((len : Int) ≤ 7) = false := by simp; omega
    rw [h8']
    go_enter Try.func42, Try.ntmps42
    go_wp2_with fail
    go_ret
    exact ⟨ret_bool (by simp), Below.refl _ _⟩
  have h8' : (decide (1 ≤ (len : Int)) && decide ((len : Int) ≤ 7)) = true := by simp; omega
  rw [h8', Bool.true_and]
  clear h8' HP
  go_enter Try.func42, Try.ntmps42
  go_wp2_with fail
  go_loopw [15] (fun i wr => ∃ k : Nat, k ≤ len ∧ i = .int .i64 k ∧ Below w.heap.size w wr ∧ Hid ((p.drop k).all (bhB (n + 1)) = p.all (bhB (n + 1)))) (fun i _ => len - (intOf i).toNat)
  case atStart => exact ⟨0, by omega, rfl, Below.refl _ _, rfl⟩
  case round =>
    obtain ⟨k, hk, rfl, hb, hd⟩ := hrel
    by_cases hlt : k < len
    · obtain ⟨x, hx⟩ : ∃ x, p[k]? = some x := ⟨p[k]'(by rw [hpl.out]; exact hlt), List.getElem?_eq_getElem _⟩
      have HS := hide (all_drop (bhB (n + 1)) p k x hx)
      obtain ⟨pb, po, rfl, hpb, ⟨x0, x1⟩, hi⟩ := (PgIn.below (hb.mono hB) hp.out).bh k x hx
      have hB' : B ≤ wr.heap.size := Nat.le_trans hB hb.size
      have hs : x.1.size ≤ 9223372036854775807 := by have := hi.1; unfold maxLen at this; omega
      have HC : Hid (∀ w1, Below wr.heap.size wr w1 → Calls Try.prog 56 #[.slice x.2.1.1 x.2.2.length x.2.1.2] w1 fun e w' => e = .returned (.bool (decide (1 ≤ (x.2.2.length : Int)) && decide ((x.2.2.length : Int) ≤ 6) && x.2.2.all (clB (n + 1)))) ∧ Below w1.heap.size w1 w') :=
        fun w1 hw => areClauses_any n x.2.2 x.2.2.length rfl x.2.1.1 x.2.1.2 B w1 (lay_below (cl_stays (n + 1)) (hw.mono hB') hi.2.2) (by have := hi.2.1; unfold maxLen at this; omega) (Nat.le_trans hB' hw.size)
      have HE := hide (bhB_is (n + 1) x)
      clear hi hx
      generalize (decide (1 ≤ (x.2.2.length : Int)) && decide ((x.2.2.length : Int) ≤ 6) && x.2.2.all (clB (n + 1))) = r at *
      have hk1 : (0 : Int) ≤ (k : Int) := by omega
      have hk2 : (k : Int) < (len : Int) := by omega
      have HN := fun w1 => hide (isName_any x.1 w1 hs)
      generalize nameB x.1 = r0 at *
      generalize bhB (n + 1) x = r1 at *
      have hal : Below w.heap.size w (wr.alloc (.cells #[.string x.1, .slice x.2.1.1 x.2.2.length x.2.1.2] 93)) := hb.trans (((Below.refl _ _).alloc (Nat.le_refl _) _).mono hb.size)
      cases r0 with
      | false =>
        go_wp2_with (go_at_call 19; refine (HN _).out.mono ?_; rintro e w' ⟨rfl, rfl⟩)
        go_ret
        exact ⟨ret_bool (by rw [← hd.out, HS.out, HE.out]; rfl), hal⟩
      | true =>
        go_wp2_with (first | (go_at_call 19; refine (HN _).out.mono ?_; rintro e w' ⟨rfl, rfl⟩) | (go_at_call 56; refine (HC.out _ ((Below.refl _ _).alloc (Nat.le_refl _) _)).mono ?_; rintro e w1 ⟨rfl, hb1⟩; have hb2 : Below w.heap.size w w1 := hal.trans (hb1.mono (by have := hb.size; simp; omega)); clear hb1; cases r))
        · go_ret
          exact ⟨ret_bool (by rw [← hd.out, HS.out, HE.out]; rfl), hb2⟩
        · go_roundw
          case rel => exact ⟨k + 1, by omega, by go_num, hb2, by rw [← hd.out, HS.out, HE.out]; rfl⟩
          case measure => simp [intOf]; omega
    · go_wp2_with fail
      go_ret
      refine ⟨ret_bool ?_, hb⟩
      rw [← hd.out, List.drop_eq_nil_of_le (by rw [hpl.out]; omega)]
      rfl
end Go.Proofs.Ytbmjfnicfpdjfaa
namespace Go.Proofs.Ytbmjfnicfpdjfaa
open Go.RowKit

theorem catom_any (s : ByteArray) (w : World) :
    Calls Try.prog 57 #[.string s] w fun e w' => e = .returned (.agg #[.int .i64 2, .int .i64 0, .string s, .slice none 0 0]) ∧ w' = w.alloc (.cells #[.int .i64 2, .int .i64 0, .string s, .slice none 0 0] 25) := by
  go_enter Try.func57, Try.ntmps57
  go_wp2_with fail
  exact bodyPost_ret (v := .agg #[.int .i64 2, .int .i64 0, .string s, .slice none 0 0]) (by simp [results, Try.results57, go_sem]) rfl ⟨rfl, rfl⟩
theorem ctuple_any (a : Option Addr) (l c : Nat) (w : World) :
    Calls Try.prog 59 #[.slice a l c] w fun e w' => e = .returned (.agg #[.int .i64 4, .int .i64 0, .string ⟨#[]⟩, .slice a l c]) ∧ w' = w.alloc (.cells #[.int .i64 4, .int .i64 0, .string ⟨#[]⟩, .slice a l c] 25) := by
  go_enter Try.func59, Try.ntmps59
  go_wp2_with fail
  exact bodyPost_ret (v := .agg #[.int .i64 4, .int .i64 0, .string ⟨#[]⟩, .slice a l c]) (by simp [results, Try.results59, go_sem]) rfl ⟨rfl, rfl⟩

/-- What a call that tells something as a term leaves: B bounds the blocks of what it was handed. -/
def Tells (B N : Nat) (X : Tm N) (w : World) (e : Ending) (w' : World) : Prop :=
  ∃ y : Tm N, e = .returned (val N y) ∧ Hid (Below w.heap.size w w' ∧ In w'.heap.size w' N y ∧ Off (fun b => b < B ∨ w.heap.size ≤ b) N y ∧ same N y N X = true)
abbrev GrowT (n B base : Nat) (xs : List (Tm n)) (v : Value) (w0 wr : World) : Prop := Grow (fun B w x => In B w n x) (fun P x => Off P n x) (tm4 n) 4 25 B base xs v w0 wr
theorem tm4_len (n : Nat) (x : Tm n) : (tm4 n x).length = 4 := rfl
theorem atomV_in (s : ByteArray) (N : Nat) (h : s.size ≤ maxLen) (B : Nat) (w : World) : In B w (N + 1) (atomV s N) := ⟨⟨by simp [atomV, I64], by simp [atomV, I64], h, by simp [atomV], by simp [atomV]⟩, Or.inl rfl⟩
theorem leafV_in (k u : Int) (N : Nat) (hk : I64 k) (hu : I64 u) (B : Nat) (w : World) : In B w (N + 1) (leafV k u N) := ⟨⟨hk, hu, Nat.zero_le _, by simp [leafV], by simp [leafV]⟩, Or.inl rfl⟩
theorem atomV_off (s : ByteArray) (N : Nat) (P : Nat → Prop) : Off P (N + 1) (atomV s N) := Or.inl rfl
theorem leafV_off (k u : Int) (N : Nat) (P : Nat → Prop) : Off P (N + 1) (leafV k u N) := Or.inl rfl
theorem held_of {n : Nat} {w : World} {b o : Nat} {x : Tm n} {B : Nat} {w0 : World} (hi : In B w0 n x) (h : ∀ (j : Nat) (u : Value), (tm4 n x)[j]? = some u → w.cell? ⟨b, o + j, none⟩ = some u) : Held w b o n x := by
  cases n with
  | zero => exact hi.elim
  | succ n => exact ⟨h 0 _ rfl, h 1 _ rfl, h 2 _ rfl, h 3 _ rfl⟩
/-- A tuple of the terms that have grown. -/
theorem GrowT.tells {B base N : Nat} {xs ys : List (Tm N)} {v : Value} {w w0 wr w' : World} (h : GrowT N B base xs v w0 wr) (hbase : w.heap.size ≤ base) (hs : sameL (fun a b => same N a N b) xs ys = true)
    (hw : ∀ b, b < B ∨ base ≤ b → b < wr.heap.size → w'.heap[b]? = wr.heap[b]?) (hsz : wr.heap.size ≤ w'.heap.size) (hb : Below w.heap.size w w') :
    ∃ a c, v = .slice a xs.length c ∧ Tells B (N + 1) (tupV N ys) w (.returned (.agg #[.int .i64 4, .int .i64 0, .string ⟨#[]⟩, .slice a xs.length c])) w' := by
  have hS := tm_stays N
  obtain ⟨a, c, e, hc, hl, ho⟩ := h.lay hS (tm4_len N)
  refine ⟨a, c, e, ((4, 0, .empty), (a, c), xs), rfl, hb, ⟨⟨by simp [I64], by simp [I64], Nat.zero_le _, hc.1, hc.2⟩, ?_⟩, ?_, same_mk rfl hs⟩
  · have h2 := (lay_stays hS 4 (tm4 N) a).2.1 _ _ _ _ ho hl
    have h3 := (lay_stays hS 4 (tm4 N) a).2.2.1 _ _ wr w' _ (fun b hb' => hw b hb'.1 hb'.2) h2 hl
    have h4 := (lay_stays hS 4 (tm4 N) a).2.2.2.1 _ _ _ _ hsz h3
    rcases h4 with h4 | ⟨b, o, e, hb, h4⟩
    · exact Or.inl h4
    · exact Or.inr ⟨b, o, e, hb, fun i y hy => ⟨held_of (h4 i y hy).2 (h4 i y hy).1, (h4 i y hy).2⟩⟩
  · rcases ho with ho | ⟨b, o, e, hb, ho⟩
    · exact Or.inl ho
    · exact Or.inr ⟨b, o, e, by omega, fun i y hy => (ho y (List.mem_of_getElem? hy)).mono fun b hb => by omega⟩
/-- A literal of some terms, told as a tuple. -/
theorem tells_lit {B N : Nat} (xs : List (Tm N)) {w w1 w' : World} {cs : Array Value} {g L : Nat} (h1 : Below w.heap.size w w1) (hg : g = w1.heap.size) (hL : L = xs.length) (h2 : Below (w1.alloc (.cells cs 25)).heap.size (w1.alloc (.cells cs 25)) w') (hcs : cs.toList = xs.flatMap (tm4 N)) (hm : xs.length ≤ 8) (hBw : B ≤ w.heap.size) (hX : ∀ y ∈ xs, In B w N y) :
    Tells B (N + 1) (tupV N xs) w (.returned (.agg #[.int .i64 4, .int .i64 0, .string ⟨#[]⟩, .slice (some ⟨g, 0, none⟩) L L])) w' := by
  have h := Grow.lit (T := 25) (k := 4) (B := B) (base := w1.heap.size) (tm_stays N) xs (w0 := w1) hcs (tm4_len N) (by unfold maxLen; omega) (Nat.le_refl _) (Below.refl _ _) (fun y hy => ⟨((hX y hy).below (h1.mono hBw)).mono (Nat.le_trans hBw h1.size), (in_offLow (hX y hy)).mono fun b hb => Or.inl hb⟩)
  have hal : Below w.heap.size w (w1.alloc (.cells cs 25)) := h1.trans (((Below.refl _ _).alloc (Nat.le_refl _) _).mono h1.size)
  obtain ⟨a, c, e, k⟩ := GrowT.tells h h1.size (sameL_self _ _ fun y hy => in_self (hX y hy)) (fun b _ hb => h2.block b hb) h2.size (hal.trans (h2.mono hal.size))
  injection e with e1 e2 e3
  subst e1 e3 hL hg
  exact k
theorem three_below {w : World} {o1 o2 o3 : Obj} : Below w.heap.size w (((w.alloc o1).alloc o2).alloc o3) ∧ w.heap.size + 1 + 1 + 1 = (((w.alloc o1).alloc o2).alloc o3).heap.size :=
  ⟨(((Below.refl _ _).alloc (Nat.le_refl _) _).alloc (by simp) _).alloc (by simp; omega) _, by simp⟩
theorem four_belowT {w : World} {o1 o2 o3 o4 : Obj} : Below w.heap.size w ((((w.alloc o1).alloc o2).alloc o3).alloc o4) ∧ w.heap.size + 1 + 1 + 1 + 1 = ((((w.alloc o1).alloc o2).alloc o3).alloc o4).heap.size :=
  ⟨((((Below.refl _ _).alloc (Nat.le_refl _) _).alloc (by simp) _).alloc (by simp; omega) _).alloc (by simp; omega) _, by simp⟩
theorem one_drew {w : World} {o : Obj} : Below w.heap.size w (w.alloc o).drew := ((Below.refl _ _).alloc (Nat.le_refl _) _).drew
theorem one_alloc {w : World} {o : Obj} : Below w.heap.size w (w.alloc o) := (Below.refl _ _).alloc (Nat.le_refl _) _
theorem word_le (s : ByteArray) (h : s.size ≤ 8) : s.size ≤ maxLen := by unfold maxLen; omega

set_option maxHeartbeats 2000000 in
set_option maxRecDepth 100000 in
theorem tellAct_send (n : Nat) (t x : Tm (n + 1)) (s : ByteArray) (v : Int) (B : Nat) (w : World) (ht : In B w (n + 1) t) (hx : In B w (n + 1) x) (hB : B ≤ w.heap.size) :
    Calls Try.prog 86 #[.agg #[.int .i64 1, .int .i64 t.1.1, .int .i64 t.1.2.1, .string t.1.2.2, .slice t.2.1.1 t.2.2.length t.2.1.2, .int .i64 x.1.1, .int .i64 x.1.2.1, .string x.1.2.2, .slice x.2.1.1 x.2.2.length x.2.1.2, .string s, .int .i64 v]] w (Tells B (n + 2) (tupV (n + 1) [atomV wSend n, t, x]) w) := by
  have HX : Hid (∀ y ∈ [atomV wSend n, t, x], In B w (n + 1) y) := fun y hy => by
    simp only [List.mem_cons, List.not_mem_nil, or_false] at hy
    rcases hy with rfl | rfl | rfl
    · exact atomV_in _ _ (word_le _ (by decide)) _ _
    · exact ht
    · exact hx
  clear ht hx
  go_enter Try.func86, Try.ntmps86
  go_wp2_with fail
  go_region_held3 (fun w' => (w'.cell? ⟨w.heap.size, 1, none⟩ = some (.int .i64 t.1.1) ∧ w'.cell? ⟨w.heap.size, 2, none⟩ = some (.int .i64 t.1.2.1) ∧ w'.cell? ⟨w.heap.size, 3, none⟩ = some (.string t.1.2.2) ∧ w'.cell? ⟨w.heap.size, 4, none⟩ = some (.slice t.2.1.1 t.2.2.length t.2.1.2)) ∧
      (w'.cell? ⟨w.heap.size, 5, none⟩ = some (.int .i64 x.1.1) ∧ w'.cell? ⟨w.heap.size, 6, none⟩ = some (.int .i64 x.1.2.1) ∧ w'.cell? ⟨w.heap.size, 7, none⟩ = some (.string x.1.2.2) ∧ w'.cell? ⟨w.heap.size, 8, none⟩ = some (.slice x.2.1.1 x.2.2.length x.2.1.2))) (first | (go_keep; done) | (simp [go_sem]; done))
    ((first | (go_at_call 57; refine (catom_any _ _).mono ?_; rintro e w1 ⟨rfl, rfl⟩) | (go_at_call 59; refine (ctuple_any _ _ _ _).mono ?_; rintro e w1 ⟨rfl, rfl⟩)))
  go_wp2_with fail
  exact bodyPost_ret (v := .agg #[.int .i64 4, .int .i64 0, .string ⟨#[]⟩, .slice (some ⟨w.heap.size + 1 + 1 + 1, 0, none⟩) 3 3]) (by simp [results, Try.results86, go_sem]) rfl (tells_lit [atomV wSend n, t, x] three_below.1 three_below.2 rfl one_drew rfl (by simp) hB HX.out)

set_option maxHeartbeats 2000000 in
set_option maxRecDepth 100000 in
theorem tellAct_link (n : Nat) (t x : Tm (n + 1)) (s : ByteArray) (v : Int) (B : Nat) (w : World) (ht : In B w (n + 1) t) (hB : B ≤ w.heap.size) :
    Calls Try.prog 86 #[.agg #[.int .i64 3, .int .i64 t.1.1, .int .i64 t.1.2.1, .string t.1.2.2, .slice t.2.1.1 t.2.2.length t.2.1.2, .int .i64 x.1.1, .int .i64 x.1.2.1, .string x.1.2.2, .slice x.2.1.1 x.2.2.length x.2.1.2, .string s, .int .i64 v]] w (Tells B (n + 2) (tupV (n + 1) [atomV wLink n, t]) w) := by
  have HX : Hid (∀ y ∈ [atomV wLink n, t], In B w (n + 1) y) := fun y hy => by
    simp only [List.mem_cons, List.not_mem_nil, or_false] at hy
    rcases hy with rfl | rfl
    · exact atomV_in _ _ (word_le _ (by decide)) _ _
    · exact ht
  clear ht
  go_enter Try.func86, Try.ntmps86
  go_wp2_with fail
  go_region_held3 (fun w' => w'.cell? ⟨w.heap.size, 1, none⟩ = some (.int .i64 t.1.1) ∧ w'.cell? ⟨w.heap.size, 2, none⟩ = some (.int .i64 t.1.2.1) ∧ w'.cell? ⟨w.heap.size, 3, none⟩ = some (.string t.1.2.2) ∧ w'.cell? ⟨w.heap.size, 4, none⟩ = some (.slice t.2.1.1 t.2.2.length t.2.1.2)) (first | (go_keep; done) | (simp [go_sem]; done))
    ((first | (go_at_call 57; refine (catom_any _ _).mono ?_; rintro e w1 ⟨rfl, rfl⟩) | (go_at_call 59; refine (ctuple_any _ _ _ _).mono ?_; rintro e w1 ⟨rfl, rfl⟩)))
  go_wp2_with fail
  exact bodyPost_ret (v := .agg #[.int .i64 4, .int .i64 0, .string ⟨#[]⟩, .slice (some ⟨w.heap.size + 1 + 1 + 1, 0, none⟩) 2 2]) (by simp [results, Try.results86, go_sem]) rfl (tells_lit [atomV wLink n, t] three_below.1 three_below.2 rfl one_drew rfl (by simp) hB HX.out)

set_option maxHeartbeats 2000000 in
set_option maxRecDepth 100000 in
theorem tellAct_stop (n : Nat) (K : Int) (h1 : (K == 1) = false) (h2 : (K == 2) = false) (h3 : (K == 3) = false) (t x : Tm (n + 1)) (s : ByteArray) (v : Int) (B : Nat) (w : World) (hB : B ≤ w.heap.size) :
    Calls Try.prog 86 #[.agg #[.int .i64 K, .int .i64 t.1.1, .int .i64 t.1.2.1, .string t.1.2.2, .slice t.2.1.1 t.2.2.length t.2.1.2, .int .i64 x.1.1, .int .i64 x.1.2.1, .string x.1.2.2, .slice x.2.1.1 x.2.2.length x.2.1.2, .string s, .int .i64 v]] w (Tells B (n + 2) (tupV (n + 1) [atomV wStop n]) w) := by
  have HX : Hid (∀ y ∈ [atomV wStop n], In B w (n + 1) y) := fun y hy => by
    simp only [List.mem_cons, List.not_mem_nil, or_false] at hy
    subst hy
    exact atomV_in _ _ (word_le _ (by decide)) _ _
  go_enter Try.func86, Try.ntmps86
  go_wp2_with (first | (go_at_call 57; refine (catom_any _ _).mono ?_; rintro e w1 ⟨rfl, rfl⟩) | (go_at_call 59; refine (ctuple_any _ _ _ _).mono ?_; rintro e w1 ⟨rfl, rfl⟩))
  exact bodyPost_ret (v := .agg #[.int .i64 4, .int .i64 0, .string ⟨#[]⟩, .slice (some ⟨w.heap.size + 1 + 1 + 1, 0, none⟩) 1 1]) (by simp [results, Try.results86, go_sem]) rfl (tells_lit [atomV wStop n] three_below.1 three_below.2 rfl one_alloc rfl (by simp) hB HX.out)

set_option maxHeartbeats 2000000 in
set_option maxRecDepth 100000 in
theorem tellAct_spawn (n : Nat) (t x : Tm (n + 1)) (s : ByteArray) (v : Int) (hv : I64 v) (hs : s.size ≤ maxLen) (B : Nat) (w : World) (hx : In B w (n + 1) x) (hB : B ≤ w.heap.size) :
    Calls Try.prog 86 #[.agg #[.int .i64 2, .int .i64 t.1.1, .int .i64 t.1.2.1, .string t.1.2.2, .slice t.2.1.1 t.2.2.length t.2.1.2, .int .i64 x.1.1, .int .i64 x.1.2.1, .string x.1.2.2, .slice x.2.1.1 x.2.2.length x.2.1.2, .string s, .int .i64 v]] w (Tells B (n + 2) (tupV (n + 1) [atomV wSpawn n, atomV s n, x, leafV 5 v n]) w) := by
  have HX : Hid (∀ y ∈ [atomV wSpawn n, atomV s n, x, leafV 5 v n], In B w (n + 1) y) := fun y hy => by
    simp only [List.mem_cons, List.not_mem_nil, or_false] at hy
    rcases hy with rfl | rfl | rfl | rfl
    · exact atomV_in _ _ (word_le _ (by decide)) _ _
    · exact atomV_in _ _ hs _ _
    · exact hx
    · exact leafV_in _ _ _ (by simp [I64]) hv _ _
  clear hx hs hv
  go_enter Try.func86, Try.ntmps86
  go_wp2_with fail
  go_region_held3 (fun w' => (w'.cell? ⟨w.heap.size, 9, none⟩ = some (.string s) ∧ w'.cell? ⟨w.heap.size, 10, none⟩ = some (.int .i64 v)) ∧
      (w'.cell? ⟨w.heap.size, 5, none⟩ = some (.int .i64 x.1.1) ∧ w'.cell? ⟨w.heap.size, 6, none⟩ = some (.int .i64 x.1.2.1) ∧ w'.cell? ⟨w.heap.size, 7, none⟩ = some (.string x.1.2.2) ∧ w'.cell? ⟨w.heap.size, 8, none⟩ = some (.slice x.2.1.1 x.2.2.length x.2.1.2))) (first | (go_keep; done) | (simp [go_sem]; done))
    ((first | (go_at_call 57; refine (catom_any _ _).mono ?_; rintro e w1 ⟨rfl, rfl⟩) | (go_at_call 59; refine (ctuple_any _ _ _ _).mono ?_; rintro e w1 ⟨rfl, rfl⟩)))
  all_goals go_wp2_with fail
  all_goals exact bodyPost_ret (v := .agg #[.int .i64 4, .int .i64 0, .string ⟨#[]⟩, .slice (some ⟨w.heap.size + 1 + 1 + 1 + 1, 0, none⟩) 4 4]) (by simp [results, Try.results86, go_sem]) rfl (tells_lit [atomV wSpawn n, atomV s n, x, leafV 5 v n] four_belowT.1 four_belowT.2 rfl one_drew rfl (by simp) hB HX.out)

theorem tellAct_any (n : Nat) (a : Ac (n + 1)) (B : Nat) (w : World) (hi : AcIn (n + 1) B w a) (hB : B ≤ w.heap.size) :
    Calls Try.prog 86 #[.agg (ac11 (n + 1) a).toArray] w (Tells B (n + 2) (tellA n a) w) := by
  obtain ⟨K, ⟨t, x⟩, s, v⟩ := a
  obtain ⟨h1, h2, h3, h4, h5⟩ := hi
  unfold tellA
  by_cases k1 : K = 1
  · subst k1
    exact tellAct_send n t x s v B w h2 h3 hB
  by_cases k2 : K = 2
  · subst k2
    exact tellAct_spawn n t x s v h5 h4 B w h3 hB
  by_cases k3 : K = 3
  · subst k3
    exact tellAct_link n t x s v B w h2 hB
  · simp only [k1, k2, k3, if_false]
    exact tellAct_stop n K (by simpa using k1) (by simpa using k2) (by simpa using k3) t x s v B w hB
end Go.Proofs.Ytbmjfnicfpdjfaa
namespace Go.Proofs.Ytbmjfnicfpdjfaa
open Go.RowKit

theorem tells_lit3 {B N base : Nat} (xs ys : List (Tm N)) {w w1 w' : World} {cs : Array Value} {g L : Nat} (hb1 : base ≤ w1.heap.size) (hg : g = w1.heap.size) (hL : L = xs.length) (hbase : w.heap.size ≤ base)
    (hw : ∀ b, b < B ∨ base ≤ b → b < (w1.alloc (.cells cs 25)).heap.size → w'.heap[b]? = (w1.alloc (.cells cs 25)).heap[b]?) (hsz : (w1.alloc (.cells cs 25)).heap.size ≤ w'.heap.size) (hb : Below w.heap.size w w')
    (hcs : cs.toList = xs.flatMap (tm4 N)) (hm : xs.length ≤ 8) (hX : ∀ y ∈ xs, In w1.heap.size w1 N y ∧ Off (fun b => b < B ∨ base ≤ b) N y) (hs : sameL (fun a b => same N a N b) xs ys = true) :
    Tells B (N + 1) (tupV N ys) w (.returned (.agg #[.int .i64 4, .int .i64 0, .string ⟨#[]⟩, .slice (some ⟨g, 0, none⟩) L L])) w' := by
  have h := Grow.lit (T := 25) (k := 4) (B := B) (base := base) (tm_stays N) xs (w0 := w1) hcs (tm4_len N) (by unfold maxLen; omega) hb1 (Below.refl _ _) hX
  obtain ⟨a, c, e, k⟩ := GrowT.tells h hbase hs hw hsz hb
  injection e with e1 e2 e3
  subst e1 e3 hL hg
  exact k
theorem GrowT.slice {N B base : Nat} {xs : List (Tm N)} {v : Value} {w0 wr : World} (h : GrowT N B base xs v w0 wr) : ∃ a c, v = .slice a xs.length c := by
  rcases h.2.1.2 with ⟨rfl, h0⟩ | ⟨g, cap, cur, rfl, _⟩
  · exact ⟨none, 0, by rw [h0]⟩
  · exact ⟨_, _, rfl⟩
theorem tm4_one (N : Nat) (x : Tm N) : ∀ u ∈ tm4 N x, u.oneCell' = true := by
  intro u hu
  simp [tm4, nd4] at hu
  rcases hu with rfl | rfl | rfl | rfl <;> rfl
theorem tm4_new (w : World) (x : Nd) {g : Nat} (hg : g = w.heap.size) : ∀ j u, (nd4 x)[j]? = some u → (w.alloc (.cells #[.int .i64 x.1.1, .int .i64 x.1.2.1, .string x.1.2.2, .slice x.2.1 x.2.2.1 x.2.2.2] 25)).cell? ((⟨g, 0, none⟩ : Addr).add j) = some u := by
  subst hg
  intro j u hj
  rw [add_none]
  have : j < 4 := (List.getElem?_eq_some_iff.1 hj).1
  have h4 : j = 0 ∨ j = 1 ∨ j = 2 ∨ j = 3 := by omega
  rcases h4 with rfl | rfl | rfl | rfl <;> simp [nd4] at hj <;> subst hj <;> simp [go_sem]
theorem GrowT.app {N B base k : Nat} {xs : List (Tm N)} {v : Value} {w0 wr w3 w4 : World} {g c : Nat} (h : GrowT N B base xs v w0 wr) (hk : xs.length = k) (hB : B ≤ base) (hb : base ≤ wr.heap.size) (h3 : Below wr.heap.size wr w3) (X : Tm N) (hX : In w3.heap.size w3 N X) (hO : Off (fun b => b < B ∨ wr.heap.size ≤ b) N X) {o : Obj}
    (hown : w4.ownsRow base 25 4 (.slice (some ⟨g, 0, none⟩) (k + 1) c) (k + 1) (xs.flatMap (tm4 N) ++ tm4 N X)) (hg : (w3.alloc o).grownBy w4 v.ownBlock) (hat : v.ownBlock = some g ∨ g = w3.heap.size + 1) :
    GrowT N B base (xs ++ [X]) (.slice (some ⟨g, 0, none⟩) (k + 1) c) w0 w4 := by
  subst hk
  have hal : Below w3.heap.size w3 (w3.alloc o) := (Below.refl _ _).alloc (Nat.le_refl _) _
  exact Grow.step (tm_stays N) h hB hb (h3.trans (hal.mono h3.size)) X ((hX.below hal).mono hal.size) hO hown hg (by simpa using hat)
theorem GrowT.own {N B base k : Nat} {xs : List (Tm N)} {v : Value} {w0 wr w3 : World} (h : GrowT N B base xs v w0 wr) (hk : xs.length = k) (h3 : Below wr.heap.size wr w3) (o : Obj) : (w3.alloc o).ownsRow base 25 4 v k (xs.flatMap (tm4 N)) := by
  subst hk
  exact own_below h.2.1 (h3.trans (((Below.refl _ _).alloc (Nat.le_refl _) _).mono h3.size))
theorem alloc_keep (w : World) (o : Obj) {b : Nat} (h : b < w.heap.size) : (w.alloc o).heap[b]? = w.heap[b]? := (World.grownBy_alloc w o none).block b h (by simp)
theorem box_cell {w : World} {q : Nat} {cs : Array Value} {t : TypeId} (h : w.heap[q]? = some (.cells cs t)) (j : Nat) : w.cell? ⟨q, j, none⟩ = cs[j]? := by simp [World.cell?, h]
theorem box_free {w : World} {q : Nat} {cs : Array Value} {t : TypeId} (h : w.heap[q]? = some (.cells cs t)) (j : Nat) : w.frozen? ⟨q, j, none⟩ = false := by simp [World.frozen?, h]
theorem two_new (w : World) (o1 o2 : Obj) : ((w.alloc o1).alloc o2).heap[w.heap.size]? = some o1 ∧ ((w.alloc o1).alloc o2).heap[w.heap.size + 1]? = some o2 := by
  have h1 := (alloc_keep (w.alloc o1) o2 (b := w.heap.size) (by simp)).trans (heap_alloc_new w o1)
  have h2 := heap_alloc_new (w.alloc o1) o2
  have e : (w.alloc o1).heap.size = w.heap.size + 1 := by simp
  rw [e] at h2
  exact ⟨h1, h2⟩
theorem put4_at {w : World} {r o : Nat} {v0 v1 v2 v3 : Value} {B base : Nat} (hB : B ≤ r) (hb : r < base) {W : World} (hW : Below W.heap.size W w) : ∀ b, b < B ∨ base ≤ b → b < W.heap.size → (put4 w r o v0 v1 v2 v3).heap[b]? = W.heap[b]? := fun b hb' hlt => (put4_block (by omega) _ _ _ _).trans (hW.block b hlt)
theorem put4_below {w W : World} {r o : Nat} {v0 v1 v2 v3 : Value} (h : Below w.heap.size w W) (hr : w.heap.size ≤ r) : Below w.heap.size w (put4 W r o v0 v1 v2 v3) :=
  ⟨h.os, h.tape, h.output, Nat.le_trans h.size (Nat.le_of_eq (put4_size _ _ _ _).symm), fun b hb => (put4_block (by omega) _ _ _ _).trans (h.block b hb)⟩
theorem GrowT.tup {N B base k : Nat} {xs : List (Tm N)} {va : Option Addr} {vc : Nat} {w0 wr : World} (h : GrowT N B base xs (.slice va k vc) w0 wr) : In wr.heap.size wr (N + 1) ((4, 0, .empty), (va, vc), xs) ∧ Off (fun b => b < B ∨ base ≤ b) (N + 1) ((4, 0, .empty), (va, vc), xs) := by
  obtain ⟨a, c, e, hc, hl, ho⟩ := h.lay (tm_stays N) (tm4_len N)
  injection e with e1 e2 e3
  subst e1 e3
  refine ⟨⟨⟨by simp [I64], by simp [I64], Nat.zero_le _, hc.1, hc.2⟩, ?_⟩, ?_⟩
  · rcases hl with h4 | ⟨b, o, e, hb, h4⟩
    · exact Or.inl h4
    · exact Or.inr ⟨b, o, e, hb, fun i y hy => ⟨held_of (h4 i y hy).2 (h4 i y hy).1, (h4 i y hy).2⟩⟩
  · rcases ho with ho | ⟨b, o, e, hb, ho⟩
    · exact Or.inl ho
    · exact Or.inr ⟨b, o, e, hb, fun i y hy => ho y (List.mem_of_getElem? hy)⟩
/-- The five parts of a clause's term. -/
theorem clause_parts {n B base : Nat} {s m x : Tm (n + 1)} {w wr w1 : World} {A : Tm (n + 3)} {ys : List (Tm (n + 2))} (hB : B ≤ w.heap.size) (hs : In B w (n + 1) s) (hm : In B w (n + 1) m) (hx : In B w (n + 1) x) (hbw : Below w.heap.size w wr) (hA : In wr.heap.size wr (n + 3) A ∧ Off (fun b => b < B ∨ base ≤ b) (n + 3) A) (hAs : same (n + 3) A (n + 3) (tupV (n + 2) ys) = true) (h1 : Below wr.heap.size wr w1) :
    (∀ y ∈ [atomV wOn (n + 2), lift (n + 3) (n + 1) s, lift (n + 3) (n + 1) m, A, lift (n + 3) (n + 1) x], In w1.heap.size w1 (n + 3) y ∧ Off (fun b => b < B ∨ base ≤ b) (n + 3) y) ∧
    sameL (fun a b => same (n + 3) a (n + 3) b) [atomV wOn (n + 2), lift (n + 3) (n + 1) s, lift (n + 3) (n + 1) m, A, lift (n + 3) (n + 1) x] [atomV wOn (n + 2), lift (n + 3) (n + 1) s, lift (n + 3) (n + 1) m, tupV (n + 2) ys, lift (n + 3) (n + 1) x] = true := by
  have L : ∀ t : Tm (n + 1), In B w (n + 1) t → In w1.heap.size w1 (n + 3) (lift (n + 3) (n + 1) t) ∧ Off (fun b => b < B ∨ base ≤ b) (n + 3) (lift (n + 3) (n + 1) t) := fun t ht => by
    have h2 := lift_in (n + 3) (n + 1) (by omega) t B w ht
    have hb := hbw.trans (h1.mono hbw.size)
    exact ⟨(h2.below (hb.mono hB)).mono (Nat.le_trans hB hb.size), (in_offLow h2).mono fun b hb => Or.inl hb⟩
  have S : ∀ t : Tm (n + 1), In B w (n + 1) t → same (n + 3) (lift (n + 3) (n + 1) t) (n + 3) (lift (n + 3) (n + 1) t) = true := fun t ht => in_self (lift_in (n + 3) (n + 1) (by omega) t B w ht)
  refine ⟨fun y hy => ?_, by simp only [sameL, S s hs, S m hm, S x hx, hAs, atomV_same, Bool.and_self]⟩
  simp only [List.mem_cons, List.not_mem_nil, or_false] at hy
  rcases hy with rfl | rfl | rfl | rfl | rfl
  · exact ⟨atomV_in _ _ (word_le _ (by decide)) _ _, atomV_off _ _ _⟩
  · exact L s hs
  · exact L m hm
  · exact ⟨(hA.1.below h1).mono h1.size, hA.2⟩
  · exact L x hx
theorem tm4_lift (N n : Nat) (x : Tm (n + 1)) : tm4 (N + 1) (lift (N + 1) (n + 1) x) = tm4 (n + 1) x := by
  unfold tm4
  rw [lift_hd]
theorem clause_cells (n : Nat) (s m x : Tm (n + 1)) (va : Option Addr) (vc k : Nat) (xs : List (Tm (n + 2))) (hk : xs.length = k) :
    [.int .i64 2, .int .i64 0, .string ⟨#[111, 110]⟩, .slice none 0 0, .int .i64 s.1.1, .int .i64 s.1.2.1, .string s.1.2.2, .slice s.2.1.1 s.2.2.length s.2.1.2, .int .i64 m.1.1, .int .i64 m.1.2.1, .string m.1.2.2, .slice m.2.1.1 m.2.2.length m.2.1.2, .int .i64 4, .int .i64 0, .string ⟨#[]⟩, .slice va k vc, .int .i64 x.1.1, .int .i64 x.1.2.1, .string x.1.2.2, .slice x.2.1.1 x.2.2.length x.2.1.2] =
      List.flatMap (tm4 (n + 3)) [atomV wOn (n + 2), lift (n + 3) (n + 1) s, lift (n + 3) (n + 1) m, ((4, 0, .empty), (va, vc), xs), lift (n + 3) (n + 1) x] := by
  show _ = tm4 (n + 3) (atomV wOn (n + 2)) ++ (tm4 (n + 3) (lift (n + 3) (n + 1) s) ++ (tm4 (n + 3) (lift (n + 3) (n + 1) m) ++ (tm4 (n + 3) ((4, 0, .empty), (va, vc), xs) ++ (tm4 (n + 3) (lift (n + 3) (n + 1) x) ++ []))))
  rw [tm4_lift, tm4_lift, tm4_lift, ← hk]
  rfl
theorem take_map_snoc {α β : Type} (f : α → β) (p : List α) (k : Nat) (x : α) (hx : p[k]? = some x) : (p.take (k + 1)).map f = (p.take k).map f ++ [f x] := by
  rw [List.take_add_one, hx]
  simp
/-- Between two rounds: the acts told so far. -/
def ClI (n B : Nat) (p : List (Ac (n + 1))) (w0 : World) (base k : Nat) (v : Value) (wr : World) : Prop :=
  ∃ xs, xs.length = k ∧ GrowT (n + 2) B base xs v w0 wr ∧ sameL (fun a b => same (n + 2) a (n + 2) b) xs ((p.take k).map (tellA n)) = true
theorem ClI.slice {n B : Nat} {p : List (Ac (n + 1))} {w0 : World} {base k : Nat} {v : Value} {wr : World} (h : ClI n B p w0 base k v wr) : ∃ a c, v = .slice a k c := by
  obtain ⟨xs, rfl, h, _⟩ := h
  exact h.slice

set_option maxHeartbeats 4000000 in
set_option maxRecDepth 100000 in
theorem tellClause_walk (n : Nat) (s m x : Tm (n + 1)) (p : List (Ac (n + 1))) (len : Nat) (hpl : Hid (p.length = len)) (h8 : len ≤ 8) (a : Option Addr) (pc : Nat) (B : Nat) (w : World) (hs : Hid (In B w (n + 1) s)) (hm : Hid (In B w (n + 1) m)) (hx : Hid (In B w (n + 1) x))
    (hp : Hid (Lay B w 11 (ac11 (n + 1)) (AcIn (n + 1) B w) a p)) (hB : B ≤ w.heap.size) (X : Tm (n + 4)) (hX : Hid (X = tellC n ((s, m, x), (a, pc), p))) :
    Calls Try.prog 71 #[.agg #[.int .i64 s.1.1, .int .i64 s.1.2.1, .string s.1.2.2, .slice s.2.1.1 s.2.2.length s.2.1.2, .int .i64 m.1.1, .int .i64 m.1.2.1, .string m.1.2.2, .slice m.2.1.1 m.2.2.length m.2.1.2, .slice a len pc, .int .i64 x.1.1, .int .i64 x.1.2.1, .string x.1.2.2, .slice x.2.1.1 x.2.2.length x.2.1.2]] w (Tells B (n + 4) X w) := by
  obtain ⟨it, hit, htz0, htz1, htz2⟩ := info_parts infoTerm
  have HT := hide (⟨hit, htz0, htz1, htz2⟩ : _ ∧ _ ∧ _ ∧ _)
  clear hit htz0 htz1 htz2
  go_enter Try.func71, Try.ntmps71
  go_wp2_with fail
  have HN := hide (two_new w (.cells #[.int .i64 s.1.1, .int .i64 s.1.2.1, .string s.1.2.2, .slice s.2.1.1 s.2.2.length s.2.1.2, .int .i64 m.1.1, .int .i64 m.1.2.1, .string m.1.2.2, .slice m.2.1.1 m.2.2.length m.2.1.2, .slice a len pc, .int .i64 x.1.1, .int .i64 x.1.2.1, .string x.1.2.2, .slice x.2.1.1 x.2.2.length x.2.1.2] 78) (.cells #[.int .i64 0, .int .i64 0, .string ⟨#[]⟩, .slice none 0 0] 25))
  generalize hW0 : (w.alloc _).alloc _ = W0
  rw [hW0] at HN
  have HB0 : Hid (Below w.heap.size w W0 ∧ W0.heap.size = w.heap.size + 2) := by
    subst hW0
    exact ⟨((Below.refl _ _).alloc (Nat.le_refl _) _).alloc (by simp) _, by simp⟩
  have HA0 : Hid (∀ wr, Below (w.heap.size + 2) W0 wr → Below w.heap.size w wr) := fun wr h => HB0.out.1.trans (h.mono (by omega))
  go_loopw [3, 9] (fun v i wr => ∃ (k : Nat) (u : Value), k ≤ len ∧ i = .int .i64 k ∧ u = v ∧ Hid (ClI n B p W0 (w.heap.size + 2) k u wr)) (fun _ i _ => len - (intOf i).toNat)
  case atStart => exact ⟨0, _, by omega, rfl, rfl, [], rfl, Grow.nil _, rfl⟩
  case round =>
    obtain ⟨k, v, hk, rfl, rfl, HR⟩ := hrel
    obtain ⟨xs, HL, HG, HM⟩ : ∃ xs : List (Tm (n + 2)), Hid (xs.length = k) ∧ Hid (GrowT (n + 2) B (w.heap.size + 2) xs v W0 wr) ∧ Hid (sameL (fun a b => same (n + 2) a (n + 2) b) xs ((p.take k).map (tellA n)) = true) := HR.out
    clear HR
    have HBW := hide (HA0.out wr HG.out.1)
    have hbase : w.heap.size + 2 ≤ wr.heap.size := by have := HG.out.1.size; have := HB0.out.2; omega
    by_cases hlt : k < len
    · obtain ⟨y, hy⟩ : ∃ y, p[k]? = some y := ⟨p[k]'(by rw [hpl.out]; exact hlt), List.getElem?_eq_getElem _⟩
      have HS := hide (take_map_snoc (tellA n) p k y hy)
      obtain ⟨pb, po, rfl, hpb, ⟨x0, ⟨x1, x2, x3, x4⟩, ⟨x5, x6, x7, x8⟩, x9, x10⟩, hi⟩ := (lay_below (ac_stays (n + 1)) (HBW.out.mono hB) hp.out).ac k y hy
      have hB' : B ≤ wr.heap.size := by omega
      have HC : Hid (∀ w1, Below wr.heap.size wr w1 → Calls Try.prog 86 #[.agg #[.int .i64 y.1, .int .i64 y.2.1.1.1.1, .int .i64 y.2.1.1.1.2.1, .string y.2.1.1.1.2.2, .slice y.2.1.1.2.1.1 y.2.1.1.2.2.length y.2.1.1.2.1.2, .int .i64 y.2.1.2.1.1, .int .i64 y.2.1.2.1.2.1, .string y.2.1.2.1.2.2, .slice y.2.1.2.2.1.1 y.2.1.2.2.2.length y.2.1.2.2.1.2, .string y.2.2.1, .int .i64 y.2.2.2]] w1 (Tells B (n + 2) (tellA n y) w1)) :=
        fun w1 hw => tellAct_any n y B w1 ((ac_stays (n + 1)).below (hw.mono hB') hi) (Nat.le_trans hB' hw.size)
      clear hi hy
      generalize tellA n y = Y at *
      have hk1 : (0 : Int) ≤ (k : Int) := by omega
      have hk2 : (k : Int) < (len : Int) := by omega
      have hpw : pb < wr.heap.size := by omega
      obtain ⟨va, vc, hv⟩ := HG.out.slice
      rw [HL.out] at hv
      subst hv
      go_wp2_with fail
      refine (HC.out _ one_alloc).mono ?_
      rintro e w3 ⟨z, rfl, HZ⟩
      have HB3 : Hid (Below wr.heap.size wr w3) := one_alloc.trans (HZ.out.1.mono (by simp))
      have e3 : val (n + 2) z = .agg #[.int .i64 z.1.1, .int .i64 z.1.2.1, .string z.1.2.2, .slice z.2.1.1 z.2.2.length z.2.1.2] := rfl
      rw [e3]
      have HST := fun (o : Obj) (g c : Nat) (w4 : World) hown hgrow hat => hide (HG.out.app HL.out (by omega) hbase HB3.out z HZ.out.2.1 (HZ.out.2.2.1.mono fun b hb => by simp at hb; omega) (o := o) (g := g) (c := c) (w4 := w4) hown hgrow hat)
      have h3s : wr.heap.size ≤ w3.heap.size := HB3.out.size
      clear e3 HC x0 x1 x2 x3 x4 x5 x6 x7 x8 x9 x10
      go_wp2_with (at_builtin; refine wpList_append_lies _ rfl _ _ 23 rfl (w.heap.size + 2) 25 it _ 4 56 Try.underlying23 HT.out.1 HT.out.2.1 HT.out.2.2.1 HT.out.2.2.2 rfl (by decide) (.slice va k vc) k (xs.flatMap (tm4 (n + 2))) (by simp [Act.eval]) (HG.out.own HL.out HB3.out _) ⟨w3.heap.size, 0, none⟩ 1 1 (tm4 (n + 2) z) (by simp [Act.eval]) rfl (tm4_new w3 (hdT (n + 2) z) rfl) (tm4_one _ _) (by decide) (by unfold maxLen; omega) (by omega) (by simp; omega) (w3.heap.size + 1) (by simp) ?_; intro g4 c4 w4 hown4 hgrow4 hat4 hlt4; have HS4 := HST _ g4 c4 w4 hown4 hgrow4 hat4; clear hown4 hgrow4 hat4)
      go_roundw
      case rel => exact ⟨k + 1, _, by omega, by go_num, rfl, xs ++ [z], by simp [HL.out], HS4.out, by rw [HS.out]; exact sameL_snoc _ _ _ _ _ HM.out HZ.out.2.2.2⟩
      case measure => simp [intOf]; omega
    · obtain rfl : k = len := by omega
      obtain ⟨va, vc, hv⟩ := HG.out.slice
      rw [HL.out] at hv
      subst hv
      have HX1 := hide (And.intro ((HG.out.1.block w.heap.size (by omega)).trans HN.out.1) ((HG.out.1.block (w.heap.size + 1) (by omega)).trans HN.out.2))
      have c0 : wr.cell? ⟨w.heap.size, 0, none⟩ = some (.int .i64 s.1.1) := box_cell HX1.out.1 0
      have c1 : wr.cell? ⟨w.heap.size, 1, none⟩ = some (.int .i64 s.1.2.1) := box_cell HX1.out.1 1
      have c2 : wr.cell? ⟨w.heap.size, 2, none⟩ = some (.string s.1.2.2) := box_cell HX1.out.1 2
      have c3 : wr.cell? ⟨w.heap.size, 3, none⟩ = some (.slice s.2.1.1 s.2.2.length s.2.1.2) := box_cell HX1.out.1 3
      have c4 : wr.cell? ⟨w.heap.size, 4, none⟩ = some (.int .i64 m.1.1) := box_cell HX1.out.1 4
      have c5 : wr.cell? ⟨w.heap.size, 5, none⟩ = some (.int .i64 m.1.2.1) := box_cell HX1.out.1 5
      have c6 : wr.cell? ⟨w.heap.size, 6, none⟩ = some (.string m.1.2.2) := box_cell HX1.out.1 6
      have c7 : wr.cell? ⟨w.heap.size, 7, none⟩ = some (.slice m.2.1.1 m.2.2.length m.2.1.2) := box_cell HX1.out.1 7
      have c9 : wr.cell? ⟨w.heap.size, 9, none⟩ = some (.int .i64 x.1.1) := box_cell HX1.out.1 9
      have c10 : wr.cell? ⟨w.heap.size, 10, none⟩ = some (.int .i64 x.1.2.1) := box_cell HX1.out.1 10
      have c11 : wr.cell? ⟨w.heap.size, 11, none⟩ = some (.string x.1.2.2) := box_cell HX1.out.1 11
      have c12 : wr.cell? ⟨w.heap.size, 12, none⟩ = some (.slice x.2.1.1 x.2.2.length x.2.1.2) := box_cell HX1.out.1 12
      have d0 : wr.cell? ⟨w.heap.size + 1, 0, none⟩ = some (.int .i64 0) := box_cell HX1.out.2 0
      have d1 : wr.cell? ⟨w.heap.size + 1, 1, none⟩ = some (.int .i64 0) := box_cell HX1.out.2 1
      have d2 : wr.cell? ⟨w.heap.size + 1, 2, none⟩ = some (.string ⟨#[]⟩) := box_cell HX1.out.2 2
      have d3 : wr.cell? ⟨w.heap.size + 1, 3, none⟩ = some (.slice none 0 0) := box_cell HX1.out.2 3
      have f0 := fun j => box_free HX1.out.2 j
      have hq : w.heap.size < wr.heap.size := by omega
      have hq1 : w.heap.size + 1 < wr.heap.size := by omega
      have HK : Hid (∀ w', Below wr.heap.size wr w' → (w'.cell? ⟨w.heap.size, 0, none⟩ = some (.int .i64 s.1.1) ∧ w'.cell? ⟨w.heap.size, 1, none⟩ = some (.int .i64 s.1.2.1) ∧ w'.cell? ⟨w.heap.size, 2, none⟩ = some (.string s.1.2.2) ∧ w'.cell? ⟨w.heap.size, 3, none⟩ = some (.slice s.2.1.1 s.2.2.length s.2.1.2)) ∧
          (w'.cell? ⟨w.heap.size, 4, none⟩ = some (.int .i64 m.1.1) ∧ w'.cell? ⟨w.heap.size, 5, none⟩ = some (.int .i64 m.1.2.1) ∧ w'.cell? ⟨w.heap.size, 6, none⟩ = some (.string m.1.2.2) ∧ w'.cell? ⟨w.heap.size, 7, none⟩ = some (.slice m.2.1.1 m.2.2.length m.2.1.2)) ∧
          (w'.cell? ⟨w.heap.size, 9, none⟩ = some (.int .i64 x.1.1) ∧ w'.cell? ⟨w.heap.size, 10, none⟩ = some (.int .i64 x.1.2.1) ∧ w'.cell? ⟨w.heap.size, 11, none⟩ = some (.string x.1.2.2) ∧ w'.cell? ⟨w.heap.size, 12, none⟩ = some (.slice x.2.1.1 x.2.2.length x.2.1.2))) := fun w' h => by
        have hc := fun o => below_cells h w.heap.size o hq
        exact ⟨⟨(hc _).trans c0, (hc _).trans c1, (hc _).trans c2, (hc _).trans c3⟩, ⟨(hc _).trans c4, (hc _).trans c5, (hc _).trans c6, (hc _).trans c7⟩, (hc _).trans c9, (hc _).trans c10, (hc _).trans c11, (hc _).trans c12⟩
      have Htwo : Hid True := trivial
      have HLIT := fun (w1 : World) (h1 : Below wr.heap.size wr w1) => hide (clause_parts (base := w.heap.size + 2) (ys := p.map (tellA n)) (w1 := w1) hB hs.out hm.out hx.out HBW.out HG.out.tup (same_mk rfl (by have h := HM.out; rw [List.take_of_length_le (by rw [hpl.out]; omega)] at h; exact h)) h1)
      have HLn := hide HL.out
      clear hW0 HG HL HM HX1 HA0 HB0 HN
      go_wp2_with fail
      go_region_held3 (fun w' => (w'.cell? ⟨w.heap.size, 0, none⟩ = some (.int .i64 s.1.1) ∧ w'.cell? ⟨w.heap.size, 1, none⟩ = some (.int .i64 s.1.2.1) ∧ w'.cell? ⟨w.heap.size, 2, none⟩ = some (.string s.1.2.2) ∧ w'.cell? ⟨w.heap.size, 3, none⟩ = some (.slice s.2.1.1 s.2.2.length s.2.1.2)) ∧
          (w'.cell? ⟨w.heap.size, 4, none⟩ = some (.int .i64 m.1.1) ∧ w'.cell? ⟨w.heap.size, 5, none⟩ = some (.int .i64 m.1.2.1) ∧ w'.cell? ⟨w.heap.size, 6, none⟩ = some (.string m.1.2.2) ∧ w'.cell? ⟨w.heap.size, 7, none⟩ = some (.slice m.2.1.1 m.2.2.length m.2.1.2)) ∧
          (w'.cell? ⟨w.heap.size, 9, none⟩ = some (.int .i64 x.1.1) ∧ w'.cell? ⟨w.heap.size, 10, none⟩ = some (.int .i64 x.1.2.1) ∧ w'.cell? ⟨w.heap.size, 11, none⟩ = some (.string x.1.2.2) ∧ w'.cell? ⟨w.heap.size, 12, none⟩ = some (.slice x.2.1.1 x.2.2.length x.2.1.2))) (first | (go_keep; done) | exact HK.out _ HB5.out | (refine HK.out _ ?_; go_grown; done))
        ((first
          | (go_at_call 57; refine (catom_any _ _).mono ?_; rintro e w1 ⟨rfl, rfl⟩)
          | (go_at_call 59; have Hone := Htwo; clear Htwo; refine (ctuple_any _ _ _ _).mono ?_; rintro e w1 ⟨rfl, rfl⟩)
          | (go_at_call 59; clear Hone; refine (ctuple_any _ _ _ _).mono ?_; rintro e w5 ⟨rfl, hw5⟩; have HB5 := hide (show Below wr.heap.size wr w5 by rw [hw5]; go_grown); have HW5 := hide hw5; clear hw5; replace d0 := (below_cells HB5.out _ _ hq1).trans d0; replace d1 := (below_cells HB5.out _ _ hq1).trans d1; replace d2 := (below_cells HB5.out _ _ hq1).trans d2; replace d3 := (below_cells HB5.out _ _ hq1).trans d3; replace f0 := fun j => (below_free HB5.out _ j hq1).trans (f0 j))))
      go_wp2_with fail
      refine bodyPost_ret (v := .agg #[.int .i64 4, .int .i64 0, .string ⟨#[]⟩, .slice (some ⟨wr.heap.size + 1 + 1, 0, none⟩) 5 5]) (by simp [results, Try.results71, go_sem, d0, d1, d2, d3]) rfl ?_
      rw [hX.out]
      have hal : Below wr.heap.size wr ((wr.alloc (.cells #[.int .i64 2, .int .i64 0, .string ⟨#[111, 110]⟩, .slice none 0 0] 25)).alloc (.cells #[.int .i64 4, .int .i64 0, .string ⟨#[]⟩, .slice va k vc] 25)) := by go_grown
      have h5 : Below (((wr.alloc (.cells #[.int .i64 2, .int .i64 0, .string ⟨#[111, 110]⟩, .slice none 0 0] 25)).alloc (.cells #[.int .i64 4, .int .i64 0, .string ⟨#[]⟩, .slice va k vc] 25)).alloc (.cells #[.int .i64 2, .int .i64 0, .string ⟨#[111, 110]⟩, .slice none 0 0, .int .i64 s.1.1, .int .i64 s.1.2.1, .string s.1.2.2, .slice s.2.1.1 s.2.2.length s.2.1.2, .int .i64 m.1.1, .int .i64 m.1.2.1, .string m.1.2.2, .slice m.2.1.1 m.2.2.length m.2.1.2, .int .i64 4, .int .i64 0, .string ⟨#[]⟩, .slice va k vc, .int .i64 x.1.1, .int .i64 x.1.2.1, .string x.1.2.2, .slice x.2.1.1 x.2.2.length x.2.1.2] 25)).heap.size (((wr.alloc (.cells #[.int .i64 2, .int .i64 0, .string ⟨#[111, 110]⟩, .slice none 0 0] 25)).alloc (.cells #[.int .i64 4, .int .i64 0, .string ⟨#[]⟩, .slice va k vc] 25)).alloc (.cells #[.int .i64 2, .int .i64 0, .string ⟨#[111, 110]⟩, .slice none 0 0, .int .i64 s.1.1, .int .i64 s.1.2.1, .string s.1.2.2, .slice s.2.1.1 s.2.2.length s.2.1.2, .int .i64 m.1.1, .int .i64 m.1.2.1, .string m.1.2.2, .slice m.2.1.1 m.2.2.length m.2.1.2, .int .i64 4, .int .i64 0, .string ⟨#[]⟩, .slice va k vc, .int .i64 x.1.1, .int .i64 x.1.2.1, .string x.1.2.2, .slice x.2.1.1 x.2.2.length x.2.1.2] 25)) w5 := by rw [HW5.out]; go_grown
      have HL5 := HLIT _ hal
      exact tells_lit3 (B := B) (base := w.heap.size + 2) _ _ (by have := hal.size; omega) (by simp) rfl (by omega) (put4_at (by omega) (by omega) h5) (Nat.le_trans h5.size (Nat.le_of_eq (put4_size _ _ _ _).symm)) (put4_below (HBW.out.trans (HB5.out.mono HBW.out.size)) (by omega)) (clause_cells n s m x va vc k xs HLn.out) (by show 5 ≤ 8; omega) HL5.out.1 HL5.out.2

theorem tellClause_any (n : Nat) (c : Cl (n + 1)) (B : Nat) (w : World) (hi : ClIn (n + 1) B w c) (h8 : c.2.2.length ≤ 8) (hB : B ≤ w.heap.size) :
    Calls Try.prog 71 #[.agg (cl13 (n + 1) c).toArray] w (Tells B (n + 4) (tellC n c) w) := by
  obtain ⟨⟨s, m, x⟩, ⟨a, pc⟩, p⟩ := c
  exact tellClause_walk n s m x p p.length rfl h8 a pc B w hi.1.1 hi.1.2.1 hi.1.2.2 hi.2.2 hB _ rfl
end Go.Proofs.Ytbmjfnicfpdjfaa
