/- What is proved here: match.AreBindings, and the document's Bound, of a list of terms that lies in memory: both return whether there are four, each right, and each closed or the wild one; they turn no memory that was there. Condition: at most 2097152 terms in each. -/
import Derived.Test.YtfaoeccnhbcjgabFit2
import Derived.Test.YtfaoeccnhbcjgabClo
import Derived.Test.YtfaoeccnhbcjgabTDep
namespace Go.Proofs.Ytfaoeccnhbcjgab
open Go.RowKit

def okB (n : Nat) (y : Tm n) : Bool := chk n y == 0 && (kindA ⟨n, y⟩ == 6 || closedB n y)
def bndB (n : Nat) (q : List (Tm n)) : Bool := decide (q.length = 4) && q.all (okB n)
/-- A list that lies in memory. -/
def Lies (B : Nat) (w : World) (n : Nat) (q : List (Tm n)) (a : Option Addr) : Prop :=
  q = [] ∨ ∃ b o, a = some ⟨b, o, none⟩ ∧ b < B ∧ ∀ (i : Nat) (y : Tm n), q[i]? = some y → Held w b (o + i * 4) n y ∧ In B w n y
theorem Lies.below {B : Nat} {w w' : World} (h : Below B w w') {n : Nat} {q : List (Tm n)} {a : Option Addr} (k : Lies B w n q a) : Lies B w' n q a := by
  rcases k with hp | ⟨b, o, e, hb, hp⟩
  · exact Or.inl hp
  · exact Or.inr ⟨b, o, e, hb, fun i y hy => ⟨(hp i y hy).1.below h hb, (hp i y hy).2.below h⟩⟩

theorem all_drop {α : Type} (f : α → Bool) (q : List α) (k : Nat) (y : α) (h : q[k]? = some y) : (q.drop k).all f = (f y && (q.drop (k + 1)).all f) := by
  obtain ⟨h1, e1⟩ := List.getElem?_eq_some_iff.1 h
  rw [List.drop_eq_getElem_cons h1, e1]
  rfl
theorem all_take {α : Type} (f : α → Bool) (q : List α) (k : Nat) (y : α) (h : q[k]? = some y) : (q.take (k + 1)).all f = ((q.take k).all f && f y) := by
  rw [List.take_add_one, h]
  simp

theorem areB_ne (a : Option Addr) (len pc : Nat) (w : World) (_hl : len ≤ 9223372036854775807) (h : ((len : Int) != 4) = true) :
    Calls Try.prog 53 #[.slice a len pc] w fun e w' => e = .returned (.bool false) ∧ w' = w := by
  go_enter Try.func53, Try.ntmps53
  go_wp2_with fail
  go_ret
  exact ⟨rfl, rfl⟩

set_option maxHeartbeats 1000000 in
theorem areB_loop (n : Nat) (q : List (Tm n)) (pb po pc : Nat) (B : Nat) (w : World) (hql : Hid (q.length = 4)) (hpb : pb < B)
    (hp : ∀ (i : Nat) (y : Tm n), q[i]? = some y → Held w pb (po + i * 4) n y ∧ In B w n y) (hN : ∀ y ∈ q, (nodes n y).length ≤ 2097152) (hB : B ≤ w.heap.size) :
    Calls Try.prog 53 #[.slice (some ⟨pb, po, none⟩) 4 pc] w fun e w' => e = .returned (.bool (q.all (okB n))) ∧ Below w.heap.size w w' := by
  go_enter Try.func53, Try.ntmps53
  go_wp2_with fail
  go_loopw [10] (fun i wr => ∃ k : Nat, k ≤ 4 ∧ i = .int .i64 k ∧ Below w.heap.size w wr ∧ Hid ((q.drop k).all (okB n) = q.all (okB n))) (fun i _ => 4 - (intOf i).toNat)
  case atStart => exact ⟨0, by omega, rfl, Below.refl _ _, rfl⟩
  case round =>
    obtain ⟨k, hk, rfl, hb, hd⟩ := hrel
    by_cases hlt : k < 4
    · obtain ⟨x, hx⟩ : ∃ x, q[k]? = some x := ⟨q[k]'(by rw [hql.out]; exact hlt), List.getElem?_eq_getElem _⟩
      have HS := hide (all_drop (okB n) q k x hx)
      obtain ⟨hx1, hx2⟩ := hp k x hx
      have hNx := hN x (List.mem_of_getElem? hx)
      replace hx1 := hx1.below (hb.mono hB) hpb
      replace hx2 := hx2.below (hb.mono hB)
      clear hp hx hN
      cases n with
      | zero => exact hx1.elim
      | succ n =>
      obtain ⟨x0, x1, x2, x3⟩ := hx1
      have hB' : B ≤ wr.heap.size := Nat.le_trans hB hb.size
      have HCK : Hid (∀ w1, Below wr.heap.size wr w1 → Calls Try.prog 41 #[.agg #[.int .i64 x.1.1, .int .i64 x.1.2.1, .string x.1.2.2, .slice x.2.1.1 x.2.2.length x.2.1.2]] w1 fun e w' => e = .returned (.int .i64 (chk (n + 1) x)) ∧ Below w1.heap.size w1 w') :=
        fun w1 h1 => tcheck_any (n + 1) x B w1 (hx2.below (h1.mono hB')) (Nat.le_trans hB' h1.size) hNx
      have HCL : Hid (∀ w1, Below wr.heap.size wr w1 → Calls Try.prog 42 #[.agg #[.int .i64 x.1.1, .int .i64 x.1.2.1, .string x.1.2.2, .slice x.2.1.1 x.2.2.length x.2.1.2]] w1 fun e w' => e = .returned (.bool (closedT (n + 1) x)) ∧ Below w1.heap.size w1 w') :=
        fun w1 h1 => closed_any (n + 1) x B w1 (hx2.below (h1.mono hB')) (Nat.le_trans hB' h1.size)
      have HOK : Hid (okB (n + 1) x = (chk (n + 1) x == 0 && (x.1.1 == 6 || closedT (n + 1) x))) := by unfold Hid okB; rw [closed_eq]; rfl
      clear hx2 hNx
      generalize x.2.2.length = xl at *
      generalize closedT (n + 1) x = cl at *
      generalize chk (n + 1) x = ck at *
      generalize okB (n + 1) x = ok at *
      have hk1 : (0 : Int) ≤ (k : Int) := by omega
      have hk2 : (k : Int) < (4 : Int) := by omega
      have hpw : pb < wr.heap.size := by omega
      have HBA : Hid (∀ o, Below wr.heap.size wr (wr.alloc o)) := fun o => (Below.refl _ _).alloc (Nat.le_refl _) _
      go_wp2_with fail
      refine (HCK.out _ (HBA.out _)).mono ?_
      rintro e w1 ⟨rfl, hb1⟩
      obtain ⟨⟨t0, t1, t2, t3⟩, _⟩ := boxed hb1
      have HB1 : Hid (Below wr.heap.size wr w1) := (HBA.out _).trans (hb1.mono (by simp))
      have HLT : Hid (wr.heap.size < w1.heap.size) := by have := hb1.size; simp at this; unfold Hid; omega
      clear hb1 x0 x1 x2 x3 HCK
      by_cases hck : ck = 0
      · have hck1 : (ck != 0) = false := by simp [hck]
        have HC0 : Hid (ck = 0) := hck
        clear hck
        go_wp2_with fail
        refine (isBound_any _ _ _ _ _ _ _).mono ?_
        rintro e w2 ⟨rfl, hb2⟩
        obtain ⟨t4, t5, t6, t7⟩ := cells_nx HLT.out hb2 ⟨t0, t1, t2, t3⟩
        have HB2 : Hid (Below wr.heap.size wr w2) := HB1.out.trans (hb2.mono HB1.out.size)
        clear hb2 t0 t1 t2 t3
        cases h6 : x.1.1 == 6
        · simp only [Bool.not_false]
          go_wp2_with fail
          refine (HCL.out _ HB2.out).mono ?_
          rintro e w3 ⟨rfl, hb3⟩
          have hb4 : Below w.heap.size w w3 := hb.trans ((HB2.out.trans (hb3.mono HB2.out.size)).mono hb.size)
          clear hb3
          cases cl with
          | true =>
            go_wp2_with fail
            go_roundw
            case rel => exact ⟨k + 1, by omega, by go_num, hb4, by rw [← hd.out, HS.out, HOK.out, HC0.out]; simp [Hid]⟩
            case measure => simp [intOf]; omega
          | false =>
            go_wp2_with fail
            go_ret
            exact ⟨ret_same (by rw [← hd.out, HS.out, HOK.out, HC0.out, h6]; simp), hb4⟩
        · simp only [Bool.not_true]
          have hb4 : Below w.heap.size w w2 := hb.trans (HB2.out.mono hb.size)
          go_wp2_with fail
          go_roundw
          case rel => exact ⟨k + 1, by omega, by go_num, hb4, by rw [← hd.out, HS.out, HOK.out, HC0.out, h6]; simp [Hid]⟩
          case measure => simp [intOf]; omega
      · have hck1 : (ck != 0) = true := by simpa using hck
        have HC0 : Hid ((ck == 0) = false) := by simpa [Hid] using hck
        have hb4 : Below w.heap.size w w1 := hb.trans (HB1.out.mono hb.size)
        clear hck
        go_wp2_with fail
        go_ret
        exact ⟨ret_same (by rw [← hd.out, HS.out, HOK.out, HC0.out]; simp), hb4⟩
    · go_wp2_with fail
      go_ret
      refine ⟨ret_same ?_, hb⟩
      rw [← hd.out, List.drop_eq_nil_of_le (by rw [hql.out]; omega)]
      rfl

theorem areB_any (n : Nat) (q : List (Tm n)) (a : Option Addr) (pc B : Nat) (w : World) (h : Lies B w n q a) (hl : q.length ≤ 9223372036854775807) (hN : ∀ y ∈ q, (nodes n y).length ≤ 2097152) (hB : B ≤ w.heap.size) :
    Calls Try.prog 53 #[.slice a q.length pc] w fun e w' => e = .returned (.bool (bndB n q)) ∧ Below w.heap.size w w' := by
  unfold bndB
  by_cases h4 : q.length = 4
  · rcases h with h | ⟨b, o, rfl, hb, hp⟩
    · rw [h] at h4; simp at h4
    · have hw := areB_loop n q b o pc B w h4 hb hp hN hB
      rw [h4]
      simpa using hw
  · refine (areB_ne a q.length pc w hl (by simp; omega)).mono ?_
    rintro e w' ⟨rfl, rfl⟩
    exact ⟨by simp [h4], Below.refl _ _⟩

set_option maxHeartbeats 2000000 in
theorem rbound_loop (n : Nat) (q : List (Tm n)) (len : Nat) (hql : Hid (q.length = len)) (hlen : len ≤ 9223372036854775807) (a : Option Addr) (pc B : Nat) (w : World) (hp : Hid (Lies B w n q a)) (hN : ∀ y ∈ q, (nodes n y).length ≤ 2097152) (hB : B ≤ w.heap.size) :
    Calls Try.prog 31 #[.slice a len pc] w fun e w' => e = .returned (.bool (((len : Int) == 4) && q.all (okB n))) ∧ Below w.heap.size w w' := by
  go_enter Try.func31, Try.ntmps31
  go_wp2_with fail
  go_loopw [3, 4] (fun v i wr => ∃ (k : Nat) (ok : Bool), k ≤ len ∧ v = .bool ok ∧ i = .int .i64 k ∧ Below w.heap.size w wr ∧ Hid (ok = (((len : Int) == 4) && (q.take k).all (okB n)))) (fun _ i _ => len - (intOf i).toNat)
  case atStart => exact ⟨0, _, by omega, rfl, rfl, Below.refl _ _, by simp [Hid]⟩
  case round =>
    obtain ⟨k, ok, hk, rfl, rfl, hb, hd⟩ := hrel
    by_cases hlt : k < len
    · obtain ⟨x, hx⟩ : ∃ x, q[k]? = some x := ⟨q[k]'(by rw [hql.out]; exact hlt), List.getElem?_eq_getElem _⟩
      have HS := hide (all_take (okB n) q k x hx)
      have hNx := hN x (List.mem_of_getElem? hx)
      rcases hp.out with hp | ⟨pb, po, rfl, hpb, hp⟩
      · subst hp; simp at hx
      obtain ⟨hx1, hx2⟩ := hp k x hx
      replace hx1 := hx1.below (hb.mono hB) hpb
      replace hx2 := hx2.below (hb.mono hB)
      clear hp hx hN
      cases n with
      | zero => exact hx1.elim
      | succ n =>
      have hB' : B ≤ wr.heap.size := Nat.le_trans hB hb.size
      have hpw : pb < wr.heap.size := by omega
      have hk1 : (0 : Int) ≤ (k : Int) := by omega
      have hk2 : (k : Int) < (len : Int) := by omega
      cases ok with
      | false =>
        go_wp2_with fail
        go_roundw
        case rel => exact ⟨k + 1, false, by omega, rfl, by go_num, hb, by rw [HS.out, ← Bool.and_assoc, ← hd.out]; simp [Hid]⟩
        case measure => simp [intOf]; omega
      | true =>
      have HX1 := hide hx1
      obtain ⟨x0, x1, x2, x3⟩ := hx1
      have HCK : Hid (∀ w1, Below wr.heap.size wr w1 → Calls Try.prog 11 #[.agg #[.int .i64 x.1.1, .int .i64 x.1.2.1, .string x.1.2.2, .slice x.2.1.1 x.2.2.length x.2.1.2]] w1 fun e w' => e = .returned (.int .i64 (chk (n + 1) x)) ∧ Below w1.heap.size w1 w') :=
        fun w1 h1 => rcheck_any (n + 1) x B w1 (hx2.below (h1.mono hB')) (Nat.le_trans hB' h1.size) hNx
      have HCL : Hid (∀ w1, Below wr.heap.size wr w1 → Calls Try.prog 30 #[.agg #[.int .i64 x.1.1, .int .i64 x.1.2.1, .string x.1.2.2, .slice x.2.1.1 x.2.2.length x.2.1.2]] w1 fun e w' => e = .returned (.bool (closedB (n + 1) x)) ∧ Below w1.heap.size w1 w') :=
        fun w1 h1 => rclosed_any (n + 1) x B w1 (hx2.below (h1.mono hB')) (Nat.le_trans hB' h1.size) hNx
      have HOK : Hid (okB (n + 1) x = (chk (n + 1) x == 0 && (x.1.1 == 6 || closedB (n + 1) x))) := rfl
      clear hx2 hNx
      generalize closedB (n + 1) x = cl at *
      generalize chk (n + 1) x = ck at *
      generalize okB (n + 1) x = ok at *
      go_wp2_with fail
      refine (HCK.out _ (Below.refl _ _)).mono ?_
      rintro e w1 ⟨rfl, hb1⟩
      have HB1 := hide hb1
      clear x0 x1 x2 x3
      by_cases hck : ck = 0
      · have hck1 : (ck == 0) = true := by simp [hck]
        have HC0 : Hid (ck = 0) := hck
        obtain ⟨x0, x1, x2, x3⟩ := HX1.out.below hb1 hpw
        clear hck hb1
        cases h6 : x.1.1 == 6
        · go_wp2_with fail
          refine (HCL.out _ HB1.out).mono ?_
          rintro e w3 ⟨rfl, hb3⟩
          have hb4 : Below w.heap.size w w3 := hb.trans ((HB1.out.trans (hb3.mono HB1.out.size)).mono hb.size)
          clear hb3
          go_wp2_with fail
          go_roundw
          case rel => exact ⟨k + 1, cl, by omega, rfl, by go_num, hb4, by rw [HS.out, ← Bool.and_assoc, ← hd.out, HOK.out, HC0.out, h6]; simp [Hid]⟩
          case measure => simp [intOf]; omega
        · have hb4 : Below w.heap.size w w1 := hb.trans (HB1.out.mono hb.size)
          go_wp2_with fail
          go_roundw
          case rel => exact ⟨k + 1, true, by omega, rfl, by go_num, hb4, by rw [HS.out, ← Bool.and_assoc, ← hd.out, HOK.out, HC0.out, h6]; simp [Hid]⟩
          case measure => simp [intOf]; omega
      · have hck1 : (ck == 0) = false := by simpa using hck
        have hb4 : Below w.heap.size w w1 := hb.trans (HB1.out.mono hb.size)
        clear hck hb1
        go_wp2_with fail
        go_roundw
        case rel => exact ⟨k + 1, false, by omega, rfl, by go_num, hb4, by rw [HS.out, ← Bool.and_assoc, ← hd.out, HOK.out, hck1]; simp [Hid]⟩
        case measure => simp [intOf]; omega
    · go_wp2_with fail
      go_ret
      refine ⟨ret_same ?_, hb⟩
      rw [hd.out, List.take_of_length_le (by rw [hql.out]; omega)]

theorem rbound_any (n : Nat) (q : List (Tm n)) (a : Option Addr) (pc B : Nat) (w : World) (h : Lies B w n q a) (hl : q.length ≤ 9223372036854775807) (hN : ∀ y ∈ q, (nodes n y).length ≤ 2097152) (hB : B ≤ w.heap.size) :
    Calls Try.prog 31 #[.slice a q.length pc] w fun e w' => e = .returned (.bool (bndB n q)) ∧ Below w.heap.size w w' := by
  have e : bndB n q = (((q.length : Nat) : Int) == 4 && q.all (okB n)) := by
    unfold bndB
    congr 1
    rw [Bool.eq_iff_iff]
    simp
    omega
  rw [e]
  exact rbound_loop n q q.length rfl hl a pc B w h hN hB
end Go.Proofs.Ytfaoeccnhbcjgab
