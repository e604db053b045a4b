/- What is proved here: the document's Order of two terms that lie in memory returns what the plain function rord says of them, and turns no memory that was there. No condition but that the terms lie in memory. -/
import Derived.Test.YtijgckcaopiipaaCmp
import Derived.Deep.RegionHeld3
import Derived.Deep.DrawnRows
namespace Go.Proofs.Ytijgckcaopiipaa
open Go.RowKit
attribute [local go_sem ↓] Go.wp_at_zero Go.wp_at_succ

def cmpR (x y : ByteArray) : Int := if x.toList == y.toList then 0 else if Op.bytesLess x.toList y.toList then -1 else 1

def rord : (n : Nat) → Tm n → (m : Nat) → Tm m → Int
  | n + 1, x, m + 1, y =>
    if x.1.1 = y.1.1 then
      if x.1.1 = 2 then cmpR x.1.2.2 y.1.2.2
      else if x.1.1 = 4 then
        if x.2.2.length = y.2.2.length then ordL (fun a b => rord n a m b) x.2.2 y.2.2 else cmpI x.2.2.length y.2.2.length
      else cmpI x.1.2.1 y.1.2.1
    else cmpI x.1.1 y.1.1
  | _, _, _, _ => 0

theorem less_any (x y : Int) (w : World) :
    Calls Try.prog 18 #[.int .i64 x, .int .i64 y] w fun e w' => e = .returned (.int .i64 (cmpI x y)) ∧ w' = w := by
  go_enter Try.func18, Try.ntmps18
  go_wp2
  all_goals go_ret
  all_goals refine ⟨ret_int ?_, rfl⟩
  all_goals unfold cmpI
  all_goals (repeat' split) <;> omega

theorem cmpI_same (x : Int) : cmpI x x = 0 := by unfold cmpI; simp
theorem less_same (x : Int) (w : World) :
    Calls Try.prog 18 #[.int .i64 x, .int .i64 x] w fun e w' => e = .returned (.int .i64 0) ∧ w' = w := by
  have h := less_any x x w
  rw [cmpI_same] at h
  exact h
theorem cmpI_ne {x y : Int} (h : ¬ x = y) : (cmpI x y != 0) = true := by
  unfold cmpI
  by_cases h1 : x < y
  · rw [if_pos h1]; rfl
  · rw [if_neg h1, if_pos (by omega)]; rfl

def F7 (n : Nat) : Prop := ∀ (x : Tm n) (m : Nat) (y : Tm m) (B : Nat) (w : World), In B w n x → In B w m y → B ≤ w.heap.size →
  Calls Try.prog 7 #[val n x, val m y] w fun e w' => e = .returned (.int .i64 (rord n x m y)) ∧ Below w.heap.size w w'

theorem rorder_kind (w : World) (k k' u u' : Int) (s s' : ByteArray) (a a' : Option Addr) (pl ql pc qc : Nat) (e : ¬ k = k') :
    Calls Try.prog 7 #[.agg #[.int .i64 k, .int .i64 u, .string s, .slice a pl pc], .agg #[.int .i64 k', .int .i64 u', .string s', .slice a' ql qc]] w fun e w' => e = .returned (.int .i64 (cmpI k k')) ∧ Below w.heap.size w w' := by
  have hk := cmpI_ne e
  clear e
  go_enter Try.func7, Try.ntmps7
  go_wp2_with (go_at_call 18; refine (less_any _ _ _).mono ?_; rintro e w' ⟨rfl, rfl⟩)
  go_ret
  exact ⟨rfl, ((Below.refl _ _).alloc (Nat.le_refl _) _).alloc (by simp) _⟩

theorem rorder_str (w : World) (u u' : Int) (s s' : ByteArray) (a a' : Option Addr) (pl ql pc qc : Nat) :
    Calls Try.prog 7 #[.agg #[.int .i64 2, .int .i64 u, .string s, .slice a pl pc], .agg #[.int .i64 2, .int .i64 u', .string s', .slice a' ql qc]] w fun e w' => e = .returned (.int .i64 (cmpR s s')) ∧ Below w.heap.size w w' := by
  unfold cmpR
  cases h1 : s.toList == s'.toList
  · cases h2 : Op.bytesLess s.toList s'.toList
    all_goals
      go_enter Try.func7, Try.ntmps7
      go_wp2_with (go_at_call 18; refine (less_same _ _).mono ?_; rintro e w' ⟨rfl, rfl⟩)
      go_ret
      exact ⟨rfl, ((Below.refl _ _).alloc (Nat.le_refl _) _).alloc (by simp) _⟩
  · go_enter Try.func7, Try.ntmps7
    go_wp2_with (go_at_call 18; refine (less_same _ _).mono ?_; rintro e w' ⟨rfl, rfl⟩)
    go_ret
    exact ⟨rfl, ((Below.refl _ _).alloc (Nat.le_refl _) _).alloc (by simp) _⟩

theorem rorder_else (w : World) (k u u' : Int) (s s' : ByteArray) (a a' : Option Addr) (pl ql pc qc : Nat) (e2 : ¬ k = 2) (e4 : ¬ k = 4) :
    Calls Try.prog 7 #[.agg #[.int .i64 k, .int .i64 u, .string s, .slice a pl pc], .agg #[.int .i64 k, .int .i64 u', .string s', .slice a' ql qc]] w fun e w' => e = .returned (.int .i64 (cmpI u u')) ∧ Below w.heap.size w w' := by
  have h2 : (k == 2) = false := by simpa using e2
  have h4 : (k == 4) = false := by simpa using e4
  clear e2 e4
  go_enter Try.func7, Try.ntmps7
  go_wp2_with fail
  refine (less_same _ _).mono ?_
  rintro e w' ⟨rfl, rfl⟩
  go_wp2_with fail
  refine (less_any _ _ _).mono ?_
  rintro e w' ⟨rfl, rfl⟩
  go_wp2_with fail
  go_ret
  exact ⟨rfl, ((Below.refl _ _).alloc (Nat.le_refl _) _).alloc (by simp) _⟩

theorem rorder_len (w : World) (u u' : Int) (s s' : ByteArray) (a a' : Option Addr) (pl ql pc qc : Nat) (e : ¬ (pl : Int) = (ql : Int)) :
    Calls Try.prog 7 #[.agg #[.int .i64 4, .int .i64 u, .string s, .slice a pl pc], .agg #[.int .i64 4, .int .i64 u', .string s', .slice a' ql qc]] w fun e w' => e = .returned (.int .i64 (cmpI pl ql)) ∧ Below w.heap.size w w' := by
  have hk := cmpI_ne e
  clear e
  go_enter Try.func7, Try.ntmps7
  go_wp2_with fail
  refine (less_same _ _).mono ?_
  rintro e w' ⟨rfl, rfl⟩
  go_wp2_with fail
  refine (less_any _ _ _).mono ?_
  rintro e w' ⟨rfl, rfl⟩
  go_wp2_with fail
  go_ret
  exact ⟨rfl, ((Below.refl _ _).alloc (Nat.le_refl _) _).alloc (by simp) _⟩

set_option maxHeartbeats 400000 in
theorem rorder_tup (n m : Nat) (ih : F7 n) (p : List (Tm n)) (q : List (Tm m)) (len : Nat) (hpl : Hid (p.length = len)) (hql : Hid (q.length = len)) (pb po qb qo pc qc : Nat) (B : Nat) (w : World)
    (u u' : Int) (s s' : ByteArray) (hlen : len ≤ 9223372036854775807) (hpb : pb < B) (hqb : qb < B)
    (hp : ∀ (i : Nat) (y : Tm n), p[i]? = some y → Held w pb (po + i * 4) n y ∧ In B w n y)
    (hq : ∀ (i : Nat) (y : Tm m), q[i]? = some y → Held w qb (qo + i * 4) m y ∧ In B w m y)
    (hB : B ≤ w.heap.size) :
    Calls Try.prog 7 #[.agg #[.int .i64 4, .int .i64 u, .string s, .slice (some ⟨pb, po, none⟩) len pc], .agg #[.int .i64 4, .int .i64 u', .string s', .slice (some ⟨qb, qo, none⟩) len qc]] w fun e w' =>
      e = .returned (.int .i64 (ordL (fun a b => rord n a m b) p q)) ∧ Below w.heap.size w w' := by
  go_enter Try.func7, Try.ntmps7
  go_wp2_with (go_at_call 18; refine (less_same _ _).mono ?_; rintro e w' ⟨rfl, rfl⟩)
  go_loopw [8] (fun i wr => ∃ k : Nat, k ≤ len ∧ i = .int .i64 k ∧ Below w.heap.size w wr ∧ w.heap.size + 2 ≤ wr.heap.size ∧ wr.cell? ⟨w.heap.size, 3, none⟩ = some (.slice (some ⟨pb, po, none⟩) len pc) ∧ wr.cell? ⟨w.heap.size + 1, 3, none⟩ = some (.slice (some ⟨qb, qo, none⟩) len qc) ∧ Hid (ordL (fun a b => rord n a m b) (p.drop k) (q.drop k) = ordL (fun a b => rord n a m b) p q)) (fun i _ => len - (intOf i).toNat)
  case atStart => exact ⟨0, by omega, rfl, ((Below.refl _ _).alloc (Nat.le_refl _) _).alloc (by simp) _, by simp, by simp [go_sem], by simp [go_sem], rfl⟩
  case round =>
    obtain ⟨k, hk, rfl, hb, hwr, ha0, ha1, hd⟩ := hrel
    by_cases hlt : k < len
    · obtain ⟨x, hx⟩ : ∃ x, p[k]? = some x := ⟨p[k]'(by rw [hpl.out]; exact hlt), List.getElem?_eq_getElem _⟩
      obtain ⟨y, hy⟩ : ∃ y, q[k]? = some y := ⟨q[k]'(by rw [hql.out]; exact hlt), List.getElem?_eq_getElem _⟩
      obtain ⟨hx1, hx2⟩ := hp k x hx
      obtain ⟨hy1, hy2⟩ := hq k y hy
      have HS : Hid (ordL (fun a b => rord n a m b) (p.drop k) (q.drop k) = if rord n x m y = 0 then ordL (fun a b => rord n a m b) (p.drop (k + 1)) (q.drop (k + 1)) else rord n x m y) := ordL_drop (fun a b => rord n a m b) p q k x y hx hy
      replace hx1 := hx1.below (hb.mono hB) hpb
      replace hy1 := hy1.below (hb.mono hB) hqb
      replace hx2 := hx2.below (hb.mono hB)
      replace hy2 := hy2.below (hb.mono hB)
      clear hp hq hx hy
      cases n with
      | zero => exact hx1.elim
      | succ n =>
      cases m with
      | zero => exact hy1.elim
      | succ m =>
      obtain ⟨x0, x1, x2, x3⟩ := hx1
      obtain ⟨y0, y1, y2, y3⟩ := hy1
      have hc : ∀ (w1 : World), In B w1 (n + 1) x → In B w1 (m + 1) y → B ≤ w1.heap.size → Calls Try.prog 7 #[.agg #[.int .i64 x.1.1, .int .i64 x.1.2.1, .string x.1.2.2, .slice x.2.1.1 x.2.2.length x.2.1.2], .agg #[.int .i64 y.1.1, .int .i64 y.1.2.1, .string y.1.2.2, .slice y.2.1.1 y.2.2.length y.2.1.2]] w1 fun e w' => e = .returned (.int .i64 (rord (n + 1) x (m + 1) y)) ∧ Below w1.heap.size w1 w' := fun w1 h1 h2 h3 => ih x (m + 1) y B w1 h1 h2 h3
      have hB' : B ≤ wr.heap.size := Nat.le_trans hB hb.size
      have HCD := hide (hc wr.drew (hx2.below (Below.refl _ _).drew) (hy2.below (Below.refl _ _).drew) hB')
      clear hc ih hx2 hy2
      generalize rord (n + 1) x (m + 1) y = r at *
      generalize x.2.2.length = xl at *
      generalize y.2.2.length = yl at *
      have hk1 : (0 : Int) ≤ (k : Int) := by omega
      have hk2 : (k : Int) < (len : Int) := by omega
      have hpw : pb < wr.heap.size := by omega
      have hqw : qb < wr.heap.size := by omega
      have hw0 : w.heap.size < wr.heap.size := by omega
      have hw1 : w.heap.size + 1 < wr.heap.size := by omega
      go_wp2_with fail
      go_region_held3 (fun w' => w'.cell? ⟨pb, po + k * 4, none⟩ = some (.int .i64 x.1.1) ∧ w'.cell? ⟨pb, po + k * 4 + 1, none⟩ = some (.int .i64 x.1.2.1) ∧ w'.cell? ⟨pb, po + k * 4 + 2, none⟩ = some (.string x.1.2.2) ∧ w'.cell? ⟨pb, po + k * 4 + 3, none⟩ = some (.slice x.2.1.1 xl x.2.1.2)
          ∧ w'.cell? ⟨qb, qo + k * 4, none⟩ = some (.int .i64 y.1.1) ∧ w'.cell? ⟨qb, qo + k * 4 + 1, none⟩ = some (.int .i64 y.1.2.1) ∧ w'.cell? ⟨qb, qo + k * 4 + 2, none⟩ = some (.string y.1.2.2) ∧ w'.cell? ⟨qb, qo + k * 4 + 3, none⟩ = some (.slice y.2.1.1 yl y.2.1.2)
          ∧ w'.cell? ⟨w.heap.size, 3, none⟩ = some (.slice (some ⟨pb, po, none⟩) len pc) ∧ w'.cell? ⟨w.heap.size + 1, 3, none⟩ = some (.slice (some ⟨qb, qo, none⟩) len qc))
        (go_keep) ((go_at_call 7; refine HCD.out.mono ?_; rintro e w1 ⟨rfl, hb1⟩; have hcc := below_cells (below_undrew hb1)))
      have hb2 : Below w.heap.size w w1 := hb.trans ((below_undrew hb1).mono hb.size)
      have hz1 : wr.heap.size ≤ w1.heap.size := (below_undrew hb1).size
      have hcc := below_cells (below_undrew hb1)
      have hd0 : w1.cell? ⟨w.heap.size, 3, none⟩ = some (.slice (some ⟨pb, po, none⟩) len pc) := (hcc _ _ hw0).trans ha0
      have hd1 : w1.cell? ⟨w.heap.size + 1, 3, none⟩ = some (.slice (some ⟨qb, qo, none⟩) len qc) := (hcc _ _ hw1).trans ha1
      clear hcc
      by_cases hr : r = 0
      · have HR : Hid (r = 0) := hr
        have hr1 : (r != 0) = false := by rw [hr]; rfl
        clear hr
        go_wp2_with fail
        go_roundw
        case rel => exact ⟨k + 1, by omega, by go_num, hb2, by omega, hd0, hd1, by rw [← hd.out, HS.out, if_pos HR.out]; rfl⟩
        case measure => simp [intOf]; omega
      · have HR : Hid (¬ r = 0) := hr
        have hr1 : (r != 0) = true := by simpa using hr
        clear hr
        go_wp2_with fail
        go_ret
        exact ⟨ret_int (by rw [← hd.out, HS.out, if_neg HR.out]), hb2⟩
    · go_wp2_with fail
      go_ret
      refine ⟨ret_int ?_, hb⟩
      rw [← hd.out, List.drop_eq_nil_of_le (by rw [hpl.out]; omega)]
      rfl
end Go.Proofs.Ytijgckcaopiipaa
