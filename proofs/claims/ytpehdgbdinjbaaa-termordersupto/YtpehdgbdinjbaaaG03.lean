/- What is proved here: plain facts and contracts that the claimed theorem stands on, several texts in one: the document's Check, for every term that lies in memory, with at most 2097152 terms in it, returns what the plain function chk says; where that is 0, each term in it is right by itself. cmp.Compare of two ints, and of two strings, returns -1, 0 or 1 as they stand to each other, and turns nothing. No condition but that the ints are ints. term.Order of two terms that lie in memory returns what the plain function ord says of them, and turns no memory that was there; likewise orderArgs of two lists. No condition but that the terms lie in memory. the document's Order of two terms that lie in memory returns what the plain function rord says of them, and turns no memory that was there. No condition but that the terms lie in memory. the document's Order, for every pair of terms that lie in memory: it returns what the plain function rord says, and turns no memory that was there. No condition but that the terms lie in memory. clerklaw.TermOrders, called with two terms that lie in memory, each with at most 2097152 terms in it, returns true and turns no memory that was there. a plain fact: a term has at most as many terms in it as it holds terms and letters. No condition. whatever reads as a term is a tree that lies in memory, no larger than the reading's bulk; and a row over terms follows from what the call does. No condition. -/
import Derived.Test.YtpehdgbdinjbaaaG02
import Derived.Test.YtpehdgbdinjbaaaG01
import Derived.Deep.RegionHeld3
import Derived.Deep.DrawnRows
import Derived.ProofKit
import Derived.OpenShut
import Derived.JoinedCond
namespace Go.Proofs.Ytpehdgbdinjbaaa
open Go.RowKit

theorem rcheck_any (n : Nat) (x : Tm n) (B : Nat) (w : World) (hx : In B w n x) (hB : B ≤ w.heap.size) (hN : (nodes n x).length ≤ 2097152) :
    Calls Try.prog 10 #[val n x] w fun e w' => e = .returned (.int .i64 (chk n x)) ∧ Below w.heap.size w w' := by
  cases n with
  | zero => exact hx.elim
  | succ n =>
  refine rcheck_walk w x.1.1 x.1.2.1 x.1.2.2 x.2.1.1 x.2.2.length x.2.1.2 (nodes (n + 1) x) (deeps (n + 1) x 0) (nodes (n + 1) x).length (sz (n + 1) x) (chk (n + 1) x) rfl (deeps_length (n + 1) x 0) hN
    (nodes_len (n + 1) x B w hx) (fun e he => by have := deeps_bound (n + 1) x 0 e he; omega) rfl ?_ ?_
  · exact fun w1 hw => all_any (n + 1) x 0 B w1 (hx.below (hw.mono hB)) (Nat.le_trans hB hw.size) (by omega) (by omega)
  · exact fun w1 hw => rsize_any (n + 1) x B w1 (hx.below (hw.mono hB)) (Nat.le_trans hB hw.size) hN

theorem chkL_good (z : Int) : (l : List Nd) → (ds : List Int) → (m : Int) → l.length = ds.length → chkL z l ds m = 0 → ∀ y ∈ l, good y = true
  | [], _, _, _, _ => by simp
  | x :: l, [], _, h, _ => by simp at h
  | x :: l, d :: ds, m, h, h0 => by
    simp only [chkL] at h0
    by_cases hg : good x = true
    · rw [if_pos hg] at h0
      intro y hy
      rcases List.mem_cons.1 hy with rfl | hy
      · exact hg
      · exact chkL_good z l ds _ (by simpa using h) h0 y hy
    · rw [if_neg hg] at h0
      cases h0
theorem chk_good (n : Nat) (x : Tm n) (h : chk n x = 0) : ∀ y ∈ nodes n x, good y = true :=
  chkL_good _ _ _ _ (deeps_length n x 0).symm h

theorem nodes_mem {n : Nat} {x : Tm (n + 1)} {y : Tm n} (h : y ∈ x.2.2) {a : Nd} (ha : a ∈ nodes n y) : a ∈ nodes (n + 1) x := by
  simp only [nodes, List.mem_cons, List.mem_flatMap]
  exact Or.inr ⟨y, h, ha⟩

theorem good_kind (x : Nd) (h : good x = true) : x.1.1 = 1 ∨ x.1.1 = 2 ∨ x.1.1 = 3 ∨ x.1.1 = 4 ∨ x.1.1 = 5 ∨ (x.1.1 = 6 ∧ x.1.2.1 = 0) := by
  by_cases h1 : x.1.1 = 1
  · exact Or.inl h1
  by_cases h2 : x.1.1 = 2
  · exact Or.inr (Or.inl h2)
  by_cases h3 : x.1.1 = 3
  · exact Or.inr (Or.inr (Or.inl h3))
  by_cases h4 : x.1.1 = 4
  · exact Or.inr (Or.inr (Or.inr (Or.inl h4)))
  by_cases h5 : x.1.1 = 5
  · exact Or.inr (Or.inr (Or.inr (Or.inr (Or.inl h5))))
  by_cases h6 : x.1.1 = 6
  · refine Or.inr (Or.inr (Or.inr (Or.inr (Or.inr ⟨h6, ?_⟩))))
    unfold good at h
    rw [if_neg h1, if_neg h2, if_neg h3, if_neg h4, if_neg h5, if_pos h6] at h
    simp only [Bool.and_eq_true, beq_iff_eq] at h
    exact h.1.2
  · unfold good at h
    rw [if_neg h1, if_neg h2, if_neg h3, if_neg h4, if_neg h5, if_neg h6] at h
    cases h
end Go.Proofs.Ytpehdgbdinjbaaa
namespace Go.Proofs.Ytpehdgbdinjbaaa
open Go.RowKit

set_option maxHeartbeats 400000 in
theorem cmpI_any (x y : Int) (w : World) :
    Calls Try.prog 41 #[.int .i64 x, .int .i64 y] w fun e w' => e = .returned (.int .i64 (cmpI x y)) ∧ w' = w := by
  go_enter Try.func41, Try.ntmps41
  go_wp2
  all_goals go_ret
  all_goals refine ⟨ret_int ?_, rfl⟩
  all_goals unfold cmpI
  all_goals (repeat' split) <;> omega

set_option maxHeartbeats 400000 in
theorem cmpS_any (x y : ByteArray) (w : World) :
    Calls Try.prog 42 #[.string x, .string y] w fun e w' => e = .returned (.int .i64 (cmpS x y)) ∧ w' = w := by
  go_enter Try.func42, Try.ntmps42
  go_wp2
  all_goals go_ret
  all_goals refine ⟨ret_int ?_, rfl⟩
  all_goals unfold cmpS
  all_goals simp [*]

end Go.Proofs.Ytpehdgbdinjbaaa
namespace Go.Proofs.Ytpehdgbdinjbaaa
open Go.RowKit
attribute [local go_sem ↓] Go.wp_at_zero Go.wp_at_succ

/-- The value of a tree, its parts named. -/
def agg (k u : Int) (s : ByteArray) (a : Option Addr) (l c : Nat) : Value := .agg #[.int .i64 k, .int .i64 u, .string s, .slice a l c]

def F5 (n : Nat) : Prop := ∀ (x : Tm n) (m : Nat) (y : Tm m) (B : Nat) (w : World), In B w n x → In B w m y → B ≤ w.heap.size →
  Calls Try.prog 9 #[val n x, val m y] w fun e w' => e = .returned (.int .i64 (ord n x m y)) ∧ Below w.heap.size w w'

theorem args_ne (p q : Nat) (a c : Option Addr) (pc qc : Nat) (w : World) (_hpc : p ≤ 9223372036854775807) (_hqc : q ≤ 9223372036854775807) (hl : ((p : Int) == (q : Int)) = false) :
    Calls Try.prog 43 #[.slice a p pc, .slice c q qc] w fun e w' => e = .returned (.int .i64 (cmpI p q)) ∧ w' = w := by
  have hl' : ((p : Int) != (q : Int)) = true := by simpa using hl
  go_enter Try.func43, Try.ntmps43
  go_wp2_with (go_at_call 41; refine (cmpI_any _ _ _).mono ?_; rintro e w' ⟨rfl, rfl⟩)
  go_ret
  exact ⟨rfl, rfl⟩

set_option maxHeartbeats 400000 in
theorem args_eq (n m : Nat) (ih : F5 n) (p : List (Tm n)) (q : List (Tm m)) (len : Nat) (hpl : Hid (p.length = len)) (hql : Hid (q.length = len)) (pb po qb qo pc qc : Nat) (B : Nat) (w : World)
    (hlen : len ≤ 9223372036854775807) (hpb : pb < B) (hqb : qb < B)
    (hp : ∀ (i : Nat) (y : Tm n), p[i]? = some y → Held w pb (po + i * 4) n y ∧ In B w n y)
    (hq : ∀ (i : Nat) (y : Tm m), q[i]? = some y → Held w qb (qo + i * 4) m y ∧ In B w m y)
    (hB : B ≤ w.heap.size) :
    Calls Try.prog 43 #[.slice (some ⟨pb, po, none⟩) len pc, .slice (some ⟨qb, qo, none⟩) len qc] w fun e w' =>
      e = .returned (.int .i64 (ordL (fun a b => ord n a m b) p q)) ∧ Below w.heap.size w w' := by
  go_enter Try.func43, Try.ntmps43
  go_wp2_with fail
  go_loopw [19] (fun i wr => ∃ k : Nat, k ≤ len ∧ i = .int .i64 k ∧ Below w.heap.size w wr ∧ Hid (ordL (fun a b => ord n a m b) (p.drop k) (q.drop k) = ordL (fun a b => ord n a m b) p q)) (fun i _ => len - (intOf i).toNat)
  case atStart => exact ⟨0, by omega, rfl, Below.refl _ _, rfl⟩
  case round =>
    obtain ⟨k, hk, rfl, hb, hd⟩ := hrel
    by_cases hlt : k < len
    · obtain ⟨x, hx⟩ : ∃ x, p[k]? = some x := ⟨p[k]'(by rw [hpl.out]; exact hlt), List.getElem?_eq_getElem _⟩
      obtain ⟨y, hy⟩ : ∃ y, q[k]? = some y := ⟨q[k]'(by rw [hql.out]; exact hlt), List.getElem?_eq_getElem _⟩
      obtain ⟨hx1, hx2⟩ := hp k x hx
      obtain ⟨hy1, hy2⟩ := hq k y hy
      have HS : Hid (ordL (fun a b => ord n a m b) (p.drop k) (q.drop k) = if ord n x m y = 0 then ordL (fun a b => ord n a m b) (p.drop (k + 1)) (q.drop (k + 1)) else ord n x m y) := ordL_drop (fun a b => ord n a m b) p q k x y hx hy
      replace hx1 := hx1.below (hb.mono hB) hpb
      replace hy1 := hy1.below (hb.mono hB) hqb
      replace hx2 := hx2.below (hb.mono hB)
      replace hy2 := hy2.below (hb.mono hB)
      clear hp hq hx hy
      cases n with
      | zero => exact hx1.elim
      | succ n =>
      cases m with
      | zero => exact hy1.elim
      | succ m =>
      obtain ⟨x0, x1, x2, x3⟩ := hx1
      obtain ⟨y0, y1, y2, y3⟩ := hy1
      have hc : ∀ (w1 : World), In B w1 (n + 1) x → In B w1 (m + 1) y → B ≤ w1.heap.size → Calls Try.prog 9 #[.agg #[.int .i64 x.1.1, .int .i64 x.1.2.1, .string x.1.2.2, .slice x.2.1.1 x.2.2.length x.2.1.2], .agg #[.int .i64 y.1.1, .int .i64 y.1.2.1, .string y.1.2.2, .slice y.2.1.1 y.2.2.length y.2.1.2]] w1 fun e w' => e = .returned (.int .i64 (ord (n + 1) x (m + 1) y)) ∧ Below w1.heap.size w1 w' := fun w1 h1 h2 h3 => ih x (m + 1) y B w1 h1 h2 h3
      have HC := hide hc
      clear hc ih
      have HX := hide hx2
      have HY := hide hy2
      clear hx2 hy2
      generalize ord (n + 1) x (m + 1) y = r at *
      generalize x.2.2.length = xl at *
      generalize y.2.2.length = yl at *
      have hk1 : (0 : Int) ≤ (k : Int) := by omega
      have hk2 : (k : Int) < (len : Int) := by omega
      have hB' : B ≤ wr.heap.size := Nat.le_trans hB hb.size
      have HCD := hide (HC.out wr.drew (HX.out.below (Below.refl _ _).drew) (HY.out.below (Below.refl _ _).drew) hB')
      have hpw : pb < wr.heap.size := by omega
      have hqw : qb < wr.heap.size := by omega
      clear HC HX HY
      go_wp2_with fail
      go_region_held3 (fun w' => w'.cell? ⟨pb, po + k * 4, none⟩ = some (.int .i64 x.1.1) ∧ w'.cell? ⟨pb, po + k * 4 + 1, none⟩ = some (.int .i64 x.1.2.1) ∧ w'.cell? ⟨pb, po + k * 4 + 2, none⟩ = some (.string x.1.2.2) ∧ w'.cell? ⟨pb, po + k * 4 + 3, none⟩ = some (.slice x.2.1.1 xl x.2.1.2)
          ∧ w'.cell? ⟨qb, qo + k * 4, none⟩ = some (.int .i64 y.1.1) ∧ w'.cell? ⟨qb, qo + k * 4 + 1, none⟩ = some (.int .i64 y.1.2.1) ∧ w'.cell? ⟨qb, qo + k * 4 + 2, none⟩ = some (.string y.1.2.2) ∧ w'.cell? ⟨qb, qo + k * 4 + 3, none⟩ = some (.slice y.2.1.1 yl y.2.1.2))
        (go_keep) ((go_at_call 9; refine HCD.out.mono ?_; rintro e w1 ⟨rfl, hb1⟩; have hcc := below_cells (below_undrew hb1)))
      have hb2 : Below w.heap.size w w1 := hb.trans ((below_undrew hb1).mono hb.size)
      by_cases hr : r = 0
      · have HR : Hid (r = 0) := hr
        have hr1 : (r != 0) = false := by rw [hr]; rfl
        clear hr
        go_wp2_with fail
        go_roundw
        case rel => exact ⟨k + 1, by omega, by go_num, hb2, by rw [← hd.out, HS.out, if_pos HR.out]; rfl⟩
        case measure => simp [intOf]; omega
      · have HR : Hid (¬ r = 0) := hr
        have hr1 : (r != 0) = true := by simpa using hr
        clear hr
        go_wp2_with fail
        go_ret
        exact ⟨ret_int (by rw [← hd.out, HS.out, if_neg HR.out]), hb2⟩
    · go_wp2_with fail
      go_ret
      refine ⟨ret_int ?_, hb⟩
      rw [← hd.out, List.drop_eq_nil_of_le (by rw [hpl.out]; omega)]
      rfl

theorem args_nil (n m : Nat) (a c : Option Addr) (pc qc : Nat) (w : World) :
    Calls Try.prog 43 #[.slice a ([] : List (Tm n)).length pc, .slice c ([] : List (Tm m)).length qc] w fun e w' => e = .returned (.int .i64 (ordL (fun a b => ord n a m b) [] [])) ∧ Below w.heap.size w w' := by
  show Calls Try.prog 43 #[.slice a 0 pc, .slice c 0 qc] w fun e w' => e = .returned (.int .i64 0) ∧ Below w.heap.size w w'
  go_enter Try.func43, Try.ntmps43
  go_wp2_with fail
  go_loop [19] (fun i => i = .int .i64 0) (fun _ => 0)
  case atStart => rfl
  case round =>
    obtain rfl := hrel
    go_wp2_with fail
    go_ret
    exact ⟨rfl, Below.refl _ _⟩

theorem order_kind (w : World) (k k' u u' : Int) (s s' : ByteArray) (a a' : Option Addr) (pl ql pc qc : Nat) (e : ¬ k = k') :
    Calls Try.prog 9 #[.agg #[.int .i64 k, .int .i64 u, .string s, .slice a pl pc], .agg #[.int .i64 k', .int .i64 u', .string s', .slice a' ql qc]] w fun e w' => e = .returned (.int .i64 (cmpI k k')) ∧ Below w.heap.size w w' := by
  have hk : (k != k') = true := by simpa using e
  clear e
  go_enter Try.func9, Try.ntmps9
  go_wp2_with (go_at_call 41; refine (cmpI_any _ _ _).mono ?_; rintro e w' ⟨rfl, rfl⟩)
  go_ret
  exact ⟨rfl, ((Below.refl _ _).alloc (Nat.le_refl _) _).alloc (by simp) _⟩

theorem order_int (w : World) (k u u' : Int) (s s' : ByteArray) (a a' : Option Addr) (pl ql pc qc : Nat) (r : Int) (h : k = 1 ∨ k = 3 ∨ k = 5) :
    Calls Try.prog 9 #[.agg #[.int .i64 k, .int .i64 u, .string s, .slice a pl pc], .agg #[.int .i64 k, .int .i64 u', .string s', .slice a' ql qc]] w fun e w' => e = .returned (.int .i64 (if k = 1 ∨ k = 3 ∨ k = 5 then cmpI u u' else if k = 2 then cmpS s s' else if k = 4 then r else 0)) ∧ Below w.heap.size w w' := by
  rw [if_pos h]
  rcases h with rfl | rfl | rfl
  all_goals
    go_enter Try.func9, Try.ntmps9
    go_wp2_with (go_at_call 41; refine (cmpI_any _ _ _).mono ?_; rintro e w' ⟨rfl, rfl⟩)
    go_ret
    exact ⟨rfl, ((Below.refl _ _).alloc (Nat.le_refl _) _).alloc (by simp) _⟩

theorem order_str (w : World) (u u' : Int) (s s' : ByteArray) (a a' : Option Addr) (pl ql pc qc : Nat) :
    Calls Try.prog 9 #[.agg #[.int .i64 2, .int .i64 u, .string s, .slice a pl pc], .agg #[.int .i64 2, .int .i64 u', .string s', .slice a' ql qc]] w fun e w' => e = .returned (.int .i64 (cmpS s s')) ∧ Below w.heap.size w w' := by
  go_enter Try.func9, Try.ntmps9
  go_wp2_with (go_at_call 42; refine (cmpS_any _ _ _).mono ?_; rintro e w' ⟨rfl, rfl⟩)
  go_ret
  exact ⟨rfl, ((Below.refl _ _).alloc (Nat.le_refl _) _).alloc (by simp) _⟩

theorem order_else (w : World) (k u u' : Int) (s s' : ByteArray) (a a' : Option Addr) (pl ql pc qc : Nat) (e1 : ¬ k = 1) (e2 : ¬ k = 2) (e3 : ¬ k = 3) (e4 : ¬ k = 4) (e5 : ¬ k = 5) :
    Calls Try.prog 9 #[.agg #[.int .i64 k, .int .i64 u, .string s, .slice a pl pc], .agg #[.int .i64 k, .int .i64 u', .string s', .slice a' ql qc]] w fun e w' => e = .returned (.int .i64 0) ∧ Below w.heap.size w w' := by
  have h1 : (k == 1) = false := by simpa using e1
  have h2 : (k == 2) = false := by simpa using e2
  have h3 : (k == 3) = false := by simpa using e3
  have h4 : (k == 4) = false := by simpa using e4
  have h5 : (k == 5) = false := by simpa using e5
  clear e1 e2 e3 e4 e5
  go_enter Try.func9, Try.ntmps9
  go_wp2_with fail
  go_ret
  exact ⟨rfl, ((Below.refl _ _).alloc (Nat.le_refl _) _).alloc (by simp) _⟩

theorem order_tup (w : World) (u u' : Int) (s s' : ByteArray) (a a' : Option Addr) (pl ql pc qc : Nat) (r : Int)
    (h : ∀ w1 : World, Below w.heap.size w w1 → Calls Try.prog 43 #[.slice a pl pc, .slice a' ql qc] w1 fun e w' => e = .returned (.int .i64 r) ∧ Below w1.heap.size w1 w') :
    Calls Try.prog 9 #[.agg #[.int .i64 4, .int .i64 u, .string s, .slice a pl pc], .agg #[.int .i64 4, .int .i64 u', .string s', .slice a' ql qc]] w fun e w' => e = .returned (.int .i64 r) ∧ Below w.heap.size w w' := by
  have H := hide h
  clear h
  go_enter Try.func9, Try.ntmps9
  go_wp2_with fail
  refine (H.out _ (((Below.refl _ _).alloc (Nat.le_refl _) _).alloc (by simp) _)).mono ?_
  rintro e w' ⟨rfl, hb⟩
  go_wp2_with fail
  go_ret
  exact ⟨rfl, (((Below.refl _ _).alloc (Nat.le_refl _) _).alloc (by simp) _).trans (hb.mono (by simp; omega))⟩

set_option maxHeartbeats 400000 in
theorem order_any (n : Nat) : F5 n := by
  induction n with
  | zero => intro x m y B w hx; exact hx.elim
  | succ n ih =>
    intro x m y B w hx hy hB
    cases m with
    | zero => exact hy.elim
    | succ m =>
    obtain ⟨⟨k, u, s⟩, ⟨a, pc⟩, p⟩ := x
    obtain ⟨⟨k', u', s'⟩, ⟨a', qc⟩, q⟩ := y
    obtain ⟨⟨hk, hu, hs, hpl, hpc⟩, hp⟩ := hx
    obtain ⟨⟨hk', hu', hs', hql, hqc⟩, hq⟩ := hy
    simp only at hk hu hs hpl hpc hp hk' hu' hs' hql hqc hq
    show Calls Try.prog 9 #[.agg #[.int .i64 k, .int .i64 u, .string s, .slice a p.length pc], .agg #[.int .i64 k', .int .i64 u', .string s', .slice a' q.length qc]] w fun e w' => e = .returned (.int .i64 (if k = k' then
      if k = 1 ∨ k = 3 ∨ k = 5 then cmpI u u' else if k = 2 then cmpS s s' else if k = 4 then if p.length = q.length then ordL (fun a b => ord n a m b) p q else cmpI p.length q.length
      else 0 else cmpI k k')) ∧ Below w.heap.size w w'
    have hargs : ∀ w1 : World, Below w.heap.size w w1 → Calls Try.prog 43 #[.slice a p.length pc, .slice a' q.length qc] w1 fun e w' => e = .returned (.int .i64 (if p.length = q.length then ordL (fun a b => ord n a m b) p q else cmpI p.length q.length)) ∧ Below w1.heap.size w1 w' := by
      intro w1 hw
      unfold maxLen at hpc hqc
      by_cases hl : p.length = q.length
      · rw [if_pos hl]
        rcases hp with hp | ⟨pb, po, rfl, hpb, hp⟩
        · subst hp
          have hq0 : q = [] := List.eq_nil_of_length_eq_zero hl.symm
          subst hq0
          exact args_nil n m a a' pc qc w1
        · rcases hq with hq | ⟨qb, qo, rfl, hqb, hq⟩
          · subst hq
            have hp0 : p = [] := List.eq_nil_of_length_eq_zero hl
            subst hp0
            exact args_nil n m _ a' pc qc w1
          · have h := args_eq n m ih p q p.length rfl hl.symm pb po qb qo pc qc B w1 (by omega) hpb hqb (fun i y hy => ⟨(hp i y hy).1.below (hw.mono hB) hpb, (hp i y hy).2.below (hw.mono hB)⟩)
              (fun i y hy => ⟨(hq i y hy).1.below (hw.mono hB) hqb, (hq i y hy).2.below (hw.mono hB)⟩) (Nat.le_trans hB hw.size)
            rw [hl] at h
            rw [hl]
            exact h
      · rw [if_neg hl]
        refine (args_ne p.length q.length a a' pc qc w1 (by omega) (by omega) (by simp; omega)).mono ?_
        rintro e w' ⟨rfl, rfl⟩
        exact ⟨rfl, Below.refl _ _⟩
    generalize (if p.length = q.length then ordL (fun a b => ord n a m b) p q else cmpI p.length q.length) = r at *
    clear hp hq ih hpl hpc hql hqc hs hs' hB
    generalize p.length = pl at *
    generalize q.length = ql at *
    obtain ⟨hk1, hk2⟩ := hk
    obtain ⟨hk1', hk2'⟩ := hk'
    by_cases e : k = k'
    · subst e
      rw [if_pos rfl]
      by_cases e1 : k = 1
      · subst e1
        exact order_int w 1 u u' s s' a a' pl ql pc qc r (Or.inl rfl)
      by_cases e3 : k = 3
      · subst e3
        exact order_int w 3 u u' s s' a a' pl ql pc qc r (Or.inr (Or.inl rfl))
      by_cases e5 : k = 5
      · subst e5
        exact order_int w 5 u u' s s' a a' pl ql pc qc r (Or.inr (Or.inr rfl))
      rw [if_neg (by omega)]
      by_cases e2 : k = 2
      · subst e2
        exact order_str w u u' s s' a a' pl ql pc qc
      rw [if_neg e2]
      by_cases e4 : k = 4
      · subst e4
        exact order_tup w u u' s s' a a' pl ql pc qc r hargs
      rw [if_neg e4]
      exact order_else w k u u' s s' a a' pl ql pc qc e1 e2 e3 e4 e5
    · rw [if_neg e]
      exact order_kind w k k' u u' s s' a a' pl ql pc qc e
end Go.Proofs.Ytpehdgbdinjbaaa
namespace Go.Proofs.Ytpehdgbdinjbaaa
open Go.RowKit
attribute [local go_sem ↓] Go.wp_at_zero Go.wp_at_succ

def cmpR (x y : ByteArray) : Int := if x.toList == y.toList then 0 else if Op.bytesLess x.toList y.toList then -1 else 1

def rord : (n : Nat) → Tm n → (m : Nat) → Tm m → Int
  | n + 1, x, m + 1, y =>
    if x.1.1 = y.1.1 then
      if x.1.1 = 2 then cmpR x.1.2.2 y.1.2.2
      else if x.1.1 = 4 then
        if x.2.2.length = y.2.2.length then ordL (fun a b => rord n a m b) x.2.2 y.2.2 else cmpI x.2.2.length y.2.2.length
      else cmpI x.1.2.1 y.1.2.1
    else cmpI x.1.1 y.1.1
  | _, _, _, _ => 0

theorem less_any (x y : Int) (w : World) :
    Calls Try.prog 46 #[.int .i64 x, .int .i64 y] w fun e w' => e = .returned (.int .i64 (cmpI x y)) ∧ w' = w := by
  go_enter Try.func46, Try.ntmps46
  go_wp2
  all_goals go_ret
  all_goals refine ⟨ret_int ?_, rfl⟩
  all_goals unfold cmpI
  all_goals (repeat' split) <;> omega

theorem cmpI_same (x : Int) : cmpI x x = 0 := by unfold cmpI; simp
theorem less_same (x : Int) (w : World) :
    Calls Try.prog 46 #[.int .i64 x, .int .i64 x] w fun e w' => e = .returned (.int .i64 0) ∧ w' = w := by
  have h := less_any x x w
  rw [cmpI_same] at h
  exact h
theorem cmpI_ne {x y : Int} (h : ¬ x = y) : (cmpI x y != 0) = true := by
  unfold cmpI
  by_cases h1 : x < y
  · rw [if_pos h1]; rfl
  · rw [if_neg h1, if_pos (by omega)]; rfl

def F7 (n : Nat) : Prop := ∀ (x : Tm n) (m : Nat) (y : Tm m) (B : Nat) (w : World), In B w n x → In B w m y → B ≤ w.heap.size →
  Calls Try.prog 11 #[val n x, val m y] w fun e w' => e = .returned (.int .i64 (rord n x m y)) ∧ Below w.heap.size w w'

theorem rorder_kind (w : World) (k k' u u' : Int) (s s' : ByteArray) (a a' : Option Addr) (pl ql pc qc : Nat) (e : ¬ k = k') :
    Calls Try.prog 11 #[.agg #[.int .i64 k, .int .i64 u, .string s, .slice a pl pc], .agg #[.int .i64 k', .int .i64 u', .string s', .slice a' ql qc]] w fun e w' => e = .returned (.int .i64 (cmpI k k')) ∧ Below w.heap.size w w' := by
  have hk := cmpI_ne e
  clear e
  go_enter Try.func11, Try.ntmps11
  go_wp2_with (go_at_call 46; refine (less_any _ _ _).mono ?_; rintro e w' ⟨rfl, rfl⟩)
  go_ret
  exact ⟨rfl, ((Below.refl _ _).alloc (Nat.le_refl _) _).alloc (by simp) _⟩

theorem rorder_str (w : World) (u u' : Int) (s s' : ByteArray) (a a' : Option Addr) (pl ql pc qc : Nat) :
    Calls Try.prog 11 #[.agg #[.int .i64 2, .int .i64 u, .string s, .slice a pl pc], .agg #[.int .i64 2, .int .i64 u', .string s', .slice a' ql qc]] w fun e w' => e = .returned (.int .i64 (cmpR s s')) ∧ Below w.heap.size w w' := by
  unfold cmpR
  cases h1 : s.toList == s'.toList
  · cases h2 : Op.bytesLess s.toList s'.toList
    all_goals
      go_enter Try.func11, Try.ntmps11
      go_wp2_with (go_at_call 46; refine (less_same _ _).mono ?_; rintro e w' ⟨rfl, rfl⟩)
      go_ret
      exact ⟨rfl, ((Below.refl _ _).alloc (Nat.le_refl _) _).alloc (by simp) _⟩
  · go_enter Try.func11, Try.ntmps11
    go_wp2_with (go_at_call 46; refine (less_same _ _).mono ?_; rintro e w' ⟨rfl, rfl⟩)
    go_ret
    exact ⟨rfl, ((Below.refl _ _).alloc (Nat.le_refl _) _).alloc (by simp) _⟩

theorem rorder_else (w : World) (k u u' : Int) (s s' : ByteArray) (a a' : Option Addr) (pl ql pc qc : Nat) (e2 : ¬ k = 2) (e4 : ¬ k = 4) :
    Calls Try.prog 11 #[.agg #[.int .i64 k, .int .i64 u, .string s, .slice a pl pc], .agg #[.int .i64 k, .int .i64 u', .string s', .slice a' ql qc]] w fun e w' => e = .returned (.int .i64 (cmpI u u')) ∧ Below w.heap.size w w' := by
  have h2 : (k == 2) = false := by simpa using e2
  have h4 : (k == 4) = false := by simpa using e4
  clear e2 e4
  go_enter Try.func11, Try.ntmps11
  go_wp2_with fail
  refine (less_same _ _).mono ?_
  rintro e w' ⟨rfl, rfl⟩
  go_wp2_with fail
  refine (less_any _ _ _).mono ?_
  rintro e w' ⟨rfl, rfl⟩
  go_wp2_with fail
  go_ret
  exact ⟨rfl, ((Below.refl _ _).alloc (Nat.le_refl _) _).alloc (by simp) _⟩

theorem rorder_len (w : World) (u u' : Int) (s s' : ByteArray) (a a' : Option Addr) (pl ql pc qc : Nat) (e : ¬ (pl : Int) = (ql : Int)) :
    Calls Try.prog 11 #[.agg #[.int .i64 4, .int .i64 u, .string s, .slice a pl pc], .agg #[.int .i64 4, .int .i64 u', .string s', .slice a' ql qc]] w fun e w' => e = .returned (.int .i64 (cmpI pl ql)) ∧ Below w.heap.size w w' := by
  have hk := cmpI_ne e
  clear e
  go_enter Try.func11, Try.ntmps11
  go_wp2_with fail
  refine (less_same _ _).mono ?_
  rintro e w' ⟨rfl, rfl⟩
  go_wp2_with fail
  refine (less_any _ _ _).mono ?_
  rintro e w' ⟨rfl, rfl⟩
  go_wp2_with fail
  go_ret
  exact ⟨rfl, ((Below.refl _ _).alloc (Nat.le_refl _) _).alloc (by simp) _⟩

set_option maxHeartbeats 400000 in
theorem rorder_tup (n m : Nat) (ih : F7 n) (p : List (Tm n)) (q : List (Tm m)) (len : Nat) (hpl : Hid (p.length = len)) (hql : Hid (q.length = len)) (pb po qb qo pc qc : Nat) (B : Nat) (w : World)
    (u u' : Int) (s s' : ByteArray) (hlen : len ≤ 9223372036854775807) (hpb : pb < B) (hqb : qb < B)
    (hp : ∀ (i : Nat) (y : Tm n), p[i]? = some y → Held w pb (po + i * 4) n y ∧ In B w n y)
    (hq : ∀ (i : Nat) (y : Tm m), q[i]? = some y → Held w qb (qo + i * 4) m y ∧ In B w m y)
    (hB : B ≤ w.heap.size) :
    Calls Try.prog 11 #[.agg #[.int .i64 4, .int .i64 u, .string s, .slice (some ⟨pb, po, none⟩) len pc], .agg #[.int .i64 4, .int .i64 u', .string s', .slice (some ⟨qb, qo, none⟩) len qc]] w fun e w' =>
      e = .returned (.int .i64 (ordL (fun a b => rord n a m b) p q)) ∧ Below w.heap.size w w' := by
  go_enter Try.func11, Try.ntmps11
  go_wp2_with (go_at_call 46; refine (less_same _ _).mono ?_; rintro e w' ⟨rfl, rfl⟩)
  go_loopw [8] (fun i wr => ∃ k : Nat, k ≤ len ∧ i = .int .i64 k ∧ Below w.heap.size w wr ∧ w.heap.size + 2 ≤ wr.heap.size ∧ wr.cell? ⟨w.heap.size, 3, none⟩ = some (.slice (some ⟨pb, po, none⟩) len pc) ∧ wr.cell? ⟨w.heap.size + 1, 3, none⟩ = some (.slice (some ⟨qb, qo, none⟩) len qc) ∧ Hid (ordL (fun a b => rord n a m b) (p.drop k) (q.drop k) = ordL (fun a b => rord n a m b) p q)) (fun i _ => len - (intOf i).toNat)
  case atStart => exact ⟨0, by omega, rfl, ((Below.refl _ _).alloc (Nat.le_refl _) _).alloc (by simp) _, by simp, by simp [go_sem], by simp [go_sem], rfl⟩
  case round =>
    obtain ⟨k, hk, rfl, hb, hwr, ha0, ha1, hd⟩ := hrel
    by_cases hlt : k < len
    · obtain ⟨x, hx⟩ : ∃ x, p[k]? = some x := ⟨p[k]'(by rw [hpl.out]; exact hlt), List.getElem?_eq_getElem _⟩
      obtain ⟨y, hy⟩ : ∃ y, q[k]? = some y := ⟨q[k]'(by rw [hql.out]; exact hlt), List.getElem?_eq_getElem _⟩
      obtain ⟨hx1, hx2⟩ := hp k x hx
      obtain ⟨hy1, hy2⟩ := hq k y hy
      have HS : Hid (ordL (fun a b => rord n a m b) (p.drop k) (q.drop k) = if rord n x m y = 0 then ordL (fun a b => rord n a m b) (p.drop (k + 1)) (q.drop (k + 1)) else rord n x m y) := ordL_drop (fun a b => rord n a m b) p q k x y hx hy
      replace hx1 := hx1.below (hb.mono hB) hpb
      replace hy1 := hy1.below (hb.mono hB) hqb
      replace hx2 := hx2.below (hb.mono hB)
      replace hy2 := hy2.below (hb.mono hB)
      clear hp hq hx hy
      cases n with
      | zero => exact hx1.elim
      | succ n =>
      cases m with
      | zero => exact hy1.elim
      | succ m =>
      obtain ⟨x0, x1, x2, x3⟩ := hx1
      obtain ⟨y0, y1, y2, y3⟩ := hy1
      have hc : ∀ (w1 : World), In B w1 (n + 1) x → In B w1 (m + 1) y → B ≤ w1.heap.size → Calls Try.prog 11 #[.agg #[.int .i64 x.1.1, .int .i64 x.1.2.1, .string x.1.2.2, .slice x.2.1.1 x.2.2.length x.2.1.2], .agg #[.int .i64 y.1.1, .int .i64 y.1.2.1, .string y.1.2.2, .slice y.2.1.1 y.2.2.length y.2.1.2]] w1 fun e w' => e = .returned (.int .i64 (rord (n + 1) x (m + 1) y)) ∧ Below w1.heap.size w1 w' := fun w1 h1 h2 h3 => ih x (m + 1) y B w1 h1 h2 h3
      have hB' : B ≤ wr.heap.size := Nat.le_trans hB hb.size
      have HCD := hide (hc wr.drew (hx2.below (Below.refl _ _).drew) (hy2.below (Below.refl _ _).drew) hB')
      clear hc ih hx2 hy2
      generalize rord (n + 1) x (m + 1) y = r at *
      generalize x.2.2.length = xl at *
      generalize y.2.2.length = yl at *
      have hk1 : (0 : Int) ≤ (k : Int) := by omega
      have hk2 : (k : Int) < (len : Int) := by omega
      have hpw : pb < wr.heap.size := by omega
      have hqw : qb < wr.heap.size := by omega
      have hw0 : w.heap.size < wr.heap.size := by omega
      have hw1 : w.heap.size + 1 < wr.heap.size := by omega
      go_wp2_with fail
      go_region_held3 (fun w' => w'.cell? ⟨pb, po + k * 4, none⟩ = some (.int .i64 x.1.1) ∧ w'.cell? ⟨pb, po + k * 4 + 1, none⟩ = some (.int .i64 x.1.2.1) ∧ w'.cell? ⟨pb, po + k * 4 + 2, none⟩ = some (.string x.1.2.2) ∧ w'.cell? ⟨pb, po + k * 4 + 3, none⟩ = some (.slice x.2.1.1 xl x.2.1.2)
          ∧ w'.cell? ⟨qb, qo + k * 4, none⟩ = some (.int .i64 y.1.1) ∧ w'.cell? ⟨qb, qo + k * 4 + 1, none⟩ = some (.int .i64 y.1.2.1) ∧ w'.cell? ⟨qb, qo + k * 4 + 2, none⟩ = some (.string y.1.2.2) ∧ w'.cell? ⟨qb, qo + k * 4 + 3, none⟩ = some (.slice y.2.1.1 yl y.2.1.2)
          ∧ w'.cell? ⟨w.heap.size, 3, none⟩ = some (.slice (some ⟨pb, po, none⟩) len pc) ∧ w'.cell? ⟨w.heap.size + 1, 3, none⟩ = some (.slice (some ⟨qb, qo, none⟩) len qc))
        (go_keep) ((go_at_call 11; refine HCD.out.mono ?_; rintro e w1 ⟨rfl, hb1⟩; have hcc := below_cells (below_undrew hb1)))
      have hb2 : Below w.heap.size w w1 := hb.trans ((below_undrew hb1).mono hb.size)
      have hz1 : wr.heap.size ≤ w1.heap.size := (below_undrew hb1).size
      have hcc := below_cells (below_undrew hb1)
      have hd0 : w1.cell? ⟨w.heap.size, 3, none⟩ = some (.slice (some ⟨pb, po, none⟩) len pc) := (hcc _ _ hw0).trans ha0
      have hd1 : w1.cell? ⟨w.heap.size + 1, 3, none⟩ = some (.slice (some ⟨qb, qo, none⟩) len qc) := (hcc _ _ hw1).trans ha1
      clear hcc
      by_cases hr : r = 0
      · have HR : Hid (r = 0) := hr
        have hr1 : (r != 0) = false := by rw [hr]; rfl
        clear hr
        go_wp2_with fail
        go_roundw
        case rel => exact ⟨k + 1, by omega, by go_num, hb2, by omega, hd0, hd1, by rw [← hd.out, HS.out, if_pos HR.out]; rfl⟩
        case measure => simp [intOf]; omega
      · have HR : Hid (¬ r = 0) := hr
        have hr1 : (r != 0) = true := by simpa using hr
        clear hr
        go_wp2_with fail
        go_ret
        exact ⟨ret_int (by rw [← hd.out, HS.out, if_neg HR.out]), hb2⟩
    · go_wp2_with fail
      go_ret
      refine ⟨ret_int ?_, hb⟩
      rw [← hd.out, List.drop_eq_nil_of_le (by rw [hpl.out]; omega)]
      rfl
end Go.Proofs.Ytpehdgbdinjbaaa
namespace Go.Proofs.Ytpehdgbdinjbaaa
open Go.RowKit

theorem rorder_nil (w : World) (u u' : Int) (s s' : ByteArray) (a a' : Option Addr) (pc qc : Nat) :
    Calls Try.prog 11 #[.agg #[.int .i64 4, .int .i64 u, .string s, .slice a 0 pc], .agg #[.int .i64 4, .int .i64 u', .string s', .slice a' 0 qc]] w fun e w' =>
      e = .returned (.int .i64 0) ∧ Below w.heap.size w w' := by
  go_enter Try.func11, Try.ntmps11
  go_wp2_with (go_at_call 46; refine (less_same _ _).mono ?_; rintro e w' ⟨rfl, rfl⟩)
  go_loop [8] (fun i => i = .int .i64 0) (fun _ => 0)
  case atStart => rfl
  case round =>
    obtain rfl := hrel
    go_wp2_with fail
    go_ret
    exact ⟨rfl, ((Below.refl _ _).alloc (Nat.le_refl _) _).alloc (by simp) _⟩

theorem rorder_any (n : Nat) : F7 n := by
  induction n with
  | zero => intro x m y B w hx; exact hx.elim
  | succ n ih =>
    intro x m y B w hx hy hB
    cases m with
    | zero => exact hy.elim
    | succ m =>
    obtain ⟨⟨k, u, s⟩, ⟨a, pc⟩, p⟩ := x
    obtain ⟨⟨k', u', s'⟩, ⟨a', qc⟩, q⟩ := y
    obtain ⟨⟨hk, hu, hs, hpl, hpc⟩, hp⟩ := hx
    obtain ⟨⟨hk', hu', hs', hql, hqc⟩, hq⟩ := hy
    simp only at hk hu hs hpl hpc hp hk' hu' hs' hql hqc hq
    show Calls Try.prog 11 #[.agg #[.int .i64 k, .int .i64 u, .string s, .slice a p.length pc], .agg #[.int .i64 k', .int .i64 u', .string s', .slice a' q.length qc]] w fun e w' => e = .returned (.int .i64 (if k = k' then
      if k = 2 then cmpR s s' else if k = 4 then if p.length = q.length then ordL (fun a b => rord n a m b) p q else cmpI p.length q.length
      else cmpI u u' else cmpI k k')) ∧ Below w.heap.size w w'
    unfold maxLen at hpc hqc
    by_cases e : k = k'
    · subst e
      rw [if_pos rfl]
      by_cases e2 : k = 2
      · subst e2
        exact rorder_str w u u' s s' a a' p.length q.length pc qc
      rw [if_neg e2]
      by_cases e4 : k = 4
      · subst e4
        rw [if_pos rfl]
        by_cases hl : p.length = q.length
        · rw [if_pos hl]
          rcases hp with hp | ⟨pb, po, rfl, hpb, hp⟩
          · subst hp
            have hq0 : q = [] := List.eq_nil_of_length_eq_zero hl.symm
            subst hq0
            exact rorder_nil w u u' s s' a a' pc qc
          · rcases hq with hq | ⟨qb, qo, rfl, hqb, hq⟩
            · subst hq
              have hp0 : p = [] := List.eq_nil_of_length_eq_zero hl
              subst hp0
              exact rorder_nil w u u' s s' _ a' pc qc
            · have h := rorder_tup n m ih p q p.length rfl hl.symm pb po qb qo pc qc B w u u' s s' (by omega) hpb hqb hp hq hB
              rw [hl] at h
              rw [hl]
              exact h
        · rw [if_neg hl]
          exact rorder_len w u u' s s' a a' p.length q.length pc qc (by omega)
      rw [if_neg e4]
      exact rorder_else w k u u' s s' a a' p.length q.length pc qc e2 e4
    · rw [if_neg e]
      exact rorder_kind w k k' u u' s s' a a' p.length q.length pc qc e
end Go.Proofs.Ytpehdgbdinjbaaa
namespace Go.Proofs.Ytpehdgbdinjbaaa
open Go.RowKit

theorem bytesLess_irrefl (l : List UInt8) : Op.bytesLess l l = false := by
  induction l with
  | nil => rfl
  | cons a l ih => simp [Op.bytesLess, ih]
theorem cmpS_eq (x y : ByteArray) : cmpS x y = cmpR x y := by
  unfold cmpS cmpR
  by_cases h : x.toList = y.toList
  · rw [h, bytesLess_irrefl]; simp
  · have h' : (x.toList == y.toList) = false := by simpa using h
    rw [h']
    cases Op.bytesLess x.toList y.toList <;> simp
theorem ordL_congr {α β : Type} (f g : α → β → Int) : (p : List α) → (q : List β) → (∀ a ∈ p, ∀ b ∈ q, f a b = g a b) → ordL f p q = ordL g p q
  | [], _, _ => by simp [ordL]
  | _ :: _, [], _ => by simp [ordL]
  | a :: p, b :: q, h => by
    simp only [ordL]
    rw [h a (by simp) b (by simp), ordL_congr f g p q (fun c hc e he => h c (by simp [hc]) e (by simp [he]))]
theorem ord_eq : (n : Nat) → (x : Tm n) → (m : Nat) → (y : Tm m) → (∀ a ∈ nodes n x, good a = true) → (∀ b ∈ nodes m y, good b = true) → ord n x m y = rord n x m y
  | 0, _, _, _, _, _ => by simp [ord, rord]
  | _ + 1, _, 0, _, _, _ => by simp [ord, rord]
  | n + 1, x, m + 1, y, hx, hy => by
    have gx := good_kind _ (hx (x.1, (x.2.1.1, x.2.2.length, x.2.1.2)) (by simp [nodes]))
    have gy := good_kind _ (hy (y.1, (y.2.1.1, y.2.2.length, y.2.1.2)) (by simp [nodes]))
    have hl := ordL_congr (fun a b => ord n a m b) (fun a b => rord n a m b) x.2.2 y.2.2 (fun a ha b hb => ord_eq n a m b (fun c hc => hx c (nodes_mem ha hc)) (fun c hc => hy c (nodes_mem hb hc)))
    simp only [ord, rord, hl]
    simp only at gx gy
    generalize ordL (fun a b => rord n a m b) x.2.2 y.2.2 = r
    rw [cmpS_eq]
    by_cases e : x.1.1 = y.1.1
    · rw [if_pos e, if_pos e]
      rcases gx with g | g | g | g | g | ⟨g, g0⟩
      · simp [g]
      · simp [g]
      · simp [g]
      · simp [g]
      · simp [g]
      · have gy0 : y.1.2.1 = 0 := by
          rcases gy with g' | g' | g' | g' | g' | ⟨_, g'⟩
          all_goals first | exact g' | omega
        simp [g, g0, gy0, cmpI]
    · rw [if_neg e, if_neg e]

set_option maxHeartbeats 400000 in
theorem orders_walk (w : World) (k u k' u' : Int) (s s' : ByteArray) (a a' : Option Addr) (l c l' c' : Nat) (r r' p q : Int)
    (HO : Hid (∀ w1, Below w.heap.size w w1 → Calls Try.prog 9 #[.agg #[.int .i64 k, .int .i64 u, .string s, .slice a l c], .agg #[.int .i64 k', .int .i64 u', .string s', .slice a' l' c']] w1 fun e w' => e = .returned (.int .i64 r) ∧ Below w1.heap.size w1 w'))
    (HP : Hid (∀ w1, Below w.heap.size w w1 → Calls Try.prog 10 #[.agg #[.int .i64 k, .int .i64 u, .string s, .slice a l c]] w1 fun e w' => e = .returned (.int .i64 p) ∧ Below w1.heap.size w1 w'))
    (HQ : Hid (∀ w1, Below w.heap.size w w1 → Calls Try.prog 10 #[.agg #[.int .i64 k', .int .i64 u', .string s', .slice a' l' c']] w1 fun e w' => e = .returned (.int .i64 q) ∧ Below w1.heap.size w1 w'))
    (HR : Hid (∀ w1, Below w.heap.size w w1 → Calls Try.prog 11 #[.agg #[.int .i64 k, .int .i64 u, .string s, .slice a l c], .agg #[.int .i64 k', .int .i64 u', .string s', .slice a' l' c']] w1 fun e w' => e = .returned (.int .i64 r') ∧ Below w1.heap.size w1 w'))
    (HE : Hid (p = 0 → q = 0 → r = r')) :
    Calls Try.prog 3 #[.agg #[.int .i64 k, .int .i64 u, .string s, .slice a l c], .agg #[.int .i64 k', .int .i64 u', .string s', .slice a' l' c']] w fun e w' => e = .returned (.bool true) ∧ Below w.heap.size w w' := by
  go_enter Try.func3, Try.ntmps3
  go_wp2_with fail
  refine (HO.out _ (((Below.refl _ _).alloc (Nat.le_refl _) _).alloc (by simp) _)).mono ?_
  rintro e w1 ⟨rfl, hb1⟩
  have HB1 : Hid (Below w.heap.size w w1 ∧ w.heap.size + 2 ≤ w1.heap.size) := ⟨(((Below.refl _ _).alloc (Nat.le_refl _) _).alloc (by simp) _).trans (hb1.mono (by simp; omega)), by have := hb1.size; simp at this; omega⟩
  have hcc := below_cells hb1
  simp only [World.size_alloc] at hcc
  have a0 := (hcc w.heap.size 0 (by omega)).trans (by simp [go_sem] : _ = some (Value.int .i64 k))
  have a1 := (hcc w.heap.size 1 (by omega)).trans (by simp [go_sem] : _ = some (Value.int .i64 u))
  have a2 := (hcc w.heap.size 2 (by omega)).trans (by simp [go_sem] : _ = some (Value.string s))
  have a3 := (hcc w.heap.size 3 (by omega)).trans (by simp [go_sem] : _ = some (Value.slice a l c))
  have d0 := (hcc (w.heap.size + 1) 0 (by omega)).trans (by simp [go_sem] : _ = some (Value.int .i64 k'))
  have d1 := (hcc (w.heap.size + 1) 1 (by omega)).trans (by simp [go_sem] : _ = some (Value.int .i64 u'))
  have d2 := (hcc (w.heap.size + 1) 2 (by omega)).trans (by simp [go_sem] : _ = some (Value.string s'))
  have d3 := (hcc (w.heap.size + 1) 3 (by omega)).trans (by simp [go_sem] : _ = some (Value.slice a' l' c'))
  clear hcc hb1
  go_wp2_with fail
  refine (HP.out _ HB1.out.1).mono ?_
  rintro e w2 ⟨rfl, hb2⟩
  have HB2 : Hid (Below w.heap.size w w2 ∧ w.heap.size + 2 ≤ w2.heap.size) := ⟨HB1.out.1.trans (hb2.mono HB1.out.1.size), by have := hb2.size; have := HB1.out.2; omega⟩
  by_cases hp : p = 0
  · have HP0 := hide hp
    have hp1 : (p != 0) = false := by simpa using hp
    clear hp
    have hcc := below_cells hb2
    have hz := HB1.out.2
    replace a0 := (hcc w.heap.size 0 (by omega)).trans a0
    replace a1 := (hcc w.heap.size 1 (by omega)).trans a1
    replace a2 := (hcc w.heap.size 2 (by omega)).trans a2
    replace a3 := (hcc w.heap.size 3 (by omega)).trans a3
    replace d0 := (hcc (w.heap.size + 1) 0 (by omega)).trans d0
    replace d1 := (hcc (w.heap.size + 1) 1 (by omega)).trans d1
    replace d2 := (hcc (w.heap.size + 1) 2 (by omega)).trans d2
    replace d3 := (hcc (w.heap.size + 1) 3 (by omega)).trans d3
    clear hcc hb2 hz
    go_wp2_with fail
    refine (HQ.out _ HB2.out.1).mono ?_
    rintro e w3 ⟨rfl, hb3⟩
    have HB3 : Hid (Below w.heap.size w w3 ∧ w.heap.size + 2 ≤ w3.heap.size) := ⟨HB2.out.1.trans (hb3.mono HB2.out.1.size), by have := hb3.size; have := HB2.out.2; omega⟩
    by_cases hq : q = 0
    · have hq1 : (q != 0) = false := by simpa using hq
      have HRR := hide (HE.out HP0.out hq)
      clear hq
      have hcc := below_cells hb3
      have hz := HB2.out.2
      replace a0 := (hcc w.heap.size 0 (by omega)).trans a0
      replace a1 := (hcc w.heap.size 1 (by omega)).trans a1
      replace a2 := (hcc w.heap.size 2 (by omega)).trans a2
      replace a3 := (hcc w.heap.size 3 (by omega)).trans a3
      replace d0 := (hcc (w.heap.size + 1) 0 (by omega)).trans d0
      replace d1 := (hcc (w.heap.size + 1) 1 (by omega)).trans d1
      replace d2 := (hcc (w.heap.size + 1) 2 (by omega)).trans d2
      replace d3 := (hcc (w.heap.size + 1) 3 (by omega)).trans d3
      clear hcc hb3 hz
      go_wp2_with fail
      refine (HR.out _ HB3.out.1).mono ?_
      rintro e w4 ⟨rfl, hb4⟩
      have HB4 : Hid (Below w.heap.size w w4) := HB3.out.1.trans (hb4.mono HB3.out.1.size)
      have hrr : (r == r') = true := by simpa using HRR.out
      go_wp2_with fail
      go_ret
      exact ⟨rfl, HB4.out⟩
    · have hq1 : (q != 0) = true := by simpa using hq
      clear hq
      go_wp2_with fail
      go_ret
      exact ⟨rfl, HB3.out.1⟩
  · have hp1 : (p != 0) = true := by simpa using hp
    clear hp
    go_wp2_with fail
    go_ret
    exact ⟨rfl, HB2.out.1⟩

theorem orders_any (n m : Nat) (x : Tm n) (y : Tm m) (B : Nat) (w : World) (hx : In B w n x) (hy : In B w m y) (hB : B ≤ w.heap.size) (hN : (nodes n x).length ≤ 2097152) (hM : (nodes m y).length ≤ 2097152) :
    Calls Try.prog 3 #[val n x, val m y] w fun e w' => e = .returned (.bool true) ∧ Below w.heap.size w w' := by
  cases n with
  | zero => exact hx.elim
  | succ n =>
  cases m with
  | zero => exact hy.elim
  | succ m =>
  exact orders_walk w x.1.1 x.1.2.1 y.1.1 y.1.2.1 x.1.2.2 y.1.2.2 x.2.1.1 y.2.1.1 x.2.2.length x.2.1.2 y.2.2.length y.2.1.2 (ord (n + 1) x (m + 1) y) (rord (n + 1) x (m + 1) y) (chk (n + 1) x) (chk (m + 1) y)
    (fun w1 hw => order_any (n + 1) x (m + 1) y B w1 (hx.below (hw.mono hB)) (hy.below (hw.mono hB)) (Nat.le_trans hB hw.size))
    (fun w1 hw => rcheck_any (n + 1) x B w1 (hx.below (hw.mono hB)) (Nat.le_trans hB hw.size) hN)
    (fun w1 hw => rcheck_any (m + 1) y B w1 (hy.below (hw.mono hB)) (Nat.le_trans hB hw.size) hM)
    (fun w1 hw => rorder_any (n + 1) x (m + 1) y B w1 (hx.below (hw.mono hB)) (hy.below (hw.mono hB)) (Nat.le_trans hB hw.size))
    (fun h0 h1 => ord_eq (n + 1) x (m + 1) y (chk_good (n + 1) x h0) (chk_good (m + 1) y h1))
end Go.Proofs.Ytpehdgbdinjbaaa
namespace Go.Proofs.Ytpehdgbdinjbaaa

/-- How much a term holds: its terms, and the letters of their names. -/
def wt : (n : Nat) → Tm n → Nat
  | 0, _ => 1
  | n + 1, x => 1 + x.1.2.2.size + (x.2.2.map fun y => wt n y).sum

theorem nodes_wt : (n : Nat) → (x : Tm n) → (nodes n x).length ≤ wt n x
  | 0, _ => by simp [nodes, wt]
  | n + 1, x => by
    have key : ∀ l : List (Tm n), (l.flatMap fun y => nodes n y).length ≤ (l.map fun y => wt n y).sum := by
      intro l
      induction l with
      | nil => simp
      | cons y l ih =>
        have := nodes_wt n y
        simp only [List.flatMap_cons, List.length_append, List.map_cons, List.sum_cons]
        omega
    have := key x.2.2
    simp only [nodes, wt, List.length_cons]
    omega
end Go.Proofs.Ytpehdgbdinjbaaa
namespace Go.Proofs.Ytpehdgbdinjbaaa
open Go.ChangeShapes Go.WideShapes Go.ChangeAt Go.RowKit

theorem own : ownKnob Try.prog.godebug = none := by kernel_rfl
theorem laidOut : laidOutB Try.prog = true := by kernel_rfl
theorem cellsTerm : Try.prog.cellsOf 24 = 4 := by kernel_rfl
theorem cellsInt : Try.prog.cellsOf 3 = 1 := by kernel_rfl
theorem cellsString : Try.prog.cellsOf 9 = 1 := by kernel_rfl
theorem cellsTerms : Try.prog.cellsOf 22 = 1 := by kernel_rfl

theorem list_of {α : Type} {P : Nat → α → Prop} : (len : Nat) → (∀ i, i < len → ∃ y, P i y) → ∃ l : List α, l.length = len ∧ ∀ i y, l[i]? = some y → P i y
  | 0, _ => ⟨[], rfl, fun i y h => by simp at h⟩
  | len + 1, h => by
    obtain ⟨l, hl, hp⟩ := list_of len (fun i hi => h i (by omega))
    obtain ⟨z, hz⟩ := h len (by omega)
    refine ⟨l ++ [z], by simp [hl], fun i y hy => ?_⟩
    by_cases hi : i < l.length
    · rw [List.getElem?_append_left hi] at hy
      exact hp i y hy
    · rw [List.getElem?_append_right (by omega)] at hy
      have h0 : i - l.length = 0 := by
        by_cases h0 : i - l.length = 0
        · exact h0
        · rw [List.getElem?_eq_none (by simp; omega)] at hy; cases hy
      rw [h0] at hy
      have e1 : z = y := by simpa using hy
      have e2 : i = len := by omega
      rw [e2, ← e1]
      exact hz

theorem wt_le {H : Type} {n : Nat} : (p : List (Tm n)) → (es : List (DataW H)) → (∀ (i : Nat) (y : Tm n) (e : DataW H), p[i]? = some y → es[i]? = some e → wt n y ≤ Rows.uptoBulk e) → p.length = es.length → (p.map fun y => wt n y).sum ≤ Rows.uptoBulkAll es
  | [], es, _, h => by simp
  | y :: p, [], _, h => by simp at h
  | y :: p, e :: es, hp, h => by
    have h0 := hp 0 y e (by simp) (by simp)
    have h1 := wt_le p es (fun i y' e' hy he => hp (i + 1) y' e' (by simpa using hy) (by simpa using he)) (by simpa using h)
    simp only [List.map_cons, List.sum_cons, Rows.uptoBulkAll]
    omega

theorem add_add (b o i j : Nat) : ((⟨b, o, none⟩ : Addr).add i).add j = ⟨b, o + i + j, none⟩ := by
  unfold Addr.add
  split <;> split <;> simp_all
theorem spot_none {w : World} {a : Addr} {v : Value} (h : w.cell? ((a.add 0).add 0) = some v) : a = ⟨a.block, a.off, none⟩ := by
  have e : (a.add 0).add 0 = a := rfl
  rw [e] at h
  unfold World.cell? at h
  split at h
  · split at h
    · cases h
    · rename_i hs
      cases a with
      | mk b o s => cases s with
        | none => rfl
        | some q => simp at hs
  · cases h

theorem wf64 {k : Int} (h : (Lit.int .i64 k).wf = true) : I64 k := by
  have : -9223372036854775808 ≤ k ∧ k ≤ 9223372036854775807 := by simpa [Lit.wf, IntKind.min, IntKind.max, IntKind.signed, IntKind.bits] using h
  exact this

set_option maxRecDepth 100000 in
theorem tree_of {H : Type} (enc : TypeId × Value → H) (w : World) (sp : Nat → Bool) : (n f : Nat) → f ≤ 2 * n + 1 → (cs : List Value) → (x : DataW H × List MemPlace) →
    DataW.trod enc Try.prog w 0 sp true f 24 cs = some x →
    ∃ t : Tm (n + 1), cs = [.int .i64 t.1.1, .int .i64 t.1.2.1, .string t.1.2.2, .slice t.2.1.1 t.2.2.length t.2.1.2] ∧ In w.heap.size w (n + 1) t ∧ wt (n + 1) t ≤ Rows.uptoBulk x.1 := by
  intro n
  induction n with
  | zero =>
    intro f hf cs x h
    obtain ⟨xs, m, rfl, rfl, hl, hx, hg⟩ := DataW.trod_struct Try.underlying24 h
    have h0 : DataW.trod enc Try.prog w 0 sp true m 3 ((cs.drop 0).take (Try.prog.cellsOf 3)) = xs[0]? := hg 0 _ rfl
    obtain rfl : m = 0 := by omega
    have hx' : xs.length = 4 := hx
    rw [List.getElem?_eq_getElem (by omega)] at h0
    cases h0
  | succ n ih =>
    intro f hf cs x h
    obtain ⟨xs, m, rfl, rfl, hl, hx, hg⟩ := DataW.trod_struct Try.underlying24 h
    have h0 : DataW.trod enc Try.prog w 0 sp true m 3 ((cs.drop 0).take (Try.prog.cellsOf 3)) = xs[0]? := hg 0 _ rfl
    have h1 : DataW.trod enc Try.prog w 0 sp true m 3 ((cs.drop 1).take (Try.prog.cellsOf 3)) = xs[1]? := hg 1 _ rfl
    have h2 : DataW.trod enc Try.prog w 0 sp true m 9 ((cs.drop 2).take (Try.prog.cellsOf 9)) = xs[2]? := hg 2 _ rfl
    have h3 : DataW.trod enc Try.prog w 0 sp true m 22 ((cs.drop 3).take (Try.prog.cellsOf 22)) = xs[3]? := hg 3 _ rfl
    rw [cellsInt] at h0 h1
    rw [cellsString] at h2
    rw [cellsTerms] at h3
    rw [cellsTerm] at hl
    obtain ⟨c0, c1, c2, c3, rfl⟩ : ∃ c0 c1 c2 c3, cs = [c0, c1, c2, c3] := by
      match cs, hl with
      | [c0, c1, c2, c3], _ => exact ⟨c0, c1, c2, c3, rfl⟩
    obtain ⟨y0, y1, y2, y3, rfl⟩ : ∃ y0 y1 y2 y3, xs = [y0, y1, y2, y3] := by
      match xs, hx with
      | [y0, y1, y2, y3], _ => exact ⟨y0, y1, y2, y3, rfl⟩
    obtain ⟨k, e0, z0, w0⟩ := DataW.trod_int Try.underlying3 (x := y0) (by simpa using h0)
    obtain ⟨u, e1, z1, w1⟩ := DataW.trod_int Try.underlying3 (x := y1) (by simpa using h1)
    obtain ⟨s, e2, z2, w2⟩ := DataW.trod_string Try.underlying9 (x := y2) (by simpa using h2)
    have h3' : DataW.trod enc Try.prog w 0 sp true m 22 [c3] = some y3 := by simpa using h3
    simp at e0 e1 e2
    subst e0 e1 e2 z0 z1 z2
    rcases DataW.trod_slice Try.underlying22 h3' with ⟨e3, rfl⟩ | ⟨a, len, cap, elems, rest, m', rfl, e3, rfl, _, hlc, hcm, hel, hat, _, _⟩
    · simp at e3
      subst e3
      refine ⟨((k, u, s), (none, 0), []), rfl, ⟨⟨wf64 w0, wf64 w1, w2, Nat.le_refl _, Nat.zero_le _⟩, Or.inl rfl⟩, ?_⟩
      have es : s.data.toList.length = s.size := by rw [Array.length_toList]; rfl
      simp only [wt, Rows.uptoBulk, Rows.uptoBulkAll, List.map_cons, List.map_nil, List.sum_nil]
      omega
    · simp at e3
      subst e3
      simp only [cellsTerm] at hat
      have key : ∀ i, i < len → ∃ t : Tm (n + 1), (∃ b o, a = ⟨b, o, none⟩ ∧ b < w.heap.size ∧ Held w b (o + i * 4) (n + 1) t) ∧ In w.heap.size w (n + 1) t ∧ ∀ e, (elems.map (·.1))[i]? = some e → wt (n + 1) t ≤ Rows.uptoBulk e := by
        intro i hi
        have hi' := hat i hi
        have hi0 := hat 0 (by omega)
        rw [List.getElem?_eq_getElem (by omega)] at hi' hi0
        obtain ⟨cs', hcs, htr⟩ := Option.bind_eq_some_iff.1 hi'
        obtain ⟨cs0, hcs0, htr0⟩ := Option.bind_eq_some_iff.1 hi0
        obtain ⟨_, hlen, hcell⟩ := World.cells?_some hcs
        obtain ⟨_, hlen0, hcell0⟩ := World.cells?_some hcs0
        obtain ⟨t, rfl, hin, hb⟩ := ih m' (by omega) cs' _ htr
        have ha := spot_none (w := w) (a := a) (v := cs0[0]'(by omega)) (by have := hcell0 0 (by omega); rw [List.getElem?_eq_getElem (by omega)] at this; simpa using this)
        have hadd : ∀ j, (a.add (i * 4)).add j = ⟨a.block, a.off + i * 4 + j, none⟩ := fun j => by
          have := add_add a.block a.off (i * 4) j
          rw [← ha] at this
          exact this
        have c0 := hcell 0 (by omega)
        have c1 := hcell 1 (by omega)
        have c2 := hcell 2 (by omega)
        have c3 := hcell 3 (by omega)
        rw [hadd] at c0 c1 c2 c3
        simp at c0 c1 c2 c3
        refine ⟨t, ⟨a.block, a.off, ha, World.block_lt_of_cell? w ⟨a.block, a.off + i * 4, none⟩ c0, c0, c1, c2, c3⟩, hin, fun e he => ?_⟩
        rw [List.getElem?_map, List.getElem?_eq_getElem (by omega)] at he
        have : (elems[i]).1 = e := by simpa using he
        rw [← this]
        exact hb
      obtain ⟨p, hpl, hp⟩ := list_of len key
      refine ⟨((k, u, s), (some a, cap), p), by simp [hpl], ⟨⟨wf64 w0, wf64 w1, w2, by simp only; omega, hcm⟩, ?_⟩, ?_⟩
      · rcases Nat.eq_zero_or_pos len with h | h
        · exact Or.inl (List.eq_nil_of_length_eq_zero (hpl.trans h))
        · obtain ⟨⟨b, o, rfl, hb, _⟩, _, _⟩ := hp 0 (p[0]'(by rw [hpl]; exact h)) (List.getElem?_eq_getElem (by rw [hpl]; exact h))
          refine Or.inr ⟨b, o, rfl, hb, fun i y hy => ?_⟩
          obtain ⟨⟨b', o', e, _, hh⟩, hin, _⟩ := hp i y hy
          simp at e
          obtain ⟨rfl, rfl⟩ := e
          exact ⟨hh, hin⟩
      · have hs := wt_le p (elems.map (·.1)) (fun i y e hy he => (hp i y hy).2.2 e he) (by simp; omega)
        have es : s.data.toList.length = s.size := by rw [Array.length_toList]; rfl
        simp only [wt, Rows.uptoBulk, Rows.uptoBulkAll, List.map_cons, List.map_nil] at hs ⊢
        omega

set_option maxRecDepth 100000 in
theorem open_term {H : Type} {enc : TypeId × Value → H} {W : World} {r : Reach} {b0 : Nat} {v : Value} {d : DataW H} {p : List MemPlace} (hv : Value.okWide Try.prog W r b0 24 v)
    (h : DataW.Trod enc Try.prog W 0 (fun _ => true) true 24 v d p) : ∃ n, ∃ t : Tm (n + 1), v = val (n + 1) t ∧ In W.heap.size W (n + 1) t ∧ wt (n + 1) t ≤ Rows.uptoBulk d := by
  obtain ⟨cs, rfl, _⟩ := okWide_struct Try.underlying24 hv
  obtain ⟨f, hf⟩ := h
  obtain ⟨t, e, hin, hb⟩ := tree_of enc W (fun _ => true) f f (by omega) _ _ hf
  refine ⟨f, t, ?_, hin, hb⟩
  have : cs = #[.int .i64 t.1.1, .int .i64 t.1.2.1, .string t.1.2.2, .slice t.2.1.1 t.2.2.length t.2.1.2] := by
    simp [Value.cells] at e
    exact Array.toList_inj.1 e
  rw [this]
  rfl
end Go.Proofs.Ytpehdgbdinjbaaa
