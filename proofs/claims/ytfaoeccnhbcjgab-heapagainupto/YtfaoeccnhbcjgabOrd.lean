/- What is proved here: term.Order of two terms that lie in memory returns what the plain function ord says of them, and turns no memory that was there; likewise orderArgs of two lists. No condition but that the terms lie in memory. -/
import Derived.Test.YtfaoeccnhbcjgabCmp
import Derived.Deep.RegionHeld3
import Derived.Deep.DrawnRows
namespace Go.Proofs.Ytfaoeccnhbcjgab
open Go.RowKit
attribute [local go_sem ↓] Go.wp_at_zero Go.wp_at_succ

/-- The value of a tree, its parts named. -/
def agg (k u : Int) (s : ByteArray) (a : Option Addr) (l c : Nat) : Value := .agg #[.int .i64 k, .int .i64 u, .string s, .slice a l c]

def F5 (n : Nat) : Prop := ∀ (x : Tm n) (m : Nat) (y : Tm m) (B : Nat) (w : World), In B w n x → In B w m y → B ≤ w.heap.size →
  Calls Try.prog 8 #[val n x, val m y] w fun e w' => e = .returned (.int .i64 (ord n x m y)) ∧ Below w.heap.size w w'

theorem args_ne (p q : Nat) (a c : Option Addr) (pc qc : Nat) (w : World) (_hpc : p ≤ 9223372036854775807) (_hqc : q ≤ 9223372036854775807) (hl : ((p : Int) == (q : Int)) = false) :
    Calls Try.prog 37 #[.slice a p pc, .slice c q qc] w fun e w' => e = .returned (.int .i64 (cmpI p q)) ∧ w' = w := by
  have hl' : ((p : Int) != (q : Int)) = true := by simpa using hl
  go_enter Try.func37, Try.ntmps37
  go_wp2_with (go_at_call 35; refine (cmpI_any _ _ _).mono ?_; rintro e w' ⟨rfl, rfl⟩)
  go_ret
  exact ⟨rfl, rfl⟩

set_option maxHeartbeats 400000 in
theorem args_eq (n m : Nat) (ih : F5 n) (p : List (Tm n)) (q : List (Tm m)) (len : Nat) (hpl : Hid (p.length = len)) (hql : Hid (q.length = len)) (pb po qb qo pc qc : Nat) (B : Nat) (w : World)
    (hlen : len ≤ 9223372036854775807) (hpb : pb < B) (hqb : qb < B)
    (hp : ∀ (i : Nat) (y : Tm n), p[i]? = some y → Held w pb (po + i * 4) n y ∧ In B w n y)
    (hq : ∀ (i : Nat) (y : Tm m), q[i]? = some y → Held w qb (qo + i * 4) m y ∧ In B w m y)
    (hB : B ≤ w.heap.size) :
    Calls Try.prog 37 #[.slice (some ⟨pb, po, none⟩) len pc, .slice (some ⟨qb, qo, none⟩) len qc] w fun e w' =>
      e = .returned (.int .i64 (ordL (fun a b => ord n a m b) p q)) ∧ Below w.heap.size w w' := by
  go_enter Try.func37, Try.ntmps37
  go_wp2_with fail
  go_loopw [19] (fun i wr => ∃ k : Nat, k ≤ len ∧ i = .int .i64 k ∧ Below w.heap.size w wr ∧ Hid (ordL (fun a b => ord n a m b) (p.drop k) (q.drop k) = ordL (fun a b => ord n a m b) p q)) (fun i _ => len - (intOf i).toNat)
  case atStart => exact ⟨0, by omega, rfl, Below.refl _ _, rfl⟩
  case round =>
    obtain ⟨k, hk, rfl, hb, hd⟩ := hrel
    by_cases hlt : k < len
    · obtain ⟨x, hx⟩ : ∃ x, p[k]? = some x := ⟨p[k]'(by rw [hpl.out]; exact hlt), List.getElem?_eq_getElem _⟩
      obtain ⟨y, hy⟩ : ∃ y, q[k]? = some y := ⟨q[k]'(by rw [hql.out]; exact hlt), List.getElem?_eq_getElem _⟩
      obtain ⟨hx1, hx2⟩ := hp k x hx
      obtain ⟨hy1, hy2⟩ := hq k y hy
      have HS : Hid (ordL (fun a b => ord n a m b) (p.drop k) (q.drop k) = if ord n x m y = 0 then ordL (fun a b => ord n a m b) (p.drop (k + 1)) (q.drop (k + 1)) else ord n x m y) := ordL_drop (fun a b => ord n a m b) p q k x y hx hy
      replace hx1 := hx1.below (hb.mono hB) hpb
      replace hy1 := hy1.below (hb.mono hB) hqb
      replace hx2 := hx2.below (hb.mono hB)
      replace hy2 := hy2.below (hb.mono hB)
      clear hp hq hx hy
      cases n with
      | zero => exact hx1.elim
      | succ n =>
      cases m with
      | zero => exact hy1.elim
      | succ m =>
      obtain ⟨x0, x1, x2, x3⟩ := hx1
      obtain ⟨y0, y1, y2, y3⟩ := hy1
      have hc : ∀ (w1 : World), In B w1 (n + 1) x → In B w1 (m + 1) y → B ≤ w1.heap.size → Calls Try.prog 8 #[.agg #[.int .i64 x.1.1, .int .i64 x.1.2.1, .string x.1.2.2, .slice x.2.1.1 x.2.2.length x.2.1.2], .agg #[.int .i64 y.1.1, .int .i64 y.1.2.1, .string y.1.2.2, .slice y.2.1.1 y.2.2.length y.2.1.2]] w1 fun e w' => e = .returned (.int .i64 (ord (n + 1) x (m + 1) y)) ∧ Below w1.heap.size w1 w' := fun w1 h1 h2 h3 => ih x (m + 1) y B w1 h1 h2 h3
      have HC := hide hc
      clear hc ih
      have HX := hide hx2
      have HY := hide hy2
      clear hx2 hy2
      generalize ord (n + 1) x (m + 1) y = r at *
      generalize x.2.2.length = xl at *
      generalize y.2.2.length = yl at *
      have hk1 : (0 : Int) ≤ (k : Int) := by omega
      have hk2 : (k : Int) < (len : Int) := by omega
      have hB' : B ≤ wr.heap.size := Nat.le_trans hB hb.size
      have HCD := hide (HC.out wr.drew (HX.out.below (Below.refl _ _).drew) (HY.out.below (Below.refl _ _).drew) hB')
      have hpw : pb < wr.heap.size := by omega
      have hqw : qb < wr.heap.size := by omega
      clear HC HX HY
      go_wp2_with fail
      go_region_held3 (fun w' => w'.cell? ⟨pb, po + k * 4, none⟩ = some (.int .i64 x.1.1) ∧ w'.cell? ⟨pb, po + k * 4 + 1, none⟩ = some (.int .i64 x.1.2.1) ∧ w'.cell? ⟨pb, po + k * 4 + 2, none⟩ = some (.string x.1.2.2) ∧ w'.cell? ⟨pb, po + k * 4 + 3, none⟩ = some (.slice x.2.1.1 xl x.2.1.2)
          ∧ w'.cell? ⟨qb, qo + k * 4, none⟩ = some (.int .i64 y.1.1) ∧ w'.cell? ⟨qb, qo + k * 4 + 1, none⟩ = some (.int .i64 y.1.2.1) ∧ w'.cell? ⟨qb, qo + k * 4 + 2, none⟩ = some (.string y.1.2.2) ∧ w'.cell? ⟨qb, qo + k * 4 + 3, none⟩ = some (.slice y.2.1.1 yl y.2.1.2))
        (go_keep) ((go_at_call 8; refine HCD.out.mono ?_; rintro e w1 ⟨rfl, hb1⟩; have hcc := below_cells (below_undrew hb1)))
      have hb2 : Below w.heap.size w w1 := hb.trans ((below_undrew hb1).mono hb.size)
      by_cases hr : r = 0
      · have HR : Hid (r = 0) := hr
        have hr1 : (r != 0) = false := by rw [hr]; rfl
        clear hr
        go_wp2_with fail
        go_roundw
        case rel => exact ⟨k + 1, by omega, by go_num, hb2, by rw [← hd.out, HS.out, if_pos HR.out]; rfl⟩
        case measure => simp [intOf]; omega
      · have HR : Hid (¬ r = 0) := hr
        have hr1 : (r != 0) = true := by simpa using hr
        clear hr
        go_wp2_with fail
        go_ret
        exact ⟨ret_int (by rw [← hd.out, HS.out, if_neg HR.out]), hb2⟩
    · go_wp2_with fail
      go_ret
      refine ⟨ret_int ?_, hb⟩
      rw [← hd.out, List.drop_eq_nil_of_le (by rw [hpl.out]; omega)]
      rfl

theorem args_nil (n m : Nat) (a c : Option Addr) (pc qc : Nat) (w : World) :
    Calls Try.prog 37 #[.slice a ([] : List (Tm n)).length pc, .slice c ([] : List (Tm m)).length qc] w fun e w' => e = .returned (.int .i64 (ordL (fun a b => ord n a m b) [] [])) ∧ Below w.heap.size w w' := by
  show Calls Try.prog 37 #[.slice a 0 pc, .slice c 0 qc] w fun e w' => e = .returned (.int .i64 0) ∧ Below w.heap.size w w'
  go_enter Try.func37, Try.ntmps37
  go_wp2_with fail
  go_loop [19] (fun i => i = .int .i64 0) (fun _ => 0)
  case atStart => rfl
  case round =>
    obtain rfl := hrel
    go_wp2_with fail
    go_ret
    exact ⟨rfl, Below.refl _ _⟩

theorem order_kind (w : World) (k k' u u' : Int) (s s' : ByteArray) (a a' : Option Addr) (pl ql pc qc : Nat) (e : ¬ k = k') :
    Calls Try.prog 8 #[.agg #[.int .i64 k, .int .i64 u, .string s, .slice a pl pc], .agg #[.int .i64 k', .int .i64 u', .string s', .slice a' ql qc]] w fun e w' => e = .returned (.int .i64 (cmpI k k')) ∧ Below w.heap.size w w' := by
  have hk : (k != k') = true := by simpa using e
  clear e
  go_enter Try.func8, Try.ntmps8
  go_wp2_with (go_at_call 35; refine (cmpI_any _ _ _).mono ?_; rintro e w' ⟨rfl, rfl⟩)
  go_ret
  exact ⟨rfl, ((Below.refl _ _).alloc (Nat.le_refl _) _).alloc (by simp) _⟩

theorem order_int (w : World) (k u u' : Int) (s s' : ByteArray) (a a' : Option Addr) (pl ql pc qc : Nat) (r : Int) (h : k = 1 ∨ k = 3 ∨ k = 5) :
    Calls Try.prog 8 #[.agg #[.int .i64 k, .int .i64 u, .string s, .slice a pl pc], .agg #[.int .i64 k, .int .i64 u', .string s', .slice a' ql qc]] w fun e w' => e = .returned (.int .i64 (if k = 1 ∨ k = 3 ∨ k = 5 then cmpI u u' else if k = 2 then cmpS s s' else if k = 4 then r else 0)) ∧ Below w.heap.size w w' := by
  rw [if_pos h]
  rcases h with rfl | rfl | rfl
  all_goals
    go_enter Try.func8, Try.ntmps8
    go_wp2_with (go_at_call 35; refine (cmpI_any _ _ _).mono ?_; rintro e w' ⟨rfl, rfl⟩)
    go_ret
    exact ⟨rfl, ((Below.refl _ _).alloc (Nat.le_refl _) _).alloc (by simp) _⟩

theorem order_str (w : World) (u u' : Int) (s s' : ByteArray) (a a' : Option Addr) (pl ql pc qc : Nat) :
    Calls Try.prog 8 #[.agg #[.int .i64 2, .int .i64 u, .string s, .slice a pl pc], .agg #[.int .i64 2, .int .i64 u', .string s', .slice a' ql qc]] w fun e w' => e = .returned (.int .i64 (cmpS s s')) ∧ Below w.heap.size w w' := by
  go_enter Try.func8, Try.ntmps8
  go_wp2_with (go_at_call 36; refine (cmpS_any _ _ _).mono ?_; rintro e w' ⟨rfl, rfl⟩)
  go_ret
  exact ⟨rfl, ((Below.refl _ _).alloc (Nat.le_refl _) _).alloc (by simp) _⟩

theorem order_else (w : World) (k u u' : Int) (s s' : ByteArray) (a a' : Option Addr) (pl ql pc qc : Nat) (e1 : ¬ k = 1) (e2 : ¬ k = 2) (e3 : ¬ k = 3) (e4 : ¬ k = 4) (e5 : ¬ k = 5) :
    Calls Try.prog 8 #[.agg #[.int .i64 k, .int .i64 u, .string s, .slice a pl pc], .agg #[.int .i64 k, .int .i64 u', .string s', .slice a' ql qc]] w fun e w' => e = .returned (.int .i64 0) ∧ Below w.heap.size w w' := by
  have h1 : (k == 1) = false := by simpa using e1
  have h2 : (k == 2) = false := by simpa using e2
  have h3 : (k == 3) = false := by simpa using e3
  have h4 : (k == 4) = false := by simpa using e4
  have h5 : (k == 5) = false := by simpa using e5
  clear e1 e2 e3 e4 e5
  go_enter Try.func8, Try.ntmps8
  go_wp2_with fail
  go_ret
  exact ⟨rfl, ((Below.refl _ _).alloc (Nat.le_refl _) _).alloc (by simp) _⟩

theorem order_tup (w : World) (u u' : Int) (s s' : ByteArray) (a a' : Option Addr) (pl ql pc qc : Nat) (r : Int)
    (h : ∀ w1 : World, Below w.heap.size w w1 → Calls Try.prog 37 #[.slice a pl pc, .slice a' ql qc] w1 fun e w' => e = .returned (.int .i64 r) ∧ Below w1.heap.size w1 w') :
    Calls Try.prog 8 #[.agg #[.int .i64 4, .int .i64 u, .string s, .slice a pl pc], .agg #[.int .i64 4, .int .i64 u', .string s', .slice a' ql qc]] w fun e w' => e = .returned (.int .i64 r) ∧ Below w.heap.size w w' := by
  have H := hide h
  clear h
  go_enter Try.func8, Try.ntmps8
  go_wp2_with fail
  refine (H.out _ (((Below.refl _ _).alloc (Nat.le_refl _) _).alloc (by simp) _)).mono ?_
  rintro e w' ⟨rfl, hb⟩
  go_wp2_with fail
  go_ret
  exact ⟨rfl, (((Below.refl _ _).alloc (Nat.le_refl _) _).alloc (by simp) _).trans (hb.mono (by simp; omega))⟩

set_option maxHeartbeats 400000 in
theorem order_any (n : Nat) : F5 n := by
  induction n with
  | zero => intro x m y B w hx; exact hx.elim
  | succ n ih =>
    intro x m y B w hx hy hB
    cases m with
    | zero => exact hy.elim
    | succ m =>
    obtain ⟨⟨k, u, s⟩, ⟨a, pc⟩, p⟩ := x
    obtain ⟨⟨k', u', s'⟩, ⟨a', qc⟩, q⟩ := y
    obtain ⟨⟨hk, hu, hs, hpl, hpc⟩, hp⟩ := hx
    obtain ⟨⟨hk', hu', hs', hql, hqc⟩, hq⟩ := hy
    simp only at hk hu hs hpl hpc hp hk' hu' hs' hql hqc hq
    show Calls Try.prog 8 #[.agg #[.int .i64 k, .int .i64 u, .string s, .slice a p.length pc], .agg #[.int .i64 k', .int .i64 u', .string s', .slice a' q.length qc]] w fun e w' => e = .returned (.int .i64 (if k = k' then
      if k = 1 ∨ k = 3 ∨ k = 5 then cmpI u u' else if k = 2 then cmpS s s' else if k = 4 then if p.length = q.length then ordL (fun a b => ord n a m b) p q else cmpI p.length q.length
      else 0 else cmpI k k')) ∧ Below w.heap.size w w'
    have hargs : ∀ w1 : World, Below w.heap.size w w1 → Calls Try.prog 37 #[.slice a p.length pc, .slice a' q.length qc] w1 fun e w' => e = .returned (.int .i64 (if p.length = q.length then ordL (fun a b => ord n a m b) p q else cmpI p.length q.length)) ∧ Below w1.heap.size w1 w' := by
      intro w1 hw
      unfold maxLen at hpc hqc
      by_cases hl : p.length = q.length
      · rw [if_pos hl]
        rcases hp with hp | ⟨pb, po, rfl, hpb, hp⟩
        · subst hp
          have hq0 : q = [] := List.eq_nil_of_length_eq_zero hl.symm
          subst hq0
          exact args_nil n m a a' pc qc w1
        · rcases hq with hq | ⟨qb, qo, rfl, hqb, hq⟩
          · subst hq
            have hp0 : p = [] := List.eq_nil_of_length_eq_zero hl
            subst hp0
            exact args_nil n m _ a' pc qc w1
          · have h := args_eq n m ih p q p.length rfl hl.symm pb po qb qo pc qc B w1 (by omega) hpb hqb (fun i y hy => ⟨(hp i y hy).1.below (hw.mono hB) hpb, (hp i y hy).2.below (hw.mono hB)⟩)
              (fun i y hy => ⟨(hq i y hy).1.below (hw.mono hB) hqb, (hq i y hy).2.below (hw.mono hB)⟩) (Nat.le_trans hB hw.size)
            rw [hl] at h
            rw [hl]
            exact h
      · rw [if_neg hl]
        refine (args_ne p.length q.length a a' pc qc w1 (by omega) (by omega) (by simp; omega)).mono ?_
        rintro e w' ⟨rfl, rfl⟩
        exact ⟨rfl, Below.refl _ _⟩
    generalize (if p.length = q.length then ordL (fun a b => ord n a m b) p q else cmpI p.length q.length) = r at *
    clear hp hq ih hpl hpc hql hqc hs hs' hB
    generalize p.length = pl at *
    generalize q.length = ql at *
    obtain ⟨hk1, hk2⟩ := hk
    obtain ⟨hk1', hk2'⟩ := hk'
    by_cases e : k = k'
    · subst e
      rw [if_pos rfl]
      by_cases e1 : k = 1
      · subst e1
        exact order_int w 1 u u' s s' a a' pl ql pc qc r (Or.inl rfl)
      by_cases e3 : k = 3
      · subst e3
        exact order_int w 3 u u' s s' a a' pl ql pc qc r (Or.inr (Or.inl rfl))
      by_cases e5 : k = 5
      · subst e5
        exact order_int w 5 u u' s s' a a' pl ql pc qc r (Or.inr (Or.inr rfl))
      rw [if_neg (by omega)]
      by_cases e2 : k = 2
      · subst e2
        exact order_str w u u' s s' a a' pl ql pc qc
      rw [if_neg e2]
      by_cases e4 : k = 4
      · subst e4
        exact order_tup w u u' s s' a a' pl ql pc qc r hargs
      rw [if_neg e4]
      exact order_else w k u u' s s' a a' pl ql pc qc e1 e2 e3 e4 e5
    · rw [if_neg e]
      exact order_kind w k k' u u' s s' a a' pl ql pc qc e
end Go.Proofs.Ytfaoeccnhbcjgab
