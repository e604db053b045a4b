/- What is proved here: the document's Same of two terms that lie in memory returns what the plain function same says, and turns no memory that was there. No condition but that the terms lie in memory. -/
import Derived.Test.YtfaoeccnhbcjgabTree
namespace Go.Proofs.Ytfaoeccnhbcjgab
open Go.RowKit

def sameL {α β : Type} (f : α → β → Bool) : List α → List β → Bool
  | [], [] => true
  | a :: p, b :: q => f a b && sameL f p q
  | _, _ => false
def same : (n : Nat) → Tm n → (m : Nat) → Tm m → Bool
  | n + 1, x, m + 1, y => x.1.1 == y.1.1 && x.1.2.1 == y.1.2.1 && x.1.2.2.toList == y.1.2.2.toList && sameL (fun a b => same n a m b) x.2.2 y.2.2
  | _, _, _, _ => false

theorem ret_same {a b : Bool} (h : a = b) : Ending.returned (.bool a) = .returned (.bool b) := by rw [h]
theorem sameL_drop {α β : Type} (f : α → β → Bool) (p : List α) (q : List β) (k : Nat) (a : α) (b : β) (ha : p[k]? = some a) (hb : q[k]? = some b) :
    sameL f (p.drop k) (q.drop k) = (f a b && sameL f (p.drop (k + 1)) (q.drop (k + 1))) := by
  obtain ⟨h1, e1⟩ := List.getElem?_eq_some_iff.1 ha
  obtain ⟨h2, e2⟩ := List.getElem?_eq_some_iff.1 hb
  rw [List.drop_eq_getElem_cons h1, List.drop_eq_getElem_cons h2, e1, e2]
  rfl
theorem sameL_ne {α β : Type} (f : α → β → Bool) : (p : List α) → (q : List β) → ¬ p.length = q.length → sameL f p q = false
  | [], [], h => by simp at h
  | [], _ :: _, _ => rfl
  | _ :: _, [], _ => rfl
  | a :: p, b :: q, h => by
    simp only [sameL]
    rw [sameL_ne f p q (by simpa using h)]
    simp

def FSame (n : Nat) : Prop := ∀ (x : Tm n) (m : Nat) (y : Tm m) (B : Nat) (w : World), In B w n x → In B w m y → B ≤ w.heap.size →
  Calls Try.prog 12 #[val n x, val m y] w fun e w' => e = .returned (.bool (same n x m y)) ∧ Below w.heap.size w w'

theorem equal_ne (p q : Nat) (a c : Option Addr) (pc qc : Nat) (w : World) (_hpc : p ≤ 9223372036854775807) (_hqc : q ≤ 9223372036854775807) (hl : ((p : Int) == (q : Int)) = false) :
    Calls Try.prog 57 #[.slice a p pc, .slice c q qc, .func (Fn.func 12) #[] #[]] w fun e w' => e = .returned (.bool false) ∧ w' = w := by
  have hl' : ((p : Int) != (q : Int)) = true := by simpa using hl
  go_enter Try.func57, Try.ntmps57
  go_wp2_with fail
  go_ret
  exact ⟨rfl, rfl⟩

theorem equal_nil (a c : Option Addr) (pc qc : Nat) (w : World) :
    Calls Try.prog 57 #[.slice a 0 pc, .slice c 0 qc, .func (Fn.func 12) #[] #[]] w fun e w' => e = .returned (.bool true) ∧ w' = w := by
  go_enter Try.func57, Try.ntmps57
  go_wp2_with fail
  go_loop [17] (fun i => i = .int .i64 0) (fun _ => 0)
  case atStart => rfl
  case round =>
    obtain rfl := hrel
    go_wp2_with fail
    go_ret
    exact ⟨rfl, rfl⟩

set_option maxHeartbeats 400000 in
theorem equal_eq (n m : Nat) (ih : FSame n) (p : List (Tm n)) (q : List (Tm m)) (len : Nat) (hpl : Hid (p.length = len)) (hql : Hid (q.length = len)) (pb po qb qo pc qc : Nat) (B : Nat) (w : World)
    (hlen : len ≤ 9223372036854775807) (hpb : pb < B) (hqb : qb < B)
    (hp : ∀ (i : Nat) (y : Tm n), p[i]? = some y → Held w pb (po + i * 4) n y ∧ In B w n y)
    (hq : ∀ (i : Nat) (y : Tm m), q[i]? = some y → Held w qb (qo + i * 4) m y ∧ In B w m y)
    (hB : B ≤ w.heap.size) :
    Calls Try.prog 57 #[.slice (some ⟨pb, po, none⟩) len pc, .slice (some ⟨qb, qo, none⟩) len qc, .func (Fn.func 12) #[] #[]] w fun e w' =>
      e = .returned (.bool (sameL (fun a b => same n a m b) p q)) ∧ Below w.heap.size w w' := by
  go_enter Try.func57, Try.ntmps57
  go_wp2_with fail
  go_loopw [17] (fun i wr => ∃ k : Nat, k ≤ len ∧ i = .int .i64 k ∧ Below w.heap.size w wr ∧ Hid (sameL (fun a b => same n a m b) (p.drop k) (q.drop k) = sameL (fun a b => same n a m b) p q)) (fun i _ => len - (intOf i).toNat)
  case atStart => exact ⟨0, by omega, rfl, Below.refl _ _, rfl⟩
  case round =>
    obtain ⟨k, hk, rfl, hb, hd⟩ := hrel
    by_cases hlt : k < len
    · obtain ⟨x, hx⟩ : ∃ x, p[k]? = some x := ⟨p[k]'(by rw [hpl.out]; exact hlt), List.getElem?_eq_getElem _⟩
      obtain ⟨y, hy⟩ : ∃ y, q[k]? = some y := ⟨q[k]'(by rw [hql.out]; exact hlt), List.getElem?_eq_getElem _⟩
      obtain ⟨hx1, hx2⟩ := hp k x hx
      obtain ⟨hy1, hy2⟩ := hq k y hy
      have HS := hide (sameL_drop (fun a b => same n a m b) p q k x y hx hy)
      replace hx1 := hx1.below (hb.mono hB) hpb
      replace hy1 := hy1.below (hb.mono hB) hqb
      replace hx2 := hx2.below (hb.mono hB)
      replace hy2 := hy2.below (hb.mono hB)
      clear hp hq hx hy
      cases n with
      | zero => exact hx1.elim
      | succ n =>
      cases m with
      | zero => exact hy1.elim
      | succ m =>
      obtain ⟨x0, x1, x2, x3⟩ := hx1
      obtain ⟨y0, y1, y2, y3⟩ := hy1
      have hB' : B ≤ wr.heap.size := Nat.le_trans hB hb.size
      have HC : Hid (∀ (w1 : World), Below wr.heap.size wr w1 → Calls Try.prog 12 #[.agg #[.int .i64 x.1.1, .int .i64 x.1.2.1, .string x.1.2.2, .slice x.2.1.1 x.2.2.length x.2.1.2], .agg #[.int .i64 y.1.1, .int .i64 y.1.2.1, .string y.1.2.2, .slice y.2.1.1 y.2.2.length y.2.1.2]] w1 fun e w' => e = .returned (.bool (same (n + 1) x (m + 1) y)) ∧ Below w1.heap.size w1 w') :=
        fun w1 h1 => ih x (m + 1) y B w1 (hx2.below (h1.mono hB')) (hy2.below (h1.mono hB')) (Nat.le_trans hB' h1.size)
      clear ih hx2 hy2
      replace HS : Hid (sameL (fun a b => same (n + 1) a (m + 1) b) (p.drop k) (q.drop k) = (same (n + 1) x (m + 1) y && sameL (fun a b => same (n + 1) a (m + 1) b) (p.drop (k + 1)) (q.drop (k + 1)))) := HS
      generalize same (n + 1) x (m + 1) y = r at *
      generalize x.2.2.length = xl at *
      generalize y.2.2.length = yl at *
      have hk1 : (0 : Int) ≤ (k : Int) := by omega
      have hk2 : (k : Int) < (len : Int) := by omega
      have hpw : pb < wr.heap.size := by omega
      have hqw : qb < wr.heap.size := by omega
      go_wp2_with fail
      refine (HC.out _ (((Below.refl _ _).alloc (Nat.le_refl _) _).alloc (by simp) _)).mono ?_
      rintro e w1 ⟨rfl, hb1⟩
      have hb2 : Below w.heap.size w w1 := (hb.trans ((((Below.refl _ _).alloc (Nat.le_refl _) _).alloc (by simp) _).mono hb.size)).trans (hb1.mono (by have := hb.size; simp; omega))
      clear hb1
      cases r with
      | true =>
        go_wp2_with fail
        go_roundw
        case rel => exact ⟨k + 1, by omega, by go_num, hb2, by rw [← hd.out, HS.out]; rfl⟩
        case measure => simp [intOf]; omega
      | false =>
        go_wp2_with fail
        go_ret
        exact ⟨ret_same (by rw [← hd.out, HS.out]; rfl), hb2⟩
    · go_wp2_with fail
      go_ret
      refine ⟨ret_same ?_, hb⟩
      rw [← hd.out, List.drop_eq_nil_of_le (by rw [hpl.out]; omega), List.drop_eq_nil_of_le (by rw [hql.out]; omega)]
      rfl

theorem sameTerms_any (n m : Nat) (ih : FSame n) (p : List (Tm n)) (q : List (Tm m)) (a c : Option Addr) (pc qc : Nat) (B : Nat) (w : World)
    (hp : p = [] ∨ ∃ b o, a = some ⟨b, o, none⟩ ∧ b < B ∧ ∀ (i : Nat) (y : Tm n), p[i]? = some y → Held w b (o + i * 4) n y ∧ In B w n y)
    (hq : q = [] ∨ ∃ b o, c = some ⟨b, o, none⟩ ∧ b < B ∧ ∀ (i : Nat) (y : Tm m), q[i]? = some y → Held w b (o + i * 4) m y ∧ In B w m y)
    (hpl : p.length ≤ 9223372036854775807) (hql : q.length ≤ 9223372036854775807) (hB : B ≤ w.heap.size) :
    Calls Try.prog 33 #[.slice a p.length pc, .slice c q.length qc] w fun e w' => e = .returned (.bool (sameL (fun a b => same n a m b) p q)) ∧ Below w.heap.size w w' := by
  have HE : Hid (Calls Try.prog 57 #[.slice a p.length pc, .slice c q.length qc, .func (Fn.func 12) #[] #[]] w fun e w' =>
      e = .returned (.bool (sameL (fun a b => same n a m b) p q)) ∧ Below w.heap.size w w') := by
    by_cases hl : p.length = q.length
    · rcases hp with hp | ⟨pb, po, rfl, hpb, hp⟩
      · subst hp
        have hq0 : q = [] := List.eq_nil_of_length_eq_zero hl.symm
        subst hq0
        refine (equal_nil a c pc qc w).mono ?_
        rintro e w' ⟨rfl, rfl⟩
        exact ⟨rfl, Below.refl _ _⟩
      · rcases hq with hq | ⟨qb, qo, rfl, hqb, hq⟩
        · subst hq
          have hp0 : p = [] := List.eq_nil_of_length_eq_zero hl
          subst hp0
          refine (equal_nil _ c pc qc w).mono ?_
          rintro e w' ⟨rfl, rfl⟩
          exact ⟨rfl, Below.refl _ _⟩
        · have h := equal_eq n m ih p q p.length rfl hl.symm pb po qb qo pc qc B w (by omega) hpb hqb hp hq hB
          rw [hl] at h
          rw [hl]
          exact h
    · rw [sameL_ne _ _ _ hl]
      refine (equal_ne p.length q.length a c pc qc w hpl hql (by simp; omega)).mono ?_
      rintro e w' ⟨rfl, rfl⟩
      exact ⟨rfl, Below.refl _ _⟩
  clear hp hq ih hpl hql hB
  generalize p.length = pl at *
  generalize q.length = ql at *
  generalize sameL (fun a b => same n a m b) p q = r at *
  go_enter Try.func33, Try.ntmps33
  go_wp2_with fail
  refine HE.out.mono ?_
  rintro e w1 ⟨rfl, hb1⟩
  go_wp2_with fail
  go_ret
  exact ⟨rfl, hb1⟩

set_option maxHeartbeats 400000 in
theorem same_walk (w : World) (k k' u u' : Int) (s s' : ByteArray) (a a' : Option Addr) (l l' c c' : Nat) (r : Bool)
    (H : Hid (∀ w1 : World, Below w.heap.size w w1 → Calls Try.prog 33 #[.slice a l c, .slice a' l' c'] w1 fun e w' => e = .returned (.bool r) ∧ Below w1.heap.size w1 w')) :
    Calls Try.prog 12 #[.agg #[.int .i64 k, .int .i64 u, .string s, .slice a l c], .agg #[.int .i64 k', .int .i64 u', .string s', .slice a' l' c']] w fun e w' => e = .returned (.bool (k == k' && u == u' && s.toList == s'.toList && r)) ∧ Below w.heap.size w w' := by
  cases h1 : k == k'
  · go_enter Try.func12, Try.ntmps12
    go_wp2_with fail
    go_ret
    exact ⟨rfl, ((Below.refl _ _).alloc (Nat.le_refl _) _).alloc (by simp) _⟩
  cases h2 : u == u'
  · go_enter Try.func12, Try.ntmps12
    go_wp2_with fail
    go_ret
    exact ⟨rfl, ((Below.refl _ _).alloc (Nat.le_refl _) _).alloc (by simp) _⟩
  cases h3 : s.toList == s'.toList
  · go_enter Try.func12, Try.ntmps12
    go_wp2_with fail
    go_ret
    exact ⟨rfl, ((Below.refl _ _).alloc (Nat.le_refl _) _).alloc (by simp) _⟩
  go_enter Try.func12, Try.ntmps12
  go_wp2_with fail
  refine (H.out _ (((Below.refl _ _).alloc (Nat.le_refl _) _).alloc (by simp) _)).mono ?_
  rintro e w1 ⟨rfl, hb1⟩
  go_wp2_with fail
  all_goals go_ret
  all_goals exact ⟨rfl, (((Below.refl _ _).alloc (Nat.le_refl _) _).alloc (by simp) _).trans (hb1.mono (by simp; omega))⟩

theorem same_any (n : Nat) : FSame n := by
  induction n with
  | zero => intro x m y B w hx; exact hx.elim
  | succ n ih =>
    intro x m y B w hx hy hB
    cases m with
    | zero => exact hy.elim
    | succ m =>
    obtain ⟨⟨k, u, s⟩, ⟨a, pc⟩, p⟩ := x
    obtain ⟨⟨k', u', s'⟩, ⟨a', qc⟩, q⟩ := y
    obtain ⟨⟨_, _, _, hpl, hpc⟩, hp⟩ := hx
    obtain ⟨⟨_, _, _, hql, hqc⟩, hq⟩ := hy
    simp only at hpl hpc hp hql hqc hq
    unfold maxLen at hpc hqc
    refine same_walk w k k' u u' s s' a a' p.length q.length pc qc _ (fun w1 hw => sameTerms_any n m ih p q a a' pc qc B w1 ?_ ?_ (by omega) (by omega) (Nat.le_trans hB hw.size))
    · rcases hp with hp | ⟨b, o, e, hb, hp⟩
      · exact Or.inl hp
      · exact Or.inr ⟨b, o, e, hb, fun i y hy => ⟨(hp i y hy).1.below (hw.mono hB) hb, (hp i y hy).2.below (hw.mono hB)⟩⟩
    · rcases hq with hq | ⟨b, o, e, hb, hq⟩
      · exact Or.inl hq
      · exact Or.inr ⟨b, o, e, hb, fun i y hy => ⟨(hq i y hy).1.below (hw.mono hB) hb, (hq i y hy).2.below (hw.mono hB)⟩⟩
end Go.Proofs.Ytfaoeccnhbcjgab
