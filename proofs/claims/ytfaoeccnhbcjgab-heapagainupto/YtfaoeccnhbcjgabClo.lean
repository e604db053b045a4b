/- What is proved here: term.Closed, and the document's Closed, of a term that lies in memory: both return whether no term in it is a variable or the wild one, and turn no memory that was there. Condition of the document's: at most 2097152 terms in it. -/
import Derived.Test.YtfaoeccnhbcjgabRSize
import Derived.Test.YtfaoeccnhbcjgabRChk0
namespace Go.Proofs.Ytfaoeccnhbcjgab
open Go.RowKit

/-- Neither a variable nor the wild one, by itself. -/
def shut (x : Nd) : Bool := !(x.1.1 == 5) && !(x.1.1 == 6)
def closedB (n : Nat) (x : Tm n) : Bool := (nodes n x).all shut
def closedT : (n : Nat) → Tm n → Bool
  | 0, _ => true
  | n + 1, x => !(x.1.1 == 5) && !(x.1.1 == 6) && x.2.2.all fun y => closedT n y
theorem closed_eq : (n : Nat) → (x : Tm n) → closedT n x = closedB n x
  | 0, _ => by simp [closedT, closedB, nodes, shut]
  | n + 1, x => by
    have key : ∀ l : List (Tm n), (l.all fun y => closedT n y) = (l.flatMap fun y => nodes n y).all shut := by
      intro l
      induction l with
      | nil => rfl
      | cons y l ih =>
        have := closed_eq n y
        unfold closedB at this
        simp only [List.all_cons, List.flatMap_cons, List.all_append, ih, this]
    show (!(x.1.1 == 5) && !(x.1.1 == 6) && x.2.2.all fun y => closedT n y) = (shut (x.1, (x.2.1.1, x.2.2.length, x.2.1.2)) && (x.2.2.flatMap fun y => nodes n y).all shut)
    rw [key]
    rfl

def FClo (n : Nat) : Prop := ∀ (x : Tm n) (B : Nat) (w : World), In B w n x → B ≤ w.heap.size →
  Calls Try.prog 42 #[val n x] w fun e w' => e = .returned (.bool (closedT n x)) ∧ Below w.heap.size w w'

set_option maxHeartbeats 400000 in
theorem closed_walk (n : Nat) (ih : FClo n) (k0 u0 : Int) (s : ByteArray) (a : Option Addr) (pc len : Nat) (p : List (Tm n)) (hpl : Hid (p.length = len)) (B : Nat) (w : World)
    (hp : Hid (p = [] ∨ ∃ b o, a = some ⟨b, o, none⟩ ∧ b < B ∧ ∀ (i : Nat) (y : Tm n), p[i]? = some y → Held w b (o + i * 4) n y ∧ In B w n y))
    (hlen : len ≤ 9223372036854775807) (hB : B ≤ w.heap.size) :
    Calls Try.prog 42 #[.agg #[.int .i64 k0, .int .i64 u0, .string s, .slice a len pc]] w fun e w' => e = .returned (.bool (!(k0 == 5) && !(k0 == 6) && p.all fun y => closedT n y)) ∧ Below w.heap.size w w' := by
  cases h5 : k0 == 5
  case true =>
    go_enter Try.func42, Try.ntmps42
    go_wp2_with fail
    go_ret
    exact ⟨ret_bool (by simp), (Below.refl _ _).alloc (Nat.le_refl _) _⟩
  cases h6 : k0 == 6
  case true =>
    go_enter Try.func42, Try.ntmps42
    go_wp2_with fail
    go_ret
    exact ⟨ret_bool (by simp), (Below.refl _ _).alloc (Nat.le_refl _) _⟩
  have e0 : (!false && !false && p.all fun y => closedT n y) = p.all fun y => closedT n y := by simp
  rw [e0]
  clear e0
  go_enter Try.func42, Try.ntmps42
  go_wp2_with fail
  go_loopw [16] (fun i wr => ∃ k : Nat, k ≤ len ∧ i = .int .i64 k ∧ Below w.heap.size w wr ∧ Hid (((p.drop k).all fun y => closedT n y) = p.all fun y => closedT n y)) (fun i _ => len - (intOf i).toNat)
  case atStart => exact ⟨0, by omega, rfl, (Below.refl _ _).alloc (Nat.le_refl _) _, rfl⟩
  case round =>
    obtain ⟨k, hk, rfl, hb, hd⟩ := hrel
    by_cases hlt : k < len
    · obtain ⟨x, hx⟩ : ∃ x, p[k]? = some x := ⟨p[k]'(by rw [hpl.out]; exact hlt), List.getElem?_eq_getElem _⟩
      have HS : Hid (((p.drop k).all fun y => closedT n y) = (closedT n x && (p.drop (k + 1)).all fun y => closedT n y)) := by
        obtain ⟨h1, e1⟩ := List.getElem?_eq_some_iff.1 hx
        rw [List.drop_eq_getElem_cons h1, e1]
        rfl
      rcases hp.out with hp | ⟨pb, po, rfl, hpb, hp⟩
      · subst hp; simp at hx
      obtain ⟨hx1, hx2⟩ := hp k x hx
      replace hx1 := hx1.below (hb.mono hB) hpb
      replace hx2 := hx2.below (hb.mono hB)
      clear hp hx
      cases n with
      | zero => exact hx1.elim
      | succ n =>
      obtain ⟨x0, x1, x2, x3⟩ := hx1
      have hB' : B ≤ wr.heap.size := Nat.le_trans hB hb.size
      have HC : Hid (∀ w1, Below wr.heap.size wr w1 → Calls Try.prog 42 #[.agg #[.int .i64 x.1.1, .int .i64 x.1.2.1, .string x.1.2.2, .slice x.2.1.1 x.2.2.length x.2.1.2]] w1 fun e w' => e = .returned (.bool (closedT (n + 1) x)) ∧ Below w1.heap.size w1 w') :=
        fun w1 h1 => ih x B w1 (hx2.below (h1.mono hB')) (Nat.le_trans hB' h1.size)
      clear ih hx2
      generalize x.2.2.length = xl at *
      generalize closedT (n + 1) x = r at *
      have hk1 : (0 : Int) ≤ (k : Int) := by omega
      have hk2 : (k : Int) < (len : Int) := by omega
      go_wp2_with fail
      refine (HC.out _ ((Below.refl _ _).alloc (Nat.le_refl _) _)).mono ?_
      rintro e w1 ⟨rfl, hb1⟩
      have hb2 : Below w.heap.size w w1 := (hb.trans (((Below.refl _ _).alloc (Nat.le_refl _) _).mono hb.size)).trans (hb1.mono (by have := hb.size; simp; omega))
      clear hb1
      cases r with
      | true =>
        go_wp2_with fail
        go_roundw
        case rel => exact ⟨k + 1, by omega, by go_num, hb2, by rw [← hd.out, HS.out]; rfl⟩
        case measure => simp [intOf]; omega
      | false =>
        go_wp2_with fail
        go_ret
        exact ⟨ret_bool (by rw [← hd.out, HS.out]; rfl), hb2⟩
    · go_wp2_with fail
      go_ret
      refine ⟨ret_bool ?_, hb⟩
      rw [← hd.out, List.drop_eq_nil_of_le (by rw [hpl.out]; omega)]
      rfl

theorem closed_any (n : Nat) : FClo n := by
  induction n with
  | zero => intro x B w hx; exact hx.elim
  | succ n ih =>
    intro x B w hx hB
    obtain ⟨⟨k, u, s⟩, ⟨a, pc⟩, p⟩ := x
    obtain ⟨⟨_, _, _, hpl, hpc⟩, hp⟩ := hx
    simp only at hpl hpc hp
    unfold maxLen at hpc
    exact closed_walk n ih k u s a pc p.length p rfl B w hp (by omega) hB

set_option maxHeartbeats 1000000 in
theorem rclosed_walk (w : World) (c0 c1 : Int) (c2 : ByteArray) (xa : Option Addr) (xl xc : Nat) (N : List Nd) (D : List Int) (L : Nat) (HL : Hid (N.length = L)) (hL : L ≤ 2097152)
    (HALL : Hid (∀ w1, Below w.heap.size w w1 → Calls Try.prog 38 #[.agg #[.int .i64 c0, .int .i64 c1, .string c2, .slice xa xl xc], .int .i64 0] w1 fun e w' =>
      ∃ g c h c', e = .returned (.tuple #[.slice (some ⟨g, 0, none⟩) L c, .slice (some ⟨h, 0, none⟩) L c']) ∧
        Hid (g ≠ h ∧ Below w1.heap.size w1 w' ∧ w'.ownsRow w1.heap.size 24 4 (.slice (some ⟨g, 0, none⟩) L c) L (ndCells N) ∧ w'.ownsRow w1.heap.size 3 1 (.slice (some ⟨h, 0, none⟩) L c') L (ints D)))) :
    Calls Try.prog 30 #[.agg #[.int .i64 c0, .int .i64 c1, .string c2, .slice xa xl xc]] w fun e w' => e = .returned (.bool (N.all shut)) ∧ Below w.heap.size w w' := by
  go_enter Try.func30, Try.ntmps30
  go_wp2_with fail
  refine (HALL.out _ ((Below.refl _ _).alloc (Nat.le_refl _) _)).mono ?_
  rintro e w1 ⟨g, c, h, c', rfl, HO⟩
  have HB1 : Hid (Below w.heap.size w w1) := ((Below.refl _ _).alloc (Nat.le_refl _) _).trans (HO.out.2.1.mono (by simp))
  have HOW := hide HO.out.2.2.1
  clear HO
  go_wp2_with fail
  go_loop [5] (fun i => ∃ k : Nat, k ≤ L ∧ i = .int .i64 k ∧ Hid ((N.drop k).all shut = N.all shut)) (fun i => L - (intOf i).toNat)
  case atStart => exact ⟨0, by omega, rfl, rfl⟩
  case round =>
    obtain ⟨k, hk, rfl, HD⟩ := hrel
    by_cases hlt : k < L
    · obtain ⟨x, hx⟩ : ∃ x, N[k]? = some x := ⟨N[k]'(by rw [HL.out]; exact hlt), List.getElem?_eq_getElem _⟩
      have HS : Hid ((N.drop k).all shut = (shut x && (N.drop (k + 1)).all shut)) := by
        obtain ⟨h1, e1⟩ := List.getElem?_eq_some_iff.1 hx
        rw [List.drop_eq_getElem_cons h1, e1]
        rfl
      obtain ⟨x0, _, _, _⟩ := own_nd HOW.out k x hx
      obtain ⟨⟨kk, uu, ss⟩, ⟨aa, ll, cc⟩⟩ := x
      simp only at x0
      clear hx
      have hk1 : (0 : Int) ≤ (k : Int) := by omega
      have hk2 : (k : Int) < (L : Int) := by omega
      cases h5 : kk == 5
      case true =>
        have HX : Hid (shut ((kk, uu, ss), (aa, ll, cc)) = false) := by simp [Hid, shut, h5]
        go_wp2_with fail
        go_ret
        exact ⟨ret_bool (by rw [← HD.out, HS.out, HX.out]; rfl), HB1.out⟩
      cases h6 : kk == 6
      case true =>
        have HX : Hid (shut ((kk, uu, ss), (aa, ll, cc)) = false) := by simp [Hid, shut, h6]
        go_wp2_with fail
        go_ret
        exact ⟨ret_bool (by rw [← HD.out, HS.out, HX.out]; rfl), HB1.out⟩
      have HX : Hid (shut ((kk, uu, ss), (aa, ll, cc)) = true) := by simp [Hid, shut, h5, h6]
      go_wp2_with fail
      go_round
      case rel => exact ⟨k + 1, by omega, by go_num, by simp only [Hid]; rw [← HD.out, HS.out, HX.out]; rfl⟩
      case measure => simp [intOf]; omega
    · go_wp2_with fail
      go_ret
      refine ⟨ret_bool ?_, HB1.out⟩
      rw [← HD.out, List.drop_eq_nil_of_le (by rw [HL.out]; omega)]
      rfl

theorem rclosed_any (n : Nat) (x : Tm n) (B : Nat) (w : World) (hx : In B w n x) (hB : B ≤ w.heap.size) (hN : (nodes n x).length ≤ 2097152) :
    Calls Try.prog 30 #[val n x] w fun e w' => e = .returned (.bool (closedB n x)) ∧ Below w.heap.size w w' := by
  cases n with
  | zero => exact hx.elim
  | succ n =>
  exact rclosed_walk w x.1.1 x.1.2.1 x.1.2.2 x.2.1.1 x.2.2.length x.2.1.2 (nodes (n + 1) x) (deeps (n + 1) x 0) (nodes (n + 1) x).length rfl hN
    (fun w1 hw => all_any (n + 1) x 0 B w1 (hx.below (hw.mono hB)) (Nat.le_trans hB hw.size) (by omega) (by omega))
end Go.Proofs.Ytfaoeccnhbcjgab
