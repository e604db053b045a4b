/- What is proved here: plain facts and contracts that the claimed theorem stands on, several texts in one: the document's In, Name and Size: In tells whether a number lies between two others; Name tells whether a text is 1 to 8 small letters; Size of a term that lies in memory is the plain function sz. Size's condition: at most 2097152 terms in it. plain facts on the document's Check as a function of the list of all terms in a term. No condition. -/
import Derived.Test.YtpehdgbdinjbaaaDoorG02
namespace Go.Proofs.YtpehdgbdinjbaaaDoor
open Go.RowKit

def inB (n lo hi : Int) : Bool := decide (lo ≤ n) && decide (n ≤ hi)
def lowB (c : UInt8) : Bool := decide (97 ≤ (c.toNat : Int)) && decide ((c.toNat : Int) ≤ 122)
def lowsB (l : List UInt8) : Bool := l.all lowB
def nameB (s : ByteArray) : Bool := inB s.size 1 8 && lowsB s.data.toList

theorem ret_bool {a b : Bool} (h : a = b) : Ending.returned (.bool a) = .returned (.bool b) := by rw [h]

theorem in_any (n lo hi : Int) (w : World) :
    Calls Tryd.prog 13 #[.int .i64 n, .int .i64 lo, .int .i64 hi] w fun e w' => e = .returned (.bool (inB n lo hi)) ∧ w' = w := by
  go_enter Tryd.func13, Tryd.ntmps13
  by_cases h1 : lo ≤ n
  · by_cases h2 : n ≤ hi
    · go_wp2
      all_goals go_ret
      all_goals exact ⟨ret_bool (by simp [inB, h1, h2]), rfl⟩
    · go_wp2
      all_goals go_ret
      all_goals exact ⟨ret_bool (by simp [inB, h1, h2]), rfl⟩
  · go_wp2
    all_goals go_ret
    all_goals exact ⟨ret_bool (by simp [inB]; omega), rfl⟩

theorem take_snoc (s : ByteArray) (k : Nat) (h : k < s.size) : s.data.toList.take (k + 1) = s.data.toList.take k ++ [s[k]] := by
  rw [List.take_succ_eq_append_getElem (by simpa using h)]; rfl
theorem lowsB_snoc (s : ByteArray) (k : Nat) (h : k < s.size) : lowsB (s.data.toList.take (k + 1)) = (lowsB (s.data.toList.take k) && lowB s[k]) := by
  rw [take_snoc s k h]; simp [lowsB]

set_option maxHeartbeats 400000 in
theorem name_any (s : ByteArray) (w : World) (hs : s.size ≤ 9223372036854775807) :
    Calls Tryd.prog 14 #[.string s] w fun e w' => e = .returned (.bool (nameB s)) ∧ w' = w := by
  go_enter Tryd.func14, Tryd.ntmps14
  go_wp2_with (go_at_call 13; refine (in_any _ _ _ _).mono ?_; rintro e w' ⟨rfl, rfl⟩)
  go_loop [3, 4] (fun ok i => ∃ k : Nat, ∃ b : Bool, k ≤ s.size ∧ i = .int .i64 k ∧ ok = .bool b ∧ Hid (b = (inB s.size 1 8 && lowsB (s.data.toList.take k)))) (fun _ i => s.size - (intOf i).toNat)
  case atStart => exact ⟨0, _, Nat.zero_le _, rfl, rfl, by simp [Hid, lowsB]⟩
  case round =>
    obtain ⟨k, b, hk, rfl, rfl, hb⟩ := hrel
    by_cases hlt : k < s.size
    · have HS := hide (lowsB_snoc s k hlt)
      cases b with
      | false =>
        go_wp2_with fail
        go_round
        case rel => exact ⟨k + 1, false, by omega, by go_num, rfl, by have := hb.out; simp only [Hid]; rw [HS.out, ← Bool.and_assoc, ← this]; rfl⟩
        case measure => simp [intOf]; omega
      | true =>
        by_cases h1 : 97 ≤ (s[k].toNat : Int)
        · by_cases h2 : (s[k].toNat : Int) ≤ 122
          · go_wp2_with fail
            go_round
            case rel => exact ⟨k + 1, true, by omega, by go_num, rfl, by have := hb.out; simp only [Hid]; rw [HS.out, ← Bool.and_assoc, ← this]; simp [lowB, h1, h2]⟩
            case measure => simp [intOf]; omega
          · go_wp2_with fail
            go_round
            case rel => exact ⟨k + 1, false, by omega, by go_num, rfl, by have := hb.out; simp only [Hid]; rw [HS.out, ← Bool.and_assoc, ← this]; simp [lowB, h2]⟩
            case measure => simp [intOf]; omega
        · go_wp2_with fail
          go_round
          case rel => exact ⟨k + 1, false, by omega, by go_num, rfl, by have := hb.out; simp only [Hid]; rw [HS.out, ← Bool.and_assoc, ← this]; simp [lowB, h1]⟩
          case measure => simp [intOf]; omega
    · go_wp2_with fail
      go_ret
      exact ⟨ret_bool (by rw [hb.out, List.take_of_length_le (by simp; omega)]; rfl), rfl⟩

/-- How many words a term has. -/
def sz : (n : Nat) → Tm n → Int
  | 0, _ => 0
  | n + 1, x => if x.1.1 = 4 then 1 + (x.2.2.map fun y => 1 + sz n y).sum else 0

theorem sz_bound : (n : Nat) → (x : Tm n) → 0 ≤ sz n x ∧ sz n x + 1 ≤ 2 * ((nodes n x).length : Int)
  | 0, _ => ⟨by simp [sz], by simp [sz, nodes]⟩
  | n + 1, x => by
    have key : ∀ l : List (Tm n), 0 ≤ (l.map fun y => 1 + sz n y).sum ∧ (l.map fun y => 1 + sz n y).sum ≤ 2 * ((l.flatMap fun y => nodes n y).length : Int) := by
      intro l
      induction l with
      | nil => exact ⟨by simp, by simp⟩
      | cons y l ih =>
        have hy := sz_bound n y
        simp only [List.map_cons, List.sum_cons, List.flatMap_cons, List.length_append]
        exact ⟨by omega, by omega⟩
    have k := key x.2.2
    simp only [sz, nodes, List.length_cons]
    by_cases h4 : x.1.1 = 4
    · rw [if_pos h4]
      exact ⟨by omega, by omega⟩
    · rw [if_neg h4]
      exact ⟨by omega, by omega⟩

/-- So many words behind k of the parts. -/
def szTo (n : Nat) (p : List (Tm n)) (k : Nat) : Int := 1 + ((p.take k).map fun y => 1 + sz n y).sum
theorem szTo_succ (n : Nat) (p : List (Tm n)) (k : Nat) (x : Tm n) (h : p[k]? = some x) : szTo n p (k + 1) = szTo n p k + (1 + sz n x) := by
  obtain ⟨h1, e1⟩ := List.getElem?_eq_some_iff.1 h
  unfold szTo
  rw [List.take_succ_eq_append_getElem h1, e1]
  simp
  omega
theorem szTo_bound (n : Nat) (p : List (Tm n)) (k : Nat) : 0 ≤ szTo n p k ∧ szTo n p k ≤ 2 * (1 + (p.flatMap fun y => nodes n y).length : Int) := by
  have h := take_le (fun y => nodes n y) p k
  have key : ∀ l : List (Tm n), 0 ≤ (l.map fun y => 1 + sz n y).sum ∧ (l.map fun y => 1 + sz n y).sum ≤ 2 * ((l.flatMap fun y => nodes n y).length : Int) := by
    intro l
    induction l with
    | nil => exact ⟨by simp, by simp⟩
    | cons y l ih =>
      have hy := sz_bound n y
      simp only [List.map_cons, List.sum_cons, List.flatMap_cons, List.length_append]
      exact ⟨by omega, by omega⟩
  have k := key (p.take k)
  unfold szTo
  exact ⟨by omega, by omega⟩

def F17 (n : Nat) : Prop := ∀ (x : Tm n) (B : Nat) (w : World), In B w n x → B ≤ w.heap.size → (nodes n x).length ≤ 2097152 →
  Calls Tryd.prog 11 #[val n x] w fun e w' => e = .returned (.int .i64 (sz n x)) ∧ Below w.heap.size w w'

theorem rsize_else (k0 u0 : Int) (s : ByteArray) (a : Option Addr) (len pc : Nat) (w : World) (h : ¬ k0 = 4) :
    Calls Tryd.prog 11 #[.agg #[.int .i64 k0, .int .i64 u0, .string s, .slice a len pc]] w fun e w' => e = .returned (.int .i64 0) ∧ Below w.heap.size w w' := by
  have h4 : (k0 == 4) = false := by simpa using h
  clear h
  go_enter Tryd.func11, Tryd.ntmps11
  go_wp2_with fail
  go_ret
  exact ⟨rfl, (Below.refl _ _).alloc (Nat.le_refl _) _⟩

set_option maxHeartbeats 400000 in
theorem rsize_tup (n : Nat) (ih : F17 n) (u0 : Int) (s : ByteArray) (a : Option Addr) (pc len : Nat) (p : List (Tm n)) (hpl : Hid (p.length = len)) (B : Nat) (w : World)
    (hp : Hid (p = [] ∨ ∃ b o, a = some ⟨b, o, none⟩ ∧ b < B ∧ ∀ (i : Nat) (y : Tm n), p[i]? = some y → Held w b (o + i * 4) n y ∧ In B w n y))
    (hlen : len ≤ 9223372036854775807) (hB : B ≤ w.heap.size) (hsum : Hid (1 + (p.flatMap fun y => nodes n y).length ≤ 2097152)) :
    Calls Tryd.prog 11 #[.agg #[.int .i64 4, .int .i64 u0, .string s, .slice a len pc]] w fun e w' =>
      e = .returned (.int .i64 (1 + (p.map fun y => 1 + sz n y).sum)) ∧ Below w.heap.size w w' := by
  go_enter Tryd.func11, Tryd.ntmps11
  go_wp2_with fail
  go_loopw [3, 4] (fun t i wr => ∃ k : Nat, ∃ r : Int, k ≤ len ∧ i = .int .i64 k ∧ t = .int .i64 r ∧ Hid (r = szTo n p k) ∧ Below w.heap.size w wr ∧ w.heap.size + 1 ≤ wr.heap.size ∧ wr.cell? ⟨w.heap.size, 3, none⟩ = some (.slice a len pc)) (fun _ i _ => len - (intOf i).toNat)
  case atStart => exact ⟨0, 1, by omega, rfl, rfl, by simp [Hid, szTo], (Below.refl _ _).alloc (Nat.le_refl _) _, by simp, by simp [go_sem]⟩
  case round =>
    obtain ⟨k, r, hk, rfl, rfl, hr, hb, hwr, ha0⟩ := hrel
    by_cases hlt : k < len
    · obtain ⟨x, hx⟩ : ∃ x, p[k]? = some x := ⟨p[k]'(by rw [hpl.out]; exact hlt), List.getElem?_eq_getElem _⟩
      have HS := hide (szTo_succ n p k x hx)
      have e1 := szTo_bound n p k
      rw [← hr.out] at e1
      have e2 := sz_bound n x
      have e3 : (nodes n x).length ≤ (p.flatMap fun y => nodes n y).length := by
        have e4 := take_le (fun y => nodes n y) p (k + 1)
        rw [take_flat _ p k x hx, List.length_append] at e4
        omega
      have e5 := hsum.out
      have hx9 : (nodes n x).length ≤ 2097152 := by omega
      have r1 : 0 ≤ r ∧ r ≤ 4194304 := by omega
      have r2 : 0 ≤ sz n x ∧ sz n x ≤ 4194304 := by omega
      clear e1 e2 e3 e5
      rcases hp.out with hp | ⟨pb, po, rfl, hpb, hp⟩
      · subst hp; simp at hx
      obtain ⟨hx1, hx2⟩ := hp k x hx
      replace hx1 := hx1.below (hb.mono hB) hpb
      replace hx2 := hx2.below (hb.mono hB)
      clear hp hx
      cases n with
      | zero => exact hx1.elim
      | succ n =>
      obtain ⟨x0, x1, x2, x3⟩ := hx1
      have hB' : B ≤ wr.heap.size := Nat.le_trans hB hb.size
      have HC := hide (show Calls Tryd.prog 11 #[.agg #[.int .i64 x.1.1, .int .i64 x.1.2.1, .string x.1.2.2, .slice x.2.1.1 x.2.2.length x.2.1.2]] wr _ from ih x B wr hx2 hB' hx9)
      clear ih hx2 hx9
      generalize x.2.2.length = xl at *
      generalize sz (n + 1) x = z at *
      obtain ⟨r11, r12⟩ := r1
      obtain ⟨r21, r22⟩ := r2
      have hk1 : (0 : Int) ≤ (k : Int) := by omega
      have hk2 : (k : Int) < (len : Int) := by omega
      go_wp2_with fail
      refine HC.out.mono ?_
      rintro e w1 ⟨rfl, hb1⟩
      have hd0 : w1.cell? ⟨w.heap.size, 3, none⟩ = some (.slice (some ⟨pb, po, none⟩) len pc) := (hb1.cell (p := ⟨w.heap.size, 3, none⟩) (by simp; omega)).trans ha0
      have hz1 := hb1.size
      have hb2 : Below w.heap.size w w1 := hb.trans (hb1.mono hb.size)
      go_wp2_with fail
      go_roundw
      case rel => exact ⟨k + 1, r + (1 + z), by omega, by go_num, by go_num, by simp only [Hid]; rw [HS.out, ← hr.out], hb2, by omega, hd0⟩
      case measure => simp [intOf]; omega
    · go_wp2_with fail
      go_ret
      refine ⟨ret_int ?_, hb⟩
      rw [hr.out]
      unfold szTo
      rw [List.take_of_length_le (by rw [hpl.out]; omega)]

theorem rsize_any (n : Nat) : F17 n := by
  induction n with
  | zero => intro x B w hx; exact hx.elim
  | succ n ih =>
    intro x B w hx hB hsum
    obtain ⟨⟨k, u, s⟩, ⟨a, pc⟩, p⟩ := x
    obtain ⟨⟨hk, hu, hs, hpl, hpc⟩, hp⟩ := hx
    simp only at hpl hpc hp
    unfold maxLen at hpc
    have hL : (nodes (n + 1) ((k, u, s), (a, pc), p)).length = 1 + (p.flatMap fun y => nodes n y).length := by simp only [nodes, List.length_cons]; omega
    rw [hL] at hsum
    show Calls Tryd.prog 11 #[.agg #[.int .i64 k, .int .i64 u, .string s, .slice a p.length pc]] w fun e w' => e = .returned (.int .i64 (if k = 4 then 1 + (p.map fun y => 1 + sz n y).sum else 0)) ∧ Below w.heap.size w w'
    by_cases h4 : k = 4
    · subst h4
      exact rsize_tup n ih u s a pc p.length p rfl B w hp (by omega) hB hsum
    · rw [if_neg h4]
      exact rsize_else k u s a p.length pc w h4
end Go.Proofs.YtpehdgbdinjbaaaDoor
namespace Go.Proofs.YtpehdgbdinjbaaaDoor
open Go.RowKit

/-- Is a term right by itself? -/
def good (x : Nd) : Bool :=
  (if x.1.1 = 1 then x.1.2.2.toList.isEmpty && inB x.1.2.1 (-1099511627776) 1099511627776
   else if x.1.1 = 2 then nameB x.1.2.2 && x.1.2.1 == 0
   else if x.1.1 = 3 then x.1.2.2.toList.isEmpty && inB x.1.2.1 1 99
   else if x.1.1 = 4 then x.1.2.2.toList.isEmpty && x.1.2.1 == 0 && decide ((x.2.2.1 : Int) ≤ 8)
   else if x.1.1 = 5 then x.1.2.2.toList.isEmpty && inB x.1.2.1 0 3
   else if x.1.1 = 6 then x.1.2.2.toList.isEmpty && x.1.2.1 == 0
   else false) && (x.1.1 == 4 || !decide ((0 : Int) < (x.2.2.1 : Int)))
def deeper (x : Nd) (d m : Int) : Int := if x.1.1 = 4 ∧ m < d + 1 then d + 1 else m

/-- What Check says, of what is still to be looked at, so deep as it has been. -/
def chkL (z : Int) : List Nd → List Int → Int → Int
  | x :: l, d :: ds, m => if good x then chkL z l ds (deeper x d m) else 5
  | _, _, m => if 12 < m ∨ 200 < z then 2 else 0
def chk (n : Nat) (x : Tm n) : Int := chkL (sz n x) (nodes n x) (deeps n x 0) 0

theorem chkL_drop (z : Int) (l : List Nd) (ds : List Int) (m : Int) (k : Nat) (x : Nd) (d : Int) (hx : l[k]? = some x) (hd : ds[k]? = some d) :
    chkL z (l.drop k) (ds.drop k) m = if good x then chkL z (l.drop (k + 1)) (ds.drop (k + 1)) (deeper x d m) else 5 := by
  obtain ⟨h1, e1⟩ := List.getElem?_eq_some_iff.1 hx
  obtain ⟨h2, e2⟩ := List.getElem?_eq_some_iff.1 hd
  rw [List.drop_eq_getElem_cons h1, List.drop_eq_getElem_cons h2, e1, e2]
  rfl
theorem chkL_nil (z : Int) (l : List Nd) (ds : List Int) (m : Int) (k : Nat) (h : l.length ≤ k) : chkL z (l.drop k) (ds.drop k) m = if 12 < m ∨ 200 < z then 2 else 0 := by
  rw [List.drop_eq_nil_of_le h]
  cases ds.drop k <;> rfl

theorem deeps_bound : (n : Nat) → (x : Tm n) → (d : Int) → ∀ e ∈ deeps n x d, d ≤ e ∧ e + 1 ≤ d + (nodes n x).length
  | 0, _, d => by
    intro e he
    simp only [deeps, List.mem_singleton] at he
    subst he
    simp [nodes]
  | n + 1, x, d => by
    intro e he
    simp only [deeps, List.mem_cons, List.mem_flatMap] at he
    simp only [nodes, List.length_cons]
    rcases he with rfl | ⟨y, hy, he⟩
    · omega
    · have h1 := deeps_bound n y (d + 1) e he
      have h2 : (nodes n y).length ≤ (x.2.2.flatMap fun y => nodes n y).length := by
        obtain ⟨i, hi⟩ := List.getElem?_of_mem hy
        have e4 := take_le (fun y => nodes n y) x.2.2 (i + 1)
        rw [take_flat _ x.2.2 i y hi, List.length_append] at e4
        omega
      omega

theorem ndCells_at (l : List Nd) (k : Nat) (x : Nd) (hx : l[k]? = some x) (j : Nat) (hj : j < 4) : (ndCells l)[k * 4 + j]? = (nd4 x)[j]? := by
  induction l generalizing k with
  | nil => simp at hx
  | cons y l ih =>
    have e : ndCells (y :: l) = nd4 y ++ ndCells l := rfl
    have hy : (nd4 y).length = 4 := rfl
    rw [e]
    cases k with
    | zero =>
      have : y = x := by simpa using hx
      subst this
      rw [List.getElem?_append_left (by omega)]
      simp
    | succ k =>
      rw [List.getElem?_append_right (by omega), hy, ← ih k (by simpa using hx)]
      congr 1
      omega

theorem add_none (g j : Nat) : (⟨g, 0, none⟩ : Addr).add j = ⟨g, j, none⟩ := by unfold Addr.add; split <;> simp_all

theorem own_nd {w : World} {base g c L : Nat} {l : List Nd} (h : w.ownsRow base 24 4 (.slice (some ⟨g, 0, none⟩) L c) L (ndCells l)) (k : Nat) (x : Nd) (hx : l[k]? = some x) :
    w.cell? ⟨g, k * 4, none⟩ = some (.int .i64 x.1.1) ∧ w.cell? ⟨g, k * 4 + 1, none⟩ = some (.int .i64 x.1.2.1) ∧ w.cell? ⟨g, k * 4 + 2, none⟩ = some (.string x.1.2.2) ∧ w.cell? ⟨g, k * 4 + 3, none⟩ = some (.slice x.2.1 x.2.2.1 x.2.2.2) := by
  have hc := h.cells (g := g) rfl
  refine ⟨?_, ?_, ?_, ?_⟩
  · have := hc (k * 4 + 0) (.int .i64 x.1.1) (by rw [ndCells_at l k x hx 0 (by omega)]; rfl)
    rw [add_none] at this; exact this
  · have := hc (k * 4 + 1) (.int .i64 x.1.2.1) (by rw [ndCells_at l k x hx 1 (by omega)]; rfl)
    rw [add_none] at this; exact this
  · have := hc (k * 4 + 2) (.string x.1.2.2) (by rw [ndCells_at l k x hx 2 (by omega)]; rfl)
    rw [add_none] at this; exact this
  · have := hc (k * 4 + 3) (.slice x.2.1 x.2.2.1 x.2.2.2) (by rw [ndCells_at l k x hx 3 (by omega)]; rfl)
    rw [add_none] at this; exact this
theorem own_int {w : World} {base h c L : Nat} {l : List Int} (o : w.ownsRow base 3 1 (.slice (some ⟨h, 0, none⟩) L c) L (ints l)) (k : Nat) (d : Int) (hd : l[k]? = some d) :
    w.cell? ⟨h, k, none⟩ = some (.int .i64 d) := by
  have := o.cells (g := h) rfl k (.int .i64 d) (by simp [ints, hd])
  rw [add_none] at this; exact this

theorem nodes_len : (n : Nat) → (x : Tm n) → (B : Nat) → (w : World) → In B w n x → ∀ y ∈ nodes n x, y.2.2.1 ≤ 9223372036854775807 ∧ y.1.2.2.size ≤ 9223372036854775807
  | 0, _, _, _, h => h.elim
  | n + 1, x, B, w, h => by
    intro y hy
    obtain ⟨⟨_, _, hs, hl, hc⟩, hk⟩ := h
    simp only [nodes, List.mem_cons, List.mem_flatMap] at hy
    unfold maxLen at hc hs
    rcases hy with rfl | ⟨z, hz, hy⟩
    · exact ⟨by simp only; omega, by simp only; omega⟩
    · rcases hk with hk | ⟨b, o, _, _, hk⟩
      · rw [hk] at hz; cases hz
      · obtain ⟨i, hi⟩ := List.getElem?_of_mem hz
        exact nodes_len n z B w (hk i z hi).2 y hy
end Go.Proofs.YtpehdgbdinjbaaaDoor
