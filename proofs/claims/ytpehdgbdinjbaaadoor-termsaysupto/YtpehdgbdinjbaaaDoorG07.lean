/- What is proved here: plain facts and contracts that the claimed theorem stands on, several texts in one: term.depth, term.Size and term.Check of a term that lies in memory return what plain functions say, and turn no memory that was there; Check is the document's Check. Condition: at most 2097152 terms in it. term.Print of a term that lies in memory returns the plain function wtext of it where Check finds it right, else the empty text, and Check's answer; it turns no memory that was there. Conditions: it holds at most 2097152 terms and letters; the library's table of powers lies as its text lays it. the document's Text of a term that lies in memory returns the plain function rtext of it, and turns no memory that was there. Conditions: it holds at most 2097152 terms and letters; the library's table of powers lies as its text lays it. term.Closed, and the document's Closed, of a term that lies in memory: both return whether no term in it is a variable or the wild one, and turn no memory that was there. Condition of the document's: at most 2097152 terms in it. -/
import Derived.Test.YtpehdgbdinjbaaaDoorG06
import Derived.Test.YtpehdgbdinjbaaaDoorG02
import Derived.Test.YtpehdgbdinjbaaaDoorG03
namespace Go.Proofs.YtpehdgbdinjbaaaDoor
open Go.RowKit

def dep : (n : Nat) → Tm n → Int
  | 0, _ => 0
  | n + 1, x => if x.1.1 = 4 then 1 + x.2.2.foldl (fun m y => max m (dep n y)) 0 else 0
def depTo (n : Nat) (p : List (Tm n)) (k : Nat) : Int := (p.take k).foldl (fun m y => max m (dep n y)) 0
theorem depTo_succ (n : Nat) (p : List (Tm n)) (k : Nat) (x : Tm n) (h : p[k]? = some x) : depTo n p (k + 1) = max (depTo n p k) (dep n x) := by
  obtain ⟨h1, e1⟩ := List.getElem?_eq_some_iff.1 h
  unfold depTo
  rw [List.take_succ_eq_append_getElem h1, e1, List.foldl_append]
  rfl
theorem fold_bound {n : Nat} (N : Int) : (l : List (Tm n)) → (m : Int) → 0 ≤ m → m ≤ N → (∀ y ∈ l, 0 ≤ dep n y ∧ dep n y ≤ N) → 0 ≤ l.foldl (fun m y => max m (dep n y)) m ∧ l.foldl (fun m y => max m (dep n y)) m ≤ N
  | [], _, h0, h1, _ => ⟨h0, h1⟩
  | y :: l, m, h0, h1, h => by
    have hy := h y (by simp)
    exact fold_bound N l (max m (dep n y)) (by omega) (by omega) (fun z hz => h z (by simp [hz]))
theorem mem_nodes_le {n : Nat} (l : List (Tm n)) (y : Tm n) (h : y ∈ l) : (nodes n y).length ≤ (l.flatMap fun y => nodes n y).length := by
  obtain ⟨i, hi⟩ := List.getElem?_of_mem h
  have e4 := take_le (fun y => nodes n y) l (i + 1)
  rw [take_flat _ l i y hi, List.length_append] at e4
  omega
theorem dep_bound : (n : Nat) → (x : Tm n) → 0 ≤ dep n x ∧ dep n x ≤ (nodes n x).length
  | 0, _ => by simp [dep]
  | n + 1, x => by
    have hb := fold_bound ((x.2.2.flatMap fun y => nodes n y).length : Int) x.2.2 0 (by omega) (by omega) (fun y hy => by
      have h1 := dep_bound n y
      have h2 := mem_nodes_le x.2.2 y hy
      omega)
    simp only [dep, nodes, List.length_cons]
    by_cases h4 : x.1.1 = 4
    · rw [if_pos h4]; omega
    · rw [if_neg h4]; omega
theorem depTo_bound (n : Nat) (p : List (Tm n)) (k : Nat) : 0 ≤ depTo n p k ∧ depTo n p k ≤ (p.flatMap fun y => nodes n y).length :=
  fold_bound _ (p.take k) 0 (by omega) (by omega) (fun y hy => by
    have h1 := dep_bound n y
    have h2 := mem_nodes_le p y (List.mem_of_mem_take hy)
    omega)

def FDep (n : Nat) : Prop := ∀ (x : Tm n) (B : Nat) (w : World), In B w n x → B ≤ w.heap.size → (nodes n x).length ≤ 2097152 →
  Calls Tryd.prog 19 #[val n x] w fun e w' => e = .returned (.int .i64 (dep n x)) ∧ Below w.heap.size w w'

theorem depth_else (k0 u0 : Int) (s : ByteArray) (a : Option Addr) (len pc : Nat) (w : World) (h : ¬ k0 = 4) :
    Calls Tryd.prog 19 #[.agg #[.int .i64 k0, .int .i64 u0, .string s, .slice a len pc]] w fun e w' => e = .returned (.int .i64 0) ∧ Below w.heap.size w w' := by
  have h4 : (k0 != 4) = true := by simpa using h
  clear h
  go_enter Tryd.func19, Tryd.ntmps19
  go_wp2_with fail
  go_ret
  exact ⟨rfl, (Below.refl _ _).alloc (Nat.le_refl _) _⟩

set_option maxHeartbeats 400000 in
theorem depth_tup (n : Nat) (ih : FDep n) (u0 : Int) (s : ByteArray) (a : Option Addr) (pc len : Nat) (p : List (Tm n)) (hpl : Hid (p.length = len)) (B : Nat) (w : World)
    (hp : Hid (p = [] ∨ ∃ b o, a = some ⟨b, o, none⟩ ∧ b < B ∧ ∀ (i : Nat) (y : Tm n), p[i]? = some y → Held w b (o + i * 4) n y ∧ In B w n y))
    (hlen : len ≤ 9223372036854775807) (hB : B ≤ w.heap.size) (hsum : Hid (1 + (p.flatMap fun y => nodes n y).length ≤ 2097152)) :
    Calls Tryd.prog 19 #[.agg #[.int .i64 4, .int .i64 u0, .string s, .slice a len pc]] w fun e w' =>
      e = .returned (.int .i64 (1 + p.foldl (fun m y => max m (dep n y)) 0)) ∧ Below w.heap.size w w' := by
  go_enter Tryd.func19, Tryd.ntmps19
  go_wp2_with fail
  go_loopw [3, 12] (fun t i wr => ∃ k : Nat, ∃ r : Int, k ≤ len ∧ i = .int .i64 k ∧ t = .int .i64 r ∧ Hid (r = depTo n p k) ∧ Below w.heap.size w wr) (fun _ i _ => len - (intOf i).toNat)
  case atStart => exact ⟨0, 0, by omega, rfl, rfl, by simp [Hid, depTo], (Below.refl _ _).alloc (Nat.le_refl _) _⟩
  case round =>
    obtain ⟨k, r, hk, rfl, rfl, hr, hb⟩ := hrel
    have e1 := depTo_bound n p k
    rw [← hr.out] at e1
    have e5 := hsum.out
    have r1 : 0 ≤ r := e1.1
    have r2 : r ≤ 2097152 := by omega
    clear e1
    by_cases hlt : k < len
    · obtain ⟨x, hx⟩ : ∃ x, p[k]? = some x := ⟨p[k]'(by rw [hpl.out]; exact hlt), List.getElem?_eq_getElem _⟩
      have HS := hide (depTo_succ n p k x hx)
      have e3 := mem_nodes_le p x (List.mem_of_getElem? hx)
      have hx9 : (nodes n x).length ≤ 2097152 := by omega
      clear e3 e5
      rcases hp.out with hp | ⟨pb, po, rfl, hpb, hp⟩
      · subst hp; simp at hx
      obtain ⟨hx1, hx2⟩ := hp k x hx
      replace hx1 := hx1.below (hb.mono hB) hpb
      replace hx2 := hx2.below (hb.mono hB)
      clear hp hx
      cases n with
      | zero => exact hx1.elim
      | succ n =>
      obtain ⟨x0, x1, x2, x3⟩ := hx1
      have hB' : B ≤ wr.heap.size := Nat.le_trans hB hb.size
      have HC : Hid (∀ w1, Below wr.heap.size wr w1 → Calls Tryd.prog 19 #[.agg #[.int .i64 x.1.1, .int .i64 x.1.2.1, .string x.1.2.2, .slice x.2.1.1 x.2.2.length x.2.1.2]] w1 fun e w' => e = .returned (.int .i64 (dep (n + 1) x)) ∧ Below w1.heap.size w1 w') :=
        fun w1 h1 => ih x B w1 (hx2.below (h1.mono hB')) (Nat.le_trans hB' h1.size) hx9
      clear ih hx2 hx9
      generalize x.2.2.length = xl at *
      generalize dep (n + 1) x = z at *
      have hk1 : (0 : Int) ≤ (k : Int) := by omega
      have hk2 : (k : Int) < (len : Int) := by omega
      go_wp2_with fail
      refine (HC.out _ ((Below.refl _ _).alloc (Nat.le_refl _) _)).mono ?_
      rintro e w1 ⟨rfl, hb1⟩
      have hb2 : Below w.heap.size w w1 := (hb.trans (((Below.refl _ _).alloc (Nat.le_refl _) _).mono hb.size)).trans (hb1.mono (by have := hb.size; simp; omega))
      clear hb1
      have hmx : max r z = if r < z then z else r := by split <;> omega
      have HMX := hide hmx
      clear hmx
      go_wp2_with fail
      go_roundw
      case rel => exact ⟨k + 1, _, by omega, by go_num, rfl, by simp only [Hid]; rw [HS.out, ← hr.out, HMX.out], hb2⟩
      case measure => simp [intOf]; omega
    · go_wp2_with fail
      go_ret
      refine ⟨ret_int ?_, hb⟩
      rw [hr.out]
      unfold depTo
      rw [List.take_of_length_le (by rw [hpl.out]; omega)]

theorem depth_any (n : Nat) : FDep n := by
  induction n with
  | zero => intro x B w hx; exact hx.elim
  | succ n ih =>
    intro x B w hx hB hsum
    obtain ⟨⟨k, u, s⟩, ⟨a, pc⟩, p⟩ := x
    obtain ⟨⟨_, _, _, hpl, hpc⟩, hp⟩ := hx
    simp only at hpl hpc hp
    unfold maxLen at hpc
    have hL : (nodes (n + 1) ((k, u, s), (a, pc), p)).length = 1 + (p.flatMap fun y => nodes n y).length := by simp only [nodes, List.length_cons]; omega
    rw [hL] at hsum
    show Calls Tryd.prog 19 #[.agg #[.int .i64 k, .int .i64 u, .string s, .slice a p.length pc]] w fun e w' => e = .returned (.int .i64 (if k = 4 then 1 + p.foldl (fun m y => max m (dep n y)) 0 else 0)) ∧ Below w.heap.size w w'
    by_cases h4 : k = 4
    · subst h4
      exact depth_tup n ih u s a pc p.length p rfl B w hp (by omega) hB hsum
    · rw [if_neg h4]
      exact depth_else k u s a p.length pc w h4

/-- So many words behind k of the parts, as term.Size counts them. -/
def tszTo (n : Nat) (p : List (Tm n)) (k : Nat) : Int := 1 + p.length + ((p.take k).map fun y => sz n y).sum
theorem tszTo_succ (n : Nat) (p : List (Tm n)) (k : Nat) (x : Tm n) (h : p[k]? = some x) : tszTo n p (k + 1) = tszTo n p k + sz n x := by
  obtain ⟨h1, e1⟩ := List.getElem?_eq_some_iff.1 h
  unfold tszTo
  rw [List.take_succ_eq_append_getElem h1, e1]
  simp
  omega
theorem sum_split (n : Nat) (l : List (Tm n)) : (l.map fun y => 1 + sz n y).sum = l.length + (l.map fun y => sz n y).sum := by
  induction l with
  | nil => simp
  | cons y l ih => simp only [List.map_cons, List.sum_cons, List.length_cons, ih]; omega
theorem tszTo_all (n : Nat) (p : List (Tm n)) (k : Nat) (h : p.length ≤ k) : tszTo n p k = 1 + (p.map fun y => 1 + sz n y).sum := by
  unfold tszTo
  rw [List.take_of_length_le h, sum_split]
  omega
theorem len_nodes (n : Nat) (p : List (Tm n)) : p.length ≤ (p.flatMap fun y => nodes n y).length := by
  induction p with
  | nil => simp
  | cons y l ih =>
    have : 1 ≤ (nodes n y).length := by cases n <;> simp [nodes]
    simp only [List.flatMap_cons, List.length_append, List.length_cons]
    omega
theorem tszTo_bound (n : Nat) (p : List (Tm n)) (k : Nat) : 0 ≤ tszTo n p k ∧ tszTo n p k ≤ 3 * (1 + (p.flatMap fun y => nodes n y).length : Int) := by
  have h0 := len_nodes n p
  have h := take_le (fun y => nodes n y) p k
  have key : ∀ l : List (Tm n), 0 ≤ (l.map fun y => sz n y).sum ∧ (l.map fun y => sz n y).sum ≤ 2 * ((l.flatMap fun y => nodes n y).length : Int) := by
    intro l
    induction l with
    | nil => exact ⟨by simp, by simp⟩
    | cons y l ih =>
      have hy := sz_bound n y
      simp only [List.map_cons, List.sum_cons, List.flatMap_cons, List.length_append]
      exact ⟨by omega, by omega⟩
  have k := key (p.take k)
  unfold tszTo
  exact ⟨by omega, by omega⟩

def FSz (n : Nat) : Prop := ∀ (x : Tm n) (B : Nat) (w : World), In B w n x → B ≤ w.heap.size → (nodes n x).length ≤ 2097152 →
  Calls Tryd.prog 10 #[val n x] w fun e w' => e = .returned (.int .i64 (sz n x)) ∧ Below w.heap.size w w'

theorem tsize_else (k0 u0 : Int) (s : ByteArray) (a : Option Addr) (len pc : Nat) (w : World) (h : ¬ k0 = 4) :
    Calls Tryd.prog 10 #[.agg #[.int .i64 k0, .int .i64 u0, .string s, .slice a len pc]] w fun e w' => e = .returned (.int .i64 0) ∧ Below w.heap.size w w' := by
  have h4 : (k0 != 4) = true := by simpa using h
  clear h
  go_enter Tryd.func10, Tryd.ntmps10
  go_wp2_with fail
  go_ret
  exact ⟨rfl, (Below.refl _ _).alloc (Nat.le_refl _) _⟩

set_option maxHeartbeats 400000 in
theorem tsize_tup (n : Nat) (ih : FSz n) (u0 : Int) (s : ByteArray) (a : Option Addr) (pc len : Nat) (p : List (Tm n)) (hpl : Hid (p.length = len)) (B : Nat) (w : World)
    (hp : Hid (p = [] ∨ ∃ b o, a = some ⟨b, o, none⟩ ∧ b < B ∧ ∀ (i : Nat) (y : Tm n), p[i]? = some y → Held w b (o + i * 4) n y ∧ In B w n y))
    (hB : B ≤ w.heap.size) (hsum : Hid (1 + (p.flatMap fun y => nodes n y).length ≤ 2097152)) :
    Calls Tryd.prog 10 #[.agg #[.int .i64 4, .int .i64 u0, .string s, .slice a len pc]] w fun e w' =>
      e = .returned (.int .i64 (1 + (p.map fun y => 1 + sz n y).sum)) ∧ Below w.heap.size w w' := by
  have hlen : len ≤ 2097152 := by have h1 := len_nodes n p; have h2 := hsum.out; rw [← hpl.out]; omega
  go_enter Tryd.func10, Tryd.ntmps10
  go_wp2_with fail
  go_loopw [3, 16] (fun t i wr => ∃ k : Nat, ∃ r : Int, k ≤ len ∧ i = .int .i64 k ∧ t = .int .i64 r ∧ Hid (r = tszTo n p k) ∧ Below w.heap.size w wr) (fun _ i _ => len - (intOf i).toNat)
  case atStart => exact ⟨0, 1 + len, by omega, rfl, rfl, by simp only [Hid, tszTo]; rw [hpl.out]; simp, (Below.refl _ _).alloc (Nat.le_refl _) _⟩
  case round =>
    obtain ⟨k, r, hk, rfl, rfl, hr, hb⟩ := hrel
    have e1 := tszTo_bound n p k
    rw [← hr.out] at e1
    have e5 := hsum.out
    have r1 : 0 ≤ r := e1.1
    have r2 : r ≤ 6291456 := by omega
    clear e1
    by_cases hlt : k < len
    · obtain ⟨x, hx⟩ : ∃ x, p[k]? = some x := ⟨p[k]'(by rw [hpl.out]; exact hlt), List.getElem?_eq_getElem _⟩
      have HS := hide (tszTo_succ n p k x hx)
      have e3 := mem_nodes_le p x (List.mem_of_getElem? hx)
      have hx9 : (nodes n x).length ≤ 2097152 := by omega
      have e2 := sz_bound n x
      have z1 : 0 ≤ sz n x := e2.1
      have z2 : sz n x ≤ 4194304 := by omega
      clear e3 e5 e2
      rcases hp.out with hp | ⟨pb, po, rfl, hpb, hp⟩
      · subst hp; simp at hx
      obtain ⟨hx1, hx2⟩ := hp k x hx
      replace hx1 := hx1.below (hb.mono hB) hpb
      replace hx2 := hx2.below (hb.mono hB)
      clear hp hx
      cases n with
      | zero => exact hx1.elim
      | succ n =>
      obtain ⟨x0, x1, x2, x3⟩ := hx1
      have hB' : B ≤ wr.heap.size := Nat.le_trans hB hb.size
      have HC : Hid (∀ w1, Below wr.heap.size wr w1 → Calls Tryd.prog 10 #[.agg #[.int .i64 x.1.1, .int .i64 x.1.2.1, .string x.1.2.2, .slice x.2.1.1 x.2.2.length x.2.1.2]] w1 fun e w' => e = .returned (.int .i64 (sz (n + 1) x)) ∧ Below w1.heap.size w1 w') :=
        fun w1 h1 => ih x B w1 (hx2.below (h1.mono hB')) (Nat.le_trans hB' h1.size) hx9
      clear ih hx2 hx9
      generalize x.2.2.length = xl at *
      generalize sz (n + 1) x = z at *
      have hk1 : (0 : Int) ≤ (k : Int) := by omega
      have hk2 : (k : Int) < (len : Int) := by omega
      go_wp2_with fail
      refine (HC.out _ ((Below.refl _ _).alloc (Nat.le_refl _) _)).mono ?_
      rintro e w1 ⟨rfl, hb1⟩
      have hb2 : Below w.heap.size w w1 := (hb.trans (((Below.refl _ _).alloc (Nat.le_refl _) _).mono hb.size)).trans (hb1.mono (by have := hb.size; simp; omega))
      clear hb1
      go_wp2_with fail
      go_roundw
      case rel => exact ⟨k + 1, r + z, by omega, by go_num, by go_num, by simp only [Hid]; rw [HS.out, ← hr.out], hb2⟩
      case measure => simp [intOf]; omega
    · go_wp2_with fail
      go_ret
      refine ⟨ret_int ?_, hb⟩
      rw [hr.out, tszTo_all n p k (by rw [hpl.out]; omega)]

theorem tsize_any (n : Nat) : FSz n := by
  induction n with
  | zero => intro x B w hx; exact hx.elim
  | succ n ih =>
    intro x B w hx hB hsum
    obtain ⟨⟨k, u, s⟩, ⟨a, pc⟩, p⟩ := x
    obtain ⟨⟨_, _, _, hpl, hpc⟩, hp⟩ := hx
    simp only at hpl hpc hp
    have hL : (nodes (n + 1) ((k, u, s), (a, pc), p)).length = 1 + (p.flatMap fun y => nodes n y).length := by simp only [nodes, List.length_cons]; omega
    rw [hL] at hsum
    show Calls Tryd.prog 10 #[.agg #[.int .i64 k, .int .i64 u, .string s, .slice a p.length pc]] w fun e w' => e = .returned (.int .i64 (if k = 4 then 1 + (p.map fun y => 1 + sz n y).sum else 0)) ∧ Below w.heap.size w w'
    by_cases h4 : k = 4
    · subst h4
      exact tsize_tup n ih u s a pc p.length p rfl B w hp hB hsum
    · rw [if_neg h4]
      exact tsize_else k u s a p.length pc w h4

set_option maxHeartbeats 400000 in
theorem tcheck_walk (w : World) (k u : Int) (s : ByteArray) (a : Option Addr) (l c : Nat) (fb : Bool) (d z : Int)
    (HF : Hid (∀ w1, Below w.heap.size w w1 → Calls Tryd.prog 18 #[.agg #[.int .i64 k, .int .i64 u, .string s, .slice a l c]] w1 fun e w' => e = .returned (.bool fb) ∧ Below w1.heap.size w1 w'))
    (HD : Hid (∀ w1, Below w.heap.size w w1 → Calls Tryd.prog 19 #[.agg #[.int .i64 k, .int .i64 u, .string s, .slice a l c]] w1 fun e w' => e = .returned (.int .i64 d) ∧ Below w1.heap.size w1 w'))
    (HZ : Hid (∀ w1, Below w.heap.size w w1 → Calls Tryd.prog 10 #[.agg #[.int .i64 k, .int .i64 u, .string s, .slice a l c]] w1 fun e w' => e = .returned (.int .i64 z) ∧ Below w1.heap.size w1 w')) :
    Calls Tryd.prog 7 #[.agg #[.int .i64 k, .int .i64 u, .string s, .slice a l c]] w fun e w' => e = .returned (.int .i64 (if fb then if 12 < d ∨ 200 < z then 2 else 0 else 5)) ∧ Below w.heap.size w w' := by
  generalize hr : (if fb then if 12 < d ∨ 200 < z then (2 : Int) else 0 else 5) = r
  have HR := hide hr
  clear hr
  go_enter Tryd.func7, Tryd.ntmps7
  go_wp2_with fail
  refine (HF.out _ ((Below.refl _ _).alloc (Nat.le_refl _) _)).mono ?_
  rintro e w1 ⟨rfl, hb1⟩
  have HB1 : Hid (Below w.heap.size w w1 ∧ w.heap.size + 1 ≤ w1.heap.size) := ⟨((Below.refl _ _).alloc (Nat.le_refl _) _).trans (hb1.mono (by simp)), by have := hb1.size; simpa using this⟩
  have hcc := below_cells hb1
  simp only [World.size_alloc] at hcc
  have a0 := (hcc w.heap.size 0 (by omega)).trans (by simp [go_sem] : _ = some (Value.int .i64 k))
  have a1 := (hcc w.heap.size 1 (by omega)).trans (by simp [go_sem] : _ = some (Value.int .i64 u))
  have a2 := (hcc w.heap.size 2 (by omega)).trans (by simp [go_sem] : _ = some (Value.string s))
  have a3 := (hcc w.heap.size 3 (by omega)).trans (by simp [go_sem] : _ = some (Value.slice a l c))
  clear hcc hb1
  cases fb with
  | false =>
    go_wp2_with fail
    go_ret
    exact ⟨ret_int (by rw [← HR.out]; rfl), HB1.out.1⟩
  | true =>
    go_wp2_with fail
    refine (HD.out _ HB1.out.1).mono ?_
    rintro e w2 ⟨rfl, hb2⟩
    have HB2 : Hid (Below w.heap.size w w2) := HB1.out.1.trans (hb2.mono HB1.out.1.size)
    have hcc := below_cells hb2
    have hz1 := HB1.out.2
    replace a0 := (hcc w.heap.size 0 (by omega)).trans a0
    replace a1 := (hcc w.heap.size 1 (by omega)).trans a1
    replace a2 := (hcc w.heap.size 2 (by omega)).trans a2
    replace a3 := (hcc w.heap.size 3 (by omega)).trans a3
    clear hcc hb2 hz1
    by_cases h12 : 12 < d
    · have H12 := hide h12
      go_wp2_with fail
      go_ret
      exact ⟨ret_int (by rw [← HR.out, if_pos trivial, if_pos (Or.inl H12.out)]), HB2.out⟩
    · have H12 := hide h12
      go_wp2_with fail
      refine (HZ.out _ HB2.out).mono ?_
      rintro e w3 ⟨rfl, hb3⟩
      have HB3 : Hid (Below w.heap.size w w3) := HB2.out.trans (hb3.mono HB2.out.size)
      clear hb3
      by_cases hz : 200 < z
      · have HZ2 := hide hz
        go_wp2_with fail
        go_ret
        exact ⟨ret_int (by rw [← HR.out, if_pos trivial, if_pos (Or.inr HZ2.out)]), HB3.out⟩
      · have HZ2 := hide hz
        go_wp2_with fail
        go_ret
        exact ⟨ret_int (by rw [← HR.out, if_pos trivial, if_neg (by have := H12.out; have := HZ2.out; omega)]), HB3.out⟩

def tchk (n : Nat) (x : Tm n) : Int := if formedB n x then if 12 < dep n x ∨ 200 < sz n x then 2 else 0 else 5
theorem tcheck_tchk (n : Nat) (x : Tm n) (B : Nat) (w : World) (hx : In B w n x) (hB : B ≤ w.heap.size) (hN : (nodes n x).length ≤ 2097152) :
    Calls Tryd.prog 7 #[val n x] w fun e w' => e = .returned (.int .i64 (tchk n x)) ∧ Below w.heap.size w w' := by
  cases n with
  | zero => exact hx.elim
  | succ n =>
  exact tcheck_walk w x.1.1 x.1.2.1 x.1.2.2 x.2.1.1 x.2.2.length x.2.1.2 (formedB (n + 1) x) (dep (n + 1) x) (sz (n + 1) x)
    (fun w1 hw => formed_any (n + 1) x B w1 (hx.below (hw.mono hB)) (Nat.le_trans hB hw.size))
    (fun w1 hw => depth_any (n + 1) x B w1 (hx.below (hw.mono hB)) (Nat.le_trans hB hw.size) hN)
    (fun w1 hw => tsize_any (n + 1) x B w1 (hx.below (hw.mono hB)) (Nat.le_trans hB hw.size) hN)

/-- That each term in it is right by itself: the one way and the other. -/
theorem formed_good : (n : Nat) → (x : Tm n) → formedB n x = (nodes n x).all good
  | 0, _ => by simp [formedB, nodes, good]
  | n + 1, x => by
    have e : (nodes (n + 1) x).all good = (good (hdOf n x) && (x.2.2.flatMap fun y => nodes n y).all good) := rfl
    rw [e]
    simp only [formedB]
    cases hg : good (hdOf n x)
    · rfl
    · rw [Bool.true_and, Bool.true_and]
      by_cases h4 : x.1.1 = 4
      · rw [h4]
        have key : ∀ l : List (Tm n), (l.all fun y => formedB n y) = (l.flatMap fun y => nodes n y).all good := by
          intro l
          induction l with
          | nil => rfl
          | cons y l ih => simp only [List.all_cons, List.flatMap_cons, List.all_append, ih, formed_good n y]
        rw [key]
        simp
      · have hl : x.2.2 = [] := by
          unfold good at hg
          simp only [Bool.and_eq_true, Bool.or_eq_true, beq_iff_eq] at hg
          rcases hg.2 with h | h
          · exact (h4 h).elim
          · have : ¬ (0 : Int) < (x.2.2.length : Int) := by simpa [hdOf] using h
            exact List.eq_nil_of_length_eq_zero (by omega)
        rw [hl]
        simp

/-- How deep it is, of what is still to be looked at. -/
def deepL : List Nd → List Int → Int → Int
  | x :: l, d :: ds, m => deepL l ds (deeper x d m)
  | _, _, m => m
theorem chkL_all (z : Int) : (l : List Nd) → (ds : List Int) → (m : Int) → l.length = ds.length → chkL z l ds m = if l.all good then (if 12 < deepL l ds m ∨ 200 < z then 2 else 0) else 5
  | [], _, _, _ => rfl
  | x :: l, [], _, h => by simp at h
  | x :: l, d :: ds, m, h => by
    have ih := chkL_all z l ds (deeper x d m) (by simpa using h)
    simp only [chkL, deepL]
    by_cases hg : good x = true
    · have e : (x :: l).all good = l.all good := by simp [hg]
      rw [if_pos hg, ih]
      by_cases ha : l.all good = true
      · rw [if_pos ha, if_pos (e.trans ha)]; rfl
      · rw [if_neg ha, if_neg (fun h => ha (e.symm.trans h))]
    · rw [if_neg hg, if_neg (fun h => hg (List.all_eq_true.1 h x (by simp)))]

theorem deepL_append : (l r : List Nd) → (ds es : List Int) → (m : Int) → l.length = ds.length → deepL (l ++ r) (ds ++ es) m = deepL r es (deepL l ds m)
  | [], _, [], _, _, _ => rfl
  | [], _, _ :: _, _, _, h => by simp at h
  | _ :: _, _, [], _, _, h => by simp at h
  | x :: l, r, d :: ds, es, m, h => by
    simp only [List.cons_append, deepL]
    exact deepL_append l r ds es _ (by simpa using h)
theorem fold_max {n : Nat} (c : Int) : (p : List (Tm n)) → (m e : Int) → p.foldl (fun m y => max m (c + dep n y)) (max m (c + e)) = max m (c + p.foldl (fun m y => max m (dep n y)) e)
  | [], _, _ => rfl
  | y :: p, m, e => by
    simp only [List.foldl_cons]
    have h : max (max m (c + e)) (c + dep n y) = max m (c + max e (dep n y)) := by omega
    rw [h]
    exact fold_max c p m (max e (dep n y))
theorem deep_dep : (n : Nat) → (x : Tm n) → (d m : Int) → (∀ a ∈ nodes n x, good a = true) → d ≤ m → deepL (nodes n x) (deeps n x d) m = max m (d + dep n x)
  | 0, x, _, _, h, _ => by
    have := h ((0, 0, .empty), (none, 0, 0)) (by simp [nodes])
    rcases good_kind _ this with g | g | g | g | g | ⟨g, _⟩ <;> simp at g
  | n + 1, x, d, m, h, hm => by
    have hg := h (hdOf n x) (by simp [nodes, hdOf])
    have key : ∀ (p : List (Tm n)) (m : Int), (∀ y ∈ p, y ∈ x.2.2) → d + 1 ≤ m → deepL (p.flatMap fun y => nodes n y) (p.flatMap fun y => deeps n y (d + 1)) m = p.foldl (fun m y => max m (d + 1 + dep n y)) m := by
      intro p
      induction p with
      | nil => intro m _ _; rfl
      | cons y p ih =>
        intro m hp hm
        simp only [List.flatMap_cons, List.foldl_cons]
        rw [deepL_append _ _ _ _ _ (deeps_length n y (d + 1)).symm, deep_dep n y (d + 1) m (fun a ha => h a (nodes_mem (hp y (by simp)) ha)) hm]
        exact ih _ (fun z hz => hp z (by simp [hz])) (by omega)
    have e : deepL (nodes (n + 1) x) (deeps (n + 1) x d) m = deepL (x.2.2.flatMap fun y => nodes n y) (x.2.2.flatMap fun y => deeps n y (d + 1)) (deeper (hdOf n x) d m) := rfl
    rw [e]
    simp only [dep]
    by_cases h4 : x.1.1 = 4
    · rw [if_pos h4]
      have e1 : deeper (hdOf n x) d m = max m (d + 1 + 0) := by
        unfold deeper hdOf
        by_cases hlt : m < d + 1
        · rw [if_pos ⟨h4, hlt⟩]; omega
        · rw [if_neg (fun hh => hlt hh.2)]; omega
      rw [e1, key x.2.2 _ (fun _ hy => hy) (by omega), fold_max]
      omega
    · rw [if_neg h4]
      have hl : x.2.2 = [] := by
        unfold good at hg
        simp only [Bool.and_eq_true, Bool.or_eq_true, beq_iff_eq] at hg
        rcases hg.2 with h' | h'
        · exact (h4 h').elim
        · have : ¬ (0 : Int) < (x.2.2.length : Int) := by simpa [hdOf] using h'
          exact List.eq_nil_of_length_eq_zero (by omega)
      have e1 : deeper (hdOf n x) d m = m := deeper_no _ (fun hh => h4 hh.1)
      rw [hl, e1]
      simp only [List.flatMap_nil, deepL]
      omega
theorem tchk_chk (n : Nat) (x : Tm n) : tchk n x = chk n x := by
  unfold tchk chk
  rw [chkL_all _ _ _ _ (deeps_length n x 0).symm, ← formed_good n x]
  by_cases hf : formedB n x = true
  · rw [if_pos hf, if_pos hf]
    have hg : ∀ a ∈ nodes n x, good a = true := by
      rw [formed_good n x] at hf
      exact fun a ha => List.all_eq_true.1 hf a ha
    have hd := dep_bound n x
    rw [deep_dep n x 0 0 hg (by omega)]
    have : max (0 : Int) (0 + dep n x) = dep n x := by omega
    rw [this]
  · rw [if_neg hf, if_neg hf]

/-- term.Check is the document's Check. -/
theorem tcheck_any (n : Nat) (x : Tm n) (B : Nat) (w : World) (hx : In B w n x) (hB : B ≤ w.heap.size) (hN : (nodes n x).length ≤ 2097152) :
    Calls Tryd.prog 7 #[val n x] w fun e w' => e = .returned (.int .i64 (chk n x)) ∧ Below w.heap.size w w' := by
  rw [← tchk_chk]
  exact tcheck_tchk n x B w hx hB hN
end Go.Proofs.YtpehdgbdinjbaaaDoor
namespace Go.Proofs.YtpehdgbdinjbaaaDoor
open Go.RowKit

theorem Tab.mono {B B' : Nat} {w : World} (h : Tab B w) (hB : B ≤ B') : Tab B' w := fun w' hb => h w' (hb.mono hB)

set_option maxHeartbeats 400000 in
theorem print_walk (w : World) (k u : Int) (s : ByteArray) (a : Option Addr) (l c : Nat) (e0 : Int) (t t' : List UInt8) (HE : Hid ((if e0 = 0 then t else []) = t'))
    (HC : Hid (∀ w1, Below w.heap.size w w1 → Calls Tryd.prog 7 #[.agg #[.int .i64 k, .int .i64 u, .string s, .slice a l c]] w1 fun e w' => e = .returned (.int .i64 e0) ∧ Below w1.heap.size w1 w'))
    (HW : Hid (∀ w1 b, Below w.heap.size w w1 → w.heap.size ≤ b → Bu b b [] w1 → b ≤ w1.heap.size → Calls Tryd.prog 16 #[.pointer (some ⟨b, 0, none⟩), .agg #[.int .i64 k, .int .i64 u, .string s, .slice a l c]] w1 fun e w' => e = .returned (.tuple #[]) ∧ Wrote b b t w1 w')) :
    Calls Tryd.prog 6 #[.agg #[.int .i64 k, .int .i64 u, .string s, .slice a l c]] w fun e w' => e = .returned (.tuple #[.string ⟨t'.toArray⟩, .int .i64 e0]) ∧ Below w.heap.size w w' := by
  go_enter Tryd.func6, Tryd.ntmps6
  go_wp2_with fail
  refine (HC.out _ ((Below.refl _ _).alloc (Nat.le_refl _) _)).mono ?_
  rintro e w1 ⟨rfl, hb1⟩
  have HB1 : Hid (Below w.heap.size w w1 ∧ w.heap.size + 1 ≤ w1.heap.size) := ⟨((Below.refl _ _).alloc (Nat.le_refl _) _).trans (hb1.mono (by simp)), by have := hb1.size; simpa using this⟩
  have hcc := below_cells hb1
  simp only [World.size_alloc] at hcc
  have a0 := (hcc w.heap.size 0 (by omega)).trans (by simp [go_sem] : _ = some (Value.int .i64 k))
  have a1 := (hcc w.heap.size 1 (by omega)).trans (by simp [go_sem] : _ = some (Value.int .i64 u))
  have a2 := (hcc w.heap.size 2 (by omega)).trans (by simp [go_sem] : _ = some (Value.string s))
  have a3 := (hcc w.heap.size 3 (by omega)).trans (by simp [go_sem] : _ = some (Value.slice a l c))
  clear hcc hb1
  by_cases h0 : e0 = 0
  · subst h0
    have hw1 : w.heap.size < w1.heap.size := by have := HB1.out.2; omega
    have HF : Hid (Bu w1.heap.size w1.heap.size [] (w1.alloc (.cells #[.pointer none, .slice none 0 0] 41))) := Lib.IsBuilderF.of (Lib.fresh_isBuilder 41 5 w1)
    go_wp2_with fail
    refine (HW.out _ w1.heap.size (HB1.out.1.alloc HB1.out.1.size _) (by omega) HF.out (by simp)).mono ?_
    rintro e w2 ⟨rfl, h2⟩
    have H2 := hide h2
    clear h2
    have HZ2 : Hid (w1.heap.size ≤ w2.heap.size ∧ Below w.heap.size w w2) := by
      have h3 := H2.out.2.1.size
      simp at h3
      refine ⟨by omega, (HB1.out.1.alloc HB1.out.1.size _).trans (H2.out.2.1.mono (by omega))⟩
    go_wp2_with fail
    refine (Tryd.Builder_String_any_k w1.heap.size w1.heap.size t w2 H2.out.1 HZ2.out.1).mono ?_
    rintro e w3 ⟨rfl, _, hb3, _⟩
    have HB3 : Hid (Below w.heap.size w w3) := HZ2.out.2.trans (hb3.mono (by omega))
    clear hb3
    have HE2 : Hid (t = t') := HE.out
    go_wp2_with fail
    go_ret2
    refine ⟨?_, HB3.out⟩
    rw [← HE2.out]
    rfl
  · have hn : (e0 != 0) = true := by simpa using h0
    have HE2 : Hid ([] = t') := (if_neg h0).symm.trans HE.out
    clear h0
    go_wp2_with fail
    go_ret2
    refine ⟨?_, HB1.out.1⟩
    rw [← HE2.out]
    rfl

theorem print_any (n : Nat) (x : Tm n) (B : Nat) (w : World) (hx : In B w n x) (hB : B ≤ w.heap.size) (ht : Tab w.heap.size w) (hN : (nodes n x).length ≤ 2097152) (hw : wt n x ≤ 2097152) :
    Calls Tryd.prog 6 #[val n x] w fun e w' => e = .returned (.tuple #[.string ⟨(if chk n x = 0 then wtext n x else []).toArray⟩, .int .i64 (chk n x)]) ∧ Below w.heap.size w w' := by
  cases n with
  | zero => exact hx.elim
  | succ n =>
  exact print_walk w x.1.1 x.1.2.1 x.1.2.2 x.2.1.1 x.2.2.length x.2.1.2 (chk (n + 1) x) (wtext (n + 1) x) _ rfl
    (fun w1 hw1 => tcheck_any (n + 1) x B w1 (hx.below (hw1.mono hB)) (Nat.le_trans hB hw1.size) hN)
    (fun w1 b hw1 hwb hbu hb1 => write_any (n + 1) x B b b [] w1 (hx.below (hw1.mono hB)) (by omega) hbu hb1 (Tab.mono (ht.on hw1) hwb) (by simp; omega))
end Go.Proofs.YtpehdgbdinjbaaaDoor
namespace Go.Proofs.YtpehdgbdinjbaaaDoor
open Go.RowKit

/-- What the document's Text says. -/
def rtext : (n : Nat) → Tm n → List UInt8
  | 0, _ => []
  | n + 1, x =>
    if x.1.1 = 1 then Lib.itoa x.1.2.1 else if x.1.1 = 2 then x.1.2.2.data.toList else if x.1.1 = 3 then 35 :: Lib.itoa x.1.2.1
    else if x.1.1 = 5 then 36 :: Lib.itoa x.1.2.1 else if x.1.1 = 6 then [95] else 40 :: jn (x.2.2.map fun y => rtext n y) ++ [41]
theorem rtext_len : (n : Nat) → (x : Tm n) → (B : Nat) → (w : World) → In B w n x → (rtext n x).length + 1 ≤ 24 * wt n x
  | 0, _, _, _, h => h.elim
  | n + 1, x, B, w, h => by
    have hl := jn_len n (fun y => rtext n y) x.2.2 (fun y hy => rtext_len n y B w (in_kid h hy))
    have hu : I64 x.1.2.1 := h.1.2.1
    obtain ⟨⟨k, u, s⟩, ⟨a, c⟩, p⟩ := x
    have hi := Lib.itoa_length_le u hu.1 hu.2
    have hs : s.data.toList.length = s.size := by rw [Array.length_toList]; rfl
    simp only at hl
    show (if k = 1 then Lib.itoa u else if k = 2 then s.data.toList else if k = 3 then 35 :: Lib.itoa u
      else if k = 5 then 36 :: Lib.itoa u else if k = 6 then [95] else 40 :: jn (p.map fun y => rtext n y) ++ [41]).length + 1 ≤ 24 * (1 + s.size + (p.map fun y => wt n y).sum)
    repeat' split
    all_goals (try simp only [List.length_cons, List.length_append, List.length_nil])
    all_goals omega

theorem bytes_append (a b : ByteArray) : (a ++ b).data.toList = a.data.toList ++ b.data.toList := by simp [ByteArray.data_append]

def FTxt (n : Nat) : Prop := ∀ (x : Tm n) (B : Nat) (w : World), In B w n x → B ≤ w.heap.size → Tab w.heap.size w → wt n x ≤ 2097152 →
  Calls Tryd.prog 5 #[val n x] w fun e w' => ∃ r : ByteArray, e = .returned (.string r) ∧ Hid (r.data.toList = rtext n x ∧ Below w.heap.size w w')

theorem text_num (k u : Int) (s : ByteArray) (a : Option Addr) (n c : Nat) (w : World) (hu : I64 u) (ht : Tab w.heap.size w) (c8 : UInt8) (hk : (k = 3 ∧ c8 = 35) ∨ (k = 5 ∧ c8 = 36)) :
    Calls Tryd.prog 5 #[.agg #[.int .i64 k, .int .i64 u, .string s, .slice a n c]] w fun e w' => ∃ r : ByteArray, e = .returned (.string r) ∧ Hid (r.data.toList = c8 :: Lib.itoa u ∧ Below w.heap.size w w') := by
  have hi := Lib.itoa_length_le u hu.1 hu.2
  have HT := hide ht
  have HU := hide hu
  clear ht hu
  rcases hk with ⟨rfl, rfl⟩ | ⟨rfl, rfl⟩
  all_goals
    go_enter Tryd.func5, Tryd.ntmps5
    go_wp2_with fail
    refine (itoa_any u HU.out.1 HU.out.2 w.heap.size _ (HT.out.on ((Below.refl _ _).alloc (Nat.le_refl _) _))).mono ?_
    rintro e w2 ⟨rfl, hb2⟩
    have HB2 : Hid (Below w.heap.size w w2) := ((Below.refl _ _).alloc (Nat.le_refl _) _).trans (hb2.mono (by simp))
    clear hb2
    go_wp2_with fail
    go_ret
    exact ⟨_, rfl, by simp, HB2.out⟩

theorem text_int (u : Int) (s : ByteArray) (a : Option Addr) (n c : Nat) (w : World) (hu : I64 u) (ht : Tab w.heap.size w) :
    Calls Tryd.prog 5 #[.agg #[.int .i64 1, .int .i64 u, .string s, .slice a n c]] w fun e w' => ∃ r : ByteArray, e = .returned (.string r) ∧ Hid (r.data.toList = Lib.itoa u ∧ Below w.heap.size w w') := by
  have HT := hide ht
  have HU := hide hu
  clear ht hu
  go_enter Tryd.func5, Tryd.ntmps5
  go_wp2_with fail
  refine (itoa_any u HU.out.1 HU.out.2 w.heap.size _ (HT.out.on ((Below.refl _ _).alloc (Nat.le_refl _) _))).mono ?_
  rintro e w2 ⟨rfl, hb2⟩
  have HB2 : Hid (Below w.heap.size w w2) := ((Below.refl _ _).alloc (Nat.le_refl _) _).trans (hb2.mono (by simp))
  clear hb2
  go_wp2_with fail
  go_ret
  exact ⟨_, rfl, by simp, HB2.out⟩

theorem text_name (u : Int) (s : ByteArray) (a : Option Addr) (n c : Nat) (w : World) :
    Calls Tryd.prog 5 #[.agg #[.int .i64 2, .int .i64 u, .string s, .slice a n c]] w fun e w' => ∃ r : ByteArray, e = .returned (.string r) ∧ Hid (r.data.toList = s.data.toList ∧ Below w.heap.size w w') := by
  go_enter Tryd.func5, Tryd.ntmps5
  go_wp2_with fail
  go_ret
  exact ⟨_, rfl, rfl, (Below.refl _ _).alloc (Nat.le_refl _) _⟩
theorem text_wild (u : Int) (s : ByteArray) (a : Option Addr) (n c : Nat) (w : World) :
    Calls Tryd.prog 5 #[.agg #[.int .i64 6, .int .i64 u, .string s, .slice a n c]] w fun e w' => ∃ r : ByteArray, e = .returned (.string r) ∧ Hid (r.data.toList = [95] ∧ Below w.heap.size w w') := by
  go_enter Tryd.func5, Tryd.ntmps5
  go_wp2_with fail
  go_ret
  exact ⟨_, rfl, rfl, (Below.refl _ _).alloc (Nat.le_refl _) _⟩

def rjTo (n : Nat) (p : List (Tm n)) (k : Nat) : List UInt8 := jn ((p.take k).map fun y => rtext n y)
theorem rjTo_succ (n : Nat) (p : List (Tm n)) (k : Nat) (x : Tm n) (h : p[k]? = some x) : rjTo n p (k + 1) = if k = 0 then rtext n x else rjTo n p k ++ 32 :: rtext n x := by
  obtain ⟨h1, e1⟩ := List.getElem?_eq_some_iff.1 h
  unfold rjTo
  rw [List.take_succ_eq_append_getElem h1, e1, List.map_append, List.map_cons, List.map_nil, jn_snoc]
  by_cases hk : k = 0
  · subst hk; simp
  · rw [if_neg hk, if_neg]
    intro e
    have := congrArg List.length e
    rw [List.length_map, List.length_take, List.length_nil] at this
    omega
theorem rjTo_len (n : Nat) (p : List (Tm n)) (k : Nat) (h : ∀ y ∈ p, (rtext n y).length + 1 ≤ 24 * wt n y) : (rjTo n p k).length ≤ 24 * ((p.take k).map fun y => wt n y).sum :=
  jn_len n (fun y => rtext n y) (p.take k) (fun y hy => h y (List.mem_of_mem_take hy))

theorem size_toList (r : ByteArray) : r.data.toList.length = r.size := by rw [Array.length_toList]; rfl

set_option maxHeartbeats 1000000 in
theorem text_tup (n : Nat) (ih : FTxt n) (k0 u0 : Int) (s : ByteArray) (a : Option Addr) (pc len : Nat) (p : List (Tm n)) (hpl : Hid (p.length = len)) (B : Nat) (w : World) (k1 : (k0 == 1) = false) (k2 : (k0 == 2) = false) (k3 : (k0 == 3) = false) (k5 : (k0 == 5) = false) (k6 : (k0 == 6) = false)
    (hp : Hid (p = [] ∨ ∃ b o, a = some ⟨b, o, none⟩ ∧ b < B ∧ ∀ (i : Nat) (y : Tm n), p[i]? = some y → Held w b (o + i * 4) n y ∧ In B w n y))
    (hlen : len ≤ 9223372036854775807) (hB : B ≤ w.heap.size) (ht : Tab w.heap.size w) (hsum : (p.map fun y => wt n y).sum ≤ 2097152) :
    Calls Tryd.prog 5 #[.agg #[.int .i64 k0, .int .i64 u0, .string s, .slice a len pc]] w fun e w' => ∃ r : ByteArray, e = .returned (.string r) ∧ Hid (r.data.toList = 40 :: jn (p.map fun y => rtext n y) ++ [41] ∧ Below w.heap.size w w') := by
  have HLE : Hid (∀ k, (rjTo n p k).length ≤ 24 * ((p.take k).map fun y => wt n y).sum) := fun k => rjTo_len n p k (fun y hy => by
    rcases hp.out with hp | ⟨pb, po, _, _, hp⟩
    · rw [hp] at hy; cases hy
    · obtain ⟨i, hi⟩ := List.getElem?_of_mem hy
      exact rtext_len n y B w (hp i y hi).2)
  have HSUM := hide hsum
  have HT := hide ht
  clear ht hsum
  go_enter Tryd.func5, Tryd.ntmps5
  go_wp2_with fail
  go_loopw [3, 4] (fun o i wr => ∃ k : Nat, ∃ r : ByteArray, k ≤ len ∧ i = .int .i64 k ∧ o = .string r ∧ Hid (r.data.toList = 40 :: rjTo n p k) ∧ Below w.heap.size w wr ∧ w.heap.size + 1 ≤ wr.heap.size ∧ wr.cell? ⟨w.heap.size, 3, none⟩ = some (.slice a len pc)) (fun _ i _ => len - (intOf i).toNat)
  case atStart => exact ⟨0, _, by omega, rfl, rfl, rfl, (Below.refl _ _).alloc (Nat.le_refl _) _, by simp, by simp [go_sem]⟩
  case round =>
    obtain ⟨k, r, hk, rfl, rfl, HR, hb, hwr, ha0⟩ := hrel
    have hrs : r.size ≤ 50331650 := by
      have h1 := HLE.out k
      have h2 := wt_take n p k
      have h3 := HSUM.out
      rw [← size_toList, HR.out, List.length_cons]
      omega
    by_cases hlt : k < len
    · obtain ⟨x, hx⟩ : ∃ x, p[k]? = some x := ⟨p[k]'(by rw [hpl.out]; exact hlt), List.getElem?_eq_getElem _⟩
      have HS := hide (rjTo_succ n p k x hx)
      have hxw : wt n x ≤ 2097152 := by have h1 := wt_take_succ n p k x hx; have h2 := HSUM.out; omega
      rcases hp.out with hp | ⟨pb, po, rfl, hpb, hp⟩
      · subst hp; simp at hx
      obtain ⟨hx1, hx2⟩ := hp k x hx
      have HXL : Hid ((rtext n x).length ≤ 50331648) := by have := rtext_len n x B w hx2; simp only [Hid]; omega
      replace hx1 := hx1.below (hb.mono hB) hpb
      replace hx2 := hx2.below (hb.mono hB)
      clear hp hx
      cases n with
      | zero => exact hx1.elim
      | succ n =>
      obtain ⟨x0, x1, x2, x3⟩ := hx1
      have hB' : B ≤ wr.heap.size := Nat.le_trans hB hb.size
      have HC : Hid (Calls Tryd.prog 5 #[.agg #[.int .i64 x.1.1, .int .i64 x.1.2.1, .string x.1.2.2, .slice x.2.1.1 x.2.2.length x.2.1.2]] wr fun e w' => ∃ r : ByteArray, e = .returned (.string r) ∧ Hid (r.data.toList = rtext (n + 1) x ∧ Below wr.heap.size wr w')) :=
        ih x B wr hx2 hB' (fun w' h' => HT.out w' (hb.trans (h'.mono hb.size))) hxw
      clear ih hx2 hxw
      generalize x.2.2.length = xl at *
      generalize rtext (n + 1) x = tx at *
      have hk1 : (0 : Int) ≤ (k : Int) := by omega
      have hk2 : (k : Int) < (len : Int) := by omega
      by_cases hk0 : k = 0
      · have HK0 := hide hk0
        have hk3 : ¬ (0 : Int) < (k : Int) := by omega
        clear hk0
        go_wp2_with fail
        refine HC.out.mono ?_
        rintro e w1 ⟨q, rfl, HQ⟩
        have hq : q.size ≤ 50331648 := by rw [← size_toList, HQ.out.1]; exact HXL.out
        have hd0 : w1.cell? ⟨w.heap.size, 3, none⟩ = some (.slice (some ⟨pb, po, none⟩) len pc) := (HQ.out.2.cell (p := ⟨w.heap.size, 3, none⟩) (by simp; omega)).trans ha0
        have hz1 := HQ.out.2.size
        have hb2 : Below w.heap.size w w1 := hb.trans (HQ.out.2.mono hb.size)
        go_wp2_with fail
        go_roundw
        case rel =>
          refine ⟨k + 1, _, by omega, by go_num, rfl, hide ?_, hb2, by omega, hd0⟩
          rw [bytes_append, HR.out, HQ.out.1, HS.out, if_pos HK0.out]
          have e0 : rjTo (n + 1) p k = [] := by rw [HK0.out]; rfl
          rw [e0]
          rfl
        case measure => simp [intOf]; omega
      · have HK0 := hide hk0
        have hk3 : (0 : Int) < (k : Int) := by omega
        clear hk0
        go_wp2_with fail
        refine HC.out.mono ?_
        rintro e w1 ⟨q, rfl, HQ⟩
        have hq : q.size ≤ 50331648 := by rw [← size_toList, HQ.out.1]; exact HXL.out
        have hd0 : w1.cell? ⟨w.heap.size, 3, none⟩ = some (.slice (some ⟨pb, po, none⟩) len pc) := (HQ.out.2.cell (p := ⟨w.heap.size, 3, none⟩) (by simp; omega)).trans ha0
        have hz1 := HQ.out.2.size
        have hb2 : Below w.heap.size w w1 := hb.trans (HQ.out.2.mono hb.size)
        go_wp2_with fail
        go_roundw
        case rel =>
          refine ⟨k + 1, _, by omega, by go_num, rfl, hide ?_, hb2, by omega, hd0⟩
          rw [bytes_append, bytes_append, HR.out, HQ.out.1, HS.out, if_neg HK0.out]
          simp
        case measure => simp [intOf]; omega
    · go_wp2_with fail
      go_ret
      refine ⟨_, rfl, ?_, hb⟩
      rw [bytes_append, HR.out]
      unfold rjTo
      rw [List.take_of_length_le (by rw [hpl.out]; omega)]
      rfl

theorem text_any (n : Nat) : FTxt n := by
  induction n with
  | zero => intro x B w hx; exact hx.elim
  | succ n ih =>
    intro x B w hx hB ht hw
    obtain ⟨⟨k, u, s⟩, ⟨a, pc⟩, p⟩ := x
    obtain ⟨⟨_, hu, hs, hpl, hpc⟩, hp⟩ := hx
    simp only at hu hs hpl hpc hp
    unfold maxLen at hpc
    have hwt : wt (n + 1) ((k, u, s), (a, pc), p) = 1 + s.size + (p.map fun y => wt n y).sum := rfl
    rw [hwt] at hw
    show Calls Tryd.prog 5 #[.agg #[.int .i64 k, .int .i64 u, .string s, .slice a p.length pc]] w fun e w' => ∃ r : ByteArray, e = .returned (.string r) ∧ Hid (r.data.toList = (if k = 1 then Lib.itoa u else if k = 2 then s.data.toList else if k = 3 then 35 :: Lib.itoa u
      else if k = 5 then 36 :: Lib.itoa u else if k = 6 then [95] else 40 :: jn (p.map fun y => rtext n y) ++ [41]) ∧ Below w.heap.size w w')
    by_cases k1 : k = 1
    · subst k1
      exact text_int u s a p.length pc w hu ht
    rw [if_neg k1]
    by_cases k2 : k = 2
    · subst k2
      exact text_name u s a p.length pc w
    rw [if_neg k2]
    by_cases k3 : k = 3
    · subst k3
      exact text_num 3 u s a p.length pc w hu ht 35 (Or.inl ⟨rfl, rfl⟩)
    rw [if_neg k3]
    by_cases k5 : k = 5
    · subst k5
      exact text_num 5 u s a p.length pc w hu ht 36 (Or.inr ⟨rfl, rfl⟩)
    rw [if_neg k5]
    by_cases k6 : k = 6
    · subst k6
      exact text_wild u s a p.length pc w
    rw [if_neg k6]
    exact text_tup n ih k u s a pc p.length p rfl B w (by simpa using k1) (by simpa using k2) (by simpa using k3) (by simpa using k5) (by simpa using k6) hp (by omega) hB ht (by omega)
end Go.Proofs.YtpehdgbdinjbaaaDoor
namespace Go.Proofs.YtpehdgbdinjbaaaDoor
open Go.RowKit

/-- Neither a variable nor the wild one, by itself. -/
def shut (x : Nd) : Bool := !(x.1.1 == 5) && !(x.1.1 == 6)
def closedB (n : Nat) (x : Tm n) : Bool := (nodes n x).all shut
def closedT : (n : Nat) → Tm n → Bool
  | 0, _ => true
  | n + 1, x => !(x.1.1 == 5) && !(x.1.1 == 6) && x.2.2.all fun y => closedT n y
theorem closed_eq : (n : Nat) → (x : Tm n) → closedT n x = closedB n x
  | 0, _ => by simp [closedT, closedB, nodes, shut]
  | n + 1, x => by
    have key : ∀ l : List (Tm n), (l.all fun y => closedT n y) = (l.flatMap fun y => nodes n y).all shut := by
      intro l
      induction l with
      | nil => rfl
      | cons y l ih =>
        have := closed_eq n y
        unfold closedB at this
        simp only [List.all_cons, List.flatMap_cons, List.all_append, ih, this]
    show (!(x.1.1 == 5) && !(x.1.1 == 6) && x.2.2.all fun y => closedT n y) = (shut (x.1, (x.2.1.1, x.2.2.length, x.2.1.2)) && (x.2.2.flatMap fun y => nodes n y).all shut)
    rw [key]
    rfl

def FClo (n : Nat) : Prop := ∀ (x : Tm n) (B : Nat) (w : World), In B w n x → B ≤ w.heap.size →
  Calls Tryd.prog 8 #[val n x] w fun e w' => e = .returned (.bool (closedT n x)) ∧ Below w.heap.size w w'

set_option maxHeartbeats 400000 in
theorem closed_walk (n : Nat) (ih : FClo n) (k0 u0 : Int) (s : ByteArray) (a : Option Addr) (pc len : Nat) (p : List (Tm n)) (hpl : Hid (p.length = len)) (B : Nat) (w : World)
    (hp : Hid (p = [] ∨ ∃ b o, a = some ⟨b, o, none⟩ ∧ b < B ∧ ∀ (i : Nat) (y : Tm n), p[i]? = some y → Held w b (o + i * 4) n y ∧ In B w n y))
    (hlen : len ≤ 9223372036854775807) (hB : B ≤ w.heap.size) :
    Calls Tryd.prog 8 #[.agg #[.int .i64 k0, .int .i64 u0, .string s, .slice a len pc]] w fun e w' => e = .returned (.bool (!(k0 == 5) && !(k0 == 6) && p.all fun y => closedT n y)) ∧ Below w.heap.size w w' := by
  cases h5 : k0 == 5
  case true =>
    go_enter Tryd.func8, Tryd.ntmps8
    go_wp2_with fail
    go_ret
    exact ⟨ret_bool (by simp), (Below.refl _ _).alloc (Nat.le_refl _) _⟩
  cases h6 : k0 == 6
  case true =>
    go_enter Tryd.func8, Tryd.ntmps8
    go_wp2_with fail
    go_ret
    exact ⟨ret_bool (by simp), (Below.refl _ _).alloc (Nat.le_refl _) _⟩
  have e0 : (!false && !false && p.all fun y => closedT n y) = p.all fun y => closedT n y := by simp
  rw [e0]
  clear e0
  go_enter Tryd.func8, Tryd.ntmps8
  go_wp2_with fail
  go_loopw [16] (fun i wr => ∃ k : Nat, k ≤ len ∧ i = .int .i64 k ∧ Below w.heap.size w wr ∧ Hid (((p.drop k).all fun y => closedT n y) = p.all fun y => closedT n y)) (fun i _ => len - (intOf i).toNat)
  case atStart => exact ⟨0, by omega, rfl, (Below.refl _ _).alloc (Nat.le_refl _) _, rfl⟩
  case round =>
    obtain ⟨k, hk, rfl, hb, hd⟩ := hrel
    by_cases hlt : k < len
    · obtain ⟨x, hx⟩ : ∃ x, p[k]? = some x := ⟨p[k]'(by rw [hpl.out]; exact hlt), List.getElem?_eq_getElem _⟩
      have HS : Hid (((p.drop k).all fun y => closedT n y) = (closedT n x && (p.drop (k + 1)).all fun y => closedT n y)) := by
        obtain ⟨h1, e1⟩ := List.getElem?_eq_some_iff.1 hx
        rw [List.drop_eq_getElem_cons h1, e1]
        rfl
      rcases hp.out with hp | ⟨pb, po, rfl, hpb, hp⟩
      · subst hp; simp at hx
      obtain ⟨hx1, hx2⟩ := hp k x hx
      replace hx1 := hx1.below (hb.mono hB) hpb
      replace hx2 := hx2.below (hb.mono hB)
      clear hp hx
      cases n with
      | zero => exact hx1.elim
      | succ n =>
      obtain ⟨x0, x1, x2, x3⟩ := hx1
      have hB' : B ≤ wr.heap.size := Nat.le_trans hB hb.size
      have HC : Hid (∀ w1, Below wr.heap.size wr w1 → Calls Tryd.prog 8 #[.agg #[.int .i64 x.1.1, .int .i64 x.1.2.1, .string x.1.2.2, .slice x.2.1.1 x.2.2.length x.2.1.2]] w1 fun e w' => e = .returned (.bool (closedT (n + 1) x)) ∧ Below w1.heap.size w1 w') :=
        fun w1 h1 => ih x B w1 (hx2.below (h1.mono hB')) (Nat.le_trans hB' h1.size)
      clear ih hx2
      generalize x.2.2.length = xl at *
      generalize closedT (n + 1) x = r at *
      have hk1 : (0 : Int) ≤ (k : Int) := by omega
      have hk2 : (k : Int) < (len : Int) := by omega
      go_wp2_with fail
      refine (HC.out _ ((Below.refl _ _).alloc (Nat.le_refl _) _)).mono ?_
      rintro e w1 ⟨rfl, hb1⟩
      have hb2 : Below w.heap.size w w1 := (hb.trans (((Below.refl _ _).alloc (Nat.le_refl _) _).mono hb.size)).trans (hb1.mono (by have := hb.size; simp; omega))
      clear hb1
      cases r with
      | true =>
        go_wp2_with fail
        go_roundw
        case rel => exact ⟨k + 1, by omega, by go_num, hb2, by rw [← hd.out, HS.out]; rfl⟩
        case measure => simp [intOf]; omega
      | false =>
        go_wp2_with fail
        go_ret
        exact ⟨ret_bool (by rw [← hd.out, HS.out]; rfl), hb2⟩
    · go_wp2_with fail
      go_ret
      refine ⟨ret_bool ?_, hb⟩
      rw [← hd.out, List.drop_eq_nil_of_le (by rw [hpl.out]; omega)]
      rfl

theorem closed_any (n : Nat) : FClo n := by
  induction n with
  | zero => intro x B w hx; exact hx.elim
  | succ n ih =>
    intro x B w hx hB
    obtain ⟨⟨k, u, s⟩, ⟨a, pc⟩, p⟩ := x
    obtain ⟨⟨_, _, _, hpl, hpc⟩, hp⟩ := hx
    simp only at hpl hpc hp
    unfold maxLen at hpc
    exact closed_walk n ih k u s a pc p.length p rfl B w hp (by omega) hB

set_option maxHeartbeats 1000000 in
theorem rclosed_walk (w : World) (c0 c1 : Int) (c2 : ByteArray) (xa : Option Addr) (xl xc : Nat) (N : List Nd) (D : List Int) (L : Nat) (HL : Hid (N.length = L)) (hL : L ≤ 2097152)
    (HALL : Hid (∀ w1, Below w.heap.size w w1 → Calls Tryd.prog 12 #[.agg #[.int .i64 c0, .int .i64 c1, .string c2, .slice xa xl xc], .int .i64 0] w1 fun e w' =>
      ∃ g c h c', e = .returned (.tuple #[.slice (some ⟨g, 0, none⟩) L c, .slice (some ⟨h, 0, none⟩) L c']) ∧
        Hid (g ≠ h ∧ Below w1.heap.size w1 w' ∧ w'.ownsRow w1.heap.size 24 4 (.slice (some ⟨g, 0, none⟩) L c) L (ndCells N) ∧ w'.ownsRow w1.heap.size 3 1 (.slice (some ⟨h, 0, none⟩) L c') L (ints D)))) :
    Calls Tryd.prog 9 #[.agg #[.int .i64 c0, .int .i64 c1, .string c2, .slice xa xl xc]] w fun e w' => e = .returned (.bool (N.all shut)) ∧ Below w.heap.size w w' := by
  go_enter Tryd.func9, Tryd.ntmps9
  go_wp2_with fail
  refine (HALL.out _ ((Below.refl _ _).alloc (Nat.le_refl _) _)).mono ?_
  rintro e w1 ⟨g, c, h, c', rfl, HO⟩
  have HB1 : Hid (Below w.heap.size w w1) := ((Below.refl _ _).alloc (Nat.le_refl _) _).trans (HO.out.2.1.mono (by simp))
  have HOW := hide HO.out.2.2.1
  clear HO
  go_wp2_with fail
  go_loop [5] (fun i => ∃ k : Nat, k ≤ L ∧ i = .int .i64 k ∧ Hid ((N.drop k).all shut = N.all shut)) (fun i => L - (intOf i).toNat)
  case atStart => exact ⟨0, by omega, rfl, rfl⟩
  case round =>
    obtain ⟨k, hk, rfl, HD⟩ := hrel
    by_cases hlt : k < L
    · obtain ⟨x, hx⟩ : ∃ x, N[k]? = some x := ⟨N[k]'(by rw [HL.out]; exact hlt), List.getElem?_eq_getElem _⟩
      have HS : Hid ((N.drop k).all shut = (shut x && (N.drop (k + 1)).all shut)) := by
        obtain ⟨h1, e1⟩ := List.getElem?_eq_some_iff.1 hx
        rw [List.drop_eq_getElem_cons h1, e1]
        rfl
      obtain ⟨x0, _, _, _⟩ := own_nd HOW.out k x hx
      obtain ⟨⟨kk, uu, ss⟩, ⟨aa, ll, cc⟩⟩ := x
      simp only at x0
      clear hx
      have hk1 : (0 : Int) ≤ (k : Int) := by omega
      have hk2 : (k : Int) < (L : Int) := by omega
      cases h5 : kk == 5
      case true =>
        have HX : Hid (shut ((kk, uu, ss), (aa, ll, cc)) = false) := by simp [Hid, shut, h5]
        go_wp2_with fail
        go_ret
        exact ⟨ret_bool (by rw [← HD.out, HS.out, HX.out]; rfl), HB1.out⟩
      cases h6 : kk == 6
      case true =>
        have HX : Hid (shut ((kk, uu, ss), (aa, ll, cc)) = false) := by simp [Hid, shut, h6]
        go_wp2_with fail
        go_ret
        exact ⟨ret_bool (by rw [← HD.out, HS.out, HX.out]; rfl), HB1.out⟩
      have HX : Hid (shut ((kk, uu, ss), (aa, ll, cc)) = true) := by simp [Hid, shut, h5, h6]
      go_wp2_with fail
      go_round
      case rel => exact ⟨k + 1, by omega, by go_num, by simp only [Hid]; rw [← HD.out, HS.out, HX.out]; rfl⟩
      case measure => simp [intOf]; omega
    · go_wp2_with fail
      go_ret
      refine ⟨ret_bool ?_, HB1.out⟩
      rw [← HD.out, List.drop_eq_nil_of_le (by rw [HL.out]; omega)]
      rfl

theorem rclosed_any (n : Nat) (x : Tm n) (B : Nat) (w : World) (hx : In B w n x) (hB : B ≤ w.heap.size) (hN : (nodes n x).length ≤ 2097152) :
    Calls Tryd.prog 9 #[val n x] w fun e w' => e = .returned (.bool (closedB n x)) ∧ Below w.heap.size w w' := by
  cases n with
  | zero => exact hx.elim
  | succ n =>
  exact rclosed_walk w x.1.1 x.1.2.1 x.1.2.2 x.2.1.1 x.2.2.length x.2.1.2 (nodes (n + 1) x) (deeps (n + 1) x 0) (nodes (n + 1) x).length rfl hN
    (fun w1 hw => all_any (n + 1) x 0 B w1 (hx.below (hw.mono hB)) (Nat.le_trans hB hw.size) (by omega) (by omega))
end Go.Proofs.YtpehdgbdinjbaaaDoor
