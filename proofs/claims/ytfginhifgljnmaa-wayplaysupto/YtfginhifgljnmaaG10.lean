/- What is proved here: plain facts and contracts that the claimed theorem stands on, several texts in one: term.depth, term.Size and term.Check of a term that lies in memory return what plain functions say, and turn no memory that was there; Check is the document's Check. Condition: at most 2097152 terms in it. term.Closed, and the document's Closed, of a term that lies in memory: both return whether no term in it is a variable or the wild one, and turn no memory that was there. Condition of the document's: at most 2097152 terms in it. what add and Send do: the term's copy is the last one on its way, or an error is told. No condition but that the ways and the term lie in memory. cmp.Compare of two ints, and of two strings, returns -1, 0 or 1 as they stand to each other, and turns nothing. No condition but that the ints are ints. term.Order of two terms that lie in memory returns what the plain function ord says of them, and turns no memory that was there; likewise orderArgs of two lists. No condition but that the terms lie in memory. -/
import Derived.Test.YtfginhifgljnmaaG04
import Derived.Test.YtfginhifgljnmaaG01
import Derived.Test.YtfginhifgljnmaaG06
import Derived.Test.YtfginhifgljnmaaG09
import Derived.Deep.RegionHeld3
import Derived.Deep.DrawnRows
namespace Go.Proofs.Ytfginhifgljnmaa
open Go.RowKit

def dep : (n : Nat) → Tm n → Int
  | 0, _ => 0
  | n + 1, x => if x.1.1 = 4 then 1 + x.2.2.foldl (fun m y => max m (dep n y)) 0 else 0
def depTo (n : Nat) (p : List (Tm n)) (k : Nat) : Int := (p.take k).foldl (fun m y => max m (dep n y)) 0
theorem depTo_succ (n : Nat) (p : List (Tm n)) (k : Nat) (x : Tm n) (h : p[k]? = some x) : depTo n p (k + 1) = max (depTo n p k) (dep n x) := by
  obtain ⟨h1, e1⟩ := List.getElem?_eq_some_iff.1 h
  unfold depTo
  rw [List.take_succ_eq_append_getElem h1, e1, List.foldl_append]
  rfl
theorem fold_bound {n : Nat} (N : Int) : (l : List (Tm n)) → (m : Int) → 0 ≤ m → m ≤ N → (∀ y ∈ l, 0 ≤ dep n y ∧ dep n y ≤ N) → 0 ≤ l.foldl (fun m y => max m (dep n y)) m ∧ l.foldl (fun m y => max m (dep n y)) m ≤ N
  | [], _, h0, h1, _ => ⟨h0, h1⟩
  | y :: l, m, h0, h1, h => by
    have hy := h y (by simp)
    exact fold_bound N l (max m (dep n y)) (by omega) (by omega) (fun z hz => h z (by simp [hz]))
theorem mem_nodes_le {n : Nat} (l : List (Tm n)) (y : Tm n) (h : y ∈ l) : (nodes n y).length ≤ (l.flatMap fun y => nodes n y).length := by
  obtain ⟨i, hi⟩ := List.getElem?_of_mem h
  have e4 := take_le (fun y => nodes n y) l (i + 1)
  rw [take_flat _ l i y hi, List.length_append] at e4
  omega
theorem dep_bound : (n : Nat) → (x : Tm n) → 0 ≤ dep n x ∧ dep n x ≤ (nodes n x).length
  | 0, _ => by simp [dep]
  | n + 1, x => by
    have hb := fold_bound ((x.2.2.flatMap fun y => nodes n y).length : Int) x.2.2 0 (by omega) (by omega) (fun y hy => by
      have h1 := dep_bound n y
      have h2 := mem_nodes_le x.2.2 y hy
      omega)
    simp only [dep, nodes, List.length_cons]
    by_cases h4 : x.1.1 = 4
    · rw [if_pos h4]; omega
    · rw [if_neg h4]; omega
theorem depTo_bound (n : Nat) (p : List (Tm n)) (k : Nat) : 0 ≤ depTo n p k ∧ depTo n p k ≤ (p.flatMap fun y => nodes n y).length :=
  fold_bound _ (p.take k) 0 (by omega) (by omega) (fun y hy => by
    have h1 := dep_bound n y
    have h2 := mem_nodes_le p y (List.mem_of_mem_take hy)
    omega)

def FDep (n : Nat) : Prop := ∀ (x : Tm n) (B : Nat) (w : World), In B w n x → B ≤ w.heap.size → (nodes n x).length ≤ 2097152 →
  Calls Try.prog 102 #[val n x] w fun e w' => e = .returned (.int .i64 (dep n x)) ∧ Below w.heap.size w w'

theorem depth_else (k0 u0 : Int) (s : ByteArray) (a : Option Addr) (len pc : Nat) (w : World) (h : ¬ k0 = 4) :
    Calls Try.prog 102 #[.agg #[.int .i64 k0, .int .i64 u0, .string s, .slice a len pc]] w fun e w' => e = .returned (.int .i64 0) ∧ Below w.heap.size w w' := by
  have h4 : (k0 != 4) = true := by simpa using h
  clear h
  go_enter Try.func102, Try.ntmps102
  go_wp2_with fail
  go_ret
  exact ⟨rfl, (Below.refl _ _).alloc (Nat.le_refl _) _⟩

set_option maxHeartbeats 400000 in
theorem depth_tup (n : Nat) (ih : FDep n) (u0 : Int) (s : ByteArray) (a : Option Addr) (pc len : Nat) (p : List (Tm n)) (hpl : Hid (p.length = len)) (B : Nat) (w : World)
    (hp : Hid (p = [] ∨ ∃ b o, a = some ⟨b, o, none⟩ ∧ b < B ∧ ∀ (i : Nat) (y : Tm n), p[i]? = some y → Held w b (o + i * 4) n y ∧ In B w n y))
    (hlen : len ≤ 9223372036854775807) (hB : B ≤ w.heap.size) (hsum : Hid (1 + (p.flatMap fun y => nodes n y).length ≤ 2097152)) :
    Calls Try.prog 102 #[.agg #[.int .i64 4, .int .i64 u0, .string s, .slice a len pc]] w fun e w' =>
      e = .returned (.int .i64 (1 + p.foldl (fun m y => max m (dep n y)) 0)) ∧ Below w.heap.size w w' := by
  go_enter Try.func102, Try.ntmps102
  go_wp2_with fail
  go_loopw [3, 12] (fun t i wr => ∃ k : Nat, ∃ r : Int, k ≤ len ∧ i = .int .i64 k ∧ t = .int .i64 r ∧ Hid (r = depTo n p k) ∧ Below w.heap.size w wr) (fun _ i _ => len - (intOf i).toNat)
  case atStart => exact ⟨0, 0, by omega, rfl, rfl, by simp [Hid, depTo], (Below.refl _ _).alloc (Nat.le_refl _) _⟩
  case round =>
    obtain ⟨k, r, hk, rfl, rfl, hr, hb⟩ := hrel
    have e1 := depTo_bound n p k
    rw [← hr.out] at e1
    have e5 := hsum.out
    have r1 : 0 ≤ r := e1.1
    have r2 : r ≤ 2097152 := by omega
    clear e1
    by_cases hlt : k < len
    · obtain ⟨x, hx⟩ : ∃ x, p[k]? = some x := ⟨p[k]'(by rw [hpl.out]; exact hlt), List.getElem?_eq_getElem _⟩
      have HS := hide (depTo_succ n p k x hx)
      have e3 := mem_nodes_le p x (List.mem_of_getElem? hx)
      have hx9 : (nodes n x).length ≤ 2097152 := by omega
      clear e3 e5
      rcases hp.out with hp | ⟨pb, po, rfl, hpb, hp⟩
      · subst hp; simp at hx
      obtain ⟨hx1, hx2⟩ := hp k x hx
      replace hx1 := hx1.below (hb.mono hB) hpb
      replace hx2 := hx2.below (hb.mono hB)
      clear hp hx
      cases n with
      | zero => exact hx1.elim
      | succ n =>
      obtain ⟨x0, x1, x2, x3⟩ := hx1
      have hB' : B ≤ wr.heap.size := Nat.le_trans hB hb.size
      have HC : Hid (∀ w1, Below wr.heap.size wr w1 → Calls Try.prog 102 #[.agg #[.int .i64 x.1.1, .int .i64 x.1.2.1, .string x.1.2.2, .slice x.2.1.1 x.2.2.length x.2.1.2]] w1 fun e w' => e = .returned (.int .i64 (dep (n + 1) x)) ∧ Below w1.heap.size w1 w') :=
        fun w1 h1 => ih x B w1 (hx2.below (h1.mono hB')) (Nat.le_trans hB' h1.size) hx9
      clear ih hx2 hx9
      generalize x.2.2.length = xl at *
      generalize dep (n + 1) x = z at *
      have hk1 : (0 : Int) ≤ (k : Int) := by omega
      have hk2 : (k : Int) < (len : Int) := by omega
      go_wp2_with fail
      refine (HC.out _ ((Below.refl _ _).alloc (Nat.le_refl _) _)).mono ?_
      rintro e w1 ⟨rfl, hb1⟩
      have hb2 : Below w.heap.size w w1 := (hb.trans (((Below.refl _ _).alloc (Nat.le_refl _) _).mono hb.size)).trans (hb1.mono (by have := hb.size; simp; omega))
      clear hb1
      have hmx : max r z = if r < z then z else r := by split <;> omega
      have HMX := hide hmx
      clear hmx
      go_wp2_with fail
      go_roundw
      case rel => exact ⟨k + 1, _, by omega, by go_num, rfl, by simp only [Hid]; rw [HS.out, ← hr.out, HMX.out], hb2⟩
      case measure => simp [intOf]; omega
    · go_wp2_with fail
      go_ret
      refine ⟨ret_int ?_, hb⟩
      rw [hr.out]
      unfold depTo
      rw [List.take_of_length_le (by rw [hpl.out]; omega)]

theorem depth_any (n : Nat) : FDep n := by
  induction n with
  | zero => intro x B w hx; exact hx.elim
  | succ n ih =>
    intro x B w hx hB hsum
    obtain ⟨⟨k, u, s⟩, ⟨a, pc⟩, p⟩ := x
    obtain ⟨⟨_, _, _, hpl, hpc⟩, hp⟩ := hx
    simp only at hpl hpc hp
    unfold maxLen at hpc
    have hL : (nodes (n + 1) ((k, u, s), (a, pc), p)).length = 1 + (p.flatMap fun y => nodes n y).length := by simp only [nodes, List.length_cons]; omega
    rw [hL] at hsum
    show Calls Try.prog 102 #[.agg #[.int .i64 k, .int .i64 u, .string s, .slice a p.length pc]] w fun e w' => e = .returned (.int .i64 (if k = 4 then 1 + p.foldl (fun m y => max m (dep n y)) 0 else 0)) ∧ Below w.heap.size w w'
    by_cases h4 : k = 4
    · subst h4
      exact depth_tup n ih u s a pc p.length p rfl B w hp (by omega) hB hsum
    · rw [if_neg h4]
      exact depth_else k u s a p.length pc w h4

/-- So many words behind k of the parts, as term.Size counts them. -/
def tszTo (n : Nat) (p : List (Tm n)) (k : Nat) : Int := 1 + p.length + ((p.take k).map fun y => sz n y).sum
theorem tszTo_succ (n : Nat) (p : List (Tm n)) (k : Nat) (x : Tm n) (h : p[k]? = some x) : tszTo n p (k + 1) = tszTo n p k + sz n x := by
  obtain ⟨h1, e1⟩ := List.getElem?_eq_some_iff.1 h
  unfold tszTo
  rw [List.take_succ_eq_append_getElem h1, e1]
  simp
  omega
theorem sum_split (n : Nat) (l : List (Tm n)) : (l.map fun y => 1 + sz n y).sum = l.length + (l.map fun y => sz n y).sum := by
  induction l with
  | nil => simp
  | cons y l ih => simp only [List.map_cons, List.sum_cons, List.length_cons, ih]; omega
theorem tszTo_all (n : Nat) (p : List (Tm n)) (k : Nat) (h : p.length ≤ k) : tszTo n p k = 1 + (p.map fun y => 1 + sz n y).sum := by
  unfold tszTo
  rw [List.take_of_length_le h, sum_split]
  omega
theorem len_nodes (n : Nat) (p : List (Tm n)) : p.length ≤ (p.flatMap fun y => nodes n y).length := by
  induction p with
  | nil => simp
  | cons y l ih =>
    have : 1 ≤ (nodes n y).length := by cases n <;> simp [nodes]
    simp only [List.flatMap_cons, List.length_append, List.length_cons]
    omega
theorem tszTo_bound (n : Nat) (p : List (Tm n)) (k : Nat) : 0 ≤ tszTo n p k ∧ tszTo n p k ≤ 3 * (1 + (p.flatMap fun y => nodes n y).length : Int) := by
  have h0 := len_nodes n p
  have h := take_le (fun y => nodes n y) p k
  have key : ∀ l : List (Tm n), 0 ≤ (l.map fun y => sz n y).sum ∧ (l.map fun y => sz n y).sum ≤ 2 * ((l.flatMap fun y => nodes n y).length : Int) := by
    intro l
    induction l with
    | nil => exact ⟨by simp, by simp⟩
    | cons y l ih =>
      have hy := sz_bound n y
      simp only [List.map_cons, List.sum_cons, List.flatMap_cons, List.length_append]
      exact ⟨by omega, by omega⟩
  have k := key (p.take k)
  unfold tszTo
  exact ⟨by omega, by omega⟩

def FSz (n : Nat) : Prop := ∀ (x : Tm n) (B : Nat) (w : World), In B w n x → B ≤ w.heap.size → (nodes n x).length ≤ 2097152 →
  Calls Try.prog 65 #[val n x] w fun e w' => e = .returned (.int .i64 (sz n x)) ∧ Below w.heap.size w w'

theorem tsize_else (k0 u0 : Int) (s : ByteArray) (a : Option Addr) (len pc : Nat) (w : World) (h : ¬ k0 = 4) :
    Calls Try.prog 65 #[.agg #[.int .i64 k0, .int .i64 u0, .string s, .slice a len pc]] w fun e w' => e = .returned (.int .i64 0) ∧ Below w.heap.size w w' := by
  have h4 : (k0 != 4) = true := by simpa using h
  clear h
  go_enter Try.func65, Try.ntmps65
  go_wp2_with fail
  go_ret
  exact ⟨rfl, (Below.refl _ _).alloc (Nat.le_refl _) _⟩

set_option maxHeartbeats 400000 in
theorem tsize_tup (n : Nat) (ih : FSz n) (u0 : Int) (s : ByteArray) (a : Option Addr) (pc len : Nat) (p : List (Tm n)) (hpl : Hid (p.length = len)) (B : Nat) (w : World)
    (hp : Hid (p = [] ∨ ∃ b o, a = some ⟨b, o, none⟩ ∧ b < B ∧ ∀ (i : Nat) (y : Tm n), p[i]? = some y → Held w b (o + i * 4) n y ∧ In B w n y))
    (hB : B ≤ w.heap.size) (hsum : Hid (1 + (p.flatMap fun y => nodes n y).length ≤ 2097152)) :
    Calls Try.prog 65 #[.agg #[.int .i64 4, .int .i64 u0, .string s, .slice a len pc]] w fun e w' =>
      e = .returned (.int .i64 (1 + (p.map fun y => 1 + sz n y).sum)) ∧ Below w.heap.size w w' := by
  have hlen : len ≤ 2097152 := by have h1 := len_nodes n p; have h2 := hsum.out; rw [← hpl.out]; omega
  go_enter Try.func65, Try.ntmps65
  go_wp2_with fail
  go_loopw [3, 16] (fun t i wr => ∃ k : Nat, ∃ r : Int, k ≤ len ∧ i = .int .i64 k ∧ t = .int .i64 r ∧ Hid (r = tszTo n p k) ∧ Below w.heap.size w wr) (fun _ i _ => len - (intOf i).toNat)
  case atStart => exact ⟨0, 1 + len, by omega, rfl, rfl, by simp only [Hid, tszTo]; rw [hpl.out]; simp, (Below.refl _ _).alloc (Nat.le_refl _) _⟩
  case round =>
    obtain ⟨k, r, hk, rfl, rfl, hr, hb⟩ := hrel
    have e1 := tszTo_bound n p k
    rw [← hr.out] at e1
    have e5 := hsum.out
    have r1 : 0 ≤ r := e1.1
    have r2 : r ≤ 6291456 := by omega
    clear e1
    by_cases hlt : k < len
    · obtain ⟨x, hx⟩ : ∃ x, p[k]? = some x := ⟨p[k]'(by rw [hpl.out]; exact hlt), List.getElem?_eq_getElem _⟩
      have HS := hide (tszTo_succ n p k x hx)
      have e3 := mem_nodes_le p x (List.mem_of_getElem? hx)
      have hx9 : (nodes n x).length ≤ 2097152 := by omega
      have e2 := sz_bound n x
      have z1 : 0 ≤ sz n x := e2.1
      have z2 : sz n x ≤ 4194304 := by omega
      clear e3 e5 e2
      rcases hp.out with hp | ⟨pb, po, rfl, hpb, hp⟩
      · subst hp; simp at hx
      obtain ⟨hx1, hx2⟩ := hp k x hx
      replace hx1 := hx1.below (hb.mono hB) hpb
      replace hx2 := hx2.below (hb.mono hB)
      clear hp hx
      cases n with
      | zero => exact hx1.elim
      | succ n =>
      obtain ⟨x0, x1, x2, x3⟩ := hx1
      have hB' : B ≤ wr.heap.size := Nat.le_trans hB hb.size
      have HC : Hid (∀ w1, Below wr.heap.size wr w1 → Calls Try.prog 65 #[.agg #[.int .i64 x.1.1, .int .i64 x.1.2.1, .string x.1.2.2, .slice x.2.1.1 x.2.2.length x.2.1.2]] w1 fun e w' => e = .returned (.int .i64 (sz (n + 1) x)) ∧ Below w1.heap.size w1 w') :=
        fun w1 h1 => ih x B w1 (hx2.below (h1.mono hB')) (Nat.le_trans hB' h1.size) hx9
      clear ih hx2 hx9
      generalize x.2.2.length = xl at *
      generalize sz (n + 1) x = z at *
      have hk1 : (0 : Int) ≤ (k : Int) := by omega
      have hk2 : (k : Int) < (len : Int) := by omega
      go_wp2_with fail
      refine (HC.out _ ((Below.refl _ _).alloc (Nat.le_refl _) _)).mono ?_
      rintro e w1 ⟨rfl, hb1⟩
      have hb2 : Below w.heap.size w w1 := (hb.trans (((Below.refl _ _).alloc (Nat.le_refl _) _).mono hb.size)).trans (hb1.mono (by have := hb.size; simp; omega))
      clear hb1
      go_wp2_with fail
      go_roundw
      case rel => exact ⟨k + 1, r + z, by omega, by go_num, by go_num, by simp only [Hid]; rw [HS.out, ← hr.out], hb2⟩
      case measure => simp [intOf]; omega
    · go_wp2_with fail
      go_ret
      refine ⟨ret_int ?_, hb⟩
      rw [hr.out, tszTo_all n p k (by rw [hpl.out]; omega)]

theorem tsize_any (n : Nat) : FSz n := by
  induction n with
  | zero => intro x B w hx; exact hx.elim
  | succ n ih =>
    intro x B w hx hB hsum
    obtain ⟨⟨k, u, s⟩, ⟨a, pc⟩, p⟩ := x
    obtain ⟨⟨_, _, _, hpl, hpc⟩, hp⟩ := hx
    simp only at hpl hpc hp
    have hL : (nodes (n + 1) ((k, u, s), (a, pc), p)).length = 1 + (p.flatMap fun y => nodes n y).length := by simp only [nodes, List.length_cons]; omega
    rw [hL] at hsum
    show Calls Try.prog 65 #[.agg #[.int .i64 k, .int .i64 u, .string s, .slice a p.length pc]] w fun e w' => e = .returned (.int .i64 (if k = 4 then 1 + (p.map fun y => 1 + sz n y).sum else 0)) ∧ Below w.heap.size w w'
    by_cases h4 : k = 4
    · subst h4
      exact tsize_tup n ih u s a pc p.length p rfl B w hp hB hsum
    · rw [if_neg h4]
      exact tsize_else k u s a p.length pc w h4

set_option maxHeartbeats 400000 in
theorem tcheck_walk (w : World) (k u : Int) (s : ByteArray) (a : Option Addr) (l c : Nat) (fb : Bool) (d z : Int)
    (HF : Hid (∀ w1, Below w.heap.size w w1 → Calls Try.prog 101 #[.agg #[.int .i64 k, .int .i64 u, .string s, .slice a l c]] w1 fun e w' => e = .returned (.bool fb) ∧ Below w1.heap.size w1 w'))
    (HD : Hid (∀ w1, Below w.heap.size w w1 → Calls Try.prog 102 #[.agg #[.int .i64 k, .int .i64 u, .string s, .slice a l c]] w1 fun e w' => e = .returned (.int .i64 d) ∧ Below w1.heap.size w1 w'))
    (HZ : Hid (∀ w1, Below w.heap.size w w1 → Calls Try.prog 65 #[.agg #[.int .i64 k, .int .i64 u, .string s, .slice a l c]] w1 fun e w' => e = .returned (.int .i64 z) ∧ Below w1.heap.size w1 w')) :
    Calls Try.prog 59 #[.agg #[.int .i64 k, .int .i64 u, .string s, .slice a l c]] w fun e w' => e = .returned (.int .i64 (if fb then if 12 < d ∨ 200 < z then 2 else 0 else 5)) ∧ Below w.heap.size w w' := by
  generalize hr : (if fb then if 12 < d ∨ 200 < z then (2 : Int) else 0 else 5) = r
  have HR := hide hr
  clear hr
  go_enter Try.func59, Try.ntmps59
  go_wp2_with fail
  refine (HF.out _ ((Below.refl _ _).alloc (Nat.le_refl _) _)).mono ?_
  rintro e w1 ⟨rfl, hb1⟩
  have HB1 : Hid (Below w.heap.size w w1 ∧ w.heap.size + 1 ≤ w1.heap.size) := ⟨((Below.refl _ _).alloc (Nat.le_refl _) _).trans (hb1.mono (by simp)), by have := hb1.size; simpa using this⟩
  have hcc := below_cells hb1
  simp only [World.size_alloc] at hcc
  have a0 := (hcc w.heap.size 0 (by omega)).trans (by simp [go_sem] : _ = some (Value.int .i64 k))
  have a1 := (hcc w.heap.size 1 (by omega)).trans (by simp [go_sem] : _ = some (Value.int .i64 u))
  have a2 := (hcc w.heap.size 2 (by omega)).trans (by simp [go_sem] : _ = some (Value.string s))
  have a3 := (hcc w.heap.size 3 (by omega)).trans (by simp [go_sem] : _ = some (Value.slice a l c))
  clear hcc hb1
  cases fb with
  | false =>
    go_wp2_with fail
    go_ret
    exact ⟨ret_int (by rw [← HR.out]; rfl), HB1.out.1⟩
  | true =>
    go_wp2_with fail
    refine (HD.out _ HB1.out.1).mono ?_
    rintro e w2 ⟨rfl, hb2⟩
    have HB2 : Hid (Below w.heap.size w w2) := HB1.out.1.trans (hb2.mono HB1.out.1.size)
    have hcc := below_cells hb2
    have hz1 := HB1.out.2
    replace a0 := (hcc w.heap.size 0 (by omega)).trans a0
    replace a1 := (hcc w.heap.size 1 (by omega)).trans a1
    replace a2 := (hcc w.heap.size 2 (by omega)).trans a2
    replace a3 := (hcc w.heap.size 3 (by omega)).trans a3
    clear hcc hb2 hz1
    by_cases h12 : 12 < d
    · have H12 := hide h12
      go_wp2_with fail
      go_ret
      exact ⟨ret_int (by rw [← HR.out, if_pos trivial, if_pos (Or.inl H12.out)]), HB2.out⟩
    · have H12 := hide h12
      go_wp2_with fail
      refine (HZ.out _ HB2.out).mono ?_
      rintro e w3 ⟨rfl, hb3⟩
      have HB3 : Hid (Below w.heap.size w w3) := HB2.out.trans (hb3.mono HB2.out.size)
      clear hb3
      by_cases hz : 200 < z
      · have HZ2 := hide hz
        go_wp2_with fail
        go_ret
        exact ⟨ret_int (by rw [← HR.out, if_pos trivial, if_pos (Or.inr HZ2.out)]), HB3.out⟩
      · have HZ2 := hide hz
        go_wp2_with fail
        go_ret
        exact ⟨ret_int (by rw [← HR.out, if_pos trivial, if_neg (by have := H12.out; have := HZ2.out; omega)]), HB3.out⟩

def tchk (n : Nat) (x : Tm n) : Int := if formedB n x then if 12 < dep n x ∨ 200 < sz n x then 2 else 0 else 5
theorem tcheck_tchk (n : Nat) (x : Tm n) (B : Nat) (w : World) (hx : In B w n x) (hB : B ≤ w.heap.size) (hN : (nodes n x).length ≤ 2097152) :
    Calls Try.prog 59 #[val n x] w fun e w' => e = .returned (.int .i64 (tchk n x)) ∧ Below w.heap.size w w' := by
  cases n with
  | zero => exact hx.elim
  | succ n =>
  exact tcheck_walk w x.1.1 x.1.2.1 x.1.2.2 x.2.1.1 x.2.2.length x.2.1.2 (formedB (n + 1) x) (dep (n + 1) x) (sz (n + 1) x)
    (fun w1 hw => formed_any (n + 1) x B w1 (hx.below (hw.mono hB)) (Nat.le_trans hB hw.size))
    (fun w1 hw => depth_any (n + 1) x B w1 (hx.below (hw.mono hB)) (Nat.le_trans hB hw.size) hN)
    (fun w1 hw => tsize_any (n + 1) x B w1 (hx.below (hw.mono hB)) (Nat.le_trans hB hw.size) hN)

/-- That each term in it is right by itself: the one way and the other. -/
theorem formed_good : (n : Nat) → (x : Tm n) → formedB n x = (nodes n x).all good
  | 0, _ => by simp [formedB, nodes, good]
  | n + 1, x => by
    have e : (nodes (n + 1) x).all good = (good (hdOf n x) && (x.2.2.flatMap fun y => nodes n y).all good) := rfl
    rw [e]
    simp only [formedB]
    cases hg : good (hdOf n x)
    · rfl
    · rw [Bool.true_and, Bool.true_and]
      by_cases h4 : x.1.1 = 4
      · rw [h4]
        have key : ∀ l : List (Tm n), (l.all fun y => formedB n y) = (l.flatMap fun y => nodes n y).all good := by
          intro l
          induction l with
          | nil => rfl
          | cons y l ih => simp only [List.all_cons, List.flatMap_cons, List.all_append, ih, formed_good n y]
        rw [key]
        simp
      · have hl : x.2.2 = [] := by
          unfold good at hg
          simp only [Bool.and_eq_true, Bool.or_eq_true, beq_iff_eq] at hg
          rcases hg.2 with h | h
          · exact (h4 h).elim
          · have : ¬ (0 : Int) < (x.2.2.length : Int) := by simpa [hdOf] using h
            exact List.eq_nil_of_length_eq_zero (by omega)
        rw [hl]
        simp

/-- How deep it is, of what is still to be looked at. -/
def deepL : List Nd → List Int → Int → Int
  | x :: l, d :: ds, m => deepL l ds (deeper x d m)
  | _, _, m => m
theorem chkL_all (z : Int) : (l : List Nd) → (ds : List Int) → (m : Int) → l.length = ds.length → chkL z l ds m = if l.all good then (if 12 < deepL l ds m ∨ 200 < z then 2 else 0) else 5
  | [], _, _, _ => rfl
  | x :: l, [], _, h => by simp at h
  | x :: l, d :: ds, m, h => by
    have ih := chkL_all z l ds (deeper x d m) (by simpa using h)
    simp only [chkL, deepL]
    by_cases hg : good x = true
    · have e : (x :: l).all good = l.all good := by simp [hg]
      rw [if_pos hg, ih]
      by_cases ha : l.all good = true
      · rw [if_pos ha, if_pos (e.trans ha)]; rfl
      · rw [if_neg ha, if_neg (fun h => ha (e.symm.trans h))]
    · rw [if_neg hg, if_neg (fun h => hg (List.all_eq_true.1 h x (by simp)))]

theorem deepL_append : (l r : List Nd) → (ds es : List Int) → (m : Int) → l.length = ds.length → deepL (l ++ r) (ds ++ es) m = deepL r es (deepL l ds m)
  | [], _, [], _, _, _ => rfl
  | [], _, _ :: _, _, _, h => by simp at h
  | _ :: _, _, [], _, _, h => by simp at h
  | x :: l, r, d :: ds, es, m, h => by
    simp only [List.cons_append, deepL]
    exact deepL_append l r ds es _ (by simpa using h)
theorem fold_max {n : Nat} (c : Int) : (p : List (Tm n)) → (m e : Int) → p.foldl (fun m y => max m (c + dep n y)) (max m (c + e)) = max m (c + p.foldl (fun m y => max m (dep n y)) e)
  | [], _, _ => rfl
  | y :: p, m, e => by
    simp only [List.foldl_cons]
    have h : max (max m (c + e)) (c + dep n y) = max m (c + max e (dep n y)) := by omega
    rw [h]
    exact fold_max c p m (max e (dep n y))
theorem deep_dep : (n : Nat) → (x : Tm n) → (d m : Int) → (∀ a ∈ nodes n x, good a = true) → d ≤ m → deepL (nodes n x) (deeps n x d) m = max m (d + dep n x)
  | 0, x, _, _, h, _ => by
    have := h ((0, 0, .empty), (none, 0, 0)) (by simp [nodes])
    rcases good_kind _ this with g | g | g | g | g | ⟨g, _⟩ <;> simp at g
  | n + 1, x, d, m, h, hm => by
    have hg := h (hdOf n x) (by simp [nodes, hdOf])
    have key : ∀ (p : List (Tm n)) (m : Int), (∀ y ∈ p, y ∈ x.2.2) → d + 1 ≤ m → deepL (p.flatMap fun y => nodes n y) (p.flatMap fun y => deeps n y (d + 1)) m = p.foldl (fun m y => max m (d + 1 + dep n y)) m := by
      intro p
      induction p with
      | nil => intro m _ _; rfl
      | cons y p ih =>
        intro m hp hm
        simp only [List.flatMap_cons, List.foldl_cons]
        rw [deepL_append _ _ _ _ _ (deeps_length n y (d + 1)).symm, deep_dep n y (d + 1) m (fun a ha => h a (nodes_mem (hp y (by simp)) ha)) hm]
        exact ih _ (fun z hz => hp z (by simp [hz])) (by omega)
    have e : deepL (nodes (n + 1) x) (deeps (n + 1) x d) m = deepL (x.2.2.flatMap fun y => nodes n y) (x.2.2.flatMap fun y => deeps n y (d + 1)) (deeper (hdOf n x) d m) := rfl
    rw [e]
    simp only [dep]
    by_cases h4 : x.1.1 = 4
    · rw [if_pos h4]
      have e1 : deeper (hdOf n x) d m = max m (d + 1 + 0) := by
        unfold deeper hdOf
        by_cases hlt : m < d + 1
        · rw [if_pos ⟨h4, hlt⟩]; omega
        · rw [if_neg (fun hh => hlt hh.2)]; omega
      rw [e1, key x.2.2 _ (fun _ hy => hy) (by omega), fold_max]
      omega
    · rw [if_neg h4]
      have hl : x.2.2 = [] := by
        unfold good at hg
        simp only [Bool.and_eq_true, Bool.or_eq_true, beq_iff_eq] at hg
        rcases hg.2 with h' | h'
        · exact (h4 h').elim
        · have : ¬ (0 : Int) < (x.2.2.length : Int) := by simpa [hdOf] using h'
          exact List.eq_nil_of_length_eq_zero (by omega)
      have e1 : deeper (hdOf n x) d m = m := deeper_no _ (fun hh => h4 hh.1)
      rw [hl, e1]
      simp only [List.flatMap_nil, deepL]
      omega
theorem tchk_chk (n : Nat) (x : Tm n) : tchk n x = chk n x := by
  unfold tchk chk
  rw [chkL_all _ _ _ _ (deeps_length n x 0).symm, ← formed_good n x]
  by_cases hf : formedB n x = true
  · rw [if_pos hf, if_pos hf]
    have hg : ∀ a ∈ nodes n x, good a = true := by
      rw [formed_good n x] at hf
      exact fun a ha => List.all_eq_true.1 hf a ha
    have hd := dep_bound n x
    rw [deep_dep n x 0 0 hg (by omega)]
    have : max (0 : Int) (0 + dep n x) = dep n x := by omega
    rw [this]
  · rw [if_neg hf, if_neg hf]

/-- term.Check is the document's Check. -/
theorem tcheck_any (n : Nat) (x : Tm n) (B : Nat) (w : World) (hx : In B w n x) (hB : B ≤ w.heap.size) (hN : (nodes n x).length ≤ 2097152) :
    Calls Try.prog 59 #[val n x] w fun e w' => e = .returned (.int .i64 (chk n x)) ∧ Below w.heap.size w w' := by
  rw [← tchk_chk]
  exact tcheck_tchk n x B w hx hB hN
end Go.Proofs.Ytfginhifgljnmaa
namespace Go.Proofs.Ytfginhifgljnmaa
open Go.RowKit

/-- Neither a variable nor the wild one, by itself. -/
def shut (x : Nd) : Bool := !(x.1.1 == 5) && !(x.1.1 == 6)
def closedB (n : Nat) (x : Tm n) : Bool := (nodes n x).all shut
def closedT : (n : Nat) → Tm n → Bool
  | 0, _ => true
  | n + 1, x => !(x.1.1 == 5) && !(x.1.1 == 6) && x.2.2.all fun y => closedT n y
theorem closed_eq : (n : Nat) → (x : Tm n) → closedT n x = closedB n x
  | 0, _ => by simp [closedT, closedB, nodes, shut]
  | n + 1, x => by
    have key : ∀ l : List (Tm n), (l.all fun y => closedT n y) = (l.flatMap fun y => nodes n y).all shut := by
      intro l
      induction l with
      | nil => rfl
      | cons y l ih =>
        have := closed_eq n y
        unfold closedB at this
        simp only [List.all_cons, List.flatMap_cons, List.all_append, ih, this]
    show (!(x.1.1 == 5) && !(x.1.1 == 6) && x.2.2.all fun y => closedT n y) = (shut (x.1, (x.2.1.1, x.2.2.length, x.2.1.2)) && (x.2.2.flatMap fun y => nodes n y).all shut)
    rw [key]
    rfl

def FClo (n : Nat) : Prop := ∀ (x : Tm n) (B : Nat) (w : World), In B w n x → B ≤ w.heap.size →
  Calls Try.prog 63 #[val n x] w fun e w' => e = .returned (.bool (closedT n x)) ∧ Below w.heap.size w w'

set_option maxHeartbeats 400000 in
theorem closed_walk (n : Nat) (ih : FClo n) (k0 u0 : Int) (s : ByteArray) (a : Option Addr) (pc len : Nat) (p : List (Tm n)) (hpl : Hid (p.length = len)) (B : Nat) (w : World)
    (hp : Hid (p = [] ∨ ∃ b o, a = some ⟨b, o, none⟩ ∧ b < B ∧ ∀ (i : Nat) (y : Tm n), p[i]? = some y → Held w b (o + i * 4) n y ∧ In B w n y))
    (hlen : len ≤ 9223372036854775807) (hB : B ≤ w.heap.size) :
    Calls Try.prog 63 #[.agg #[.int .i64 k0, .int .i64 u0, .string s, .slice a len pc]] w fun e w' => e = .returned (.bool (!(k0 == 5) && !(k0 == 6) && p.all fun y => closedT n y)) ∧ Below w.heap.size w w' := by
  cases h5 : k0 == 5
  case true =>
    go_enter Try.func63, Try.ntmps63
    go_wp2_with fail
    go_ret
    exact ⟨ret_bool (by simp), (Below.refl _ _).alloc (Nat.le_refl _) _⟩
  cases h6 : k0 == 6
  case true =>
    go_enter Try.func63, Try.ntmps63
    go_wp2_with fail
    go_ret
    exact ⟨ret_bool (by simp), (Below.refl _ _).alloc (Nat.le_refl _) _⟩
  have e0 : (!false && !false && p.all fun y => closedT n y) = p.all fun y => closedT n y := by simp
  rw [e0]
  clear e0
  go_enter Try.func63, Try.ntmps63
  go_wp2_with fail
  go_loopw [16] (fun i wr => ∃ k : Nat, k ≤ len ∧ i = .int .i64 k ∧ Below w.heap.size w wr ∧ Hid (((p.drop k).all fun y => closedT n y) = p.all fun y => closedT n y)) (fun i _ => len - (intOf i).toNat)
  case atStart => exact ⟨0, by omega, rfl, (Below.refl _ _).alloc (Nat.le_refl _) _, rfl⟩
  case round =>
    obtain ⟨k, hk, rfl, hb, hd⟩ := hrel
    by_cases hlt : k < len
    · obtain ⟨x, hx⟩ : ∃ x, p[k]? = some x := ⟨p[k]'(by rw [hpl.out]; exact hlt), List.getElem?_eq_getElem _⟩
      have HS : Hid (((p.drop k).all fun y => closedT n y) = (closedT n x && (p.drop (k + 1)).all fun y => closedT n y)) := by
        obtain ⟨h1, e1⟩ := List.getElem?_eq_some_iff.1 hx
        rw [List.drop_eq_getElem_cons h1, e1]
        rfl
      rcases hp.out with hp | ⟨pb, po, rfl, hpb, hp⟩
      · subst hp; simp at hx
      obtain ⟨hx1, hx2⟩ := hp k x hx
      replace hx1 := hx1.below (hb.mono hB) hpb
      replace hx2 := hx2.below (hb.mono hB)
      clear hp hx
      cases n with
      | zero => exact hx1.elim
      | succ n =>
      obtain ⟨x0, x1, x2, x3⟩ := hx1
      have hB' : B ≤ wr.heap.size := Nat.le_trans hB hb.size
      have HC : Hid (∀ w1, Below wr.heap.size wr w1 → Calls Try.prog 63 #[.agg #[.int .i64 x.1.1, .int .i64 x.1.2.1, .string x.1.2.2, .slice x.2.1.1 x.2.2.length x.2.1.2]] w1 fun e w' => e = .returned (.bool (closedT (n + 1) x)) ∧ Below w1.heap.size w1 w') :=
        fun w1 h1 => ih x B w1 (hx2.below (h1.mono hB')) (Nat.le_trans hB' h1.size)
      clear ih hx2
      generalize x.2.2.length = xl at *
      generalize closedT (n + 1) x = r at *
      have hk1 : (0 : Int) ≤ (k : Int) := by omega
      have hk2 : (k : Int) < (len : Int) := by omega
      go_wp2_with fail
      refine (HC.out _ ((Below.refl _ _).alloc (Nat.le_refl _) _)).mono ?_
      rintro e w1 ⟨rfl, hb1⟩
      have hb2 : Below w.heap.size w w1 := (hb.trans (((Below.refl _ _).alloc (Nat.le_refl _) _).mono hb.size)).trans (hb1.mono (by have := hb.size; simp; omega))
      clear hb1
      cases r with
      | true =>
        go_wp2_with fail
        go_roundw
        case rel => exact ⟨k + 1, by omega, by go_num, hb2, by rw [← hd.out, HS.out]; rfl⟩
        case measure => simp [intOf]; omega
      | false =>
        go_wp2_with fail
        go_ret
        exact ⟨ret_bool (by rw [← hd.out, HS.out]; rfl), hb2⟩
    · go_wp2_with fail
      go_ret
      refine ⟨ret_bool ?_, hb⟩
      rw [← hd.out, List.drop_eq_nil_of_le (by rw [hpl.out]; omega)]
      rfl

theorem closed_any (n : Nat) : FClo n := by
  induction n with
  | zero => intro x B w hx; exact hx.elim
  | succ n ih =>
    intro x B w hx hB
    obtain ⟨⟨k, u, s⟩, ⟨a, pc⟩, p⟩ := x
    obtain ⟨⟨_, _, _, hpl, hpc⟩, hp⟩ := hx
    simp only at hpl hpc hp
    unfold maxLen at hpc
    exact closed_walk n ih k u s a pc p.length p rfl B w hp (by omega) hB

set_option maxHeartbeats 1000000 in
theorem rclosed_walk (w : World) (c0 c1 : Int) (c2 : ByteArray) (xa : Option Addr) (xl xc : Nat) (N : List Nd) (D : List Int) (L : Nat) (HL : Hid (N.length = L)) (hL : L ≤ 2097152)
    (HALL : Hid (∀ w1, Below w.heap.size w w1 → Calls Try.prog 53 #[.agg #[.int .i64 c0, .int .i64 c1, .string c2, .slice xa xl xc], .int .i64 0] w1 fun e w' =>
      ∃ g c h c', e = .returned (.tuple #[.slice (some ⟨g, 0, none⟩) L c, .slice (some ⟨h, 0, none⟩) L c']) ∧
        Hid (g ≠ h ∧ Below w1.heap.size w1 w' ∧ w'.ownsRow w1.heap.size 24 4 (.slice (some ⟨g, 0, none⟩) L c) L (ndCells N) ∧ w'.ownsRow w1.heap.size 3 1 (.slice (some ⟨h, 0, none⟩) L c') L (ints D)))) :
    Calls Try.prog 30 #[.agg #[.int .i64 c0, .int .i64 c1, .string c2, .slice xa xl xc]] w fun e w' => e = .returned (.bool (N.all shut)) ∧ Below w.heap.size w w' := by
  go_enter Try.func30, Try.ntmps30
  go_wp2_with fail
  refine (HALL.out _ ((Below.refl _ _).alloc (Nat.le_refl _) _)).mono ?_
  rintro e w1 ⟨g, c, h, c', rfl, HO⟩
  have HB1 : Hid (Below w.heap.size w w1) := ((Below.refl _ _).alloc (Nat.le_refl _) _).trans (HO.out.2.1.mono (by simp))
  have HOW := hide HO.out.2.2.1
  clear HO
  go_wp2_with fail
  go_loop [5] (fun i => ∃ k : Nat, k ≤ L ∧ i = .int .i64 k ∧ Hid ((N.drop k).all shut = N.all shut)) (fun i => L - (intOf i).toNat)
  case atStart => exact ⟨0, by omega, rfl, rfl⟩
  case round =>
    obtain ⟨k, hk, rfl, HD⟩ := hrel
    by_cases hlt : k < L
    · obtain ⟨x, hx⟩ : ∃ x, N[k]? = some x := ⟨N[k]'(by rw [HL.out]; exact hlt), List.getElem?_eq_getElem _⟩
      have HS : Hid ((N.drop k).all shut = (shut x && (N.drop (k + 1)).all shut)) := by
        obtain ⟨h1, e1⟩ := List.getElem?_eq_some_iff.1 hx
        rw [List.drop_eq_getElem_cons h1, e1]
        rfl
      obtain ⟨x0, _, _, _⟩ := own_nd HOW.out k x hx
      obtain ⟨⟨kk, uu, ss⟩, ⟨aa, ll, cc⟩⟩ := x
      simp only at x0
      clear hx
      have hk1 : (0 : Int) ≤ (k : Int) := by omega
      have hk2 : (k : Int) < (L : Int) := by omega
      cases h5 : kk == 5
      case true =>
        have HX : Hid (shut ((kk, uu, ss), (aa, ll, cc)) = false) := by simp [Hid, shut, h5]
        go_wp2_with fail
        go_ret
        exact ⟨ret_bool (by rw [← HD.out, HS.out, HX.out]; rfl), HB1.out⟩
      cases h6 : kk == 6
      case true =>
        have HX : Hid (shut ((kk, uu, ss), (aa, ll, cc)) = false) := by simp [Hid, shut, h6]
        go_wp2_with fail
        go_ret
        exact ⟨ret_bool (by rw [← HD.out, HS.out, HX.out]; rfl), HB1.out⟩
      have HX : Hid (shut ((kk, uu, ss), (aa, ll, cc)) = true) := by simp [Hid, shut, h5, h6]
      go_wp2_with fail
      go_round
      case rel => exact ⟨k + 1, by omega, by go_num, by simp only [Hid]; rw [← HD.out, HS.out, HX.out]; rfl⟩
      case measure => simp [intOf]; omega
    · go_wp2_with fail
      go_ret
      refine ⟨ret_bool ?_, HB1.out⟩
      rw [← HD.out, List.drop_eq_nil_of_le (by rw [HL.out]; omega)]
      rfl

theorem rclosed_any (n : Nat) (x : Tm n) (B : Nat) (w : World) (hx : In B w n x) (hB : B ≤ w.heap.size) (hN : (nodes n x).length ≤ 2097152) :
    Calls Try.prog 30 #[val n x] w fun e w' => e = .returned (.bool (closedB n x)) ∧ Below w.heap.size w w' := by
  cases n with
  | zero => exact hx.elim
  | succ n =>
  exact rclosed_walk w x.1.1 x.1.2.1 x.1.2.2 x.2.1.1 x.2.2.length x.2.1.2 (nodes (n + 1) x) (deeps (n + 1) x 0) (nodes (n + 1) x).length rfl hN
    (fun w1 hw => all_any (n + 1) x 0 B w1 (hx.below (hw.mono hB)) (Nat.le_trans hB hw.size) (by omega) (by omega))
end Go.Proofs.Ytfginhifgljnmaa
namespace Go.Proofs.Ytfginhifgljnmaa
open Go.RowKit Go.Maps

variable {base wp n N : Nat} {mo : Option Nat} {f : Int × Int → List (Tm N)} {sl : Int × Int → Value} {w : World}
theorem TRow.at {v : Value} {l : List (Tm N)} (h : TRow base N v l w) : ∃ a c, v = .slice a l.length c ∧ w.ownsRow base 24 4 (.slice a l.length c) l.length (tCells N l) := by
  obtain ⟨a, c, e⟩ := h.sliced
  refine ⟨a, c, e, ?_⟩
  rw [← e]
  exact h
theorem val_nd4 (y : Tm (N + 1)) : nd4 (hdT (N + 1) y) = [.int .i64 y.1.1, .int .i64 y.1.2.1, .string y.1.2.2, .slice y.2.1.1 y.2.2.length y.2.1.2] := rfl
theorem wp_ne {mb : Nat} (h : WyAt base wp (some mb) n N f sl w) : wp ≠ mb := by
  intro e
  obtain ⟨_, h2, h3⟩ := h
  rcases h3 with ⟨h3, _⟩ | ⟨mb', e', hg⟩
  · cases h3
  · injection e' with e'
    subst e' e
    obtain ⟨D, ⟨es, clock, hb, _⟩, _⟩ := hg.map
    rw [h2] at hb
    cases hb
theorem wp_row (h : WyAt base wp mo n N f sl w) {k : Int × Int} (hk : I2 k) : (sl k).ownBlock ≠ some wp := by
  intro e
  obtain ⟨cur, hc⟩ := own_cells (h.row hk) wp e
  rw [h.2.1] at hc
  injection hc with hc
  injection hc with _ e2 _
  exact absurd e2 (by decide)
theorem add_any {f : Int × Int → List (Tm (N + 1))} (h : WyAt base wp mo n (N + 1) f sl w) {k : Int × Int} (hk : I2 k) (y : Tm (N + 1)) (hn : n < 999999) (hl : (f k).length < 1000) :
    Calls Try.prog 91 #[.pointer (some ⟨wp, 0, none⟩), pk k, val (N + 1) y] w fun e w' => e = .returned (.tuple #[]) ∧ WyUp base wp mo n (N + 1) f sl k (f k ++ [y]) w w' := by
  have hwp := h.lt wp (Or.inl rfl)
  rcases h.2.2 with ⟨rfl, rfl, rfl⟩ | ⟨mb, rfl, hg⟩
  · obtain ⟨wr, hwr⟩ : ∃ wr, wr = (((w.alloc (.cells #[.int .i64 k.1, .int .i64 k.2] 88)).alloc (.cells #[.int .i64 y.1.1, .int .i64 y.1.2.1, .string y.1.2.2, .slice y.2.1.1 y.2.2.length y.2.1.2] 24)).alloc (.map #[] 0)).setCell ⟨wp, 0, none⟩ (.map (some (w.heap.size + 1 + 1))) := ⟨_, rfl⟩
    have hsr : wr.heap.size = w.heap.size + 3 := by rw [hwr]; simp [World.setCell]
    have h0 : Kee (fun b => b = wp) w wr := by
      rw [hwr]
      refine Kee.trans (kee_below (((((Below.refl w.heap.size w).alloc (Nat.le_refl _) _).alloc (by simp) _).alloc (by simp; omega) _)) _) (kee_set _ wp 0 _) fun _ _ e => e
    have hwr0 : wr.heap[wp]? = some (.cells #[.map (some (w.heap.size + 1 + 1))] 160 (0, 0)) := by
      have h1 := (((((Below.refl w.heap.size w).alloc (Nat.le_refl _) (.cells #[.int .i64 k.1, .int .i64 k.2] 88)).alloc (by simp) (.cells #[.int .i64 y.1.1, .int .i64 y.1.2.1, .string y.1.2.2, .slice y.2.1.1 y.2.2.length y.2.1.2] 24)).alloc (by simp; omega) (.map #[] 0)).block wp hwp.2).trans h.2.1
      rw [hwr]
      simp [World.setCell, Array.getElem?_modify, h1]
    have hG : GM base (w.heap.size + 1 + 1) n (N + 1) (fun _ => []) (fun _ => nilS) wr := by
      have h1 := GM.new ((w.alloc (.cells #[.int .i64 k.1, .int .i64 k.2] 88)).alloc (.cells #[.int .i64 y.1.1, .int .i64 y.1.2.1, .string y.1.2.2, .slice y.2.1.1 y.2.2.length y.2.1.2] 24)) (N + 1)
      have e : ((w.alloc (.cells #[.int .i64 k.1, .int .i64 k.2] 88)).alloc (.cells #[.int .i64 y.1.1, .int .i64 y.1.2.1, .string y.1.2.2, .slice y.2.1.1 y.2.2.length y.2.1.2] 24)).heap.size = w.heap.size + 1 + 1 := by simp
      rw [e] at h1
      have h2 := (h1.kee (kee_set _ wp 0 (.map (some (w.heap.size + 1 + 1)))) fun b hb e => by
        rcases hb with hb | ⟨j, _, hb⟩
        · omega
        · simp [nilS, Value.ownBlock] at hb)
      rw [← hwr] at h2
      exact (h2.rebase (by omega)).mono (Nat.zero_le _)
    refine (add_nilmap wp (w.heap.size + 1 + 1) k.1 k.2 y.1.1 y.1.2.1 y.1.2.2 y.2.1.1 y.2.2.length y.2.1.2 0 0 none [] base w wr (fun W st W1 => Ent base (w.heap.size + 1 + 1) n (N + 1) (fun _ => []) (fun _ => nilS) k st W W1) (fun w' => WyUp base wp none n (N + 1) (fun _ => []) (fun _ => nilS) k ([] ++ [y]) w w') (by omega) (by omega) hwp.2 rfl hwr (fun b hb => by simp [Value.ownBlock] at hb) h.2.1 ?_ ?_ ?_).mono fun e w' h => h
    · intro W hW
      exact ⟨rfl, Or.inl ⟨rfl, rfl⟩⟩
    · intro W hW
      exact hG.open hk (by omega) hW
    · intro W st W1 W2 w5 g c hX hW hk1 hs1 hW2 hgr ho hat
      obtain ⟨w6, hr, hgrew, hk6, hs6⟩ := Ent.done hG hk hX hW hk1 hs1 hW2 hgr (y := y) (L := 0) rfl (by simpa [tCells, ndCells, val_nd4] using ho) hat
      refine ⟨w6, hr, ?_, hk6, hs6⟩
      obtain ⟨v, hG6, hK6, hM6⟩ := hgrew
      have hwM : ¬ gmM (w.heap.size + 1 + 1) (fun _ => nilS) wp := by
        rintro (e | ⟨j, _, e⟩)
        · omega
        · simp [nilS, Value.ownBlock] at e
      refine ⟨some (w.heap.size + 1 + 1), _, ⟨h.1, (hK6.block wp (by omega) hwM).trans hwr0, Or.inr ⟨_, rfl, hG6⟩⟩, ?_, fun b hb => ?_⟩
      · refine Kee.trans (h0.mono fun b _ e => Or.inl e) hK6 fun b hb e => ?_
        rcases e with e | ⟨j, _, e⟩
        · omega
        · simp [nilS, Value.ownBlock] at e
      · rcases hb with hb | hb | hb
        · exact Or.inl (Or.inl hb)
        · injection hb with hb
          exact Or.inr (by omega)
        · rcases hM6 b (Or.inr hb) with (e | ⟨j, _, e⟩) | e
          · exact Or.inr (by omega)
          · simp [nilS, Value.ownBlock] at e
          · exact Or.inr (by omega)
  · obtain ⟨sa, sc, hs, hrow⟩ := (hg.row k hk).at
    have hmb := hg.lt mb (Or.inl rfl)
    obtain ⟨wr, hwr⟩ : ∃ wr, wr = (w.alloc (.cells #[.int .i64 k.1, .int .i64 k.2] 88)).alloc (.cells #[.int .i64 y.1.1, .int .i64 y.1.2.1, .string y.1.2.2, .slice y.2.1.1 y.2.2.length y.2.1.2] 24) := ⟨_, rfl⟩
    have hb : Below w.heap.size w wr := by
      rw [hwr]
      exact ((Below.refl _ _).alloc (Nat.le_refl _) _).alloc (by simp) _
    have hsr : wr.heap.size = w.heap.size + 2 := by rw [hwr]; simp
    have hG : GM base mb n (N + 1) f sl wr := hg.kee (kee_below hb fun _ => False) fun _ _ hf => hf
    refine (add_inmap wp mb k.1 k.2 y.1.1 y.1.2.1 y.1.2.2 y.2.1.1 y.2.2.length y.2.1.2 (f k).length sc sa (tCells (N + 1) (f k)) base w wr (fun W st W1 => Ent base mb n (N + 1) f sl k st W W1) (fun w' => WyUp base wp (some mb) n (N + 1) f sl k (f k ++ [y]) w w') hl (by omega) hwp.2 hmb.2 (wp_ne h) hwr (fun b hb => ?_) h.cell.1 ?_ ?_ ?_).mono fun e w' h => h
    · rw [← hs] at hb
      exact ⟨((h.row hk).lt b hb).2, fun e => wp_row h hk (by rw [hb, e])⟩
    · intro W hW
      rw [← hs]
      exact row_kee (hG.row k hk) hW fun b hb e => hG.ne hk (by rw [hb, e])
    · intro W hW
      rw [← hs]
      exact hG.open hk (by omega) hW
    · intro W st W1 W2 w5 g c hX hW hk1 hs1 hW2 hgr ho hat
      rw [← hs] at hgr hat
      obtain ⟨w6, hr, hgrew, hk6, hs6⟩ := Ent.done hG hk hX hW hk1 hs1 hW2 hgr (y := y) (L := (f k).length) rfl (by simpa [val_nd4] using ho) hat
      refine ⟨w6, hr, ?_, hk6, hs6⟩
      obtain ⟨v, hG6, hK6, hM6⟩ := hgrew
      have hwM : ¬ gmM mb sl wp := by
        rintro (e | ⟨j, hj, e⟩)
        · exact wp_ne h e
        · exact wp_row h hj e
      refine ⟨some mb, _, ⟨h.1, (hK6.block wp (by omega) hwM).trans ((hb.block wp hwp.2).trans h.2.1), Or.inr ⟨_, rfl, hG6⟩⟩, ?_, fun b hb => ?_⟩
      · exact Kee.trans (kee_below hb _) hK6 fun b _ e => gm_wy e
      · rcases hb with hb | hb | hb
        · exact Or.inl (Or.inl hb)
        · injection hb with hb
          exact Or.inl (Or.inr (Or.inl (by rw [hb])))
        · rcases hM6 b (Or.inr hb) with e | e
          · exact Or.inl (gm_wy e)
          · exact Or.inr (by omega)
end Go.Proofs.Ytfginhifgljnmaa
namespace Go.Proofs.Ytfginhifgljnmaa
open Go.RowKit

set_option maxHeartbeats 400000 in
theorem cmpI_any (x y : Int) (w : World) :
    Calls Try.prog 50 #[.int .i64 x, .int .i64 y] w fun e w' => e = .returned (.int .i64 (cmpI x y)) ∧ w' = w := by
  go_enter Try.func50, Try.ntmps50
  go_wp2
  all_goals go_ret
  all_goals refine ⟨ret_int ?_, rfl⟩
  all_goals unfold cmpI
  all_goals (repeat' split) <;> omega

set_option maxHeartbeats 400000 in
theorem cmpS_any (x y : ByteArray) (w : World) :
    Calls Try.prog 51 #[.string x, .string y] w fun e w' => e = .returned (.int .i64 (cmpS x y)) ∧ w' = w := by
  go_enter Try.func51, Try.ntmps51
  go_wp2
  all_goals go_ret
  all_goals refine ⟨ret_int ?_, rfl⟩
  all_goals unfold cmpS
  all_goals simp [*]

end Go.Proofs.Ytfginhifgljnmaa
namespace Go.Proofs.Ytfginhifgljnmaa
open Go.RowKit
attribute [local go_sem ↓] Go.wp_at_zero Go.wp_at_succ

/-- The value of a tree, its parts named. -/
def agg (k u : Int) (s : ByteArray) (a : Option Addr) (l c : Nat) : Value := .agg #[.int .i64 k, .int .i64 u, .string s, .slice a l c]

def F5 (n : Nat) : Prop := ∀ (x : Tm n) (m : Nat) (y : Tm m) (B : Nat) (w : World), In B w n x → In B w m y → B ≤ w.heap.size →
  Calls Try.prog 10 #[val n x, val m y] w fun e w' => e = .returned (.int .i64 (ord n x m y)) ∧ Below w.heap.size w w'

theorem args_ne (p q : Nat) (a c : Option Addr) (pc qc : Nat) (w : World) (_hpc : p ≤ 9223372036854775807) (_hqc : q ≤ 9223372036854775807) (hl : ((p : Int) == (q : Int)) = false) :
    Calls Try.prog 52 #[.slice a p pc, .slice c q qc] w fun e w' => e = .returned (.int .i64 (cmpI p q)) ∧ w' = w := by
  have hl' : ((p : Int) != (q : Int)) = true := by simpa using hl
  go_enter Try.func52, Try.ntmps52
  go_wp2_with (go_at_call 50; refine (cmpI_any _ _ _).mono ?_; rintro e w' ⟨rfl, rfl⟩)
  go_ret
  exact ⟨rfl, rfl⟩

set_option maxHeartbeats 400000 in
theorem args_eq (n m : Nat) (ih : F5 n) (p : List (Tm n)) (q : List (Tm m)) (len : Nat) (hpl : Hid (p.length = len)) (hql : Hid (q.length = len)) (pb po qb qo pc qc : Nat) (B : Nat) (w : World)
    (hlen : len ≤ 9223372036854775807) (hpb : pb < B) (hqb : qb < B)
    (hp : ∀ (i : Nat) (y : Tm n), p[i]? = some y → Held w pb (po + i * 4) n y ∧ In B w n y)
    (hq : ∀ (i : Nat) (y : Tm m), q[i]? = some y → Held w qb (qo + i * 4) m y ∧ In B w m y)
    (hB : B ≤ w.heap.size) :
    Calls Try.prog 52 #[.slice (some ⟨pb, po, none⟩) len pc, .slice (some ⟨qb, qo, none⟩) len qc] w fun e w' =>
      e = .returned (.int .i64 (ordL (fun a b => ord n a m b) p q)) ∧ Below w.heap.size w w' := by
  go_enter Try.func52, Try.ntmps52
  go_wp2_with fail
  go_loopw [19] (fun i wr => ∃ k : Nat, k ≤ len ∧ i = .int .i64 k ∧ Below w.heap.size w wr ∧ Hid (ordL (fun a b => ord n a m b) (p.drop k) (q.drop k) = ordL (fun a b => ord n a m b) p q)) (fun i _ => len - (intOf i).toNat)
  case atStart => exact ⟨0, by omega, rfl, Below.refl _ _, rfl⟩
  case round =>
    obtain ⟨k, hk, rfl, hb, hd⟩ := hrel
    by_cases hlt : k < len
    · obtain ⟨x, hx⟩ : ∃ x, p[k]? = some x := ⟨p[k]'(by rw [hpl.out]; exact hlt), List.getElem?_eq_getElem _⟩
      obtain ⟨y, hy⟩ : ∃ y, q[k]? = some y := ⟨q[k]'(by rw [hql.out]; exact hlt), List.getElem?_eq_getElem _⟩
      obtain ⟨hx1, hx2⟩ := hp k x hx
      obtain ⟨hy1, hy2⟩ := hq k y hy
      have HS : Hid (ordL (fun a b => ord n a m b) (p.drop k) (q.drop k) = if ord n x m y = 0 then ordL (fun a b => ord n a m b) (p.drop (k + 1)) (q.drop (k + 1)) else ord n x m y) := ordL_drop (fun a b => ord n a m b) p q k x y hx hy
      replace hx1 := hx1.below (hb.mono hB) hpb
      replace hy1 := hy1.below (hb.mono hB) hqb
      replace hx2 := hx2.below (hb.mono hB)
      replace hy2 := hy2.below (hb.mono hB)
      clear hp hq hx hy
      cases n with
      | zero => exact hx1.elim
      | succ n =>
      cases m with
      | zero => exact hy1.elim
      | succ m =>
      obtain ⟨x0, x1, x2, x3⟩ := hx1
      obtain ⟨y0, y1, y2, y3⟩ := hy1
      have hc : ∀ (w1 : World), In B w1 (n + 1) x → In B w1 (m + 1) y → B ≤ w1.heap.size → Calls Try.prog 10 #[.agg #[.int .i64 x.1.1, .int .i64 x.1.2.1, .string x.1.2.2, .slice x.2.1.1 x.2.2.length x.2.1.2], .agg #[.int .i64 y.1.1, .int .i64 y.1.2.1, .string y.1.2.2, .slice y.2.1.1 y.2.2.length y.2.1.2]] w1 fun e w' => e = .returned (.int .i64 (ord (n + 1) x (m + 1) y)) ∧ Below w1.heap.size w1 w' := fun w1 h1 h2 h3 => ih x (m + 1) y B w1 h1 h2 h3
      have HC := hide hc
      clear hc ih
      have HX := hide hx2
      have HY := hide hy2
      clear hx2 hy2
      generalize ord (n + 1) x (m + 1) y = r at *
      generalize x.2.2.length = xl at *
      generalize y.2.2.length = yl at *
      have hk1 : (0 : Int) ≤ (k : Int) := by omega
      have hk2 : (k : Int) < (len : Int) := by omega
      have hB' : B ≤ wr.heap.size := Nat.le_trans hB hb.size
      have HCD := hide (HC.out wr.drew (HX.out.below (Below.refl _ _).drew) (HY.out.below (Below.refl _ _).drew) hB')
      have hpw : pb < wr.heap.size := by omega
      have hqw : qb < wr.heap.size := by omega
      clear HC HX HY
      go_wp2_with fail
      go_region_held3 (fun w' => w'.cell? ⟨pb, po + k * 4, none⟩ = some (.int .i64 x.1.1) ∧ w'.cell? ⟨pb, po + k * 4 + 1, none⟩ = some (.int .i64 x.1.2.1) ∧ w'.cell? ⟨pb, po + k * 4 + 2, none⟩ = some (.string x.1.2.2) ∧ w'.cell? ⟨pb, po + k * 4 + 3, none⟩ = some (.slice x.2.1.1 xl x.2.1.2)
          ∧ w'.cell? ⟨qb, qo + k * 4, none⟩ = some (.int .i64 y.1.1) ∧ w'.cell? ⟨qb, qo + k * 4 + 1, none⟩ = some (.int .i64 y.1.2.1) ∧ w'.cell? ⟨qb, qo + k * 4 + 2, none⟩ = some (.string y.1.2.2) ∧ w'.cell? ⟨qb, qo + k * 4 + 3, none⟩ = some (.slice y.2.1.1 yl y.2.1.2))
        (go_keep) ((go_at_call 10; refine HCD.out.mono ?_; rintro e w1 ⟨rfl, hb1⟩; have hcc := below_cells (below_undrew hb1)))
      have hb2 : Below w.heap.size w w1 := hb.trans ((below_undrew hb1).mono hb.size)
      by_cases hr : r = 0
      · have HR : Hid (r = 0) := hr
        have hr1 : (r != 0) = false := by rw [hr]; rfl
        clear hr
        go_wp2_with fail
        go_roundw
        case rel => exact ⟨k + 1, by omega, by go_num, hb2, by rw [← hd.out, HS.out, if_pos HR.out]; rfl⟩
        case measure => simp [intOf]; omega
      · have HR : Hid (¬ r = 0) := hr
        have hr1 : (r != 0) = true := by simpa using hr
        clear hr
        go_wp2_with fail
        go_ret
        exact ⟨ret_int (by rw [← hd.out, HS.out, if_neg HR.out]), hb2⟩
    · go_wp2_with fail
      go_ret
      refine ⟨ret_int ?_, hb⟩
      rw [← hd.out, List.drop_eq_nil_of_le (by rw [hpl.out]; omega)]
      rfl

theorem args_nil (n m : Nat) (a c : Option Addr) (pc qc : Nat) (w : World) :
    Calls Try.prog 52 #[.slice a ([] : List (Tm n)).length pc, .slice c ([] : List (Tm m)).length qc] w fun e w' => e = .returned (.int .i64 (ordL (fun a b => ord n a m b) [] [])) ∧ Below w.heap.size w w' := by
  show Calls Try.prog 52 #[.slice a 0 pc, .slice c 0 qc] w fun e w' => e = .returned (.int .i64 0) ∧ Below w.heap.size w w'
  go_enter Try.func52, Try.ntmps52
  go_wp2_with fail
  go_loop [19] (fun i => i = .int .i64 0) (fun _ => 0)
  case atStart => rfl
  case round =>
    obtain rfl := hrel
    go_wp2_with fail
    go_ret
    exact ⟨rfl, Below.refl _ _⟩

theorem order_kind (w : World) (k k' u u' : Int) (s s' : ByteArray) (a a' : Option Addr) (pl ql pc qc : Nat) (e : ¬ k = k') :
    Calls Try.prog 10 #[.agg #[.int .i64 k, .int .i64 u, .string s, .slice a pl pc], .agg #[.int .i64 k', .int .i64 u', .string s', .slice a' ql qc]] w fun e w' => e = .returned (.int .i64 (cmpI k k')) ∧ Below w.heap.size w w' := by
  have hk : (k != k') = true := by simpa using e
  clear e
  go_enter Try.func10, Try.ntmps10
  go_wp2_with (go_at_call 50; refine (cmpI_any _ _ _).mono ?_; rintro e w' ⟨rfl, rfl⟩)
  go_ret
  exact ⟨rfl, ((Below.refl _ _).alloc (Nat.le_refl _) _).alloc (by simp) _⟩

theorem order_int (w : World) (k u u' : Int) (s s' : ByteArray) (a a' : Option Addr) (pl ql pc qc : Nat) (r : Int) (h : k = 1 ∨ k = 3 ∨ k = 5) :
    Calls Try.prog 10 #[.agg #[.int .i64 k, .int .i64 u, .string s, .slice a pl pc], .agg #[.int .i64 k, .int .i64 u', .string s', .slice a' ql qc]] w fun e w' => e = .returned (.int .i64 (if k = 1 ∨ k = 3 ∨ k = 5 then cmpI u u' else if k = 2 then cmpS s s' else if k = 4 then r else 0)) ∧ Below w.heap.size w w' := by
  rw [if_pos h]
  rcases h with rfl | rfl | rfl
  all_goals
    go_enter Try.func10, Try.ntmps10
    go_wp2_with (go_at_call 50; refine (cmpI_any _ _ _).mono ?_; rintro e w' ⟨rfl, rfl⟩)
    go_ret
    exact ⟨rfl, ((Below.refl _ _).alloc (Nat.le_refl _) _).alloc (by simp) _⟩

theorem order_str (w : World) (u u' : Int) (s s' : ByteArray) (a a' : Option Addr) (pl ql pc qc : Nat) :
    Calls Try.prog 10 #[.agg #[.int .i64 2, .int .i64 u, .string s, .slice a pl pc], .agg #[.int .i64 2, .int .i64 u', .string s', .slice a' ql qc]] w fun e w' => e = .returned (.int .i64 (cmpS s s')) ∧ Below w.heap.size w w' := by
  go_enter Try.func10, Try.ntmps10
  go_wp2_with (go_at_call 51; refine (cmpS_any _ _ _).mono ?_; rintro e w' ⟨rfl, rfl⟩)
  go_ret
  exact ⟨rfl, ((Below.refl _ _).alloc (Nat.le_refl _) _).alloc (by simp) _⟩

theorem order_else (w : World) (k u u' : Int) (s s' : ByteArray) (a a' : Option Addr) (pl ql pc qc : Nat) (e1 : ¬ k = 1) (e2 : ¬ k = 2) (e3 : ¬ k = 3) (e4 : ¬ k = 4) (e5 : ¬ k = 5) :
    Calls Try.prog 10 #[.agg #[.int .i64 k, .int .i64 u, .string s, .slice a pl pc], .agg #[.int .i64 k, .int .i64 u', .string s', .slice a' ql qc]] w fun e w' => e = .returned (.int .i64 0) ∧ Below w.heap.size w w' := by
  have h1 : (k == 1) = false := by simpa using e1
  have h2 : (k == 2) = false := by simpa using e2
  have h3 : (k == 3) = false := by simpa using e3
  have h4 : (k == 4) = false := by simpa using e4
  have h5 : (k == 5) = false := by simpa using e5
  clear e1 e2 e3 e4 e5
  go_enter Try.func10, Try.ntmps10
  go_wp2_with fail
  go_ret
  exact ⟨rfl, ((Below.refl _ _).alloc (Nat.le_refl _) _).alloc (by simp) _⟩

theorem order_tup (w : World) (u u' : Int) (s s' : ByteArray) (a a' : Option Addr) (pl ql pc qc : Nat) (r : Int)
    (h : ∀ w1 : World, Below w.heap.size w w1 → Calls Try.prog 52 #[.slice a pl pc, .slice a' ql qc] w1 fun e w' => e = .returned (.int .i64 r) ∧ Below w1.heap.size w1 w') :
    Calls Try.prog 10 #[.agg #[.int .i64 4, .int .i64 u, .string s, .slice a pl pc], .agg #[.int .i64 4, .int .i64 u', .string s', .slice a' ql qc]] w fun e w' => e = .returned (.int .i64 r) ∧ Below w.heap.size w w' := by
  have H := hide h
  clear h
  go_enter Try.func10, Try.ntmps10
  go_wp2_with fail
  refine (H.out _ (((Below.refl _ _).alloc (Nat.le_refl _) _).alloc (by simp) _)).mono ?_
  rintro e w' ⟨rfl, hb⟩
  go_wp2_with fail
  go_ret
  exact ⟨rfl, (((Below.refl _ _).alloc (Nat.le_refl _) _).alloc (by simp) _).trans (hb.mono (by simp; omega))⟩

set_option maxHeartbeats 400000 in
theorem order_any (n : Nat) : F5 n := by
  induction n with
  | zero => intro x m y B w hx; exact hx.elim
  | succ n ih =>
    intro x m y B w hx hy hB
    cases m with
    | zero => exact hy.elim
    | succ m =>
    obtain ⟨⟨k, u, s⟩, ⟨a, pc⟩, p⟩ := x
    obtain ⟨⟨k', u', s'⟩, ⟨a', qc⟩, q⟩ := y
    obtain ⟨⟨hk, hu, hs, hpl, hpc⟩, hp⟩ := hx
    obtain ⟨⟨hk', hu', hs', hql, hqc⟩, hq⟩ := hy
    simp only at hk hu hs hpl hpc hp hk' hu' hs' hql hqc hq
    show Calls Try.prog 10 #[.agg #[.int .i64 k, .int .i64 u, .string s, .slice a p.length pc], .agg #[.int .i64 k', .int .i64 u', .string s', .slice a' q.length qc]] w fun e w' => e = .returned (.int .i64 (if k = k' then
      if k = 1 ∨ k = 3 ∨ k = 5 then cmpI u u' else if k = 2 then cmpS s s' else if k = 4 then if p.length = q.length then ordL (fun a b => ord n a m b) p q else cmpI p.length q.length
      else 0 else cmpI k k')) ∧ Below w.heap.size w w'
    have hargs : ∀ w1 : World, Below w.heap.size w w1 → Calls Try.prog 52 #[.slice a p.length pc, .slice a' q.length qc] w1 fun e w' => e = .returned (.int .i64 (if p.length = q.length then ordL (fun a b => ord n a m b) p q else cmpI p.length q.length)) ∧ Below w1.heap.size w1 w' := by
      intro w1 hw
      unfold maxLen at hpc hqc
      by_cases hl : p.length = q.length
      · rw [if_pos hl]
        rcases hp with hp | ⟨pb, po, rfl, hpb, hp⟩
        · subst hp
          have hq0 : q = [] := List.eq_nil_of_length_eq_zero hl.symm
          subst hq0
          exact args_nil n m a a' pc qc w1
        · rcases hq with hq | ⟨qb, qo, rfl, hqb, hq⟩
          · subst hq
            have hp0 : p = [] := List.eq_nil_of_length_eq_zero hl
            subst hp0
            exact args_nil n m _ a' pc qc w1
          · have h := args_eq n m ih p q p.length rfl hl.symm pb po qb qo pc qc B w1 (by omega) hpb hqb (fun i y hy => ⟨(hp i y hy).1.below (hw.mono hB) hpb, (hp i y hy).2.below (hw.mono hB)⟩)
              (fun i y hy => ⟨(hq i y hy).1.below (hw.mono hB) hqb, (hq i y hy).2.below (hw.mono hB)⟩) (Nat.le_trans hB hw.size)
            rw [hl] at h
            rw [hl]
            exact h
      · rw [if_neg hl]
        refine (args_ne p.length q.length a a' pc qc w1 (by omega) (by omega) (by simp; omega)).mono ?_
        rintro e w' ⟨rfl, rfl⟩
        exact ⟨rfl, Below.refl _ _⟩
    generalize (if p.length = q.length then ordL (fun a b => ord n a m b) p q else cmpI p.length q.length) = r at *
    clear hp hq ih hpl hpc hql hqc hs hs' hB
    generalize p.length = pl at *
    generalize q.length = ql at *
    obtain ⟨hk1, hk2⟩ := hk
    obtain ⟨hk1', hk2'⟩ := hk'
    by_cases e : k = k'
    · subst e
      rw [if_pos rfl]
      by_cases e1 : k = 1
      · subst e1
        exact order_int w 1 u u' s s' a a' pl ql pc qc r (Or.inl rfl)
      by_cases e3 : k = 3
      · subst e3
        exact order_int w 3 u u' s s' a a' pl ql pc qc r (Or.inr (Or.inl rfl))
      by_cases e5 : k = 5
      · subst e5
        exact order_int w 5 u u' s s' a a' pl ql pc qc r (Or.inr (Or.inr rfl))
      rw [if_neg (by omega)]
      by_cases e2 : k = 2
      · subst e2
        exact order_str w u u' s s' a a' pl ql pc qc
      rw [if_neg e2]
      by_cases e4 : k = 4
      · subst e4
        exact order_tup w u u' s s' a a' pl ql pc qc r hargs
      rw [if_neg e4]
      exact order_else w k u u' s s' a a' pl ql pc qc e1 e2 e3 e4 e5
    · rw [if_neg e]
      exact order_kind w k k' u u' s s' a a' pl ql pc qc e
end Go.Proofs.Ytfginhifgljnmaa
