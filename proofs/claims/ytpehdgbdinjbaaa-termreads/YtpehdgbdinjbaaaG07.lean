/- What is proved here: plain facts and contracts that the claimed theorem stands on, several texts in one: term.depth, term.Size and term.Check of a term that lies in memory return what plain functions say, and turn no memory that was there; Check is the document's Check. Condition: at most 2097152 terms in it. plain facts on words: which term a row of words tells (Is), where a row of words can't go on (scanD, exp), that a row tells one term, and that the same terms have the same sizes. No condition. plain facts on texts: the row of a text's words from a place on, step by step, as a reader goes, and sign by sign. No condition. plain facts on terms that a call builds: which blocks they lie in (Off), that they stay where those blocks stay, and that a row of terms that is owned holds its terms. No condition. nothing: the texts that a reader of terms needs, together. No condition. the program's reader reads one term (term, tuple): for every text of at most 2048 signs: which term the words ahead begin with, or where they can't go on. Only the reader's own block and new memory turn. -/
import Derived.Test.YtpehdgbdinjbaaaG04
import Derived.Test.YtpehdgbdinjbaaaG06
namespace Go.Proofs.Ytpehdgbdinjbaaa
open Go.RowKit

def dep : (n : Nat) → Tm n → Int
  | 0, _ => 0
  | n + 1, x => if x.1.1 = 4 then 1 + x.2.2.foldl (fun m y => max m (dep n y)) 0 else 0
def depTo (n : Nat) (p : List (Tm n)) (k : Nat) : Int := (p.take k).foldl (fun m y => max m (dep n y)) 0
theorem depTo_succ (n : Nat) (p : List (Tm n)) (k : Nat) (x : Tm n) (h : p[k]? = some x) : depTo n p (k + 1) = max (depTo n p k) (dep n x) := by
  obtain ⟨h1, e1⟩ := List.getElem?_eq_some_iff.1 h
  unfold depTo
  rw [List.take_succ_eq_append_getElem h1, e1, List.foldl_append]
  rfl
theorem fold_bound {n : Nat} (N : Int) : (l : List (Tm n)) → (m : Int) → 0 ≤ m → m ≤ N → (∀ y ∈ l, 0 ≤ dep n y ∧ dep n y ≤ N) → 0 ≤ l.foldl (fun m y => max m (dep n y)) m ∧ l.foldl (fun m y => max m (dep n y)) m ≤ N
  | [], _, h0, h1, _ => ⟨h0, h1⟩
  | y :: l, m, h0, h1, h => by
    have hy := h y (by simp)
    exact fold_bound N l (max m (dep n y)) (by omega) (by omega) (fun z hz => h z (by simp [hz]))
theorem mem_nodes_le {n : Nat} (l : List (Tm n)) (y : Tm n) (h : y ∈ l) : (nodes n y).length ≤ (l.flatMap fun y => nodes n y).length := by
  obtain ⟨i, hi⟩ := List.getElem?_of_mem h
  have e4 := take_le (fun y => nodes n y) l (i + 1)
  rw [take_flat _ l i y hi, List.length_append] at e4
  omega
theorem dep_bound : (n : Nat) → (x : Tm n) → 0 ≤ dep n x ∧ dep n x ≤ (nodes n x).length
  | 0, _ => by simp [dep]
  | n + 1, x => by
    have hb := fold_bound ((x.2.2.flatMap fun y => nodes n y).length : Int) x.2.2 0 (by omega) (by omega) (fun y hy => by
      have h1 := dep_bound n y
      have h2 := mem_nodes_le x.2.2 y hy
      omega)
    simp only [dep, nodes, List.length_cons]
    by_cases h4 : x.1.1 = 4
    · rw [if_pos h4]; omega
    · rw [if_neg h4]; omega
theorem depTo_bound (n : Nat) (p : List (Tm n)) (k : Nat) : 0 ≤ depTo n p k ∧ depTo n p k ≤ (p.flatMap fun y => nodes n y).length :=
  fold_bound _ (p.take k) 0 (by omega) (by omega) (fun y hy => by
    have h1 := dep_bound n y
    have h2 := mem_nodes_le p y (List.mem_of_mem_take hy)
    omega)

def FDep (n : Nat) : Prop := ∀ (x : Tm n) (B : Nat) (w : World), In B w n x → B ≤ w.heap.size → (nodes n x).length ≤ 2097152 →
  Calls Try.prog 87 #[val n x] w fun e w' => e = .returned (.int .i64 (dep n x)) ∧ Below w.heap.size w w'

theorem depth_else (k0 u0 : Int) (s : ByteArray) (a : Option Addr) (len pc : Nat) (w : World) (h : ¬ k0 = 4) :
    Calls Try.prog 87 #[.agg #[.int .i64 k0, .int .i64 u0, .string s, .slice a len pc]] w fun e w' => e = .returned (.int .i64 0) ∧ Below w.heap.size w w' := by
  have h4 : (k0 != 4) = true := by simpa using h
  clear h
  go_enter Try.func87, Try.ntmps87
  go_wp2_with fail
  go_ret
  exact ⟨rfl, (Below.refl _ _).alloc (Nat.le_refl _) _⟩

set_option maxHeartbeats 400000 in
theorem depth_tup (n : Nat) (ih : FDep n) (u0 : Int) (s : ByteArray) (a : Option Addr) (pc len : Nat) (p : List (Tm n)) (hpl : Hid (p.length = len)) (B : Nat) (w : World)
    (hp : Hid (p = [] ∨ ∃ b o, a = some ⟨b, o, none⟩ ∧ b < B ∧ ∀ (i : Nat) (y : Tm n), p[i]? = some y → Held w b (o + i * 4) n y ∧ In B w n y))
    (hlen : len ≤ 9223372036854775807) (hB : B ≤ w.heap.size) (hsum : Hid (1 + (p.flatMap fun y => nodes n y).length ≤ 2097152)) :
    Calls Try.prog 87 #[.agg #[.int .i64 4, .int .i64 u0, .string s, .slice a len pc]] w fun e w' =>
      e = .returned (.int .i64 (1 + p.foldl (fun m y => max m (dep n y)) 0)) ∧ Below w.heap.size w w' := by
  go_enter Try.func87, Try.ntmps87
  go_wp2_with fail
  go_loopw [3, 12] (fun t i wr => ∃ k : Nat, ∃ r : Int, k ≤ len ∧ i = .int .i64 k ∧ t = .int .i64 r ∧ Hid (r = depTo n p k) ∧ Below w.heap.size w wr) (fun _ i _ => len - (intOf i).toNat)
  case atStart => exact ⟨0, 0, by omega, rfl, rfl, by simp [Hid, depTo], (Below.refl _ _).alloc (Nat.le_refl _) _⟩
  case round =>
    obtain ⟨k, r, hk, rfl, rfl, hr, hb⟩ := hrel
    have e1 := depTo_bound n p k
    rw [← hr.out] at e1
    have e5 := hsum.out
    have r1 : 0 ≤ r := e1.1
    have r2 : r ≤ 2097152 := by omega
    clear e1
    by_cases hlt : k < len
    · obtain ⟨x, hx⟩ : ∃ x, p[k]? = some x := ⟨p[k]'(by rw [hpl.out]; exact hlt), List.getElem?_eq_getElem _⟩
      have HS := hide (depTo_succ n p k x hx)
      have e3 := mem_nodes_le p x (List.mem_of_getElem? hx)
      have hx9 : (nodes n x).length ≤ 2097152 := by omega
      clear e3 e5
      rcases hp.out with hp | ⟨pb, po, rfl, hpb, hp⟩
      · subst hp; simp at hx
      obtain ⟨hx1, hx2⟩ := hp k x hx
      replace hx1 := hx1.below (hb.mono hB) hpb
      replace hx2 := hx2.below (hb.mono hB)
      clear hp hx
      cases n with
      | zero => exact hx1.elim
      | succ n =>
      obtain ⟨x0, x1, x2, x3⟩ := hx1
      have hB' : B ≤ wr.heap.size := Nat.le_trans hB hb.size
      have HC : Hid (∀ w1, Below wr.heap.size wr w1 → Calls Try.prog 87 #[.agg #[.int .i64 x.1.1, .int .i64 x.1.2.1, .string x.1.2.2, .slice x.2.1.1 x.2.2.length x.2.1.2]] w1 fun e w' => e = .returned (.int .i64 (dep (n + 1) x)) ∧ Below w1.heap.size w1 w') :=
        fun w1 h1 => ih x B w1 (hx2.below (h1.mono hB')) (Nat.le_trans hB' h1.size) hx9
      clear ih hx2 hx9
      generalize x.2.2.length = xl at *
      generalize dep (n + 1) x = z at *
      have hk1 : (0 : Int) ≤ (k : Int) := by omega
      have hk2 : (k : Int) < (len : Int) := by omega
      go_wp2_with fail
      refine (HC.out _ ((Below.refl _ _).alloc (Nat.le_refl _) _)).mono ?_
      rintro e w1 ⟨rfl, hb1⟩
      have hb2 : Below w.heap.size w w1 := (hb.trans (((Below.refl _ _).alloc (Nat.le_refl _) _).mono hb.size)).trans (hb1.mono (by have := hb.size; simp; omega))
      clear hb1
      have hmx : max r z = if r < z then z else r := by split <;> omega
      have HMX := hide hmx
      clear hmx
      go_wp2_with fail
      go_roundw
      case rel => exact ⟨k + 1, _, by omega, by go_num, rfl, by simp only [Hid]; rw [HS.out, ← hr.out, HMX.out], hb2⟩
      case measure => simp [intOf]; omega
    · go_wp2_with fail
      go_ret
      refine ⟨ret_int ?_, hb⟩
      rw [hr.out]
      unfold depTo
      rw [List.take_of_length_le (by rw [hpl.out]; omega)]

theorem depth_any (n : Nat) : FDep n := by
  induction n with
  | zero => intro x B w hx; exact hx.elim
  | succ n ih =>
    intro x B w hx hB hsum
    obtain ⟨⟨k, u, s⟩, ⟨a, pc⟩, p⟩ := x
    obtain ⟨⟨_, _, _, hpl, hpc⟩, hp⟩ := hx
    simp only at hpl hpc hp
    unfold maxLen at hpc
    have hL : (nodes (n + 1) ((k, u, s), (a, pc), p)).length = 1 + (p.flatMap fun y => nodes n y).length := by simp only [nodes, List.length_cons]; omega
    rw [hL] at hsum
    show Calls Try.prog 87 #[.agg #[.int .i64 k, .int .i64 u, .string s, .slice a p.length pc]] w fun e w' => e = .returned (.int .i64 (if k = 4 then 1 + p.foldl (fun m y => max m (dep n y)) 0 else 0)) ∧ Below w.heap.size w w'
    by_cases h4 : k = 4
    · subst h4
      exact depth_tup n ih u s a pc p.length p rfl B w hp (by omega) hB hsum
    · rw [if_neg h4]
      exact depth_else k u s a p.length pc w h4

/-- So many words behind k of the parts, as term.Size counts them. -/
def tszTo (n : Nat) (p : List (Tm n)) (k : Nat) : Int := 1 + p.length + ((p.take k).map fun y => sz n y).sum
theorem tszTo_succ (n : Nat) (p : List (Tm n)) (k : Nat) (x : Tm n) (h : p[k]? = some x) : tszTo n p (k + 1) = tszTo n p k + sz n x := by
  obtain ⟨h1, e1⟩ := List.getElem?_eq_some_iff.1 h
  unfold tszTo
  rw [List.take_succ_eq_append_getElem h1, e1]
  simp
  omega
theorem sum_split (n : Nat) (l : List (Tm n)) : (l.map fun y => 1 + sz n y).sum = l.length + (l.map fun y => sz n y).sum := by
  induction l with
  | nil => simp
  | cons y l ih => simp only [List.map_cons, List.sum_cons, List.length_cons, ih]; omega
theorem tszTo_all (n : Nat) (p : List (Tm n)) (k : Nat) (h : p.length ≤ k) : tszTo n p k = 1 + (p.map fun y => 1 + sz n y).sum := by
  unfold tszTo
  rw [List.take_of_length_le h, sum_split]
  omega
theorem len_nodes (n : Nat) (p : List (Tm n)) : p.length ≤ (p.flatMap fun y => nodes n y).length := by
  induction p with
  | nil => simp
  | cons y l ih =>
    have : 1 ≤ (nodes n y).length := by cases n <;> simp [nodes]
    simp only [List.flatMap_cons, List.length_append, List.length_cons]
    omega
theorem tszTo_bound (n : Nat) (p : List (Tm n)) (k : Nat) : 0 ≤ tszTo n p k ∧ tszTo n p k ≤ 3 * (1 + (p.flatMap fun y => nodes n y).length : Int) := by
  have h0 := len_nodes n p
  have h := take_le (fun y => nodes n y) p k
  have key : ∀ l : List (Tm n), 0 ≤ (l.map fun y => sz n y).sum ∧ (l.map fun y => sz n y).sum ≤ 2 * ((l.flatMap fun y => nodes n y).length : Int) := by
    intro l
    induction l with
    | nil => exact ⟨by simp, by simp⟩
    | cons y l ih =>
      have hy := sz_bound n y
      simp only [List.map_cons, List.sum_cons, List.flatMap_cons, List.length_append]
      exact ⟨by omega, by omega⟩
  have k := key (p.take k)
  unfold tszTo
  exact ⟨by omega, by omega⟩

def FSz (n : Nat) : Prop := ∀ (x : Tm n) (B : Nat) (w : World), In B w n x → B ≤ w.heap.size → (nodes n x).length ≤ 2097152 →
  Calls Try.prog 56 #[val n x] w fun e w' => e = .returned (.int .i64 (sz n x)) ∧ Below w.heap.size w w'

theorem tsize_else (k0 u0 : Int) (s : ByteArray) (a : Option Addr) (len pc : Nat) (w : World) (h : ¬ k0 = 4) :
    Calls Try.prog 56 #[.agg #[.int .i64 k0, .int .i64 u0, .string s, .slice a len pc]] w fun e w' => e = .returned (.int .i64 0) ∧ Below w.heap.size w w' := by
  have h4 : (k0 != 4) = true := by simpa using h
  clear h
  go_enter Try.func56, Try.ntmps56
  go_wp2_with fail
  go_ret
  exact ⟨rfl, (Below.refl _ _).alloc (Nat.le_refl _) _⟩

set_option maxHeartbeats 400000 in
theorem tsize_tup (n : Nat) (ih : FSz n) (u0 : Int) (s : ByteArray) (a : Option Addr) (pc len : Nat) (p : List (Tm n)) (hpl : Hid (p.length = len)) (B : Nat) (w : World)
    (hp : Hid (p = [] ∨ ∃ b o, a = some ⟨b, o, none⟩ ∧ b < B ∧ ∀ (i : Nat) (y : Tm n), p[i]? = some y → Held w b (o + i * 4) n y ∧ In B w n y))
    (hB : B ≤ w.heap.size) (hsum : Hid (1 + (p.flatMap fun y => nodes n y).length ≤ 2097152)) :
    Calls Try.prog 56 #[.agg #[.int .i64 4, .int .i64 u0, .string s, .slice a len pc]] w fun e w' =>
      e = .returned (.int .i64 (1 + (p.map fun y => 1 + sz n y).sum)) ∧ Below w.heap.size w w' := by
  have hlen : len ≤ 2097152 := by have h1 := len_nodes n p; have h2 := hsum.out; rw [← hpl.out]; omega
  go_enter Try.func56, Try.ntmps56
  go_wp2_with fail
  go_loopw [3, 16] (fun t i wr => ∃ k : Nat, ∃ r : Int, k ≤ len ∧ i = .int .i64 k ∧ t = .int .i64 r ∧ Hid (r = tszTo n p k) ∧ Below w.heap.size w wr) (fun _ i _ => len - (intOf i).toNat)
  case atStart => exact ⟨0, 1 + len, by omega, rfl, rfl, by simp only [Hid, tszTo]; rw [hpl.out]; simp, (Below.refl _ _).alloc (Nat.le_refl _) _⟩
  case round =>
    obtain ⟨k, r, hk, rfl, rfl, hr, hb⟩ := hrel
    have e1 := tszTo_bound n p k
    rw [← hr.out] at e1
    have e5 := hsum.out
    have r1 : 0 ≤ r := e1.1
    have r2 : r ≤ 6291456 := by omega
    clear e1
    by_cases hlt : k < len
    · obtain ⟨x, hx⟩ : ∃ x, p[k]? = some x := ⟨p[k]'(by rw [hpl.out]; exact hlt), List.getElem?_eq_getElem _⟩
      have HS := hide (tszTo_succ n p k x hx)
      have e3 := mem_nodes_le p x (List.mem_of_getElem? hx)
      have hx9 : (nodes n x).length ≤ 2097152 := by omega
      have e2 := sz_bound n x
      have z1 : 0 ≤ sz n x := e2.1
      have z2 : sz n x ≤ 4194304 := by omega
      clear e3 e5 e2
      rcases hp.out with hp | ⟨pb, po, rfl, hpb, hp⟩
      · subst hp; simp at hx
      obtain ⟨hx1, hx2⟩ := hp k x hx
      replace hx1 := hx1.below (hb.mono hB) hpb
      replace hx2 := hx2.below (hb.mono hB)
      clear hp hx
      cases n with
      | zero => exact hx1.elim
      | succ n =>
      obtain ⟨x0, x1, x2, x3⟩ := hx1
      have hB' : B ≤ wr.heap.size := Nat.le_trans hB hb.size
      have HC : Hid (∀ w1, Below wr.heap.size wr w1 → Calls Try.prog 56 #[.agg #[.int .i64 x.1.1, .int .i64 x.1.2.1, .string x.1.2.2, .slice x.2.1.1 x.2.2.length x.2.1.2]] w1 fun e w' => e = .returned (.int .i64 (sz (n + 1) x)) ∧ Below w1.heap.size w1 w') :=
        fun w1 h1 => ih x B w1 (hx2.below (h1.mono hB')) (Nat.le_trans hB' h1.size) hx9
      clear ih hx2 hx9
      generalize x.2.2.length = xl at *
      generalize sz (n + 1) x = z at *
      have hk1 : (0 : Int) ≤ (k : Int) := by omega
      have hk2 : (k : Int) < (len : Int) := by omega
      go_wp2_with fail
      refine (HC.out _ ((Below.refl _ _).alloc (Nat.le_refl _) _)).mono ?_
      rintro e w1 ⟨rfl, hb1⟩
      have hb2 : Below w.heap.size w w1 := (hb.trans (((Below.refl _ _).alloc (Nat.le_refl _) _).mono hb.size)).trans (hb1.mono (by have := hb.size; simp; omega))
      clear hb1
      go_wp2_with fail
      go_roundw
      case rel => exact ⟨k + 1, r + z, by omega, by go_num, by go_num, by simp only [Hid]; rw [HS.out, ← hr.out], hb2⟩
      case measure => simp [intOf]; omega
    · go_wp2_with fail
      go_ret
      refine ⟨ret_int ?_, hb⟩
      rw [hr.out, tszTo_all n p k (by rw [hpl.out]; omega)]

theorem tsize_any (n : Nat) : FSz n := by
  induction n with
  | zero => intro x B w hx; exact hx.elim
  | succ n ih =>
    intro x B w hx hB hsum
    obtain ⟨⟨k, u, s⟩, ⟨a, pc⟩, p⟩ := x
    obtain ⟨⟨_, _, _, hpl, hpc⟩, hp⟩ := hx
    simp only at hpl hpc hp
    have hL : (nodes (n + 1) ((k, u, s), (a, pc), p)).length = 1 + (p.flatMap fun y => nodes n y).length := by simp only [nodes, List.length_cons]; omega
    rw [hL] at hsum
    show Calls Try.prog 56 #[.agg #[.int .i64 k, .int .i64 u, .string s, .slice a p.length pc]] w fun e w' => e = .returned (.int .i64 (if k = 4 then 1 + (p.map fun y => 1 + sz n y).sum else 0)) ∧ Below w.heap.size w w'
    by_cases h4 : k = 4
    · subst h4
      exact tsize_tup n ih u s a pc p.length p rfl B w hp hB hsum
    · rw [if_neg h4]
      exact tsize_else k u s a p.length pc w h4

set_option maxHeartbeats 400000 in
theorem tcheck_walk (w : World) (k u : Int) (s : ByteArray) (a : Option Addr) (l c : Nat) (fb : Bool) (d z : Int)
    (HF : Hid (∀ w1, Below w.heap.size w w1 → Calls Try.prog 86 #[.agg #[.int .i64 k, .int .i64 u, .string s, .slice a l c]] w1 fun e w' => e = .returned (.bool fb) ∧ Below w1.heap.size w1 w'))
    (HD : Hid (∀ w1, Below w.heap.size w w1 → Calls Try.prog 87 #[.agg #[.int .i64 k, .int .i64 u, .string s, .slice a l c]] w1 fun e w' => e = .returned (.int .i64 d) ∧ Below w1.heap.size w1 w'))
    (HZ : Hid (∀ w1, Below w.heap.size w w1 → Calls Try.prog 56 #[.agg #[.int .i64 k, .int .i64 u, .string s, .slice a l c]] w1 fun e w' => e = .returned (.int .i64 z) ∧ Below w1.heap.size w1 w')) :
    Calls Try.prog 50 #[.agg #[.int .i64 k, .int .i64 u, .string s, .slice a l c]] w fun e w' => e = .returned (.int .i64 (if fb then if 12 < d ∨ 200 < z then 2 else 0 else 5)) ∧ Below w.heap.size w w' := by
  generalize hr : (if fb then if 12 < d ∨ 200 < z then (2 : Int) else 0 else 5) = r
  have HR := hide hr
  clear hr
  go_enter Try.func50, Try.ntmps50
  go_wp2_with fail
  refine (HF.out _ ((Below.refl _ _).alloc (Nat.le_refl _) _)).mono ?_
  rintro e w1 ⟨rfl, hb1⟩
  have HB1 : Hid (Below w.heap.size w w1 ∧ w.heap.size + 1 ≤ w1.heap.size) := ⟨((Below.refl _ _).alloc (Nat.le_refl _) _).trans (hb1.mono (by simp)), by have := hb1.size; simpa using this⟩
  have hcc := below_cells hb1
  simp only [World.size_alloc] at hcc
  have a0 := (hcc w.heap.size 0 (by omega)).trans (by simp [go_sem] : _ = some (Value.int .i64 k))
  have a1 := (hcc w.heap.size 1 (by omega)).trans (by simp [go_sem] : _ = some (Value.int .i64 u))
  have a2 := (hcc w.heap.size 2 (by omega)).trans (by simp [go_sem] : _ = some (Value.string s))
  have a3 := (hcc w.heap.size 3 (by omega)).trans (by simp [go_sem] : _ = some (Value.slice a l c))
  clear hcc hb1
  cases fb with
  | false =>
    go_wp2_with fail
    go_ret
    exact ⟨ret_int (by rw [← HR.out]; rfl), HB1.out.1⟩
  | true =>
    go_wp2_with fail
    refine (HD.out _ HB1.out.1).mono ?_
    rintro e w2 ⟨rfl, hb2⟩
    have HB2 : Hid (Below w.heap.size w w2) := HB1.out.1.trans (hb2.mono HB1.out.1.size)
    have hcc := below_cells hb2
    have hz1 := HB1.out.2
    replace a0 := (hcc w.heap.size 0 (by omega)).trans a0
    replace a1 := (hcc w.heap.size 1 (by omega)).trans a1
    replace a2 := (hcc w.heap.size 2 (by omega)).trans a2
    replace a3 := (hcc w.heap.size 3 (by omega)).trans a3
    clear hcc hb2 hz1
    by_cases h12 : 12 < d
    · have H12 := hide h12
      go_wp2_with fail
      go_ret
      exact ⟨ret_int (by rw [← HR.out, if_pos trivial, if_pos (Or.inl H12.out)]), HB2.out⟩
    · have H12 := hide h12
      go_wp2_with fail
      refine (HZ.out _ HB2.out).mono ?_
      rintro e w3 ⟨rfl, hb3⟩
      have HB3 : Hid (Below w.heap.size w w3) := HB2.out.trans (hb3.mono HB2.out.size)
      clear hb3
      by_cases hz : 200 < z
      · have HZ2 := hide hz
        go_wp2_with fail
        go_ret
        exact ⟨ret_int (by rw [← HR.out, if_pos trivial, if_pos (Or.inr HZ2.out)]), HB3.out⟩
      · have HZ2 := hide hz
        go_wp2_with fail
        go_ret
        exact ⟨ret_int (by rw [← HR.out, if_pos trivial, if_neg (by have := H12.out; have := HZ2.out; omega)]), HB3.out⟩

def tchk (n : Nat) (x : Tm n) : Int := if formedB n x then if 12 < dep n x ∨ 200 < sz n x then 2 else 0 else 5
theorem tcheck_tchk (n : Nat) (x : Tm n) (B : Nat) (w : World) (hx : In B w n x) (hB : B ≤ w.heap.size) (hN : (nodes n x).length ≤ 2097152) :
    Calls Try.prog 50 #[val n x] w fun e w' => e = .returned (.int .i64 (tchk n x)) ∧ Below w.heap.size w w' := by
  cases n with
  | zero => exact hx.elim
  | succ n =>
  exact tcheck_walk w x.1.1 x.1.2.1 x.1.2.2 x.2.1.1 x.2.2.length x.2.1.2 (formedB (n + 1) x) (dep (n + 1) x) (sz (n + 1) x)
    (fun w1 hw => formed_any (n + 1) x B w1 (hx.below (hw.mono hB)) (Nat.le_trans hB hw.size))
    (fun w1 hw => depth_any (n + 1) x B w1 (hx.below (hw.mono hB)) (Nat.le_trans hB hw.size) hN)
    (fun w1 hw => tsize_any (n + 1) x B w1 (hx.below (hw.mono hB)) (Nat.le_trans hB hw.size) hN)

/-- That each term in it is right by itself: the one way and the other. -/
theorem formed_good : (n : Nat) → (x : Tm n) → formedB n x = (nodes n x).all good
  | 0, _ => by simp [formedB, nodes, good]
  | n + 1, x => by
    have e : (nodes (n + 1) x).all good = (good (hdOf n x) && (x.2.2.flatMap fun y => nodes n y).all good) := rfl
    rw [e]
    simp only [formedB]
    cases hg : good (hdOf n x)
    · rfl
    · rw [Bool.true_and, Bool.true_and]
      by_cases h4 : x.1.1 = 4
      · rw [h4]
        have key : ∀ l : List (Tm n), (l.all fun y => formedB n y) = (l.flatMap fun y => nodes n y).all good := by
          intro l
          induction l with
          | nil => rfl
          | cons y l ih => simp only [List.all_cons, List.flatMap_cons, List.all_append, ih, formed_good n y]
        rw [key]
        simp
      · have hl : x.2.2 = [] := by
          unfold good at hg
          simp only [Bool.and_eq_true, Bool.or_eq_true, beq_iff_eq] at hg
          rcases hg.2 with h | h
          · exact (h4 h).elim
          · have : ¬ (0 : Int) < (x.2.2.length : Int) := by simpa [hdOf] using h
            exact List.eq_nil_of_length_eq_zero (by omega)
        rw [hl]
        simp

/-- How deep it is, of what is still to be looked at. -/
def deepL : List Nd → List Int → Int → Int
  | x :: l, d :: ds, m => deepL l ds (deeper x d m)
  | _, _, m => m
theorem chkL_all (z : Int) : (l : List Nd) → (ds : List Int) → (m : Int) → l.length = ds.length → chkL z l ds m = if l.all good then (if 12 < deepL l ds m ∨ 200 < z then 2 else 0) else 5
  | [], _, _, _ => rfl
  | x :: l, [], _, h => by simp at h
  | x :: l, d :: ds, m, h => by
    have ih := chkL_all z l ds (deeper x d m) (by simpa using h)
    simp only [chkL, deepL]
    by_cases hg : good x = true
    · have e : (x :: l).all good = l.all good := by simp [hg]
      rw [if_pos hg, ih]
      by_cases ha : l.all good = true
      · rw [if_pos ha, if_pos (e.trans ha)]; rfl
      · rw [if_neg ha, if_neg (fun h => ha (e.symm.trans h))]
    · rw [if_neg hg, if_neg (fun h => hg (List.all_eq_true.1 h x (by simp)))]

theorem deepL_append : (l r : List Nd) → (ds es : List Int) → (m : Int) → l.length = ds.length → deepL (l ++ r) (ds ++ es) m = deepL r es (deepL l ds m)
  | [], _, [], _, _, _ => rfl
  | [], _, _ :: _, _, _, h => by simp at h
  | _ :: _, _, [], _, _, h => by simp at h
  | x :: l, r, d :: ds, es, m, h => by
    simp only [List.cons_append, deepL]
    exact deepL_append l r ds es _ (by simpa using h)
theorem fold_max {n : Nat} (c : Int) : (p : List (Tm n)) → (m e : Int) → p.foldl (fun m y => max m (c + dep n y)) (max m (c + e)) = max m (c + p.foldl (fun m y => max m (dep n y)) e)
  | [], _, _ => rfl
  | y :: p, m, e => by
    simp only [List.foldl_cons]
    have h : max (max m (c + e)) (c + dep n y) = max m (c + max e (dep n y)) := by omega
    rw [h]
    exact fold_max c p m (max e (dep n y))
theorem deep_dep : (n : Nat) → (x : Tm n) → (d m : Int) → (∀ a ∈ nodes n x, good a = true) → d ≤ m → deepL (nodes n x) (deeps n x d) m = max m (d + dep n x)
  | 0, x, _, _, h, _ => by
    have := h ((0, 0, .empty), (none, 0, 0)) (by simp [nodes])
    rcases good_kind _ this with g | g | g | g | g | ⟨g, _⟩ <;> simp at g
  | n + 1, x, d, m, h, hm => by
    have hg := h (hdOf n x) (by simp [nodes, hdOf])
    have key : ∀ (p : List (Tm n)) (m : Int), (∀ y ∈ p, y ∈ x.2.2) → d + 1 ≤ m → deepL (p.flatMap fun y => nodes n y) (p.flatMap fun y => deeps n y (d + 1)) m = p.foldl (fun m y => max m (d + 1 + dep n y)) m := by
      intro p
      induction p with
      | nil => intro m _ _; rfl
      | cons y p ih =>
        intro m hp hm
        simp only [List.flatMap_cons, List.foldl_cons]
        rw [deepL_append _ _ _ _ _ (deeps_length n y (d + 1)).symm, deep_dep n y (d + 1) m (fun a ha => h a (nodes_mem (hp y (by simp)) ha)) hm]
        exact ih _ (fun z hz => hp z (by simp [hz])) (by omega)
    have e : deepL (nodes (n + 1) x) (deeps (n + 1) x d) m = deepL (x.2.2.flatMap fun y => nodes n y) (x.2.2.flatMap fun y => deeps n y (d + 1)) (deeper (hdOf n x) d m) := rfl
    rw [e]
    simp only [dep]
    by_cases h4 : x.1.1 = 4
    · rw [if_pos h4]
      have e1 : deeper (hdOf n x) d m = max m (d + 1 + 0) := by
        unfold deeper hdOf
        by_cases hlt : m < d + 1
        · rw [if_pos ⟨h4, hlt⟩]; omega
        · rw [if_neg (fun hh => hlt hh.2)]; omega
      rw [e1, key x.2.2 _ (fun _ hy => hy) (by omega), fold_max]
      omega
    · rw [if_neg h4]
      have hl : x.2.2 = [] := by
        unfold good at hg
        simp only [Bool.and_eq_true, Bool.or_eq_true, beq_iff_eq] at hg
        rcases hg.2 with h' | h'
        · exact (h4 h').elim
        · have : ¬ (0 : Int) < (x.2.2.length : Int) := by simpa [hdOf] using h'
          exact List.eq_nil_of_length_eq_zero (by omega)
      have e1 : deeper (hdOf n x) d m = m := deeper_no _ (fun hh => h4 hh.1)
      rw [hl, e1]
      simp only [List.flatMap_nil, deepL]
      omega
theorem tchk_chk (n : Nat) (x : Tm n) : tchk n x = chk n x := by
  unfold tchk chk
  rw [chkL_all _ _ _ _ (deeps_length n x 0).symm, ← formed_good n x]
  by_cases hf : formedB n x = true
  · rw [if_pos hf, if_pos hf]
    have hg : ∀ a ∈ nodes n x, good a = true := by
      rw [formed_good n x] at hf
      exact fun a ha => List.all_eq_true.1 hf a ha
    have hd := dep_bound n x
    rw [deep_dep n x 0 0 hg (by omega)]
    have : max (0 : Int) (0 + dep n x) = dep n x := by omega
    rw [this]
  · rw [if_neg hf, if_neg hf]

/-- term.Check is the document's Check. -/
theorem tcheck_any (n : Nat) (x : Tm n) (B : Nat) (w : World) (hx : In B w n x) (hB : B ≤ w.heap.size) (hN : (nodes n x).length ≤ 2097152) :
    Calls Try.prog 50 #[val n x] w fun e w' => e = .returned (.int .i64 (chk n x)) ∧ Below w.heap.size w w' := by
  rw [← tchk_chk]
  exact tcheck_tchk n x B w hx hB hN
end Go.Proofs.Ytpehdgbdinjbaaa
namespace Go.Proofs.Ytpehdgbdinjbaaa
open Go.RowKit

/-- A word, and where it begins. -/
abbrev Tok : Type := Nat × ByteArray
def isO (x : ByteArray) : Bool := x.toList == [40]
def isC (x : ByteArray) : Bool := x.toList == [41]

theorem head_of {x : ByteArray} {c : UInt8} (h : (x.toList == [c]) = true) : x.data.toList = [c] ∧ x.size = 1 := by
  rw [ByteArray.toList_eq] at h
  have h1 : x.data.toList = [c] := by simpa using h
  refine ⟨h1, ?_⟩
  have : x.data.toList.length = x.size := by simp
  rw [h1] at this
  simpa using this.symm
theorem leaf_close {x : ByteArray} (h : isC x = true) : leafB x = false ∧ isO x = false := by
  obtain ⟨h1, h2⟩ := head_of h
  simp [leafB, isO, isNum, ByteArray.toList_eq, h1, digsB, digB, lowsB, lowB]
theorem leaf_open {x : ByteArray} (h : isO x = true) : leafB x = false ∧ isC x = false := by
  obtain ⟨h1, h2⟩ := head_of h
  simp [leafB, isC, isNum, ByteArray.toList_eq, h1, digsB, digB, lowsB, lowB]

/-- A row of terms, each told by what is left of the words. -/
def IsL {α : Type} (f : α → List Tok → List Tok → Prop) : List α → List Tok → List Tok → Prop
  | [], ts, r => ts = r
  | x :: l, ts, r => ∃ m, f x ts m ∧ IsL f l m r
/-- The term that the words begin with, and what is left of them. -/
def Is : (n : Nat) → Tm n → List Tok → List Tok → Prop
  | 0, _, _, _ => False
  | n + 1, x, ts, r => ∃ t ts', ts = t :: ts' ∧ ((isO t.2 = false ∧ leafB t.2 = true ∧ x.1 = leafV t.2 ∧ x.2.2 = [] ∧ r = ts') ∨
      (isO t.2 = true ∧ x.1 = (4, 0, ⟨#[]⟩) ∧ ∃ c, IsL (Is n) x.2.2 ts' (c :: r) ∧ isC c.2 = true))

theorem IsL.snoc {α : Type} {f : α → List Tok → List Tok → Prop} {x : α} {r : List Tok} : {l : List α} → {ts m : List Tok} → IsL f l ts m → f x m r → IsL f (l ++ [x]) ts r
  | [], ts, m, h, hx => by
    have e : ts = m := h
    subst e
    exact ⟨r, hx, rfl⟩
  | y :: l, ts, m, h, hx => by
    obtain ⟨q, h1, h2⟩ := h
    exact ⟨q, h1, h2.snoc hx⟩

/-- A term's first word is no closing bracket. -/
theorem Is.head {n : Nat} {x : Tm n} {ts r : List Tok} (h : Is n x ts r) : ∃ t ts', ts = t :: ts' ∧ isC t.2 = false := by
  cases n with
  | zero => exact h.elim
  | succ n =>
    obtain ⟨t, ts', rfl, h⟩ := h
    refine ⟨t, ts', rfl, ?_⟩
    cases hc : isC t.2
    · rfl
    · have := leaf_close hc
      rcases h with h | h
      · rw [this.1] at h; exact absurd h.2.1 (by simp)
      · rw [this.2] at h; exact absurd h.1 (by simp)

theorem IsL.one {n m : Nat} (ih : ∀ (x : Tm n) (y : Tm m) (ts r r' : List Tok), Is n x ts r → Is m y ts r' → same n x m y = true ∧ r = r') :
    (p : List (Tm n)) → (q : List (Tm m)) → (ts : List Tok) → (c c' : Tok) → (r r' : List Tok) → isC c.2 = true → isC c'.2 = true → IsL (Is n) p ts (c :: r) → IsL (Is m) q ts (c' :: r') → sameL (fun a b => same n a m b) p q = true ∧ r = r'
  | [], [], ts, c, c', r, r', hc, hc', h, h' => by
    have e1 : ts = c :: r := h
    have e2 : ts = c' :: r' := h'
    rw [e1] at e2
    injection e2 with _ e
    exact ⟨rfl, e⟩
  | [], y :: q, ts, c, c', r, r', hc, hc', h, h' => by
    have e1 : ts = c :: r := h
    obtain ⟨m', h1, _⟩ := h'
    obtain ⟨t, ts', e2, hn⟩ := h1.head
    rw [e1] at e2
    injection e2 with e _
    rw [← e, hc] at hn
    exact absurd hn (by simp)
  | x :: p, [], ts, c, c', r, r', hc, hc', h, h' => by
    have e1 : ts = c' :: r' := h'
    obtain ⟨m', h1, _⟩ := h
    obtain ⟨t, ts', e2, hn⟩ := h1.head
    rw [e1] at e2
    injection e2 with e _
    rw [← e, hc'] at hn
    exact absurd hn (by simp)
  | x :: p, y :: q, ts, c, c', r, r', hc, hc', h, h' => by
    obtain ⟨m1, h1, h2⟩ := h
    obtain ⟨m2, h3, h4⟩ := h'
    obtain ⟨e1, e2⟩ := ih x y ts m1 m2 h1 h3
    subst e2
    obtain ⟨e3, e4⟩ := IsL.one ih p q m1 c c' r r' hc hc' h2 h4
    exact ⟨by simp only [sameL]; rw [e1, e3]; rfl, e4⟩

theorem Is.one : (n : Nat) → (m : Nat) → (x : Tm n) → (y : Tm m) → (ts r r' : List Tok) → Is n x ts r → Is m y ts r' → same n x m y = true ∧ r = r'
  | 0, _, _, _, _, _, _, h, _ => h.elim
  | _ + 1, 0, _, _, _, _, _, _, h => h.elim
  | n + 1, m + 1, x, y, ts, r, r', h, h' => by
    obtain ⟨t, ts', rfl, h⟩ := h
    obtain ⟨t2, ts2, e, h'⟩ := h'
    injection e with e1 e2
    subst e1 e2
    rcases h with ⟨o, _, hx, hl, hr⟩ | ⟨o, hx, c, hl, hc⟩
    · rcases h' with ⟨_, _, hy, hl', hr'⟩ | ⟨o', _⟩
      · refine ⟨?_, hr.trans hr'.symm⟩
        simp only [same, hx, hy, hl, hl', sameL]
        simp
      · rw [o] at o'; exact absurd o' (by simp)
    · rcases h' with ⟨o', _⟩ | ⟨_, hy, c', hl', hc'⟩
      · rw [o] at o'; exact absurd o' (by simp)
      · obtain ⟨e1, e2⟩ := IsL.one (fun x y ts r r' => Is.one n m x y ts r r') x.2.2 y.2.2 ts' c c' r r' hc hc' hl hl'
        refine ⟨?_, e2⟩
        simp only [same, hx, hy, e1]
        simp

theorem Is.nodes : (n : Nat) → (x : Tm n) → (ts r : List Tok) → Is n x ts r → (nodes n x).length + r.length ≤ ts.length
  | 0, _, _, _, h => h.elim
  | n + 1, x, ts, r, h => by
    have key : ∀ (l : List (Tm n)) (ts r : List Tok), IsL (Is n) l ts r → (l.flatMap fun y => Proofs.Ytpehdgbdinjbaaa.nodes n y).length + r.length ≤ ts.length := by
      intro l
      induction l with
      | nil => intro ts r h; have e : ts = r := h; subst e; simp
      | cons y l ih =>
        intro ts r h
        obtain ⟨m, h1, h2⟩ := h
        have := Is.nodes n y ts m h1
        have := ih m r h2
        simp only [List.flatMap_cons, List.length_append]
        omega
    obtain ⟨t, ts', rfl, h⟩ := h
    simp only [Proofs.Ytpehdgbdinjbaaa.nodes, List.length_cons]
    rcases h with ⟨o, _, hx, hl, hr⟩ | ⟨o, hx, c, hl, hc⟩
    · rw [hl, hr]; simp; omega
    · have := key x.2.2 ts' (c :: r) hl
      simp only [List.length_cons] at this
      omega

/-- Where the words can't go on, in d brackets, behind a term; L: the text's end. -/
def scanD (L : Nat) : List Tok → Nat → Option Nat
  | [], 0 => none
  | [], _ + 1 => some L
  | t :: _, 0 => some t.1
  | t :: ts, d + 1 => if isO t.2 then scanD L ts (d + 2) else if isC t.2 then scanD L ts d else if leafB t.2 then scanD L ts (d + 1) else some t.1
/-- .. where a term is wanted. -/
def exp (L : Nat) : List Tok → Nat → Option Nat
  | [], _ => some L
  | t :: ts, d => if isO t.2 then scanD L ts (d + 1) else if leafB t.2 then scanD L ts d else some t.1
def posOf (L : Nat) : List Tok → Nat
  | [] => L
  | t :: _ => t.1
theorem scan_exp (L : Nat) (ts : List Tok) (d : Nat) (h : ∀ t ts', ts = t :: ts' → isC t.2 = false) : scanD L ts (d + 1) = exp L ts (d + 1) := by
  cases ts with
  | nil => rfl
  | cons t ts => simp only [scanD, exp]; rw [h t ts rfl]; simp
theorem scan_close (L : Nat) (t : Tok) (ts : List Tok) (d : Nat) (h : isC t.2 = true) : scanD L (t :: ts) (d + 1) = scanD L ts d := by
  simp only [scanD]; rw [(leaf_close h).2, h]; simp

/-- What of a term its sizes and its form hang on. -/
theorem sameL_len {α β : Type} (f : α → β → Bool) : (p : List α) → (q : List β) → sameL f p q = true → p.length = q.length
  | [], [], _ => rfl
  | [], _ :: _, h => by simp [sameL] at h
  | _ :: _, [], h => by simp [sameL] at h
  | a :: p, b :: q, h => by
    simp only [sameL, Bool.and_eq_true] at h
    simp [sameL_len f p q h.2]
theorem good_of {k k' u u' : Int} {s s' : ByteArray} {l l' c c' : Nat} {a a' : Option Addr} (h1 : k = k') (h2 : u = u') (h3 : s = s') (h4 : l = l') : good ((k, u, s), (a, l, c)) = good ((k', u', s'), (a', l', c')) := by
  subst h1 h2 h3 h4
  rfl
theorem same_parts : (n m : Nat) → (x : Tm n) → (y : Tm m) → same n x m y = true → formedB n x = formedB m y ∧ dep n x = dep m y ∧ sz n x = sz m y
  | 0, _, _, _, h => by simp [same] at h
  | _ + 1, 0, _, _, h => by simp [same] at h
  | n + 1, m + 1, x, y, h => by
    have key : ∀ (p : List (Tm n)) (q : List (Tm m)), sameL (fun a b => same n a m b) p q = true →
        (p.all fun y => formedB n y) = (q.all fun y => formedB m y) ∧ (∀ a, p.foldl (fun m y => max m (dep n y)) a = q.foldl (fun k y => max k (dep m y)) a) ∧ (p.map fun y => 1 + sz n y).sum = (q.map fun y => 1 + sz m y).sum := by
      intro p
      induction p with
      | nil =>
        intro q h
        cases q with
        | nil => simp
        | cons b q => simp [sameL] at h
      | cons a p ih =>
        intro q h
        cases q with
        | nil => simp [sameL] at h
        | cons b q =>
          simp only [sameL, Bool.and_eq_true] at h
          obtain ⟨e1, e2, e3⟩ := same_parts n m a b h.1
          obtain ⟨k1, k2, k3⟩ := ih q h.2
          refine ⟨by simp only [List.all_cons, e1, k1], fun z => ?_, by simp only [List.map_cons, List.sum_cons, e3, k3]⟩
          simp only [List.foldl_cons, e2]
          exact k2 _
    simp only [same, Bool.and_eq_true, beq_iff_eq] at h
    obtain ⟨⟨⟨h1, h2⟩, h3⟩, h4⟩ := h
    obtain ⟨k1, k2, k3⟩ := key _ _ h4
    have hl := sameL_len _ _ _ h4
    have hs : x.1.2.2 = y.1.2.2 := by
      rw [ByteArray.toList_eq, ByteArray.toList_eq] at h3
      exact ByteArray.ext (Array.toList_inj.1 h3)
    refine ⟨?_, ?_, ?_⟩
    · have hg : good (hdOf n x) = good (hdOf m y) := good_of h1 h2 hs hl
      simp only [formedB, hg, h1, k1]
    · simp only [dep, h1, k2]
    · simp only [sz, h1, k3]
theorem same_tchk (n m : Nat) (x : Tm n) (y : Tm m) (h : same n x m y = true) : chk n x = chk m y := by
  obtain ⟨h1, h2, h3⟩ := same_parts n m x y h
  rw [← tchk_chk, ← tchk_chk]
  simp only [tchk, h1, h2, h3]
end Go.Proofs.Ytpehdgbdinjbaaa
namespace Go.Proofs.Ytpehdgbdinjbaaa
open Go.RowKit

def toksF : Nat → ByteArray → Nat → List Tok
  | 0, _, _ => []
  | f + 1, s, i => if wordB s i < s.size then (wordB s i, s.extract (wordB s i) (wordE s i)) :: toksF f s (wordE s i) else []
/-- The words of a text from a place on. -/
def toks (s : ByteArray) (i : Nat) : List Tok := toksF (s.size - i) s i

theorem toksF_more (s : ByteArray) : (f g i : Nat) → s.size - i ≤ f → s.size - i ≤ g → toksF f s i = toksF g s i
  | 0, 0, _, _, _ => rfl
  | 0, g + 1, i, h, _ => by
    have := wordB_ge s i
    simp only [toksF]
    rw [if_neg (by omega)]
  | f + 1, 0, i, _, h => by
    have := wordB_ge s i
    simp only [toksF]
    rw [if_neg (by omega)]
  | f + 1, g + 1, i, h, h' => by
    simp only [toksF]
    by_cases hw : wordB s i < s.size
    · rw [if_pos hw, if_pos hw]
      have h1 := wordE_gt s i hw
      have h2 := wordB_ge s i
      rw [toksF_more s f g (wordE s i) (by omega) (by omega)]
    · rw [if_neg hw, if_neg hw]
theorem toks_cons (s : ByteArray) (i : Nat) (h : wordB s i < s.size) : toks s i = (wordB s i, s.extract (wordB s i) (wordE s i)) :: toks s (wordE s i) := by
  have h1 := wordE_gt s i h
  have h2 := wordB_ge s i
  unfold toks
  rw [toksF_more s (s.size - i) (s.size - i + 1) i (by omega) (by omega)]
  simp only [toksF]
  rw [if_pos h, toksF_more s (s.size - i) (s.size - wordE s i) (wordE s i) (by omega) (by omega)]
theorem toks_nil (s : ByteArray) (i : Nat) (h : ¬ wordB s i < s.size) : toks s i = [] := by
  unfold toks
  rw [toksF_more s (s.size - i) (s.size - i + 1) i (by omega) (by omega)]
  simp only [toksF]
  rw [if_neg h]
theorem toks_length (s : ByteArray) : (f i : Nat) → s.size - i ≤ f → (toks s i).length ≤ s.size - i
  | 0, i, h => by
    have := wordB_ge s i
    rw [toks_nil s i (by omega)]; simp
  | f + 1, i, h => by
    by_cases hw : wordB s i < s.size
    · have h1 := wordE_gt s i hw
      have h2 := wordB_ge s i
      rw [toks_cons s i hw]
      have := toks_length s f (wordE s i) (by omega)
      simp only [List.length_cons]
      omega
    · rw [toks_nil s i hw]; simp

/-- A reader at the word from b to e has these words ahead. -/
def At (s : ByteArray) (b e : Nat) (ts : List Tok) : Prop :=
  b ≤ e ∧ e ≤ s.size ∧ ((b = s.size ∧ ts = []) ∨ (b < e ∧ ts = (b, s.extract b e) :: toks s e))
theorem At.next {s : ByteArray} {i : Nat} (h : i ≤ s.size) : At s (wordB s i) (wordE s i) (toks s i) := by
  refine ⟨wordE_ge s i, wordE_le s i h, ?_⟩
  by_cases hw : wordB s i < s.size
  · exact Or.inr ⟨wordE_gt s i hw, toks_cons s i hw⟩
  · exact Or.inl ⟨(wordE_end s i h hw).1, toks_nil s i hw⟩
theorem At.pos {s : ByteArray} {b e : Nat} {ts : List Tok} (h : At s b e ts) : posOf s.size ts = b := by
  rcases h.2.2 with ⟨h1, rfl⟩ | ⟨_, rfl⟩
  · exact h1.symm
  · rfl
/-- The word at hand. -/
theorem At.nil {s : ByteArray} {b e : Nat} (h : At s b e []) : (s.extract b e).toList = [] := by
  rcases h.2.2 with ⟨h1, _⟩ | ⟨_, h2⟩
  · rw [ByteArray.toList_eq]
    apply List.eq_nil_of_length_eq_zero
    have := h.2.1
    simp
    omega
  · exact absurd h2 (by simp)
theorem At.cons {s : ByteArray} {b e : Nat} {t : Tok} {ts : List Tok} (h : At s b e (t :: ts)) : t = (b, s.extract b e) ∧ ts = toks s e ∧ 0 < (s.extract b e).size := by
  rcases h.2.2 with ⟨_, h2⟩ | ⟨h1, h2⟩
  · exact absurd h2 (by simp)
  · injection h2 with h3 h4
    refine ⟨h3, h4, ?_⟩
    have := h.2.1
    simp
    omega

-- Sign by sign: what a sign does to the words ahead.
theorem tk_blank {s : ByteArray} {i : Nat} (h : i < s.size) (hb : s[i] = 32) : toks s i = toks s (i + 1) := by
  have e1 : wordB s (i + 1) = wordB s i := skip_step (p := blB) h (by simp [blB, hb])
  have e2 : wordE s (i + 1) = wordE s i := by unfold wordE; rw [e1]
  by_cases hw : wordB s i < s.size
  · rw [toks_cons s i hw, toks_cons s (i + 1) (by omega), e1, e2]
  · rw [toks_nil s i hw, toks_nil s (i + 1) (by omega)]
theorem tk_bracket {s : ByteArray} {i : Nat} (h : i < s.size) (hb : s[i] = 40 ∨ s[i] = 41) : toks s i = (i, s.extract i (i + 1)) :: toks s (i + 1) := by
  have e1 : wordB s i = i := skip_stop (p := blB) h (by rcases hb with hb | hb <;> simp [blB, hb])
  have e2 : skipTo (fun c => !enB c) s i = i := skip_stop (p := fun c => !enB c) h (by rcases hb with hb | hb <;> simp [enB, hb])
  have e3 : wordE s i = i + 1 := by unfold wordE; rw [e1, e2, if_pos ⟨rfl, h⟩]
  rw [toks_cons s i (by omega), e1, e3]
theorem tk_plain {s : ByteArray} {i : Nat} (h : i < s.size) (hb : enB s[i] = false) : toks s i = (i, s.extract i (skipTo (fun c => !enB c) s (i + 1))) :: toks s (skipTo (fun c => !enB c) s (i + 1)) := by
  have e1 : wordB s i = i := skip_stop (p := blB) h (by simp [enB] at hb; simp [blB, hb])
  have e2 : skipTo (fun c => !enB c) s (i + 1) = skipTo (fun c => !enB c) s i := skip_step (p := fun c => !enB c) h (by simp [hb])
  have e3 := skip_ge (fun c => !enB c) s (i + 1)
  have e4 : wordE s i = skipTo (fun c => !enB c) s (i + 1) := by unfold wordE; rw [e1, if_neg (by omega), e2]
  rw [toks_cons s i (by omega), e1, e4]
end Go.Proofs.Ytpehdgbdinjbaaa
namespace Go.Proofs.Ytpehdgbdinjbaaa
open Go.RowKit

/-- Every block that a term leads to is one of these. -/
def Off (P : Nat → Prop) : (n : Nat) → Tm n → Prop
  | 0, _ => False
  | n + 1, x => x.2.2 = [] ∨ ∃ b o, x.2.1.1 = some ⟨b, o, none⟩ ∧ P b ∧ ∀ (i : Nat) (y : Tm n), x.2.2[i]? = some y → Off P n y

theorem Off.mono {P Q : Nat → Prop} (h : ∀ b, P b → Q b) : {n : Nat} → {x : Tm n} → Off P n x → Off Q n x
  | 0, _, k => k
  | _ + 1, _, k => by
    rcases k with k | ⟨b, o, e, hb, k⟩
    · exact Or.inl k
    · exact Or.inr ⟨b, o, e, h b hb, fun i y hy => (k i y hy).mono h⟩

theorem block_cell {w w' : World} {b : Nat} (h : w'.heap[b]? = w.heap[b]?) (o : Nat) : w'.cell? ⟨b, o, none⟩ = w.cell? ⟨b, o, none⟩ := by
  simp [World.cell?, h]
theorem Held.block {w w' : World} {b o : Nat} (h : w'.heap[b]? = w.heap[b]?) : {n : Nat} → {x : Tm n} → Held w b o n x → Held w' b o n x
  | 0, _, k => k
  | _ + 1, _, k => by
    obtain ⟨k0, k1, k2, k3⟩ := k
    exact ⟨(block_cell h _).trans k0, (block_cell h _).trans k1, (block_cell h _).trans k2, (block_cell h _).trans k3⟩
theorem In.off {P : Nat → Prop} {w w' : World} (h : ∀ b, P b → w'.heap[b]? = w.heap[b]?) {B : Nat} : {n : Nat} → {x : Tm n} → Off P n x → In B w n x → In B w' n x
  | 0, _, _, k => k
  | _ + 1, _, p, k => by
    obtain ⟨k0, k1⟩ := k
    refine ⟨k0, ?_⟩
    rcases k1 with k1 | ⟨b, o, e, hb, k1⟩
    · exact Or.inl k1
    · rcases p with p | ⟨b', o', e', hb', p⟩
      · exact Or.inl p
      · rw [e] at e'
        injection e' with e'
        injection e' with e1 e2
        subst e1 e2
        exact Or.inr ⟨b, o, e, hb, fun i y hy => ⟨(k1 i y hy).1.block (h b hb'), (k1 i y hy).2.off h (p i y hy)⟩⟩
theorem In.offB {P : Nat → Prop} {B : Nat} {w : World} : {n : Nat} → {x : Tm n} → Off P n x → In B w n x → Off (fun b => P b ∧ b < B) n x
  | 0, _, p, _ => p
  | _ + 1, _, p, k => by
    obtain ⟨_, k1⟩ := k
    rcases p with p | ⟨b, o, e, hb, p⟩
    · exact Or.inl p
    · rcases k1 with k1 | ⟨b', o', e', hb', k1⟩
      · exact Or.inl k1
      · rw [e] at e'
        injection e' with e'
        injection e' with e1 e2
        subst e1 e2
        exact Or.inr ⟨b, o, e, ⟨hb, hb'⟩, fun i y hy => In.offB (p i y hy) (k1 i y hy).2⟩

/-- A term's own four cells. -/
def hdT : (n : Nat) → Tm n → Nd
  | 0, _ => ((0, 0, ⟨#[]⟩), (none, 0, 0))
  | n + 1, x => hdOf n x
theorem hd_held {w : World} {base g c L : Nat} {n : Nat} {l : List (Tm (n + 1))} (h : w.ownsRow base 24 4 (.slice (some ⟨g, 0, none⟩) L c) L (ndCells (l.map (hdT (n + 1))))) (k : Nat) (x : Tm (n + 1)) (hx : l[k]? = some x) :
    Held w g (0 + k * 4) (n + 1) x := by
  have h1 := own_nd h k (hdT (n + 1) x) (by simp [hx])
  rw [Nat.zero_add]
  exact h1

/-- What a tuple's reading has so far: terms l, in a row of blocks from base on; no term lies in the row's own block. -/
def RowOf (base : Nat) (n : Nat) (l : List (Tm n)) (v : Value) (w : World) : Prop :=
  w.ownsRow base 24 4 v l.length (ndCells (l.map (hdT n))) ∧ ∀ y ∈ l, In w.heap.size w n y ∧ Off (fun b => base ≤ b ∧ v.ownBlock ≠ some b) n y

/-- The row is a tuple. -/
theorem RowOf.tup {base n : Nat} {l : List (Tm (n + 1))} {v : Value} {w : World} (h : RowOf base (n + 1) l v w) : ∃ a c, v = .slice a l.length c ∧ Off (fun b => base ≤ b) (n + 2) ((4, 0, ⟨#[]⟩), (a, c), l) ∧ In w.heap.size w (n + 2) ((4, 0, ⟨#[]⟩), (a, c), l) := by
  obtain ⟨h1, h2⟩ := h
  have hI : I64 4 ∧ I64 0 ∧ (⟨#[]⟩ : ByteArray).size ≤ maxLen := ⟨⟨by omega, by omega⟩, ⟨by omega, by omega⟩, Nat.zero_le _⟩
  have h3 := h1
  obtain ⟨h3a, h3⟩ := h3
  rcases h3 with ⟨h3, h4⟩ | ⟨g, cap, cur, rfl, hg, hh, hc, hm, hz, he⟩
  · have : l = [] := List.eq_nil_of_length_eq_zero h4
    subst this
    refine ⟨none, 0, by rw [h3]; rfl, Or.inl rfl, ⟨hI.1, hI.2.1, hI.2.2, Nat.zero_le _, Nat.zero_le _⟩, Or.inl rfl⟩
  · have hlt : g < w.heap.size := (Array.getElem?_eq_some_iff.1 hh).1
    refine ⟨some ⟨g, 0, none⟩, cap, rfl, Or.inr ⟨g, 0, rfl, hg, fun i y hy => ((h2 y (List.mem_of_getElem? hy)).2).mono fun b hb => hb.1⟩, ⟨hI.1, hI.2.1, hI.2.2, hc, hm⟩, Or.inr ⟨g, 0, rfl, hlt, fun i y hy => ⟨hd_held h1 i y hy, (h2 y (List.mem_of_getElem? hy)).1⟩⟩⟩
end Go.Proofs.Ytpehdgbdinjbaaa

namespace Go.Proofs.Ytpehdgbdinjbaaa
open Go.RowKit

theorem moved_alloc {w w1 : World} {q : Option Nat} (h : w.grownBy w1 q) (o : Obj) : w.grownBy (w1.alloc o) q :=
  ⟨h.os, h.tape, h.output, by have := h.size; simp; omega, fun k hk hne => by
    exact (((Below.refl w1.heap.size w1).alloc (Nat.le_refl _) o).block k (Nat.lt_of_lt_of_le hk h.size)).trans (h.block k hk hne)⟩
theorem moved_new {w w1 : World} {q : Option Nat} (h : w.grownBy w1 q) {b : Nat} (hb : w.heap.size ≤ b) (o : Nat) (v : Value) : w.grownBy (w1.setCell ⟨b, o, none⟩ v) q :=
  ⟨h.os, h.tape, h.output, by simpa [World.setCell] using h.size, fun k hk hne => (Below.heap_setCell w1 ⟨b, o, none⟩ v k (by simp; omega)).trans (h.block k hk hne)⟩
theorem moved_far {w w1 w2 : World} {q : Option Nat} (h : w.grownBy w1 q) {g : Option Nat} (k : w1.grownBy w2 g) (hg : ∀ b, g = some b → w.heap.size ≤ b) : w.grownBy w2 q :=
  ⟨k.os.trans h.os, k.tape.trans h.tape, k.output.trans h.output, Nat.le_trans h.size k.size, fun i hi hne => (k.block i (Nat.lt_of_lt_of_le hi h.size) (fun e => by have := hg i e.symm; omega)).trans (h.block i hi hne)⟩
theorem moved_below {w w1 w2 : World} {q : Option Nat} (h : w.grownBy w1 q) (k : Below w1.heap.size w1 w2) : w.grownBy w2 q :=
  ⟨k.os.trans h.os, k.tape.trans h.tape, k.output.trans h.output, Nat.le_trans h.size k.size, fun i hi hne => (k.block i (Nat.lt_of_lt_of_le hi h.size)).trans (h.block i hi hne)⟩
theorem Rd.block {r : Nat} {s : ByteArray} {b e : Nat} {w w' : World} (h : Rd r s b e w) (k : w'.heap[r]? = w.heap[r]?) : Rd r s b e w' := k.trans h
theorem Rd.alloc {r : Nat} {s : ByteArray} {b e : Nat} {w : World} (h : Rd r s b e w) (o : Obj) : Rd r s b e (w.alloc o) :=
  h.block (((Below.refl w.heap.size w).alloc (Nat.le_refl _) o).block r h.lt)
theorem Rd.far {r : Nat} {s : ByteArray} {b e : Nat} {w : World} (h : Rd r s b e w) {g : Nat} (hg : r < g) (o : Nat) (v : Value) : Rd r s b e (w.setCell ⟨g, o, none⟩ v) :=
  h.block (Below.heap_setCell w ⟨g, o, none⟩ v r (by simp; omega))

/-- The words ahead of a reader, by its places. -/
def ahead (s : ByteArray) (b e : Nat) : List Tok := if b < s.size then (b, s.extract b e) :: toks s e else []
def msr (r : Nat) (s : ByteArray) (w : World) : Nat := (ahead s (intOf ((w.cell? ⟨r, 1, none⟩).getD undef)).toNat (intOf ((w.cell? ⟨r, 2, none⟩).getD undef)).toNat).length
theorem msr_of {r : Nat} {s : ByteArray} {b e : Nat} {w : World} {ts : List Tok} (h : Rd r s b e w) (k : At s b e ts) : msr r s w = ts.length := by
  obtain ⟨⟨c0, c1, c2⟩, f1, f2⟩ := h.cells
  simp only [msr, c1, c2, Option.getD_some, intOf, Int.toNat_natCast, ahead]
  rcases k.2.2 with ⟨h1, rfl⟩ | ⟨h1, rfl⟩
  · rw [if_neg (by omega)]
  · rw [if_pos (by have := k.2.1; omega)]

/-- What a reading of one term tells: v, ok; the words ts were ahead. -/
def RRes (n : Nat) (s : ByteArray) (r : Nat) (ts : List Tok) (w w' : World) (v : Value) (ok : Bool) : Prop :=
  w.grownBy w' (some r) ∧ ∃ b e ts', Rd r s b e w' ∧ At s b e ts' ∧
    (ok = true → (∃ x : Tm n, val n x = v ∧ Is n x ts ts' ∧ In w'.heap.size w' n x ∧ Off (fun q => w.heap.size ≤ q) n x) ∧ ∀ d, exp s.size ts d = scanD s.size ts' d) ∧
    (ok = false → ∀ d, exp s.size ts d = some (posOf s.size ts'))
def ROut (n : Nat) (s : ByteArray) (r : Nat) (ts : List Tok) (w w' : World) (e : Ending) : Prop :=
  ∃ (k u : Int) (t : ByteArray) (a : Option Addr) (l c : Nat) (ok : Bool), e = .returned (.tuple #[.agg #[.int .i64 k, .int .i64 u, .string t, .slice a l c], .bool ok]) ∧
    Hid (RRes n s r ts w w' (.agg #[.int .i64 k, .int .i64 u, .string t, .slice a l c]) ok)
def FTerm (n : Nat) : Prop := ∀ (r : Nat) (s : ByteArray) (b e : Nat) (ts : List Tok) (w : World), Rd r s b e w → At s b e ts → s.size ≤ 2048 → ts.length ≤ n →
  Calls Try.prog 48 #[.pointer (some ⟨r, 0, none⟩)] w fun e' w' => ROut (n + 1) s r ts w w' e'

theorem word_is (r : Nat) (s : ByteArray) (b e : Nat) (x : ByteArray) (w : World) (h : Rd r s b e w) (hb : b ≤ e) (he : e ≤ s.size) (hx : s.extract b e = x) :
    Calls Try.prog 49 #[.pointer (some ⟨r, 0, none⟩)] w fun e' w' => e' = .returned (.string x) ∧ ∃ n, w' = w.drewN n := by
  subst hx; exact word_any r s b e w h hb he

/-- Four cells of a term's box. -/
def Bx (q : Nat) (v0 v1 v2 v3 : Value) (w : World) : Prop := w.heap[q]? = some (.cells #[v0, v1, v2, v3] 24)
theorem Bx.cells {q : Nat} {v0 v1 v2 v3 : Value} {w : World} (h : Bx q v0 v1 v2 v3 w) :
    (w.cell? ⟨q, 0, none⟩ = some v0 ∧ w.cell? ⟨q, 1, none⟩ = some v1 ∧ w.cell? ⟨q, 2, none⟩ = some v2 ∧ w.cell? ⟨q, 3, none⟩ = some v3) ∧
    (w.frozen? ⟨q, 0, none⟩ = false ∧ w.frozen? ⟨q, 1, none⟩ = false ∧ w.frozen? ⟨q, 2, none⟩ = false ∧ w.frozen? ⟨q, 3, none⟩ = false) := by
  unfold Bx at h
  exact ⟨⟨by simp [World.cell?, h], by simp [World.cell?, h], by simp [World.cell?, h], by simp [World.cell?, h]⟩, by simp [World.frozen?, h], by simp [World.frozen?, h], by simp [World.frozen?, h], by simp [World.frozen?, h]⟩
theorem Bx.block {q : Nat} {v0 v1 v2 v3 : Value} {w w' : World} (h : Bx q v0 v1 v2 v3 w) (k : w'.heap[q]? = w.heap[q]?) : Bx q v0 v1 v2 v3 w' := k.trans h
theorem Bx.lt {q : Nat} {v0 v1 v2 v3 : Value} {w : World} (h : Bx q v0 v1 v2 v3 w) : q < w.heap.size := (Array.getElem?_eq_some_iff.1 h).1
theorem Bx.set3 {q : Nat} {v0 v1 v2 v3 : Value} {w : World} (h : Bx q v0 v1 v2 v3 w) (v : Value) : Bx q v0 v1 v2 v (w.setCell ⟨q, 3, none⟩ v) := by
  unfold Bx at *
  simp [World.setCell, Array.getElem?_modify, h]
theorem Bx.new (w : World) (v0 v1 v2 v3 : Value) : Bx w.heap.size v0 v1 v2 v3 (w.alloc (.cells #[v0, v1, v2, v3] 24)) := heap_alloc_new w _

/-- What holds in a tuple's reading, at the loop. -/
def TupQ (n : Nat) (r : Nat) (s : ByteArray) (ts1 : List Tok) (w : World) (b e : Nat) (v : Value) (wr : World) (l : List (Tm (n + 1))) (ts' : List Tok) : Prop :=
  Rd r s b e wr ∧ At s b e ts' ∧ (w.alloc (.cells #[.int .i64 0, .int .i64 0, .string ⟨#[]⟩, .slice none 0 0] 24)).grownBy wr (some r) ∧ RowOf (w.heap.size + 2) (n + 1) l v wr ∧
    Bx w.heap.size (.int .i64 0) (.int .i64 0) (.string ⟨#[]⟩) (.slice none 0 0) wr ∧ Bx (w.heap.size + 1) (.int .i64 4) (.int .i64 0) (.string ⟨#[]⟩) v wr ∧
    IsL (Is (n + 1)) l ts1 ts' ∧ ts'.length ≤ ts1.length ∧ ∀ d, scanD s.size ts1 (d + 1) = scanD s.size ts' (d + 1)
def TupP (n : Nat) (r : Nat) (s : ByteArray) (ts1 : List Tok) (w : World) (b e : Nat) (v : Value) (wr : World) : Prop :=
  ∃ (l : List (Tm (n + 1))) (ts' : List Tok), TupQ n r s ts1 w b e v wr l ts'

theorem alloc_block (w : World) (o : Obj) {q : Nat} (h : q < w.heap.size) : (w.alloc o).heap[q]? = w.heap[q]? := (World.grownBy_alloc w o none).block q h (by simp)

theorem tup_start {n r : Nat} {s : ByteArray} {b e : Nat} {t0 : Tok} {ts1 : List Tok} {w w1 : World} (h : Rd r s b e w) (hat : At s b e (t0 :: ts1)) (k : Rd r s (wordB s e) (wordE s e) w1)
    (g : ((w.alloc (.cells #[.int .i64 0, .int .i64 0, .string ⟨#[]⟩, .slice none 0 0] 24)).alloc (.cells #[.int .i64 4, .int .i64 0, .string ⟨#[]⟩, .slice none 0 0] 24)).grownBy w1 (some r)) :
    TupP n r s ts1 w (wordB s e) (wordE s e) (.slice none 0 0) w1 := by
  have hlt := h.lt
  have e1 := (At.cons hat).2.1
  refine ⟨[], ts1, k, by rw [e1]; exact At.next hat.2.1, moved_trans (World.grownBy_alloc _ _ _) g, ⟨⟨rfl, Or.inl ⟨rfl, rfl⟩⟩, by simp⟩, ?_, ?_, rfl, Nat.le_refl _, fun _ => rfl⟩
  · exact ((Bx.new w _ _ _ _).block (alloc_block _ _ (by simp))).block (g.block _ (by simp; omega) (by simp; omega))
  · have := Bx.new (w.alloc (.cells #[.int .i64 0, .int .i64 0, .string ⟨#[]⟩, .slice none 0 0] 24)) (.int .i64 4) (.int .i64 0) (.string ⟨#[]⟩) (.slice none 0 0)
    have e2 : (w.alloc (.cells #[.int .i64 0, .int .i64 0, .string ⟨#[]⟩, .slice none 0 0] 24)).heap.size = w.heap.size + 1 := by simp
    rw [e2] at this
    exact this.block (g.block _ (by simp) (by simp; omega))

theorem RowOf.kept {base n : Nat} {l : List (Tm n)} {v : Value} {w w' : World} (h : RowOf base n l v w) {r : Nat} (g : w.grownBy w' (some r)) (hr : r < base) : RowOf base n l v w' := by
  refine ⟨h.1.kept g (Or.inr fun e => by have := h.1.lt r e; omega), fun y hy => ⟨?_, (h.2 y hy).2⟩⟩
  obtain ⟨h1, h2⟩ := h.2 y hy
  have h3 := In.offB h2 h1
  exact (In.off (fun b hb => g.block b hb.2 (by simp; omega)) h3 h1).mono g.size

/-- One more term, behind an append. -/
theorem RowOf.snoc {base n : Nat} {l : List (Tm (n + 1))} {v : Value} {w0 w w2 : World} (h : RowOf base (n + 1) l v w0) {r : Nat} (g0 : w0.grownBy w (some r)) (hr : r < base) {x : Tm (n + 1)} (hx : In w.heap.size w (n + 1) x) (hf : Off (fun q => w0.heap.size ≤ q) (n + 1) x) (hb0 : base ≤ w0.heap.size)
    {w1 : World} (g1 : w.grownBy w1 none) {g c : Nat} (hown : w2.ownsRow base 24 4 (.slice (some ⟨g, 0, none⟩) (l.length + 1) c) (l.length + 1) (ndCells (l.map (hdT (n + 1))) ++ nd4 (hdT (n + 1) x)))
    (g2 : w1.grownBy w2 v.ownBlock) (hat : v.ownBlock = some g ∨ g = w1.heap.size) : RowOf base (n + 1) (l ++ [x]) (.slice (some ⟨g, 0, none⟩) (l.length + 1) c) w2 := by
  have hk := h.kept g0 hr
  have z0 := g0.size
  have z1 := g1.size
  have z2 := g2.size
  have hvb : ∀ b, v.ownBlock = some b → b < w0.heap.size := fun b e => (h.1.lt b e).2
  refine ⟨by simpa [ndCells] using hown, fun y hy => ?_⟩
  have key : ∀ y : Tm (n + 1), In w.heap.size w (n + 1) y → Off (fun b => base ≤ b ∧ v.ownBlock ≠ some b) (n + 1) y →
      In w2.heap.size w2 (n + 1) y ∧ Off (fun b => base ≤ b ∧ (Value.slice (some ⟨g, 0, none⟩) (l.length + 1) c).ownBlock ≠ some b) (n + 1) y := by
    intro y h1 h2
    have h3 := In.offB h2 h1
    refine ⟨(In.off (fun b hb => (g2.block b (by omega) (fun e => hb.1.2 e.symm)).trans (g1.block b hb.2 (by simp))) h3 h1).mono (by omega), h3.mono fun b hb => ⟨hb.1.1, ?_⟩⟩
    intro e
    have e' : g = b := by simpa [Value.ownBlock] using e
    rcases hat with h | h
    · exact hb.1.2 (by rw [h, e'])
    · omega
  rcases List.mem_append.1 hy with hy | hy
  · exact key y (hk.2 y hy).1 (hk.2 y hy).2
  · have e : y = x := by simpa using hy
    subst e
    exact key y hx (hf.mono fun b hb => ⟨by omega, fun e => by have := hvb b e; omega⟩)

/-- The tuple's end. -/
theorem tup_close {n r : Nat} {s : ByteArray} {t0 : Tok} {ts1 : List Tok} {w wr w2 : World} {b e : Nat} {a : Option Addr} {L c m : Nat} (hr : r < w.heap.size) (ho : isO t0.2 = true) (h : TupP n r s ts1 w b e (.slice a L c) wr)
    (hc : isC (s.extract b e) = true) (k : Rd r s (wordB s e) (wordE s e) w2) (g : (wr.drewN m).grownBy w2 (some r)) :
    RRes (n + 2) s r (t0 :: ts1) (w.alloc (.cells #[.int .i64 0, .int .i64 0, .string ⟨#[]⟩, .slice none 0 0] 24)) w2 (.agg #[.int .i64 4, .int .i64 0, .string ⟨#[]⟩, .slice a L c]) true ∧
      Bx w.heap.size (.int .i64 0) (.int .i64 0) (.string ⟨#[]⟩) (.slice none 0 0) w2 ∧ Bx (w.heap.size + 1) (.int .i64 4) (.int .i64 0) (.string ⟨#[]⟩) (.slice a L c) w2 := by
  obtain ⟨l, ts', h1, h2, h3, h4, h5, h6, h7, h8, h9⟩ := h
  have z3 := h3.size
  have z4 := h6.lt
  have g' : wr.grownBy w2 (some r) := moved_trans (moved_drew wr m _) g
  obtain ⟨a', c', ev, hoff, hin⟩ := (h4.kept g' (by omega)).tup
  injection ev with e1 e2 e3
  subst e1 e2 e3
  refine ⟨⟨moved_trans h3 g', wordB s e, wordE s e, toks s e, k, At.next h2.2.1, fun _ => ⟨⟨_, rfl, ?_, hin, hoff.mono fun q hq => by simp; omega⟩, ?_⟩, by simp⟩, h5.block (g'.block _ h5.lt (by simp; omega)), h6.block (g'.block _ z4 (by simp; omega))⟩
  · cases ts' with
    | nil => simp [isC, h2.nil] at hc
    | cons t ts' =>
      obtain ⟨e1, e2, _⟩ := h2.cons
      subst e1 e2
      exact ⟨t0, ts1, rfl, Or.inr ⟨ho, rfl, _, h7, hc⟩⟩
  · intro d
    cases ts' with
    | nil => simp [isC, h2.nil] at hc
    | cons t ts' =>
      obtain ⟨e1, e2, _⟩ := h2.cons
      subst e1 e2
      simp only [exp, ho, if_true]
      rw [h9 d, scan_close _ _ _ _ hc]

theorem RRes.box {n r : Nat} {s : ByteArray} {ts : List Tok} {w w1 : World} {o : Obj} {v : Value} {ok : Bool} (hr : r < w.heap.size) (h : RRes n s r ts (w.alloc o) w1 v ok) (v0 v1 v2 v3 : Value) :
    RRes n s r ts w ((((w1.setCell ⟨w.heap.size, 0, none⟩ v0).setCell ⟨w.heap.size, 1, none⟩ v1).setCell ⟨w.heap.size, 2, none⟩ v2).setCell ⟨w.heap.size, 3, none⟩ v3) v ok := by
  obtain ⟨h1, b, e, ts', h2, h3, h4, h5⟩ := h
  refine ⟨moved_new (moved_new (moved_new (moved_new (moved_trans (World.grownBy_alloc _ _ _) h1) (Nat.le_refl _) _ _) (Nat.le_refl _) _ _) (Nat.le_refl _) _ _) (Nat.le_refl _) _ _, b, e, ts', (((h2.far hr _ _).far hr _ _).far hr _ _).far hr _ _, h3, fun hk => ?_, h5⟩
  obtain ⟨⟨x, x1, x2, x3, x4⟩, x5⟩ := h4 hk
  have hb : ∀ b, (w.alloc o).heap.size ≤ b → ((((w1.setCell ⟨w.heap.size, 0, none⟩ v0).setCell ⟨w.heap.size, 1, none⟩ v1).setCell ⟨w.heap.size, 2, none⟩ v2).setCell ⟨w.heap.size, 3, none⟩ v3).heap[b]? = w1.heap[b]? := fun b hb => by
    have hb' : w.heap.size < b := by simp at hb; omega
    rw [Below.heap_setCell _ _ _ _ (by simp; omega), Below.heap_setCell _ _ _ _ (by simp; omega), Below.heap_setCell _ _ _ _ (by simp; omega), Below.heap_setCell _ _ _ _ (by simp; omega)]
  refine ⟨⟨x, x1, x2, (In.off hb x4 x3).mono (by simp [World.setCell]), x4.mono fun q hq => by simp at hq; omega⟩, x5⟩
theorem RRes.alloc {n r : Nat} {s : ByteArray} {ts : List Tok} {w w1 : World} {v : Value} {ok : Bool} (h : RRes n s r ts w w1 v ok) (o : Obj) : RRes n s r ts w (w1.alloc o) v ok := by
  obtain ⟨h1, b, e, ts', h2, h3, h4, h5⟩ := h
  refine ⟨moved_alloc h1 o, b, e, ts', h2.alloc o, h3, fun hk => ?_, h5⟩
  obtain ⟨⟨x, x1, x2, x3, x4⟩, x5⟩ := h4 hk
  exact ⟨⟨x, x1, x2, (In.off (fun b hb => alloc_block w1 o hb.2) (In.offB x4 x3) x3).mono (by simp), x4⟩, x5⟩
end Go.Proofs.Ytpehdgbdinjbaaa
