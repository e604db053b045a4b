/- What is proved here: plain facts and contracts that the claimed theorem stands on, several texts in one: plain facts on what is reckoned: the value of a term by what its variables are bound to (vl), how large it is, that it is closed, and that terms that are the same are as large. No condition. plain facts and small contracts for HeapShares: the document's Putable; rows of two and three words; how many words a tuple that is joined often has when it is copied. No condition but sizes. slices.Repeat of one term, at most eight times: so many of it, in new memory; the statements' own free(): four wild terms, in new memory. No other condition. plain facts for HeapAgain: two rows, of words and of terms, that are appended to in any order, and what they leave as it was. No condition. -/
import Derived.Test.YtpehdgbdinjbaabG12
import Derived.Test.YtpehdgbdinjbaabG07
import Derived.Test.YtpehdgbdinjbaabG15
namespace Go.Proofs.Ytpehdgbdinjbaab
open Go.RowKit

def wSelf : ByteArray := ⟨#[115, 101, 108, 102]⟩
def wAdd : ByteArray := ⟨#[97, 100, 100]⟩
def wPut : ByteArray := ⟨#[112, 117, 116]⟩
def numA (N : Nat) (x : Tm N) : Int := (hdT N x).1.2.1

/-- A tuple's parts: the atom of that name, and k others. -/
def isW (n : Nat) (p : List (Tm n)) (s : ByteArray) (k : Nat) : Bool :=
  decide (p.length = 1 + k) && match p[0]? with
    | some y => kindA ⟨n, y⟩ == 2 && (hdT n y).1.2.2.toList == s.toList
    | none => false
def allV {α β : Type} (f : α → Option β) : List α → Option (List β)
  | [] => some []
  | a :: p => (f a).bind fun b => (allV f p).map fun l => b :: l
def leafV (k u : Int) (N : Nat) : Tm (N + 1) := ((k, u, .empty), (none, 0), [])
def sumB (N : Nat) (a c : Tm N) : Bool := kindA ⟨N, a⟩ == 1 && kindA ⟨N, c⟩ == 1 && inB (numA N a + numA N c) (-1099511627776) 1099511627776
def sumV (N : Nat) (a c : Tm N) : Option (Tm (N + 1)) := if sumB N a c then some (leafV 1 (numA N a + numA N c) N) else none
def tupV (N : Nat) (l : List (Tm N)) : Tm (N + 1) := ((4, 0, .empty), (none, 0), l)

/-- The value of a term. -/
def vl (m : Nat) (b : List (Tm m)) (self : Int) : (n : Nat) → Tm n → Option (Tm (m + n))
  | 0, _ => none
  | n + 1, x =>
    if x.1.1 = 5 then (b[x.1.2.1.toNat]?).bind fun y => if kindA ⟨m, y⟩ = 6 then none else some (lift (m + n + 1) m y)
    else if x.1.1 = 6 then none
    else if x.1.1 = 4 then
      if isW n x.2.2 wSelf 0 then some (leafV 3 self (m + n))
      else if isW n x.2.2 wAdd 2 then
        (x.2.2[1]?).bind fun a => (x.2.2[2]?).bind fun c => (vl m b self n a).bind fun a => (vl m b self n c).bind fun c => sumV (m + n) a c
      else if isW n x.2.2 wPut 1 then
        (x.2.2[1]?).bind fun a => if closedT n a then some (lift (m + n + 1) n a) else none
      else (allV (fun y => vl m b self n y) x.2.2).map (tupV (m + n))
    else some (lift (m + n + 1) (n + 1) x)

theorem allV_len {α β : Type} (f : α → Option β) : (p : List α) → (l : List β) → allV f p = some l → l.length = p.length ∧ ∀ (i : Nat) (a : α) (y : β), p[i]? = some a → l[i]? = some y → f a = some y
  | [], l, h => by simp [allV] at h; subst h; exact ⟨rfl, fun i a y hi => by simp at hi⟩
  | a :: p, l, h => by
    simp only [allV] at h
    obtain ⟨y, hy, h⟩ := Option.bind_eq_some_iff.1 h
    obtain ⟨r, hr, rfl⟩ := Option.map_eq_some_iff.1 h
    obtain ⟨h1, h2⟩ := allV_len f p r hr
    refine ⟨by simp [h1], fun i a' y' hi hj => ?_⟩
    cases i with
    | zero =>
      simp at hi hj
      subst hi hj
      exact hy
    | succ i => exact h2 i a' y' (by simpa using hi) (by simpa using hj)
theorem allV_none {α β : Type} (f : α → Option β) : (p : List α) → (i : Nat) → (a : α) → p[i]? = some a → f a = none → allV f p = none
  | [], i, a, h, _ => by simp at h
  | b :: p, 0, a, h, k => by
    simp at h
    subst h
    simp [allV, k]
  | b :: p, i + 1, a, h, k => by
    simp only [allV]
    rw [allV_none f p i a (by simpa using h) k]
    simp
theorem allV_some {α β : Type} (f : α → Option β) (g : α → β) : (p : List α) → (∀ a ∈ p, f a = some (g a)) → allV f p = some (p.map g)
  | [], _ => rfl
  | a :: p, h => by simp [allV, h a (by simp), allV_some f g p fun x hx => h x (List.mem_cons_of_mem _ hx)]

theorem flat_le {α β γ : Type} (f : α → List γ) (g : β → List γ) (K : Nat) : (p : List α) → (l : List β) → l.length = p.length → (∀ (i : Nat) (a : α) (y : β), p[i]? = some a → l[i]? = some y → (g y).length ≤ K * (f a).length) → (l.flatMap g).length ≤ K * (p.flatMap f).length
  | [], [], _, _ => by simp
  | [], _ :: _, h, _ => by simp at h
  | _ :: _, [], h, _ => by simp at h
  | a :: p, y :: l, h, k => by
    have h1 := k 0 a y rfl rfl
    have h2 := flat_le f g K p l (by simpa using h) fun i a y hi hj => k (i + 1) a y (by simpa using hi) (by simpa using hj)
    simp only [List.flatMap_cons, List.length_append]
    rw [Nat.mul_add]
    omega

theorem lift_nlen : (N n : Nat) → n ≤ N → (x : Tm n) → (nodes N (lift N n x)).length ≤ (nodes n x).length
  | 0, 0, _, _ => Nat.le_refl _
  | _ + 1, 0, _, _ => by simp [lift, nodes]
  | 0, n + 1, h, _ => by omega
  | N + 1, n + 1, h, x => by
    have := flat_le (fun y => nodes n y) (fun y => nodes N y) 1 x.2.2 (x.2.2.map fun y => lift N n y) (by simp) fun i a y hi hj => by
      simp [hi] at hj
      subst hj
      rw [Nat.one_mul]
      exact lift_nlen N n (by omega) a
    simp only [nodes, lift, List.length_cons]
    omega

theorem le_mul_one {a K : Nat} (h : 1 ≤ K) : a ≤ K * a := Nat.le_mul_of_pos_left a h
theorem mem_flat_le {α γ : Type} (f : α → List γ) (p : List α) (a : α) (h : a ∈ p) : (f a).length ≤ (p.flatMap f).length := by
  induction p with
  | nil => cases h
  | cons b p ih =>
    simp only [List.flatMap_cons, List.length_append]
    rcases List.mem_cons.1 h with rfl | h
    · omega
    · have := ih h; omega

theorem vl_nodes (m : Nat) (b : List (Tm m)) (self : Int) (K : Nat) (hK : 1 ≤ K) (hb : ∀ y ∈ b, (nodes m y).length ≤ K) : (n : Nat) → (x : Tm n) → (z : Tm (m + n)) → vl m b self n x = some z → (nodes (m + n) z).length ≤ K * (nodes n x).length
  | 0, _, _, h => by simp [vl] at h
  | n + 1, x, z, h => by
    have one : ∀ k u, (nodes (m + n + 1) (leafV k u (m + n))).length ≤ K * (nodes (n + 1) x).length := fun k u => by
      have : 1 * 1 ≤ K * (nodes (n + 1) x).length := Nat.mul_le_mul hK (by simp [nodes])
      simpa [nodes, leafV] using this
    have up : ∀ (y : Tm n), y ∈ x.2.2 → K * (nodes n y).length ≤ K * (nodes (n + 1) x).length := fun y hy => by
      have := mem_flat_le (fun y => nodes n y) x.2.2 y hy
      exact Nat.mul_le_mul_left K (by simp only [nodes, List.length_cons] at this ⊢; omega)
    simp only [vl] at h
    split at h
    · obtain ⟨y, hy, h⟩ := Option.bind_eq_some_iff.1 h
      split at h
      · cases h
      · obtain rfl := Option.some.inj h
        have h1 := lift_nlen (m + n + 1) m (by omega) y
        have h2 := hb y (List.mem_of_getElem? hy)
        have h3 : K * 1 ≤ K * (nodes (n + 1) x).length := Nat.mul_le_mul_left K (by simp [nodes])
        show (nodes (m + n + 1) _).length ≤ _
        omega
    · split at h
      · cases h
      · split at h
        · split at h
          · obtain rfl := Option.some.inj h
            exact one _ _
          · split at h
            · obtain ⟨a, ha, h⟩ := Option.bind_eq_some_iff.1 h
              obtain ⟨c, hc, h⟩ := Option.bind_eq_some_iff.1 h
              obtain ⟨a', ha', h⟩ := Option.bind_eq_some_iff.1 h
              obtain ⟨c', hc', h⟩ := Option.bind_eq_some_iff.1 h
              unfold sumV at h
              split at h
              · obtain rfl := Option.some.inj h
                exact one _ _
              · cases h
            · split at h
              · obtain ⟨a, ha, h⟩ := Option.bind_eq_some_iff.1 h
                split at h
                · obtain rfl := Option.some.inj h
                  have h1 := lift_nlen (m + n + 1) n (by omega) a
                  have h2 := up a (List.mem_of_getElem? ha)
                  have h3 := le_mul_one (a := (nodes n a).length) hK
                  show (nodes (m + n + 1) _).length ≤ _
                  omega
                · cases h
              · obtain ⟨l, hl, rfl⟩ := Option.map_eq_some_iff.1 h
                obtain ⟨h1, h2⟩ := allV_len _ _ _ hl
                have h3 := flat_le (fun y => nodes n y) (fun y => nodes (m + n) y) K x.2.2 l h1 fun i a y hi hj => vl_nodes m b self K hK hb n a y (h2 i a y hi hj)
                show (nodes (m + n + 1) (tupV (m + n) l)).length ≤ _
                simp only [nodes, tupV, List.length_cons]
                rw [Nat.mul_add]
                omega
        · obtain rfl := Option.some.inj h
          have h1 := lift_nlen (m + n + 1) (n + 1) (by omega) x
          have h3 := le_mul_one (a := (nodes (n + 1) x).length) hK
          show (nodes (m + n + 1) _).length ≤ _
          omega

theorem same_nlen : (n : Nat) → (x : Tm n) → (m : Nat) → (y : Tm m) → same n x m y = true → (nodes n x).length = (nodes m y).length
  | 0, _, _, _, h => by simp [same] at h
  | _ + 1, _, 0, _, h => by simp [same] at h
  | n + 1, x, m + 1, y, h => by
    obtain ⟨h1, h2⟩ := same_parts h
    have key : ∀ (p : List (Tm n)) (q : List (Tm m)), sameL (fun a b => same n a m b) p q = true → (p.flatMap fun y => nodes n y).length = (q.flatMap fun y => nodes m y).length := by
      intro p
      induction p with
      | nil => intro q hq; cases q with
        | nil => rfl
        | cons _ _ => simp [sameL] at hq
      | cons a p ih => intro q hq; cases q with
        | nil => simp [sameL] at hq
        | cons c q =>
          simp only [sameL, Bool.and_eq_true] at hq
          simp only [List.flatMap_cons, List.length_append]
          rw [same_nlen n a m c hq.1, ih q hq.2]
    simp only [nodes, List.length_cons]
    rw [key _ _ h2]

theorem chk_iff {n : Nat} {x : Tm n} : chk n x = 0 ↔ formedB n x = true ∧ dep n x ≤ 12 ∧ sz n x ≤ 200 := by
  rw [← tchk_chk]
  unfold tchk
  constructor
  · intro h
    split at h
    · rename_i hf
      split at h
      · cases h
      · rename_i hd
        exact ⟨hf, by omega, by omega⟩
    · cases h
  · rintro ⟨h1, h2, h3⟩
    rw [if_pos h1, if_neg (by omega)]

theorem nlen_sz : (n : Nat) → (x : Tm n) → RightA ⟨n, x⟩ → ((nodes n x).length : Int) ≤ sz n x + 1
  | 0, _, h => (zero_bad h).elim
  | n + 1, x, h => by
    have gx := good_parts (hdOf n x) (h (hdOf n x) (by simp [nodes, hdOf]))
    by_cases h4 : x.1.1 = 4
    · have key : ∀ l : List (Tm n), (∀ y ∈ l, RightA ⟨n, y⟩) → ((l.flatMap fun y => nodes n y).length : Int) ≤ (l.map fun y => 1 + sz n y).sum := by
        intro l
        induction l with
        | nil => intro _; simp
        | cons y l ih =>
          intro hl
          have h1 := nlen_sz n y (hl y (by simp))
          have h2 := ih fun z hz => hl z (List.mem_cons_of_mem _ hz)
          simp only [List.flatMap_cons, List.length_append, List.map_cons, List.sum_cons]
          omega
      have := key x.2.2 fun y hy => parts_right n x y h hy
      simp only [nodes, List.length_cons, sz, if_pos h4]
      omega
    · have : x.2.2 = [] := List.eq_nil_of_length_eq_zero (gx.2.2.2.2 h4)
      simp [nodes, this, sz, h4]

theorem chk_nlen {n : Nat} {x : Tm n} (h : chk n x = 0) : (nodes n x).length ≤ 201 := by
  obtain ⟨h1, _, h3⟩ := chk_iff.1 h
  have := nlen_sz n x (right_formed.2 h1)
  omega
theorem bnd_ok {m : Nat} {b : List (Tm m)} (h : bndB m b = true) : b.length = 4 ∧ ∀ y ∈ b, chk m y = 0 ∧ RightA ⟨m, y⟩ ∧ (kindA ⟨m, y⟩ = 6 ∨ closedT m y = true) := by
  unfold bndB at h
  simp only [Bool.and_eq_true, decide_eq_true_eq, List.all_eq_true] at h
  refine ⟨h.1, fun y hy => ?_⟩
  have := h.2 y hy
  unfold okB at this
  simp only [Bool.and_eq_true, Bool.or_eq_true, beq_iff_eq] at this
  refine ⟨this.1, right_formed.2 (chk_iff.1 this.1).1, ?_⟩
  rw [closed_eq]
  exact this.2
theorem lift_right {N n : Nat} (h : n ≤ N) (x : Tm n) (hr : RightA ⟨n, x⟩) : RightA ⟨N, lift N n x⟩ := by
  cases n with
  | zero => exact (zero_bad hr).elim
  | succ n =>
    obtain ⟨M, rfl⟩ : ∃ M, N = M + 1 := ⟨N - 1, by omega⟩
    intro a ha
    simp only at ha
    rw [lift_nodes M n (by omega) x] at ha
    exact hr a ha
theorem right_mk {N : Nat} {x : Tm (N + 1)} (h : good (hdOf N x) = true) (k : ∀ y ∈ x.2.2, RightA ⟨N, y⟩) : RightA ⟨N + 1, x⟩ := by
  intro a ha
  simp only [nodes, List.mem_cons, List.mem_flatMap] at ha
  rcases ha with rfl | ⟨y, hy, ha⟩
  · exact h
  · exact k y hy a ha

/-- The value of a right term is right. -/
theorem vl_right (m : Nat) (b : List (Tm m)) (self : Int) (hs : 1 ≤ self ∧ self ≤ 99) (hb : ∀ y ∈ b, RightA ⟨m, y⟩) : (n : Nat) → (x : Tm n) → RightA ⟨n, x⟩ → (z : Tm (m + n)) → vl m b self n x = some z → RightA ⟨m + n, z⟩
  | 0, _, _, _, h => by simp [vl] at h
  | n + 1, x, hr, z, h => by
    have hg := hr (hdOf n x) (by simp [nodes, hdOf])
    have hl : x.2.2.length ≤ 8 := good_len (hdOf n x) hg
    simp only [vl] at h
    split at h
    · obtain ⟨y, hy, h⟩ := Option.bind_eq_some_iff.1 h
      split at h
      · cases h
      · obtain rfl := Option.some.inj h
        exact lift_right (N := m + n + 1) (by omega) y (hb y (List.mem_of_getElem? hy))
    · split at h
      · cases h
      · split at h
        · split at h
          · obtain rfl := Option.some.inj h
            exact right_mk (N := m + n) (by simp [good, leafV, hdOf, inB, hs]) (by intro y hy; cases hy)
          · split at h
            · obtain ⟨a, ha, h⟩ := Option.bind_eq_some_iff.1 h
              obtain ⟨c, hc, h⟩ := Option.bind_eq_some_iff.1 h
              obtain ⟨a', ha', h⟩ := Option.bind_eq_some_iff.1 h
              obtain ⟨c', hc', h⟩ := Option.bind_eq_some_iff.1 h
              unfold sumV at h
              split at h
              · rename_i hsum
                obtain rfl := Option.some.inj h
                simp only [sumB, Bool.and_eq_true] at hsum
                exact right_mk (N := m + n) (by simp [good, leafV, hdOf, hsum.2]) (by intro y hy; cases hy)
              · cases h
            · split at h
              · obtain ⟨a, ha, h⟩ := Option.bind_eq_some_iff.1 h
                split at h
                · obtain rfl := Option.some.inj h
                  exact lift_right (N := m + n + 1) (by omega) a (parts_right n x a hr (List.mem_of_getElem? ha))
                · cases h
              · obtain ⟨l, hl2, rfl⟩ := Option.map_eq_some_iff.1 h
                obtain ⟨h1, h2⟩ := allV_len _ _ _ hl2
                refine right_mk (N := m + n) ?_ fun y hy => ?_
                · have : (l.length : Int) ≤ 8 := by omega
                  simp [good, tupV, hdOf, this]
                · obtain ⟨i, hi⟩ := List.getElem?_of_mem hy
                  have hi2 : i < x.2.2.length := by rw [← h1]; exact (List.getElem?_eq_some_iff.1 hi).1
                  exact vl_right m b self hs hb n x.2.2[i] (parts_right n x _ hr (List.getElem_mem _)) y (h2 i _ y (List.getElem?_eq_getElem hi2) hi)
        · obtain rfl := Option.some.inj h
          exact lift_right (N := m + n + 1) (by omega) x hr

/-- What can go wrong ahead of it; what is answered. -/
def rvE (ck : Int) (bd : Bool) (self : Int) : Int := if ck = 0 then if bd then if 1 ≤ self ∧ self ≤ 99 then 0 else 1 else 5 else ck
def rvO {N : Nat} (E : Int) (o : Option (Tm N)) : Option (Tm N) := if E = 0 then o.bind fun z => if chk N z = 0 then some z else none else none
def rvC {N : Nat} (E : Int) (o : Option (Tm N)) : Int := if E = 0 then if o.isSome then 0 else 7 else E
end Go.Proofs.Ytpehdgbdinjbaab
namespace Go.Proofs.Ytpehdgbdinjbaab
open Go.RowKit Go.Maps

def putC (n : Nat) (x : Tm n) : Int := if chk n x ≠ 0 then chk n x else if closedT n x = false then 5 else 0
set_option maxRecDepth 100000 in
theorem rputable_walk (x0 x1 : Int) (x2 : ByteArray) (xa : Option Addr) (xl xc : Nat) (ck : Int) (cl : Bool) (w : World)
    (HK : Hid (∀ w1, Below w.heap.size w w1 → Calls Try.prog 12 #[.agg #[.int .i64 x0, .int .i64 x1, .string x2, .slice xa xl xc]] w1 fun e w' => e = .returned (.int .i64 ck) ∧ Below w1.heap.size w1 w'))
    (HL : Hid (∀ w1, Below w.heap.size w w1 → Calls Try.prog 31 #[.agg #[.int .i64 x0, .int .i64 x1, .string x2, .slice xa xl xc]] w1 fun e w' => e = .returned (.bool cl) ∧ Below w1.heap.size w1 w')) :
    Calls Try.prog 17 #[.agg #[.int .i64 x0, .int .i64 x1, .string x2, .slice xa xl xc]] w fun e w' => e = .returned (.int .i64 (if ck ≠ 0 then ck else if cl = false then 5 else 0)) ∧ Below w.heap.size w w' := by
  obtain ⟨r, hr⟩ : ∃ r, r = (if ck ≠ 0 then ck else if cl = false then 5 else 0) := ⟨_, rfl⟩
  rw [← hr]
  have HR := hide hr
  clear hr
  go_enter Try.func17, Try.ntmps17
  go_wp2_with fail
  refine (HK.out _ ((Below.refl _ _).alloc (Nat.le_refl _) _)).mono ?_
  rintro e w1 ⟨rfl, hb1⟩
  obtain ⟨⟨t0, t1, t2, t3⟩, _⟩ := boxed hb1
  have HB1 : Hid (Below w.heap.size w w1) := ((Below.refl _ _).alloc (Nat.le_refl _) _).trans (hb1.mono (by simp))
  have hw1 : w.heap.size < w1.heap.size := by have := hb1.size; simp at this; omega
  clear hb1
  by_cases hck : ck = 0
  · have b1 : (ck != 0) = false := by simp [hck]
    have HC := hide hck
    clear hck
    go_wp2_with fail
    refine (HL.out _ HB1.out).mono ?_
    rintro e w2 ⟨rfl, hb2⟩
    have HB2 : Hid (Below w.heap.size w w2) := HB1.out.trans (hb2.mono HB1.out.size)
    clear hb2
    cases cl
    · go_wp2_with fail
      go_ret
      exact ⟨ret_int (by rw [HR.out]; simp [HC.out]), HB2.out⟩
    · go_wp2_with fail
      go_ret
      exact ⟨ret_int (by rw [HR.out]; simp [HC.out]), HB2.out⟩
  · have b1 : (ck != 0) = true := by simpa using hck
    have HC := hide hck
    clear hck
    go_wp2_with fail
    go_ret
    exact ⟨ret_int (by rw [HR.out]; simp [HC.out]), HB1.out⟩
theorem rputable_any (n : Nat) (x : Tm (n + 1)) (B : Nat) (w : World) (hx : In B w (n + 1) x) (hB : B ≤ w.heap.size) (hN : (nodes (n + 1) x).length ≤ 2097152) :
    Calls Try.prog 17 #[val (n + 1) x] w fun e w' => e = .returned (.int .i64 (putC (n + 1) x)) ∧ Below w.heap.size w w' := by
  refine rputable_walk x.1.1 x.1.2.1 x.1.2.2 x.2.1.1 x.2.2.length x.2.1.2 (chk (n + 1) x) (closedT (n + 1) x) w ?_ ?_
  · intro w1 h1
    exact rcheck_any (n + 1) x B w1 (hx.below (h1.mono hB)) (Nat.le_trans hB h1.size) hN
  · intro w1 h1
    rw [closed_eq]
    exact rclosed_any (n + 1) x B w1 (hx.below (h1.mono hB)) (Nat.le_trans hB h1.size) hN
theorem putE_C {n : Nat} {x : Tm n} (h : putE n x 1000 [] ≠ 0) : putE n x 1000 [] = putC n x := by
  unfold putE putC at *
  by_cases h1 : chk n x = 0
  · by_cases h2 : closedT n x = false
    · simp [h1, h2]
    · exfalso
      have h3 := (chk_iff.1 h1).2.2
      apply h
      have : decide (sz n x ≤ 1000 - (([] : List Wd).length : Int)) = true := by simp; omega
      simp only [h1, h2, this]
      simp
  · simp [h1]
set_option maxHeartbeats 1000000 in
theorem rest_m (n m : Int) (hm : 0 < m) (hm2 : m ≤ 1000000) (w : World) : Calls Try.prog 18 #[.int .i64 n, .int .i64 m] w fun e w' => ∃ r, e = .returned (.int .i64 r) ∧ 0 ≤ r ∧ r < m ∧ w' = w := by
  have hne : ¬ m = 0 := by omega
  have h1 : n.tmod m < m := Int.tmod_lt_of_pos n hm
  have h2 : -m < n.tmod m := by
    have := Int.lt_tmod_of_pos n hm
    omega
  go_enter Try.func18, Try.ntmps18
  by_cases h3 : n.tmod m < 0
  · have b3 : decide (n.tmod m < 0) = true := by simpa using h3
    have e : wrap64 (n.tmod m + m) = n.tmod m + m := by unfold wrap64; omega
    go_wp2_with fail
    go_ret
    exact ⟨_, rfl, by omega, by omega, rfl⟩
  · have b3 : decide (n.tmod m < 0) = false := by simpa using h3
    go_wp2_with fail
    go_ret
    exact ⟨_, rfl, by omega, by omega, rfl⟩

theorem two_words (w : World) (a b : Wd) (t : TypeId) : WordsIn (w.alloc (.cells #[.int .i64 a.1, .int .i64 a.2, .int .i64 b.1, .int .i64 b.2] t)) [a, b] (some ⟨w.heap.size, 0, none⟩) := by
  refine Or.inr ⟨w.heap.size, 0, rfl, by simp, fun i v hv => ?_⟩
  match i, hv with
  | 0, hv =>
    have : a = v := by simpa using hv
    subst this
    exact ⟨by simp [go_sem], by simp [go_sem]⟩
  | 1, hv =>
    have : b = v := by simpa using hv
    subst this
    exact ⟨by simp [go_sem], by simp [go_sem]⟩
  | _ + 2, hv => simp at hv
theorem three_words (w : World) (a b c : Wd) (t : TypeId) : WordsIn (w.alloc (.cells #[.int .i64 a.1, .int .i64 a.2, .int .i64 b.1, .int .i64 b.2, .int .i64 c.1, .int .i64 c.2] t)) [a, b, c] (some ⟨w.heap.size, 0, none⟩) := by
  refine Or.inr ⟨w.heap.size, 0, rfl, by simp, fun i v hv => ?_⟩
  match i, hv with
  | 0, hv =>
    have : a = v := by simpa using hv
    subst this
    exact ⟨by simp [go_sem], by simp [go_sem]⟩
  | 1, hv =>
    have : b = v := by simpa using hv
    subst this
    exact ⟨by simp [go_sem], by simp [go_sem]⟩
  | 2, hv =>
    have : c = v := by simpa using hv
    subst this
    exact ⟨by simp [go_sem], by simp [go_sem]⟩
  | _ + 3, hv => simp at hv

theorem cpL_still {f : Wd → List Wd × Went → Wd × List Wd × Went} {S : List Wd × Went} : (l : List Wd) → (∀ v ∈ l, (f v S).2 = S) → (cpL f l S).2 = S
  | [], _ => rfl
  | v :: l, h => by
    simp only [cpL]
    rw [h v (by simp)]
    exact cpL_still l fun u hu => h u (List.mem_cons_of_mem _ hu)
/-- A term laid, then joined k times: copied from the tuple, the term, the tuple again. -/
theorem shares_len (n : Nat) (x : Tm n) (hr : RightA ⟨n, x⟩) (k : Nat) (hk : 0 < k) (us : List Wd) (hus : us = (layF n x [] []).2.1 ++ (0, (k : Int)) :: List.replicate k (layF n x [] []).1) (r : List Wd) (hrl : ∀ v ∈ r, v = (layF n x [] []).1 ∨ v = (4, ((layF n x [] []).2.1.length : Int))) :
    ((rootsR us (n + 1) ((4, ((layF n x [] []).2.1.length : Int)) :: r)).2.1.length : Int) = sz n x + 1 + k := by
  have hp : (layF n x [] []).2.1 <+: us := by rw [hus]; exact List.prefix_append _ _
  have hst : Stands us (layF n x [] []).2.2 n x (layF n x [] []).1 := (layF_stands n x [] [] hr).mono hp (List.prefix_refl _)
  obtain ⟨h1, hno⟩ := lay_cp us n x [] [] ([], []) hp (fun p _ _ => by simp [look])
  have hno2 : look (cpF us n (layF n x [] []).1 ([], [])).2.2 (layF n x [] []).2.1.length = none := by rw [hno _ (Or.inr (Nat.le_refl _))]; simp [look]
  clear hno
  generalize (layF n x [] []).2.2 = nm at *
  generalize (layF n x [] []).1 = v at *
  generalize (layF n x [] []).2.1 = ws at *
  have hat : us[ws.length]? = some (0, (k : Int)) := by rw [hus, List.getElem?_append_right (Nat.le_refl _), Nat.sub_self]; rfl
  have hpp : partsOf us ws.length k = List.replicate k v := by
    have := parts_pre (us := us) (A := ws) (C := List.replicate k v) (h := (0, (k : Int))) (by rw [hus]; exact List.prefix_refl _)
    simpa using this
  obtain ⟨S1, hS1⟩ : ∃ S1, (cpF us n v ([], [])).2 = S1 := ⟨_, rfl⟩
  have hid : (cpF us n v S1).2 = S1 := cpF_idem hst ([], []) S1 (fun p q h => by rw [hS1] at h; exact h)
  have hrep : (cpL (cpF us n) (List.replicate k v) ([], [])).2 = S1 := by
    obtain ⟨j, rfl⟩ : ∃ j, k = j + 1 := ⟨k - 1, by omega⟩
    rw [List.replicate_succ]
    simp only [cpL]
    rw [hS1]
    exact cpL_same hid j
  have hlen : (cpL (cpF us n) (List.replicate k v) ([], [])).1.length = k := by rw [cpL_length]; simp
  have hx := cpF_new (ws := us) (n := n) (p := ws.length) (m := k) (S := ([], [])) (by simp [look]) hat
  rw [hpp, hrep] at hx
  obtain ⟨cs, hcs⟩ : ∃ cs, (cpL (cpF us n) (List.replicate k v) ([], [])).1 = cs := ⟨_, rfl⟩
  rw [hcs] at hx hlen
  have h2 : (cpF us (n + 1) (4, (ws.length : Int)) ([], [])).2 = (S1.1 ++ (0, (k : Int)) :: cs, (ws.length, S1.1.length) :: S1.2) := by rw [hx]
  have hkeep : ∀ p q, look S1.2 p = some q → look ((ws.length, S1.1.length) :: S1.2) p = some q := by
    intro p q h
    by_cases e : p = ws.length
    · exfalso
      have hf : look S1.2 ws.length = none := by rw [← hS1]; exact hno2
      rw [e, hf] at h
      cases h
    · rw [look_other _ _ e]; exact h
  have hr2 : (cpL (cpF us (n + 1)) r (S1.1 ++ (0, (k : Int)) :: cs, (ws.length, S1.1.length) :: S1.2)).2 = (S1.1 ++ (0, (k : Int)) :: cs, (ws.length, S1.1.length) :: S1.2) := by
    refine cpL_still r ?_
    intro v' hv'
    rcases hrl v' hv' with rfl | rfl
    · rw [cpF_deep n (n + 1) (by omega) x v' _ hst]
      exact cpF_idem hst ([], []) _ (fun p q h => hkeep p q (by rw [hS1] at h; exact h))
    · rw [cpF_old (q := S1.1.length) (look_same _ _ _)]
  have hfin : (rootsR us (n + 1) ((4, (ws.length : Int)) :: r)).2.1 = S1.1 ++ (0, (k : Int)) :: cs := by
    unfold rootsR
    simp only [cpL]
    rw [h2, hr2]
  rw [hfin]
  rw [hS1] at h1
  simp only [List.length_append, List.length_cons, hlen]
  simp at h1
  omega
end Go.Proofs.Ytpehdgbdinjbaab
namespace Go.Proofs.Ytpehdgbdinjbaab
open Go.RowKit

set_option maxRecDepth 100000 in
theorem mul_14 (w : World) : Calls Try.prog 59 #[.int .u64 1, .int .u64 4] w fun e w' => e = .returned (.tuple #[.int .u64 0, .int .u64 4]) ∧ w' = w := by
  go_enter Try.func59, Try.ntmps59
  go_wp2
  go_ret2
  exact ⟨rfl, rfl⟩

theorem rep_start (k : Nat) {w w1 : World} (h : w1.ownsRow w.heap.size 24 4 (.slice (some ⟨w.heap.size, 0, none⟩) k k) k (madeCells (Value.agg #[.int .i64 0, .int .i64 0, .string .empty, .slice none 0 0]).cells (k * 4)).toList) : Has w.heap.size w.heap.size k (List.replicate k zA) w1 := by
  have e : (madeCells (Value.agg #[.int .i64 0, .int .i64 0, .string .empty, .slice none 0 0]).cells (k * 4)).toList = anCells (List.replicate k zA) := made_zero k
  rw [e] at h
  unfold Has
  simpa using h
theorem rep_src {base g k : Nat} {l : List An} {w : World} (h : Has base g k l w) (n : Nat) : ∀ j v, (anCells (l.take n))[j]? = some v → w.cell? ((⟨g, 0, none⟩ : Addr).add j) = some v := by
  intro j v hj
  refine World.ownsRow.cells h rfl j v ?_
  have e : anCells (l.take n) = (anCells l).take (n * 4) := by unfold anCells; rw [ndCells_take, List.map_take]
  rw [e] at hj
  rw [List.getElem?_take] at hj
  split at hj
  · exact hj
  · cases hj

theorem rep_below {w w0 : World} (h : w.grownBy w0 none) : Below w.heap.size w w0 := ⟨h.os, h.tape, h.output, h.size, fun k hk => h.block k hk (by simp)⟩
theorem rep_kept {w w0 : World} {pb po : Nat} {x : An} (h : Below w.heap.size w w0) (hpb : pb < w.heap.size) (hx : ∀ j v, (anCells [x])[j]? = some v → w.cell? ((⟨pb, po, none⟩ : Addr).add j) = some v) : ∀ j v, (anCells [x])[j]? = some v → w0.cell? ((⟨pb, po, none⟩ : Addr).add j) = some v := fun j v hj => by
  have := hx j v hj
  rw [Addr.add_lit] at this ⊢
  exact (below_cells h pb _ hpb).trans this

theorem rep_take (n m k : Nat) (x : An) (h : m ≤ n) : (List.replicate n x ++ List.replicate k zA).take m = List.replicate m x := by
  rw [List.take_append]
  simp [List.take_replicate, Nat.min_eq_left h]
  omega

set_option maxHeartbeats 1000000 in
set_option maxRecDepth 100000 in
theorem repeat_any (x : An) (k : Nat) (h0 : 0 < k) (h8 : k ≤ 8) (pb : Nat) (po pc : Nat) (w : World) (hpb : pb < w.heap.size)
    (HX : Hid (∀ j v, (anCells [x])[j]? = some v → w.cell? ((⟨pb, po, none⟩ : Addr).add j) = some v))
    (HM : Hid (∀ w1, Calls Try.prog 59 #[.int .u64 1, .int .u64 k] w1 fun e w' => e = .returned (.tuple #[.int .u64 0, .int .u64 k]) ∧ w' = w1)) :
    Calls Try.prog 26 #[.slice (some ⟨pb, po, none⟩) 1 pc, .int .i64 k] w fun e w' => e = .returned (.slice (some ⟨w.heap.size, 0, none⟩) k k) ∧ Hid (Below w.heap.size w w' ∧ Has w.heap.size w.heap.size k (List.replicate k x) w') := by
  obtain ⟨it, hit, htz0, htz1, htz2⟩ := info_parts infoTerm
  have e1 : IntKind.u64.wrap (k : Int) = (k : Int) := by rw [IntKind.wrap]; simp [IntKind.bits, IntKind.signed]; omega
  have e2 : IntKind.i64.wrap (k : Int) = (k : Int) := by rw [IntKind.wrap]; simp [IntKind.bits, IntKind.signed]; omega
  have hk1 : ¬ ((k : Int) < 0) := by omega
  have hk2 : ¬ (9223372036854775807 < (k : Int)) := by omega
  go_enter Try.func26, Try.ntmps26
  go_wp2_with fail
  refine (HM.out w).mono ?_
  rintro e w' ⟨rfl, rfl⟩
  clear HM
  go_wp2_with (at_make; refine wpList_make_full _ rfl _ _ 22 rfl w'.heap.size 24 it _ 4 Try.underlying22 hit htz0 htz1 _ _ _ _ k rfl rfl (by first | rfl | simp [e2]) (by first | rfl | simp [e2]) (by rw [htz2]; omega) (by unfold maxLen; omega) (Nat.le_refl _) ?_; intro w0 hown0 hgrow0; have HS0 := hide (rep_start k hown0); have HB0 := hide (rep_below hgrow0); have HX0 := hide (rep_kept HB0.out hpb HX.out); clear hown0 hgrow0)
  obtain ⟨w1, hrun, hh1, hg1⟩ := run_copy_has HS0.out (by simp) (by unfold maxLen; omega) 3 0 1 [x] ⟨pb, po, none⟩ k k 1 pc (Nat.min_eq_left h0) rfl (by omega) HX0.out
  rw [Nat.zero_mul] at hrun
  rw [hrun]
  have HH1 : Hid (Has w'.heap.size w'.heap.size k (List.replicate 1 x ++ List.replicate (k - 1) zA) w1) := by rw [rep_first] at hh1; exact hh1
  have HB1 : Hid (Below w'.heap.size w' w1) := HB0.out.trans (grown_below hg1 (Nat.le_refl _) HS0.out.lt.2)
  clear hh1 hg1 HS0 HB0 HX0 hit htz0 htz1 htz2 HX
  go_wp2_with fail
  go_loopw [8] (fun i wr => ∃ n : Nat, 1 ≤ n ∧ n ≤ k ∧ i = .int .i64 n ∧ Hid (Below w'.heap.size w' wr ∧ Has w'.heap.size w'.heap.size k (List.replicate n x ++ List.replicate (k - n) zA) wr)) (fun i _ => k - (intOf i).toNat)
  case atStart => exact ⟨1, by omega, by omega, rfl, HB1.out, HH1.out⟩
  case round =>
    obtain ⟨n, hn1, hnk, rfl, HR⟩ := hrel
    clear HB1 HH1
    by_cases hlt : n < k
    · have hn2 : (0 : Int) ≤ (n : Int) := by omega
      have hn3 : (n : Int) < (k : Int) := by omega
      have hne : ¬ k = n := by omega
      have hle : (n : Int) ≤ (k : Int) := by omega
      obtain ⟨m, hm⟩ : ∃ m, Nat.min n (k - n) = m := ⟨_, rfl⟩
      have hm1 : 1 ≤ m ∧ m ≤ n ∧ n + m ≤ k := by have : m = min n (k - n) := hm.symm; omega
      have HMN := hide hm
      have HSR : Hid (∀ j v, (anCells (List.replicate m x))[j]? = some v → wr.drew.cell? ((⟨w'.heap.size, 0, none⟩ : Addr).add j) = some v) := by
        have := rep_src HR.out.2 m
        rw [rep_take n m _ x hm1.2.1] at this
        exact this
      have HHD : Hid (Has w'.heap.size w'.heap.size k (List.replicate n x ++ List.replicate (k - n) zA) wr.drew) := HR.out.2
      have HLN : Hid ((List.replicate n x ++ List.replicate (k - n) zA).length = k) := by simp [Hid]; omega
      clear hm
      go_wp2_with fail
      go_region_held3 (fun _ => True) (trivial) ((refine step_copy_has rfl _ _ rfl HHD.out HLN.out (by unfold maxLen; omega) n m (List.replicate m x) ⟨w'.heap.size, 0, none⟩ (k - n) (k - n) n k (by simp [Act.eval]) (by simp [Act.eval]) HMN.out (by simp) (by omega) HSR.out ?_; intro w2 hh2 hg2))
      have HH2 : Hid (Has w'.heap.size w'.heap.size k (List.replicate (n + m) x ++ List.replicate (k - (n + m)) zA) w2) := by rw [rep_more] at hh2; exact hh2
      have HB2 : Hid (Below w'.heap.size w' w2) := HR.out.1.trans (grown_below (grown_undrew hg2) (Nat.le_refl _) HR.out.2.lt.2)
      clear hh2 hg2 HSR HHD HLN HR
      have e3 : IntKind.i64.wrap ((n : Int) + (m : Int)) = ((n + m : Nat) : Int) := by rw [IntKind.wrap]; simp [IntKind.bits, IntKind.signed]; omega
      go_wp2_with fail
      go_roundw
      case rel => exact ⟨n + m, by omega, by omega, by first | rfl | rw [e3] | (simp; omega), HB2.out, HH2.out⟩
      case measure => simp [intOf]; omega
    · obtain rfl : n = k := by omega
      go_wp2_with fail
      go_ret
      have h2 := HR.out.2
      simp at h2
      exact ⟨rfl, HR.out.1, h2⟩

def anyA : An := ⟨1, ((6, 0, .empty), (none, 0), [])⟩
set_option maxRecDepth 100000 in
theorem free_any (w : World) : Calls Try.prog 29 #[] w fun e w' => ∃ g, e = .returned (.slice (some ⟨g, 0, none⟩) 4 4) ∧ Hid (Below w.heap.size w w' ∧ Has g g 4 (List.replicate 4 anyA) w' ∧ w.heap.size < g) := by
  have HR : Hid (Calls Try.prog 26 #[.slice (some ⟨w.heap.size, 0, none⟩) 1 1, .int .i64 4] (w.alloc (.cells #[.int .i64 6, .int .i64 0, .string ⟨#[]⟩, .slice none 0 0] 24)) fun e w' => e = .returned (.slice (some ⟨w.heap.size + 1, 0, none⟩) 4 4) ∧ Hid (Below (w.heap.size + 1) (w.alloc (.cells #[.int .i64 6, .int .i64 0, .string ⟨#[]⟩, .slice none 0 0] 24)) w' ∧ Has (w.heap.size + 1) (w.heap.size + 1) 4 (List.replicate 4 anyA) w')) := by
    have hs : (w.alloc (.cells #[.int .i64 6, .int .i64 0, .string ⟨#[]⟩, .slice none 0 0] 24)).heap.size = w.heap.size + 1 := by simp
    have h := repeat_any anyA 4 (by decide) (by decide) w.heap.size 0 1 (w.alloc (.cells #[.int .i64 6, .int .i64 0, .string ⟨#[]⟩, .slice none 0 0] 24)) (by simp) (fun j v hj => by
      rw [add_none]
      have : j < 4 := (List.getElem?_eq_some_iff.1 hj).1
      have h4 : j = 0 ∨ j = 1 ∨ j = 2 ∨ j = 3 := by omega
      rcases h4 with rfl | rfl | rfl | rfl <;> simp [anCells, ndCells, nd4, ndA, hdT, hdOf, anyA] at hj <;> subst hj <;> simp [go_sem] <;> rfl) (fun w1 => mul_14 w1)
    rw [hs] at h
    exact h
  go_enter Try.func29, Try.ntmps29
  go_wp2_with fail
  refine HR.out.mono ?_
  rintro e w' ⟨rfl, H⟩
  go_wp2_with fail
  go_ret
  exact ⟨_, rfl, ((Below.refl _ _).alloc (Nat.le_refl _) _).trans (H.out.1.mono (by omega)), H.out.2, by omega⟩
end Go.Proofs.Ytpehdgbdinjbaab
namespace Go.Proofs.Ytpehdgbdinjbaab
open Go.RowKit Go.Maps

/-- Two rows that were appended to since wr; nothing else of wr is turned. -/
def App2 (base n : Nat) (wv0 tv0 : Value) (wr : World) (wv : Value) (vs : List Wd) (tv : Value) (ts : List (Tm n)) (w' : World) : Prop :=
  Keep (fun b => wv0.ownBlock = some b ∨ tv0.ownBlock = some b) wr w' ∧ w'.ownsRow base 37 2 wv vs.length (wCells vs) ∧ w'.ownsRow base 24 4 tv ts.length (ndCells (ts.map (hdT n))) ∧
  (∀ b, wv.ownBlock = some b → wv0.ownBlock = some b ∨ wr.heap.size ≤ b) ∧ (∀ b, tv.ownBlock = some b → tv0.ownBlock = some b ∨ wr.heap.size ≤ b)

theorem own_block {w : World} {base : Nat} {e : TypeId} {sz : Nat} {v : Value} {n : Nat} {xs : List Value} (h : w.ownsRow base e sz v n xs) (b : Nat) (hb : v.ownBlock = some b) : ∃ cur, w.heap[b]? = some (.cells cur e (0, 0)) := by
  rcases h.2 with ⟨rfl, _⟩ | ⟨g, cap, cur, rfl, _, hh, _⟩
  · simp [Value.ownBlock] at hb
  · simp [Value.ownBlock] at hb
    subst hb
    exact ⟨cur, hh⟩
theorem own_apart {w : World} {base base' : Nat} {sz sz' : Nat} {v v' : Value} {n n' : Nat} {xs xs' : List Value} (h : w.ownsRow base 37 sz v n xs) (h' : w.ownsRow base' 24 sz' v' n' xs') (b : Nat) (hb : v.ownBlock = some b) : ¬ v'.ownBlock = some b := by
  intro hb'
  obtain ⟨c1, e1⟩ := own_block h b hb
  obtain ⟨c2, e2⟩ := own_block h' b hb'
  rw [e1] at e2
  injection e2 with e2
  injection e2 with _ e3 _
  exact absurd e3 (by decide)

theorem App2.start {base n : Nat} {wr : World} {wv : Value} {vs : List Wd} {tv : Value} {ts : List (Tm n)} (h1 : wr.ownsRow base 37 2 wv vs.length (wCells vs)) (h2 : wr.ownsRow base 24 4 tv ts.length (ndCells (ts.map (hdT n)))) : App2 base n wv tv wr wv vs tv ts wr :=
  ⟨Keep.refl _ _, h1, h2, fun _ h => Or.inl h, fun _ h => Or.inl h⟩
theorem App2.later {base n : Nat} {wv0 tv0 : Value} {wr w' w2 : World} {wv : Value} {vs : List Wd} {tv : Value} {ts : List (Tm n)} (h : App2 base n wv0 tv0 wr wv vs tv ts w') (hb : Below w'.heap.size w' w2) : App2 base n wv0 tv0 wr wv vs tv ts w2 :=
  ⟨h.1.trans (keep_below hb (fun _ => False)) (fun _ _ hf => hf.elim), own_below h.2.1 hb, own_below h.2.2.1 hb, h.2.2.2.1, h.2.2.2.2⟩
theorem App2.word {base n : Nat} {wv0 tv0 : Value} {wr w' w2 : World} {wv : Value} {vs : List Wd} {tv : Value} {ts : List (Tm n)} (h : App2 base n wv0 tv0 wr wv vs tv ts w') {g c : Nat} {v : Wd}
    (ho : w2.ownsRow base 37 2 (.slice (some ⟨g, 0, none⟩) (vs.length + 1) c) (vs.length + 1) (wCells vs ++ wd2 v)) (hg : w'.grownBy w2 wv.ownBlock) (ha : wv.ownBlock = some g ∨ g = w'.heap.size) :
    App2 base n wv0 tv0 wr (.slice (some ⟨g, 0, none⟩) (vs.length + 1) c) (vs ++ [v]) tv ts w2 := by
  have hk := keep_grown hg
  refine ⟨h.1.trans hk fun b hb e => ?_, ?_, row_kept h.2.2.1 hk fun b e1 e2 => own_apart h.2.1 h.2.2.1 b e2 e1, fun b e => ?_, h.2.2.2.2⟩
  · rcases h.2.2.2.1 b e with e | e
    · exact Or.inl e
    · omega
  · have e : wCells (vs ++ [v]) = wCells vs ++ wd2 v := by simp [wCells]
    rw [e, List.length_append]
    exact ho
  · simp [Value.ownBlock] at e
    subst e
    rcases ha with e | e
    · exact h.2.2.2.1 g e
    · exact Or.inr (by rw [e]; exact h.1.size)
theorem App2.term {base n : Nat} {wv0 tv0 : Value} {wr w' w2 : World} {wv : Value} {vs : List Wd} {tv : Value} {ts : List (Tm n)} (h : App2 base n wv0 tv0 wr wv vs tv ts w') {g c : Nat} {x : Tm n}
    (ho : w2.ownsRow base 24 4 (.slice (some ⟨g, 0, none⟩) (ts.length + 1) c) (ts.length + 1) (ndCells (ts.map (hdT n)) ++ nd4 (hdT n x))) (hg : w'.grownBy w2 tv.ownBlock) (ha : tv.ownBlock = some g ∨ g = w'.heap.size) :
    App2 base n wv0 tv0 wr wv vs (.slice (some ⟨g, 0, none⟩) (ts.length + 1) c) (ts ++ [x]) w2 := by
  have hk := keep_grown hg
  refine ⟨h.1.trans hk fun b hb e => ?_, row_kept h.2.1 hk fun b e1 e2 => own_apart h.2.1 h.2.2.1 b e1 e2, ?_, h.2.2.2.1, fun b e => ?_⟩
  · rcases h.2.2.2.2 b e with e | e
    · exact Or.inr e
    · omega
  · have e : ndCells ((ts ++ [x]).map (hdT n)) = ndCells (ts.map (hdT n)) ++ nd4 (hdT n x) := by simp [ndCells]
    rw [e, List.length_append]
    exact ho
  · simp [Value.ownBlock] at e
    subst e
    rcases ha with e | e
    · exact h.2.2.2.2 g e
    · exact Or.inr (by rw [e]; exact h.1.size)
theorem grown_new {w' w2 : World} (row : Option Nat) (hg : w'.grownBy w2 row) (q : Nat) (hq : ∀ b, row = some b → b < q) : ∀ b, q ≤ b → b < w'.heap.size → w2.heap[b]? = w'.heap[b]? :=
  fun b hb hw => hg.block b hw fun e => by have := hq b e.symm; omega
/-- The heap beside the two rows. -/
theorem HpS.rows {n : Nat} {w : World} {hp : Nat} {room : Int} {ws : List Wd} {nm : List ByteArray} {M : Nat → Prop} {wv0 tv0 : Value} {wr w' : World} {wv : Value} {vs : List Wd} {tv : Value} {ts : List (Tm n)} (h : HpS w hp room ws nm M wr) (k : App2 w.heap.size n wv0 tv0 wr wv vs tv ts w')
    (h1 : ∀ b, wv0.ownBlock = some b → w.heap.size ≤ b ∧ ¬ M b) (h2 : ∀ b, tv0.ownBlock = some b → w.heap.size ≤ b ∧ ¬ M b) : HpS w hp room ws nm M w' ∧ (∀ b, wv.ownBlock = some b → w.heap.size ≤ b ∧ ¬ M b) ∧ ∀ b, tv.ownBlock = some b → w.heap.size ≤ b ∧ ¬ M b := by
  have hs := h.1.size
  refine ⟨⟨⟨k.1.os.trans h.1.os, k.1.tape.trans h.1.tape, k.1.output.trans h.1.output, Nat.le_trans hs k.1.size, fun b hb => (k.1.block b (by omega) ?_).trans (h.1.block b hb)⟩, h.2.1.kept k.1 fun b hm _ e => ?_, fun b hm => ⟨(h.2.2 b hm).1, Nat.lt_of_lt_of_le (h.2.2 b hm).2 k.1.size⟩⟩, fun b e => ?_, fun b e => ?_⟩
  · rintro (e | e)
    · have := (h1 b e).1; omega
    · have := (h2 b e).1; omega
  · rcases e with e | e
    · exact (h1 b e).2 hm
    · exact (h2 b e).2 hm
  · rcases k.2.2.2.1 b e with e | e
    · exact h1 b e
    · exact ⟨by omega, fun hm => by have := (h.2.2 b hm).2; omega⟩
  · rcases k.2.2.2.2 b e with e | e
    · exact h2 b e
    · exact ⟨by omega, fun hm => by have := (h.2.2 b hm).2; omega⟩
theorem App2.wordL {base n L : Nat} {wv0 tv0 : Value} {wr w' w2 : World} {wv : Value} {vs : List Wd} {tv : Value} {ts : List (Tm n)} (h : App2 base n wv0 tv0 wr wv vs tv ts w') (hL : vs.length = L) {g c : Nat} {v : Wd}
    (ho : w2.ownsRow base 37 2 (.slice (some ⟨g, 0, none⟩) (L + 1) c) (L + 1) (wCells vs ++ wd2 v)) (hg : w'.grownBy w2 wv.ownBlock) (ha : wv.ownBlock = some g ∨ g = w'.heap.size) :
    App2 base n wv0 tv0 wr (.slice (some ⟨g, 0, none⟩) (L + 1) c) (vs ++ [v]) tv ts w2 := by
  subst hL
  exact h.word ho hg ha
theorem App2.termL {base n L : Nat} {wv0 tv0 : Value} {wr w' w2 : World} {wv : Value} {vs : List Wd} {tv : Value} {ts : List (Tm n)} (h : App2 base n wv0 tv0 wr wv vs tv ts w') (hL : ts.length = L) {g c : Nat} {x : Tm n}
    (ho : w2.ownsRow base 24 4 (.slice (some ⟨g, 0, none⟩) (L + 1) c) (L + 1) (ndCells (ts.map (hdT n)) ++ nd4 (hdT n x))) (hg : w'.grownBy w2 tv.ownBlock) (ha : tv.ownBlock = some g ∨ g = w'.heap.size) :
    App2 base n wv0 tv0 wr wv vs (.slice (some ⟨g, 0, none⟩) (L + 1) c) (ts ++ [x]) w2 := by
  subst hL
  exact h.term ho hg ha
theorem App2.own1 {base n L : Nat} {wv0 tv0 : Value} {wr w' : World} {wv : Value} {vs : List Wd} {tv : Value} {ts : List (Tm n)} (h : App2 base n wv0 tv0 wr wv vs tv ts w') (hL : vs.length = L) {w2 : World} (hb : Below w'.heap.size w' w2) : w2.ownsRow base 37 2 wv L (wCells vs) := by
  subst hL
  exact (h.later hb).2.1
theorem App2.own2 {base n L : Nat} {wv0 tv0 : Value} {wr w' : World} {wv : Value} {vs : List Wd} {tv : Value} {ts : List (Tm n)} (h : App2 base n wv0 tv0 wr wv vs tv ts w') (hL : ts.length = L) {w2 : World} (hb : Below w'.heap.size w' w2) : w2.ownsRow base 24 4 tv L (ndCells (ts.map (hdT n))) := by
  subst hL
  exact (h.later hb).2.2.1
theorem nb_a (w : World) (c : Obj) : (w.alloc c).drew.heap[w.heap.size]? = some c := heap_alloc_new w c
theorem nb_b (w : World) (c d : Obj) : ((w.alloc c).alloc d).drew.heap[w.heap.size]? = some c :=
  (((Below.refl (w.alloc c).heap.size (w.alloc c)).alloc (Nat.le_refl _) d).block w.heap.size (by simp)).trans (heap_alloc_new w c)
theorem nb_c (w : World) (c d : Obj) : ((w.alloc d).alloc c).drew.heap[w.heap.size + 1]? = some c := by
  have h := heap_alloc_new (w.alloc d) c
  rwa [show (w.alloc d).heap.size = w.heap.size + 1 by simp] at h
theorem grown_box {W0 W w5 : World} {row : Option Nat} (hb : Below W0.heap.size W0 W) (hg : W.grownBy w5 row) (q : Nat) (hq : ∀ b, row = some b → b < q) (b : Nat) (hqb : q ≤ b) (hbw : b < W0.heap.size) : w5.heap[b]? = W0.heap[b]? :=
  (grown_new row hg q hq b hqb (Nat.lt_of_lt_of_le hbw hb.size)).trans (hb.block b hbw)
theorem box4 {w : World} {b : Nat} {v0 v1 v2 v3 : Value} {t : TypeId} (h : w.heap[b]? = some (.cells #[v0, v1, v2, v3] t)) : w.cell? ⟨b, 0, none⟩ = some v0 ∧ w.cell? ⟨b, 1, none⟩ = some v1 ∧ w.cell? ⟨b, 2, none⟩ = some v2 ∧ w.cell? ⟨b, 3, none⟩ = some v3 := by
  refine ⟨?_, ?_, ?_, ?_⟩ <;> simp [World.cell?, h]
theorem box2 {w : World} {b : Nat} {v0 v1 : Value} {t : TypeId} (h : w.heap[b]? = some (.cells #[v0, v1] t)) : w.cell? ⟨b, 0, none⟩ = some v0 ∧ w.cell? ⟨b, 1, none⟩ = some v1 := by
  refine ⟨?_, ?_⟩ <;> simp [World.cell?, h]
end Go.Proofs.Ytpehdgbdinjbaab
