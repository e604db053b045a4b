/- What is proved here: plain facts on what is reckoned: the value of a term by what its variables are bound to (vl), how large it is, that it is closed, and that terms that are the same are as large. No condition. -/
import Derived.Test.YtfaoeccnhbcjgabSameP
import Derived.Test.YtfaoeccnhbcjgabCpy
namespace Go.Proofs.Ytfaoeccnhbcjgab
open Go.RowKit

def wSelf : ByteArray := ⟨#[115, 101, 108, 102]⟩
def wAdd : ByteArray := ⟨#[97, 100, 100]⟩
def wPut : ByteArray := ⟨#[112, 117, 116]⟩
def numA (N : Nat) (x : Tm N) : Int := (hdT N x).1.2.1

/-- A tuple's parts: the atom of that name, and k others. -/
def isW (n : Nat) (p : List (Tm n)) (s : ByteArray) (k : Nat) : Bool :=
  decide (p.length = 1 + k) && match p[0]? with
    | some y => kindA ⟨n, y⟩ == 2 && (hdT n y).1.2.2.toList == s.toList
    | none => false
def allV {α β : Type} (f : α → Option β) : List α → Option (List β)
  | [] => some []
  | a :: p => (f a).bind fun b => (allV f p).map fun l => b :: l
def leafV (k u : Int) (N : Nat) : Tm (N + 1) := ((k, u, .empty), (none, 0), [])
def sumB (N : Nat) (a c : Tm N) : Bool := kindA ⟨N, a⟩ == 1 && kindA ⟨N, c⟩ == 1 && inB (numA N a + numA N c) (-1099511627776) 1099511627776
def sumV (N : Nat) (a c : Tm N) : Option (Tm (N + 1)) := if sumB N a c then some (leafV 1 (numA N a + numA N c) N) else none
def tupV (N : Nat) (l : List (Tm N)) : Tm (N + 1) := ((4, 0, .empty), (none, 0), l)

/-- The value of a term. -/
def vl (m : Nat) (b : List (Tm m)) (self : Int) : (n : Nat) → Tm n → Option (Tm (m + n))
  | 0, _ => none
  | n + 1, x =>
    if x.1.1 = 5 then (b[x.1.2.1.toNat]?).bind fun y => if kindA ⟨m, y⟩ = 6 then none else some (lift (m + n + 1) m y)
    else if x.1.1 = 6 then none
    else if x.1.1 = 4 then
      if isW n x.2.2 wSelf 0 then some (leafV 3 self (m + n))
      else if isW n x.2.2 wAdd 2 then
        (x.2.2[1]?).bind fun a => (x.2.2[2]?).bind fun c => (vl m b self n a).bind fun a => (vl m b self n c).bind fun c => sumV (m + n) a c
      else if isW n x.2.2 wPut 1 then
        (x.2.2[1]?).bind fun a => if closedT n a then some (lift (m + n + 1) n a) else none
      else (allV (fun y => vl m b self n y) x.2.2).map (tupV (m + n))
    else some (lift (m + n + 1) (n + 1) x)

theorem allV_len {α β : Type} (f : α → Option β) : (p : List α) → (l : List β) → allV f p = some l → l.length = p.length ∧ ∀ (i : Nat) (a : α) (y : β), p[i]? = some a → l[i]? = some y → f a = some y
  | [], l, h => by simp [allV] at h; subst h; exact ⟨rfl, fun i a y hi => by simp at hi⟩
  | a :: p, l, h => by
    simp only [allV] at h
    obtain ⟨y, hy, h⟩ := Option.bind_eq_some_iff.1 h
    obtain ⟨r, hr, rfl⟩ := Option.map_eq_some_iff.1 h
    obtain ⟨h1, h2⟩ := allV_len f p r hr
    refine ⟨by simp [h1], fun i a' y' hi hj => ?_⟩
    cases i with
    | zero =>
      simp at hi hj
      subst hi hj
      exact hy
    | succ i => exact h2 i a' y' (by simpa using hi) (by simpa using hj)
theorem allV_none {α β : Type} (f : α → Option β) : (p : List α) → (i : Nat) → (a : α) → p[i]? = some a → f a = none → allV f p = none
  | [], i, a, h, _ => by simp at h
  | b :: p, 0, a, h, k => by
    simp at h
    subst h
    simp [allV, k]
  | b :: p, i + 1, a, h, k => by
    simp only [allV]
    rw [allV_none f p i a (by simpa using h) k]
    simp
theorem allV_some {α β : Type} (f : α → Option β) (g : α → β) : (p : List α) → (∀ a ∈ p, f a = some (g a)) → allV f p = some (p.map g)
  | [], _ => rfl
  | a :: p, h => by simp [allV, h a (by simp), allV_some f g p fun x hx => h x (List.mem_cons_of_mem _ hx)]

theorem flat_le {α β γ : Type} (f : α → List γ) (g : β → List γ) (K : Nat) : (p : List α) → (l : List β) → l.length = p.length → (∀ (i : Nat) (a : α) (y : β), p[i]? = some a → l[i]? = some y → (g y).length ≤ K * (f a).length) → (l.flatMap g).length ≤ K * (p.flatMap f).length
  | [], [], _, _ => by simp
  | [], _ :: _, h, _ => by simp at h
  | _ :: _, [], h, _ => by simp at h
  | a :: p, y :: l, h, k => by
    have h1 := k 0 a y rfl rfl
    have h2 := flat_le f g K p l (by simpa using h) fun i a y hi hj => k (i + 1) a y (by simpa using hi) (by simpa using hj)
    simp only [List.flatMap_cons, List.length_append]
    rw [Nat.mul_add]
    omega

theorem lift_nlen : (N n : Nat) → n ≤ N → (x : Tm n) → (nodes N (lift N n x)).length ≤ (nodes n x).length
  | 0, 0, _, _ => Nat.le_refl _
  | _ + 1, 0, _, _ => by simp [lift, nodes]
  | 0, n + 1, h, _ => by omega
  | N + 1, n + 1, h, x => by
    have := flat_le (fun y => nodes n y) (fun y => nodes N y) 1 x.2.2 (x.2.2.map fun y => lift N n y) (by simp) fun i a y hi hj => by
      simp [hi] at hj
      subst hj
      rw [Nat.one_mul]
      exact lift_nlen N n (by omega) a
    simp only [nodes, lift, List.length_cons]
    omega

theorem le_mul_one {a K : Nat} (h : 1 ≤ K) : a ≤ K * a := Nat.le_mul_of_pos_left a h
theorem mem_flat_le {α γ : Type} (f : α → List γ) (p : List α) (a : α) (h : a ∈ p) : (f a).length ≤ (p.flatMap f).length := by
  induction p with
  | nil => cases h
  | cons b p ih =>
    simp only [List.flatMap_cons, List.length_append]
    rcases List.mem_cons.1 h with rfl | h
    · omega
    · have := ih h; omega

theorem vl_nodes (m : Nat) (b : List (Tm m)) (self : Int) (K : Nat) (hK : 1 ≤ K) (hb : ∀ y ∈ b, (nodes m y).length ≤ K) : (n : Nat) → (x : Tm n) → (z : Tm (m + n)) → vl m b self n x = some z → (nodes (m + n) z).length ≤ K * (nodes n x).length
  | 0, _, _, h => by simp [vl] at h
  | n + 1, x, z, h => by
    have one : ∀ k u, (nodes (m + n + 1) (leafV k u (m + n))).length ≤ K * (nodes (n + 1) x).length := fun k u => by
      have : 1 * 1 ≤ K * (nodes (n + 1) x).length := Nat.mul_le_mul hK (by simp [nodes])
      simpa [nodes, leafV] using this
    have up : ∀ (y : Tm n), y ∈ x.2.2 → K * (nodes n y).length ≤ K * (nodes (n + 1) x).length := fun y hy => by
      have := mem_flat_le (fun y => nodes n y) x.2.2 y hy
      exact Nat.mul_le_mul_left K (by simp only [nodes, List.length_cons] at this ⊢; omega)
    simp only [vl] at h
    split at h
    · obtain ⟨y, hy, h⟩ := Option.bind_eq_some_iff.1 h
      split at h
      · cases h
      · obtain rfl := Option.some.inj h
        have h1 := lift_nlen (m + n + 1) m (by omega) y
        have h2 := hb y (List.mem_of_getElem? hy)
        have h3 : K * 1 ≤ K * (nodes (n + 1) x).length := Nat.mul_le_mul_left K (by simp [nodes])
        show (nodes (m + n + 1) _).length ≤ _
        omega
    · split at h
      · cases h
      · split at h
        · split at h
          · obtain rfl := Option.some.inj h
            exact one _ _
          · split at h
            · obtain ⟨a, ha, h⟩ := Option.bind_eq_some_iff.1 h
              obtain ⟨c, hc, h⟩ := Option.bind_eq_some_iff.1 h
              obtain ⟨a', ha', h⟩ := Option.bind_eq_some_iff.1 h
              obtain ⟨c', hc', h⟩ := Option.bind_eq_some_iff.1 h
              unfold sumV at h
              split at h
              · obtain rfl := Option.some.inj h
                exact one _ _
              · cases h
            · split at h
              · obtain ⟨a, ha, h⟩ := Option.bind_eq_some_iff.1 h
                split at h
                · obtain rfl := Option.some.inj h
                  have h1 := lift_nlen (m + n + 1) n (by omega) a
                  have h2 := up a (List.mem_of_getElem? ha)
                  have h3 := le_mul_one (a := (nodes n a).length) hK
                  show (nodes (m + n + 1) _).length ≤ _
                  omega
                · cases h
              · obtain ⟨l, hl, rfl⟩ := Option.map_eq_some_iff.1 h
                obtain ⟨h1, h2⟩ := allV_len _ _ _ hl
                have h3 := flat_le (fun y => nodes n y) (fun y => nodes (m + n) y) K x.2.2 l h1 fun i a y hi hj => vl_nodes m b self K hK hb n a y (h2 i a y hi hj)
                show (nodes (m + n + 1) (tupV (m + n) l)).length ≤ _
                simp only [nodes, tupV, List.length_cons]
                rw [Nat.mul_add]
                omega
        · obtain rfl := Option.some.inj h
          have h1 := lift_nlen (m + n + 1) (n + 1) (by omega) x
          have h3 := le_mul_one (a := (nodes (n + 1) x).length) hK
          show (nodes (m + n + 1) _).length ≤ _
          omega

theorem same_nlen : (n : Nat) → (x : Tm n) → (m : Nat) → (y : Tm m) → same n x m y = true → (nodes n x).length = (nodes m y).length
  | 0, _, _, _, h => by simp [same] at h
  | _ + 1, _, 0, _, h => by simp [same] at h
  | n + 1, x, m + 1, y, h => by
    obtain ⟨h1, h2⟩ := same_parts h
    have key : ∀ (p : List (Tm n)) (q : List (Tm m)), sameL (fun a b => same n a m b) p q = true → (p.flatMap fun y => nodes n y).length = (q.flatMap fun y => nodes m y).length := by
      intro p
      induction p with
      | nil => intro q hq; cases q with
        | nil => rfl
        | cons _ _ => simp [sameL] at hq
      | cons a p ih => intro q hq; cases q with
        | nil => simp [sameL] at hq
        | cons c q =>
          simp only [sameL, Bool.and_eq_true] at hq
          simp only [List.flatMap_cons, List.length_append]
          rw [same_nlen n a m c hq.1, ih q hq.2]
    simp only [nodes, List.length_cons]
    rw [key _ _ h2]

theorem chk_iff {n : Nat} {x : Tm n} : chk n x = 0 ↔ formedB n x = true ∧ dep n x ≤ 12 ∧ sz n x ≤ 200 := by
  rw [← tchk_chk]
  unfold tchk
  constructor
  · intro h
    split at h
    · rename_i hf
      split at h
      · cases h
      · rename_i hd
        exact ⟨hf, by omega, by omega⟩
    · cases h
  · rintro ⟨h1, h2, h3⟩
    rw [if_pos h1, if_neg (by omega)]

theorem nlen_sz : (n : Nat) → (x : Tm n) → RightA ⟨n, x⟩ → ((nodes n x).length : Int) ≤ sz n x + 1
  | 0, _, h => (zero_bad h).elim
  | n + 1, x, h => by
    have gx := good_parts (hdOf n x) (h (hdOf n x) (by simp [nodes, hdOf]))
    by_cases h4 : x.1.1 = 4
    · have key : ∀ l : List (Tm n), (∀ y ∈ l, RightA ⟨n, y⟩) → ((l.flatMap fun y => nodes n y).length : Int) ≤ (l.map fun y => 1 + sz n y).sum := by
        intro l
        induction l with
        | nil => intro _; simp
        | cons y l ih =>
          intro hl
          have h1 := nlen_sz n y (hl y (by simp))
          have h2 := ih fun z hz => hl z (List.mem_cons_of_mem _ hz)
          simp only [List.flatMap_cons, List.length_append, List.map_cons, List.sum_cons]
          omega
      have := key x.2.2 fun y hy => parts_right n x y h hy
      simp only [nodes, List.length_cons, sz, if_pos h4]
      omega
    · have : x.2.2 = [] := List.eq_nil_of_length_eq_zero (gx.2.2.2.2 h4)
      simp [nodes, this, sz, h4]

theorem chk_nlen {n : Nat} {x : Tm n} (h : chk n x = 0) : (nodes n x).length ≤ 201 := by
  obtain ⟨h1, _, h3⟩ := chk_iff.1 h
  have := nlen_sz n x (right_formed.2 h1)
  omega
theorem bnd_ok {m : Nat} {b : List (Tm m)} (h : bndB m b = true) : b.length = 4 ∧ ∀ y ∈ b, chk m y = 0 ∧ RightA ⟨m, y⟩ ∧ (kindA ⟨m, y⟩ = 6 ∨ closedT m y = true) := by
  unfold bndB at h
  simp only [Bool.and_eq_true, decide_eq_true_eq, List.all_eq_true] at h
  refine ⟨h.1, fun y hy => ?_⟩
  have := h.2 y hy
  unfold okB at this
  simp only [Bool.and_eq_true, Bool.or_eq_true, beq_iff_eq] at this
  refine ⟨this.1, right_formed.2 (chk_iff.1 this.1).1, ?_⟩
  rw [closed_eq]
  exact this.2
theorem lift_right {N n : Nat} (h : n ≤ N) (x : Tm n) (hr : RightA ⟨n, x⟩) : RightA ⟨N, lift N n x⟩ := by
  cases n with
  | zero => exact (zero_bad hr).elim
  | succ n =>
    obtain ⟨M, rfl⟩ : ∃ M, N = M + 1 := ⟨N - 1, by omega⟩
    intro a ha
    simp only at ha
    rw [lift_nodes M n (by omega) x] at ha
    exact hr a ha
theorem right_mk {N : Nat} {x : Tm (N + 1)} (h : good (hdOf N x) = true) (k : ∀ y ∈ x.2.2, RightA ⟨N, y⟩) : RightA ⟨N + 1, x⟩ := by
  intro a ha
  simp only [nodes, List.mem_cons, List.mem_flatMap] at ha
  rcases ha with rfl | ⟨y, hy, ha⟩
  · exact h
  · exact k y hy a ha

/-- The value of a right term is right. -/
theorem vl_right (m : Nat) (b : List (Tm m)) (self : Int) (hs : 1 ≤ self ∧ self ≤ 99) (hb : ∀ y ∈ b, RightA ⟨m, y⟩) : (n : Nat) → (x : Tm n) → RightA ⟨n, x⟩ → (z : Tm (m + n)) → vl m b self n x = some z → RightA ⟨m + n, z⟩
  | 0, _, _, _, h => by simp [vl] at h
  | n + 1, x, hr, z, h => by
    have hg := hr (hdOf n x) (by simp [nodes, hdOf])
    have hl : x.2.2.length ≤ 8 := good_len (hdOf n x) hg
    simp only [vl] at h
    split at h
    · obtain ⟨y, hy, h⟩ := Option.bind_eq_some_iff.1 h
      split at h
      · cases h
      · obtain rfl := Option.some.inj h
        exact lift_right (N := m + n + 1) (by omega) y (hb y (List.mem_of_getElem? hy))
    · split at h
      · cases h
      · split at h
        · split at h
          · obtain rfl := Option.some.inj h
            exact right_mk (N := m + n) (by simp [good, leafV, hdOf, inB, hs]) (by intro y hy; cases hy)
          · split at h
            · obtain ⟨a, ha, h⟩ := Option.bind_eq_some_iff.1 h
              obtain ⟨c, hc, h⟩ := Option.bind_eq_some_iff.1 h
              obtain ⟨a', ha', h⟩ := Option.bind_eq_some_iff.1 h
              obtain ⟨c', hc', h⟩ := Option.bind_eq_some_iff.1 h
              unfold sumV at h
              split at h
              · rename_i hsum
                obtain rfl := Option.some.inj h
                simp only [sumB, Bool.and_eq_true] at hsum
                exact right_mk (N := m + n) (by simp [good, leafV, hdOf, hsum.2]) (by intro y hy; cases hy)
              · cases h
            · split at h
              · obtain ⟨a, ha, h⟩ := Option.bind_eq_some_iff.1 h
                split at h
                · obtain rfl := Option.some.inj h
                  exact lift_right (N := m + n + 1) (by omega) a (parts_right n x a hr (List.mem_of_getElem? ha))
                · cases h
              · obtain ⟨l, hl2, rfl⟩ := Option.map_eq_some_iff.1 h
                obtain ⟨h1, h2⟩ := allV_len _ _ _ hl2
                refine right_mk (N := m + n) ?_ fun y hy => ?_
                · have : (l.length : Int) ≤ 8 := by omega
                  simp [good, tupV, hdOf, this]
                · obtain ⟨i, hi⟩ := List.getElem?_of_mem hy
                  have hi2 : i < x.2.2.length := by rw [← h1]; exact (List.getElem?_eq_some_iff.1 hi).1
                  exact vl_right m b self hs hb n x.2.2[i] (parts_right n x _ hr (List.getElem_mem _)) y (h2 i _ y (List.getElem?_eq_getElem hi2) hi)
        · obtain rfl := Option.some.inj h
          exact lift_right (N := m + n + 1) (by omega) x hr

/-- What can go wrong ahead of it; what is answered. -/
def rvE (ck : Int) (bd : Bool) (self : Int) : Int := if ck = 0 then if bd then if 1 ≤ self ∧ self ≤ 99 then 0 else 1 else 5 else ck
def rvO {N : Nat} (E : Int) (o : Option (Tm N)) : Option (Tm N) := if E = 0 then o.bind fun z => if chk N z = 0 then some z else none else none
def rvC {N : Nat} (E : Int) (o : Option (Tm N)) : Int := if E = 0 then if o.isSome then 0 else 7 else E
end Go.Proofs.Ytfaoeccnhbcjgab
