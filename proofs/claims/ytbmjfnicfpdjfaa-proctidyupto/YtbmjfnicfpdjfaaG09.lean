/- What is proved here: plain facts and contracts that the claimed theorem stands on, several texts in one: plain facts on what is reckoned: the value of a term by what its variables are bound to (vl), how large it is, that it is closed, and that terms that are the same are as large. No condition. reckon.isCall and the document's Is of parts that lie in memory: whether they are the atom of that name and so many others. No condition but that. the document's Is of a tuple that lies in memory: whether it is the atom of that name and so many others. No condition but that. plain facts on programs as lists (behaviours, clauses, acts): how they lie in memory, which blocks they lie in, and how a row of such things grows. No condition. plain facts on programs: whether a list is one (pgB), the term that tells it (tellP), and that programs that are the same are told the same. No condition. code.isNothing, spawnsNothing, isAct of what lies in memory return what plain functions say, and turn no memory that was there. No condition but that it lies there. -/
import Derived.Test.YtbmjfnicfpdjfaaG06
import Derived.Test.YtbmjfnicfpdjfaaG08
namespace Go.Proofs.Ytbmjfnicfpdjfaa
open Go.RowKit

def wSelf : ByteArray := ⟨#[115, 101, 108, 102]⟩
def wAdd : ByteArray := ⟨#[97, 100, 100]⟩
def wPut : ByteArray := ⟨#[112, 117, 116]⟩
def numA (N : Nat) (x : Tm N) : Int := (hdT N x).1.2.1

/-- A tuple's parts: the atom of that name, and k others. -/
def isW (n : Nat) (p : List (Tm n)) (s : ByteArray) (k : Nat) : Bool :=
  decide (p.length = 1 + k) && match p[0]? with
    | some y => kindA ⟨n, y⟩ == 2 && (hdT n y).1.2.2.toList == s.toList
    | none => false
def allV {α β : Type} (f : α → Option β) : List α → Option (List β)
  | [] => some []
  | a :: p => (f a).bind fun b => (allV f p).map fun l => b :: l
def leafV (k u : Int) (N : Nat) : Tm (N + 1) := ((k, u, .empty), (none, 0), [])
def sumB (N : Nat) (a c : Tm N) : Bool := kindA ⟨N, a⟩ == 1 && kindA ⟨N, c⟩ == 1 && inB (numA N a + numA N c) (-1099511627776) 1099511627776
def sumV (N : Nat) (a c : Tm N) : Option (Tm (N + 1)) := if sumB N a c then some (leafV 1 (numA N a + numA N c) N) else none
def tupV (N : Nat) (l : List (Tm N)) : Tm (N + 1) := ((4, 0, .empty), (none, 0), l)

/-- The value of a term. -/
def vl (m : Nat) (b : List (Tm m)) (self : Int) : (n : Nat) → Tm n → Option (Tm (m + n))
  | 0, _ => none
  | n + 1, x =>
    if x.1.1 = 5 then (b[x.1.2.1.toNat]?).bind fun y => if kindA ⟨m, y⟩ = 6 then none else some (lift (m + n + 1) m y)
    else if x.1.1 = 6 then none
    else if x.1.1 = 4 then
      if isW n x.2.2 wSelf 0 then some (leafV 3 self (m + n))
      else if isW n x.2.2 wAdd 2 then
        (x.2.2[1]?).bind fun a => (x.2.2[2]?).bind fun c => (vl m b self n a).bind fun a => (vl m b self n c).bind fun c => sumV (m + n) a c
      else if isW n x.2.2 wPut 1 then
        (x.2.2[1]?).bind fun a => if closedT n a then some (lift (m + n + 1) n a) else none
      else (allV (fun y => vl m b self n y) x.2.2).map (tupV (m + n))
    else some (lift (m + n + 1) (n + 1) x)

theorem allV_len {α β : Type} (f : α → Option β) : (p : List α) → (l : List β) → allV f p = some l → l.length = p.length ∧ ∀ (i : Nat) (a : α) (y : β), p[i]? = some a → l[i]? = some y → f a = some y
  | [], l, h => by simp [allV] at h; subst h; exact ⟨rfl, fun i a y hi => by simp at hi⟩
  | a :: p, l, h => by
    simp only [allV] at h
    obtain ⟨y, hy, h⟩ := Option.bind_eq_some_iff.1 h
    obtain ⟨r, hr, rfl⟩ := Option.map_eq_some_iff.1 h
    obtain ⟨h1, h2⟩ := allV_len f p r hr
    refine ⟨by simp [h1], fun i a' y' hi hj => ?_⟩
    cases i with
    | zero =>
      simp at hi hj
      subst hi hj
      exact hy
    | succ i => exact h2 i a' y' (by simpa using hi) (by simpa using hj)
theorem allV_none {α β : Type} (f : α → Option β) : (p : List α) → (i : Nat) → (a : α) → p[i]? = some a → f a = none → allV f p = none
  | [], i, a, h, _ => by simp at h
  | b :: p, 0, a, h, k => by
    simp at h
    subst h
    simp [allV, k]
  | b :: p, i + 1, a, h, k => by
    simp only [allV]
    rw [allV_none f p i a (by simpa using h) k]
    simp
theorem allV_some {α β : Type} (f : α → Option β) (g : α → β) : (p : List α) → (∀ a ∈ p, f a = some (g a)) → allV f p = some (p.map g)
  | [], _ => rfl
  | a :: p, h => by simp [allV, h a (by simp), allV_some f g p fun x hx => h x (List.mem_cons_of_mem _ hx)]

theorem flat_le {α β γ : Type} (f : α → List γ) (g : β → List γ) (K : Nat) : (p : List α) → (l : List β) → l.length = p.length → (∀ (i : Nat) (a : α) (y : β), p[i]? = some a → l[i]? = some y → (g y).length ≤ K * (f a).length) → (l.flatMap g).length ≤ K * (p.flatMap f).length
  | [], [], _, _ => by simp
  | [], _ :: _, h, _ => by simp at h
  | _ :: _, [], h, _ => by simp at h
  | a :: p, y :: l, h, k => by
    have h1 := k 0 a y rfl rfl
    have h2 := flat_le f g K p l (by simpa using h) fun i a y hi hj => k (i + 1) a y (by simpa using hi) (by simpa using hj)
    simp only [List.flatMap_cons, List.length_append]
    rw [Nat.mul_add]
    omega

theorem lift_nlen : (N n : Nat) → n ≤ N → (x : Tm n) → (nodes N (lift N n x)).length ≤ (nodes n x).length
  | 0, 0, _, _ => Nat.le_refl _
  | _ + 1, 0, _, _ => by simp [lift, nodes]
  | 0, n + 1, h, _ => by omega
  | N + 1, n + 1, h, x => by
    have := flat_le (fun y => nodes n y) (fun y => nodes N y) 1 x.2.2 (x.2.2.map fun y => lift N n y) (by simp) fun i a y hi hj => by
      simp [hi] at hj
      subst hj
      rw [Nat.one_mul]
      exact lift_nlen N n (by omega) a
    simp only [nodes, lift, List.length_cons]
    omega

theorem le_mul_one {a K : Nat} (h : 1 ≤ K) : a ≤ K * a := Nat.le_mul_of_pos_left a h
theorem mem_flat_le {α γ : Type} (f : α → List γ) (p : List α) (a : α) (h : a ∈ p) : (f a).length ≤ (p.flatMap f).length := by
  induction p with
  | nil => cases h
  | cons b p ih =>
    simp only [List.flatMap_cons, List.length_append]
    rcases List.mem_cons.1 h with rfl | h
    · omega
    · have := ih h; omega

theorem vl_nodes (m : Nat) (b : List (Tm m)) (self : Int) (K : Nat) (hK : 1 ≤ K) (hb : ∀ y ∈ b, (nodes m y).length ≤ K) : (n : Nat) → (x : Tm n) → (z : Tm (m + n)) → vl m b self n x = some z → (nodes (m + n) z).length ≤ K * (nodes n x).length
  | 0, _, _, h => by simp [vl] at h
  | n + 1, x, z, h => by
    have one : ∀ k u, (nodes (m + n + 1) (leafV k u (m + n))).length ≤ K * (nodes (n + 1) x).length := fun k u => by
      have : 1 * 1 ≤ K * (nodes (n + 1) x).length := Nat.mul_le_mul hK (by simp [nodes])
      simpa [nodes, leafV] using this
    have up : ∀ (y : Tm n), y ∈ x.2.2 → K * (nodes n y).length ≤ K * (nodes (n + 1) x).length := fun y hy => by
      have := mem_flat_le (fun y => nodes n y) x.2.2 y hy
      exact Nat.mul_le_mul_left K (by simp only [nodes, List.length_cons] at this ⊢; omega)
    simp only [vl] at h
    split at h
    · obtain ⟨y, hy, h⟩ := Option.bind_eq_some_iff.1 h
      split at h
      · cases h
      · obtain rfl := Option.some.inj h
        have h1 := lift_nlen (m + n + 1) m (by omega) y
        have h2 := hb y (List.mem_of_getElem? hy)
        have h3 : K * 1 ≤ K * (nodes (n + 1) x).length := Nat.mul_le_mul_left K (by simp [nodes])
        show (nodes (m + n + 1) _).length ≤ _
        omega
    · split at h
      · cases h
      · split at h
        · split at h
          · obtain rfl := Option.some.inj h
            exact one _ _
          · split at h
            · obtain ⟨a, ha, h⟩ := Option.bind_eq_some_iff.1 h
              obtain ⟨c, hc, h⟩ := Option.bind_eq_some_iff.1 h
              obtain ⟨a', ha', h⟩ := Option.bind_eq_some_iff.1 h
              obtain ⟨c', hc', h⟩ := Option.bind_eq_some_iff.1 h
              unfold sumV at h
              split at h
              · obtain rfl := Option.some.inj h
                exact one _ _
              · cases h
            · split at h
              · obtain ⟨a, ha, h⟩ := Option.bind_eq_some_iff.1 h
                split at h
                · obtain rfl := Option.some.inj h
                  have h1 := lift_nlen (m + n + 1) n (by omega) a
                  have h2 := up a (List.mem_of_getElem? ha)
                  have h3 := le_mul_one (a := (nodes n a).length) hK
                  show (nodes (m + n + 1) _).length ≤ _
                  omega
                · cases h
              · obtain ⟨l, hl, rfl⟩ := Option.map_eq_some_iff.1 h
                obtain ⟨h1, h2⟩ := allV_len _ _ _ hl
                have h3 := flat_le (fun y => nodes n y) (fun y => nodes (m + n) y) K x.2.2 l h1 fun i a y hi hj => vl_nodes m b self K hK hb n a y (h2 i a y hi hj)
                show (nodes (m + n + 1) (tupV (m + n) l)).length ≤ _
                simp only [nodes, tupV, List.length_cons]
                rw [Nat.mul_add]
                omega
        · obtain rfl := Option.some.inj h
          have h1 := lift_nlen (m + n + 1) (n + 1) (by omega) x
          have h3 := le_mul_one (a := (nodes (n + 1) x).length) hK
          show (nodes (m + n + 1) _).length ≤ _
          omega

theorem same_nlen : (n : Nat) → (x : Tm n) → (m : Nat) → (y : Tm m) → same n x m y = true → (nodes n x).length = (nodes m y).length
  | 0, _, _, _, h => by simp [same] at h
  | _ + 1, _, 0, _, h => by simp [same] at h
  | n + 1, x, m + 1, y, h => by
    obtain ⟨h1, h2⟩ := same_parts h
    have key : ∀ (p : List (Tm n)) (q : List (Tm m)), sameL (fun a b => same n a m b) p q = true → (p.flatMap fun y => nodes n y).length = (q.flatMap fun y => nodes m y).length := by
      intro p
      induction p with
      | nil => intro q hq; cases q with
        | nil => rfl
        | cons _ _ => simp [sameL] at hq
      | cons a p ih => intro q hq; cases q with
        | nil => simp [sameL] at hq
        | cons c q =>
          simp only [sameL, Bool.and_eq_true] at hq
          simp only [List.flatMap_cons, List.length_append]
          rw [same_nlen n a m c hq.1, ih q hq.2]
    simp only [nodes, List.length_cons]
    rw [key _ _ h2]

theorem chk_iff {n : Nat} {x : Tm n} : chk n x = 0 ↔ formedB n x = true ∧ dep n x ≤ 12 ∧ sz n x ≤ 200 := by
  rw [← tchk_chk]
  unfold tchk
  constructor
  · intro h
    split at h
    · rename_i hf
      split at h
      · cases h
      · rename_i hd
        exact ⟨hf, by omega, by omega⟩
    · cases h
  · rintro ⟨h1, h2, h3⟩
    rw [if_pos h1, if_neg (by omega)]

theorem nlen_sz : (n : Nat) → (x : Tm n) → RightA ⟨n, x⟩ → ((nodes n x).length : Int) ≤ sz n x + 1
  | 0, _, h => (zero_bad h).elim
  | n + 1, x, h => by
    have gx := good_parts (hdOf n x) (h (hdOf n x) (by simp [nodes, hdOf]))
    by_cases h4 : x.1.1 = 4
    · have key : ∀ l : List (Tm n), (∀ y ∈ l, RightA ⟨n, y⟩) → ((l.flatMap fun y => nodes n y).length : Int) ≤ (l.map fun y => 1 + sz n y).sum := by
        intro l
        induction l with
        | nil => intro _; simp
        | cons y l ih =>
          intro hl
          have h1 := nlen_sz n y (hl y (by simp))
          have h2 := ih fun z hz => hl z (List.mem_cons_of_mem _ hz)
          simp only [List.flatMap_cons, List.length_append, List.map_cons, List.sum_cons]
          omega
      have := key x.2.2 fun y hy => parts_right n x y h hy
      simp only [nodes, List.length_cons, sz, if_pos h4]
      omega
    · have : x.2.2 = [] := List.eq_nil_of_length_eq_zero (gx.2.2.2.2 h4)
      simp [nodes, this, sz, h4]

theorem chk_nlen {n : Nat} {x : Tm n} (h : chk n x = 0) : (nodes n x).length ≤ 201 := by
  obtain ⟨h1, _, h3⟩ := chk_iff.1 h
  have := nlen_sz n x (right_formed.2 h1)
  omega
theorem bnd_ok {m : Nat} {b : List (Tm m)} (h : bndB m b = true) : b.length = 4 ∧ ∀ y ∈ b, chk m y = 0 ∧ RightA ⟨m, y⟩ ∧ (kindA ⟨m, y⟩ = 6 ∨ closedT m y = true) := by
  unfold bndB at h
  simp only [Bool.and_eq_true, decide_eq_true_eq, List.all_eq_true] at h
  refine ⟨h.1, fun y hy => ?_⟩
  have := h.2 y hy
  unfold okB at this
  simp only [Bool.and_eq_true, Bool.or_eq_true, beq_iff_eq] at this
  refine ⟨this.1, right_formed.2 (chk_iff.1 this.1).1, ?_⟩
  rw [closed_eq]
  exact this.2
theorem lift_right {N n : Nat} (h : n ≤ N) (x : Tm n) (hr : RightA ⟨n, x⟩) : RightA ⟨N, lift N n x⟩ := by
  cases n with
  | zero => exact (zero_bad hr).elim
  | succ n =>
    obtain ⟨M, rfl⟩ : ∃ M, N = M + 1 := ⟨N - 1, by omega⟩
    intro a ha
    simp only at ha
    rw [lift_nodes M n (by omega) x] at ha
    exact hr a ha
theorem right_mk {N : Nat} {x : Tm (N + 1)} (h : good (hdOf N x) = true) (k : ∀ y ∈ x.2.2, RightA ⟨N, y⟩) : RightA ⟨N + 1, x⟩ := by
  intro a ha
  simp only [nodes, List.mem_cons, List.mem_flatMap] at ha
  rcases ha with rfl | ⟨y, hy, ha⟩
  · exact h
  · exact k y hy a ha

/-- The value of a right term is right. -/
theorem vl_right (m : Nat) (b : List (Tm m)) (self : Int) (hs : 1 ≤ self ∧ self ≤ 99) (hb : ∀ y ∈ b, RightA ⟨m, y⟩) : (n : Nat) → (x : Tm n) → RightA ⟨n, x⟩ → (z : Tm (m + n)) → vl m b self n x = some z → RightA ⟨m + n, z⟩
  | 0, _, _, _, h => by simp [vl] at h
  | n + 1, x, hr, z, h => by
    have hg := hr (hdOf n x) (by simp [nodes, hdOf])
    have hl : x.2.2.length ≤ 8 := good_len (hdOf n x) hg
    simp only [vl] at h
    split at h
    · obtain ⟨y, hy, h⟩ := Option.bind_eq_some_iff.1 h
      split at h
      · cases h
      · obtain rfl := Option.some.inj h
        exact lift_right (N := m + n + 1) (by omega) y (hb y (List.mem_of_getElem? hy))
    · split at h
      · cases h
      · split at h
        · split at h
          · obtain rfl := Option.some.inj h
            exact right_mk (N := m + n) (by simp [good, leafV, hdOf, inB, hs]) (by intro y hy; cases hy)
          · split at h
            · obtain ⟨a, ha, h⟩ := Option.bind_eq_some_iff.1 h
              obtain ⟨c, hc, h⟩ := Option.bind_eq_some_iff.1 h
              obtain ⟨a', ha', h⟩ := Option.bind_eq_some_iff.1 h
              obtain ⟨c', hc', h⟩ := Option.bind_eq_some_iff.1 h
              unfold sumV at h
              split at h
              · rename_i hsum
                obtain rfl := Option.some.inj h
                simp only [sumB, Bool.and_eq_true] at hsum
                exact right_mk (N := m + n) (by simp [good, leafV, hdOf, hsum.2]) (by intro y hy; cases hy)
              · cases h
            · split at h
              · obtain ⟨a, ha, h⟩ := Option.bind_eq_some_iff.1 h
                split at h
                · obtain rfl := Option.some.inj h
                  exact lift_right (N := m + n + 1) (by omega) a (parts_right n x a hr (List.mem_of_getElem? ha))
                · cases h
              · obtain ⟨l, hl2, rfl⟩ := Option.map_eq_some_iff.1 h
                obtain ⟨h1, h2⟩ := allV_len _ _ _ hl2
                refine right_mk (N := m + n) ?_ fun y hy => ?_
                · have : (l.length : Int) ≤ 8 := by omega
                  simp [good, tupV, hdOf, this]
                · obtain ⟨i, hi⟩ := List.getElem?_of_mem hy
                  have hi2 : i < x.2.2.length := by rw [← h1]; exact (List.getElem?_eq_some_iff.1 hi).1
                  exact vl_right m b self hs hb n x.2.2[i] (parts_right n x _ hr (List.getElem_mem _)) y (h2 i _ y (List.getElem?_eq_getElem hi2) hi)
        · obtain rfl := Option.some.inj h
          exact lift_right (N := m + n + 1) (by omega) x hr

/-- What can go wrong ahead of it; what is answered. -/
def rvE (ck : Int) (bd : Bool) (self : Int) : Int := if ck = 0 then if bd then if 1 ≤ self ∧ self ≤ 99 then 0 else 1 else 5 else ck
def rvO {N : Nat} (E : Int) (o : Option (Tm N)) : Option (Tm N) := if E = 0 then o.bind fun z => if chk N z = 0 then some z else none else none
def rvC {N : Nat} (E : Int) (o : Option (Tm N)) : Int := if E = 0 then if o.isSome then 0 else 7 else E
end Go.Proofs.Ytbmjfnicfpdjfaa
namespace Go.Proofs.Ytbmjfnicfpdjfaa
open Go.RowKit

theorem isW_len {n : Nat} {p : List (Tm n)} {s : ByteArray} {k : Nat} (h : p.length ≠ 1 + k) : isW n p s k = false := by simp [isW, h]
theorem isW_at {n : Nat} {p : List (Tm (n + 1))} {s : ByteArray} {k : Nat} {y : Tm (n + 1)} (h : p.length = 1 + k) (hy : p[0]? = some y) : isW (n + 1) p s k = (y.1.1 == 2 && y.1.2.2.toList == s.toList) := by
  simp [isW, h, hy, kindA, hdT, hdOf]

theorem isCall_ne (a : Option Addr) (len pc : Nat) (s : ByteArray) (k : Nat) (w : World) (hk : k ≤ 8) (h : len ≠ 1 + k) :
    Calls Try.prog 98 #[.slice a len pc, .string s, .int .i64 k] w fun e w' => e = .returned (.bool false) ∧ w' = w := by
  have h1 : ((len : Int) == 1 + (k : Int)) = false := by simp; omega
  have e1 : IntKind.i64.wrap (1 + (k : Int)) = 1 + (k : Int) := by rw [IntKind.wrap]; simp [IntKind.bits, IntKind.signed]; omega
  go_enter Try.func98, Try.ntmps98
  go_wp2_with fail
  go_ret
  exact ⟨rfl, rfl⟩
theorem isCall_eq (pb po len pc : Nat) (s : ByteArray) (k : Nat) (x0 : Int) (x2 : ByteArray) (w : World) (hlen : len ≤ 8) (hk : k ≤ 8) (h : len = 1 + k) (c0 : w.cell? ⟨pb, po, none⟩ = some (.int .i64 x0)) (c2 : w.cell? ⟨pb, po + 2, none⟩ = some (.string x2)) :
    Calls Try.prog 98 #[.slice (some ⟨pb, po, none⟩) len pc, .string s, .int .i64 k] w fun e w' => e = .returned (.bool (x0 == 2 && x2.toList == s.toList)) ∧ w' = w := by
  have h1 : ((len : Int) == 1 + (k : Int)) = true := by simp; omega
  have e1 : IntKind.i64.wrap (1 + (k : Int)) = 1 + (k : Int) := by rw [IntKind.wrap]; simp [IntKind.bits, IntKind.signed]; omega
  have h2 : (0 : Int) < (len : Int) := by omega
  cases hx : x0 == 2
  · go_enter Try.func98, Try.ntmps98
    go_wp2_with fail
    go_ret
    exact ⟨rfl, rfl⟩
  · go_enter Try.func98, Try.ntmps98
    go_wp2_with fail
    go_ret
    exact ⟨rfl, rfl⟩
theorem isCall_any (n : Nat) (p : List (Tm n)) (a : Option Addr) (pc B : Nat) (s : ByteArray) (k : Nat) (w : World) (hp : Lies B w n p a) (hlen : p.length ≤ 8) (hk : k ≤ 8) :
    Calls Try.prog 98 #[.slice a p.length pc, .string s, .int .i64 k] w fun e w' => e = .returned (.bool (isW n p s k)) ∧ w' = w := by
  by_cases h : p.length = 1 + k
  · rcases hp with hp | ⟨b, o, rfl, hb, hp⟩
    · rw [hp] at h; simp at h; omega
    · obtain ⟨y, hy⟩ : ∃ y, p[0]? = some y := ⟨p[0]'(by omega), List.getElem?_eq_getElem _⟩
      obtain ⟨h1, h2⟩ := hp 0 y hy
      cases n with
      | zero => exact h1.elim
      | succ n =>
        rw [isW_at h hy]
        obtain ⟨c0, c1, c2, c3⟩ := h1
        exact isCall_eq b o p.length pc s k y.1.1 y.1.2.2 w hlen hk h (by simpa using c0) (by simpa using c2)
  · rw [isW_len h]
    exact isCall_ne a p.length pc s k w hk h
end Go.Proofs.Ytbmjfnicfpdjfaa
namespace Go.Proofs.Ytbmjfnicfpdjfaa
open Go.RowKit

end Go.Proofs.Ytbmjfnicfpdjfaa
namespace Go.Proofs.Ytbmjfnicfpdjfaa
open Go.RowKit

/-- An act: Kind; To, What; Name, Var. -/
abbrev Ac (n : Nat) : Type := Int × (Tm n × Tm n) × (ByteArray × Int)
/-- A clause: State, Message, Next; where its Acts lie; its Acts. -/
abbrev Cl (n : Nat) : Type := (Tm n × Tm n × Tm n) × (Option Addr × Nat) × List (Ac n)
/-- A behaviour: its Name; where its Clauses lie; its Clauses. -/
abbrev Bh (n : Nat) : Type := ByteArray × (Option Addr × Nat) × List (Cl n)

def tm4 (n : Nat) (x : Tm n) : List Value := nd4 (hdT n x)
def ac11 (n : Nat) (a : Ac n) : List Value := .int .i64 a.1 :: (tm4 n a.2.1.1 ++ tm4 n a.2.1.2 ++ [.string a.2.2.1, .int .i64 a.2.2.2])
def cl13 (n : Nat) (c : Cl n) : List Value := tm4 n c.1.1 ++ tm4 n c.1.2.1 ++ (.slice c.2.1.1 c.2.2.length c.2.1.2 :: tm4 n c.1.2.2)
def bh2 (n : Nat) (b : Bh n) : List Value := [.string b.1, .slice b.2.1.1 b.2.2.length b.2.1.2]

/-- A list of things of k cells each lies at a place. -/
def Lay {α : Type} (B : Nat) (w : World) (k : Nat) (f : α → List Value) (I : α → Prop) (a : Option Addr) (l : List α) : Prop :=
  l = [] ∨ ∃ b o, a = some ⟨b, o, none⟩ ∧ b < B ∧ ∀ (i : Nat) (y : α), l[i]? = some y → (∀ (j : Nat) (u : Value), (f y)[j]? = some u → w.cell? ⟨b, o + i * k + j, none⟩ = some u) ∧ I y
def AcIn (n : Nat) (B : Nat) (w : World) (a : Ac n) : Prop := I64 a.1 ∧ In B w n a.2.1.1 ∧ In B w n a.2.1.2 ∧ a.2.2.1.size ≤ maxLen ∧ I64 a.2.2.2
def ClIn (n : Nat) (B : Nat) (w : World) (c : Cl n) : Prop := (In B w n c.1.1 ∧ In B w n c.1.2.1 ∧ In B w n c.1.2.2) ∧ (c.2.2.length ≤ c.2.1.2 ∧ c.2.1.2 ≤ maxLen) ∧ Lay B w 11 (ac11 n) (AcIn n B w) c.2.1.1 c.2.2
def BhIn (n : Nat) (B : Nat) (w : World) (b : Bh n) : Prop := b.1.size ≤ maxLen ∧ (b.2.2.length ≤ b.2.1.2 ∧ b.2.1.2 ≤ maxLen) ∧ Lay B w 13 (cl13 n) (ClIn n B w) b.2.1.1 b.2.2
/-- Every block that such a thing leads to is one of these. -/
def OffL {α : Type} (O : α → Prop) (P : Nat → Prop) (a : Option Addr) (l : List α) : Prop := l = [] ∨ ∃ b o, a = some ⟨b, o, none⟩ ∧ P b ∧ ∀ y ∈ l, O y
def AcOff (n : Nat) (P : Nat → Prop) (a : Ac n) : Prop := Off P n a.2.1.1 ∧ Off P n a.2.1.2
def ClOff (n : Nat) (P : Nat → Prop) (c : Cl n) : Prop := (Off P n c.1.1 ∧ Off P n c.1.2.1 ∧ Off P n c.1.2.2) ∧ OffL (AcOff n P) P c.2.1.1 c.2.2
def BhOff (n : Nat) (P : Nat → Prop) (b : Bh n) : Prop := OffL (ClOff n P) P b.2.1.1 b.2.2

/-- How things that lie in memory stay there. -/
def Stays {α : Type} (I : Nat → World → α → Prop) (O : (Nat → Prop) → α → Prop) : Prop :=
  (∀ (P Q : Nat → Prop) (x : α), (∀ b, P b → Q b) → O P x → O Q x) ∧ (∀ (P : Nat → Prop) (B : Nat) (w : World) (x : α), O P x → I B w x → O (fun b => P b ∧ b < B) x) ∧
  (∀ (P : Nat → Prop) (B : Nat) (w w' : World) (x : α), (∀ b, P b → w'.heap[b]? = w.heap[b]?) → O P x → I B w x → I B w' x) ∧ (∀ (B C : Nat) (w : World) (x : α), B ≤ C → I B w x → I C w x) ∧
  (∀ (B : Nat) (w : World) (x : α), I B w x → O (fun b => b < B) x)
theorem in_offLow {B : Nat} {w : World} : {n : Nat} → {x : Tm n} → In B w n x → Off (fun b => b < B) n x
  | 0, _, k => k
  | _ + 1, _, k => by
    obtain ⟨_, k1⟩ := k
    rcases k1 with k1 | ⟨b, o, e, hb, k1⟩
    · exact Or.inl k1
    · exact Or.inr ⟨b, o, e, hb, fun i y hy => in_offLow (k1 i y hy).2⟩
theorem tm_stays (n : Nat) : Stays (fun B w x => In B w n x) (fun P x => Off P n x) :=
  ⟨fun _ _ _ h k => k.mono h, fun _ _ _ _ h k => In.offB h k, fun _ _ _ _ _ h p k => In.off h p k, fun _ _ _ _ h k => k.mono h, fun _ _ _ k => in_offLow k⟩
theorem ac_stays (n : Nat) : Stays (AcIn n) (AcOff n) := by
  obtain ⟨t1, t2, t3, t4, t5⟩ := tm_stays n
  exact ⟨fun P Q x h k => ⟨t1 P Q _ h k.1, t1 P Q _ h k.2⟩, fun P B w x h k => ⟨t2 P B w _ h.1 k.2.1, t2 P B w _ h.2 k.2.2.1⟩,
    fun P B w w' x h p k => ⟨k.1, t3 P B w w' _ h p.1 k.2.1, t3 P B w w' _ h p.2 k.2.2.1, k.2.2.2⟩, fun B C w x h k => ⟨k.1, t4 B C w _ h k.2.1, t4 B C w _ h k.2.2.1, k.2.2.2⟩,
    fun B w x k => ⟨t5 B w _ k.2.1, t5 B w _ k.2.2.1⟩⟩
theorem lay_stays {α : Type} {I : Nat → World → α → Prop} {O : (Nat → Prop) → α → Prop} (h : Stays I O) (k : Nat) (f : α → List Value) (a : Option Addr) :
    Stays (fun B w l => Lay B w k f (I B w) a l) (fun P l => OffL (O P) P a l) := by
  obtain ⟨t1, t2, t3, t4, t5⟩ := h
  refine ⟨fun P Q x h k => ?_, fun P B w x h k => ?_, fun P B w w' x h p k => ?_, fun B C w x h k => ?_, fun B w x k => ?_⟩
  · rcases k with k | ⟨b, o, e, hb, k⟩
    · exact Or.inl k
    · exact Or.inr ⟨b, o, e, h b hb, fun y hy => t1 P Q y h (k y hy)⟩
  · rcases k with k | ⟨b, o, e, hb, k⟩
    · exact Or.inl k
    · rcases h with h | ⟨b', o', e', hb', h⟩
      · exact Or.inl h
      · rw [e] at e'
        simp at e'
        obtain ⟨rfl, rfl⟩ := e'
        refine Or.inr ⟨b, o, e, ⟨hb', hb⟩, fun y hy => ?_⟩
        obtain ⟨i, hi⟩ := List.getElem?_of_mem hy
        exact t2 P B w y (h y hy) (k i y hi).2
  · rcases k with k | ⟨b, o, e, hb, k⟩
    · exact Or.inl k
    · rcases p with p | ⟨b', o', e', hb', p⟩
      · exact Or.inl p
      · rw [e] at e'
        simp at e'
        obtain ⟨rfl, rfl⟩ := e'
        exact Or.inr ⟨b, o, e, hb, fun i y hy => ⟨fun j u hj => (block_cell (h b hb') _).trans ((k i y hy).1 j u hj), t3 P B w w' y h (p y (List.mem_of_getElem? hy)) (k i y hy).2⟩⟩
  · rcases k with k | ⟨b, o, e, hb, k⟩
    · exact Or.inl k
    · exact Or.inr ⟨b, o, e, by omega, fun i y hy => ⟨(k i y hy).1, t4 B C w y h (k i y hy).2⟩⟩
  · rcases k with k | ⟨b, o, e, hb, k⟩
    · exact Or.inl k
    · refine Or.inr ⟨b, o, e, hb, fun y hy => ?_⟩
      obtain ⟨i, hi⟩ := List.getElem?_of_mem hy
      exact t5 B w y (k i y hi).2
theorem cl_stays (n : Nat) : Stays (ClIn n) (ClOff n) := by
  obtain ⟨t1, t2, t3, t4, t5⟩ := tm_stays n
  have L := fun a => lay_stays (ac_stays n) 11 (ac11 n) a
  exact ⟨fun P Q x h k => ⟨⟨t1 P Q _ h k.1.1, t1 P Q _ h k.1.2.1, t1 P Q _ h k.1.2.2⟩, (L _).1 P Q _ h k.2⟩,
    fun P B w x h k => ⟨⟨t2 P B w _ h.1.1 k.1.1, t2 P B w _ h.1.2.1 k.1.2.1, t2 P B w _ h.1.2.2 k.1.2.2⟩, (L _).2.1 P B w _ h.2 k.2.2⟩,
    fun P B w w' x h p k => ⟨⟨t3 P B w w' _ h p.1.1 k.1.1, t3 P B w w' _ h p.1.2.1 k.1.2.1, t3 P B w w' _ h p.1.2.2 k.1.2.2⟩, k.2.1, (L _).2.2.1 P B w w' _ h p.2 k.2.2⟩,
    fun B C w x h k => ⟨⟨t4 B C w _ h k.1.1, t4 B C w _ h k.1.2.1, t4 B C w _ h k.1.2.2⟩, k.2.1, (L _).2.2.2.1 B C w _ h k.2.2⟩,
    fun B w x k => ⟨⟨t5 B w _ k.1.1, t5 B w _ k.1.2.1, t5 B w _ k.1.2.2⟩, (L _).2.2.2.2 B w _ k.2.2⟩⟩
theorem bh_stays (n : Nat) : Stays (BhIn n) (BhOff n) := by
  have L := fun a => lay_stays (cl_stays n) 13 (cl13 n) a
  exact ⟨fun P Q x h k => (L _).1 P Q _ h k, fun P B w x h k => (L _).2.1 P B w _ h k.2.2, fun P B w w' x h p k => ⟨k.1, k.2.1, (L _).2.2.1 P B w w' _ h p k.2.2⟩,
    fun B C w x h k => ⟨k.1, k.2.1, (L _).2.2.2.1 B C w _ h k.2.2⟩, fun B w x k => (L _).2.2.2.2 B w _ k.2.2⟩
/-- A program that lies in memory. -/
def PgIn (n : Nat) (B : Nat) (w : World) (a : Option Addr) (l : List (Bh n)) : Prop := Lay B w 2 (bh2 n) (BhIn n B w) a l
theorem Stays.below {α : Type} {I : Nat → World → α → Prop} {O : (Nat → Prop) → α → Prop} (h : Stays I O) {B : Nat} {w w' : World} (hb : Below B w w') {x : α} (k : I B w x) : I B w' x :=
  h.2.2.1 (fun b => b < B) B w w' x (fun b hb' => hb.block b hb') (h.2.2.2.2 B w x k) k
theorem Stays.mono {α : Type} {I : Nat → World → α → Prop} {O : (Nat → Prop) → α → Prop} (h : Stays I O) {B C : Nat} (hb : B ≤ C) {w : World} {x : α} (k : I B w x) : I C w x := h.2.2.2.1 B C w x hb k
theorem PgIn.below {n B : Nat} {w w' : World} {a : Option Addr} {l : List (Bh n)} (hb : Below B w w') (k : PgIn n B w a l) : PgIn n B w' a l := (lay_stays (bh_stays n) 2 (bh2 n) a).below hb k
theorem PgIn.mono {n B C : Nat} (h : B ≤ C) {w : World} {a : Option Addr} {l : List (Bh n)} (k : PgIn n B w a l) : PgIn n C w a l := (lay_stays (bh_stays n) 2 (bh2 n) a).mono h k

/-- A row of things that the call itself makes: xs, in the slice v, in blocks from base on; they lie in blocks below B, or from base on. -/
def Grow {α : Type} (I : Nat → World → α → Prop) (O : (Nat → Prop) → α → Prop) (f : α → List Value) (k : Nat) (T : TypeId) (B base : Nat) (xs : List α) (v : Value) (w0 wr : World) : Prop :=
  Below base w0 wr ∧ wr.ownsRow base T k v xs.length (xs.flatMap f) ∧ ∀ y ∈ xs, I wr.heap.size wr y ∧ O (fun b => (b < B ∨ base ≤ b) ∧ v.ownBlock ≠ some b) y
theorem Grow.nil {α : Type} {I : Nat → World → α → Prop} {O : (Nat → Prop) → α → Prop} {f : α → List Value} {k : Nat} {T : TypeId} {B base : Nat} (w : World) : Grow I O f k T B base [] (.slice none 0 0) w w :=
  ⟨Below.refl _ _, World.ownsRow_nil _ _ _ _, fun y hy => by cases hy⟩
theorem Grow.later {α : Type} {I : Nat → World → α → Prop} {O : (Nat → Prop) → α → Prop} (hS : Stays I O) {f : α → List Value} {k : Nat} {T : TypeId} {B base : Nat} {xs : List α} {v : Value} {w0 wr w1 : World} (h : Grow I O f k T B base xs v w0 wr) (hb : base ≤ wr.heap.size) (h1 : Below wr.heap.size wr w1) : Grow I O f k T B base xs v w0 w1 := by
  obtain ⟨k1, k2, k3⟩ := h
  exact ⟨k1.trans (h1.mono hb), own_below k2 h1, fun y hy => ⟨hS.mono h1.size (hS.below h1 (k3 y hy).1), (k3 y hy).2⟩⟩
theorem Grow.step {α : Type} {I : Nat → World → α → Prop} {O : (Nat → Prop) → α → Prop} (hS : Stays I O) {f : α → List Value} {k : Nat} {T : TypeId} {B base : Nat} {xs : List α} {v : Value} {w0 wr w1 w2 : World} (h : Grow I O f k T B base xs v w0 wr) (hB : B ≤ base) (hb : base ≤ wr.heap.size) (h1 : Below wr.heap.size wr w1)
    (X : α) (hX : I w1.heap.size w1 X) (hO : O (fun b => b < B ∨ wr.heap.size ≤ b) X) {g c : Nat}
    (hown : w2.ownsRow base T k (.slice (some ⟨g, 0, none⟩) (xs.length + 1) c) (xs.length + 1) (xs.flatMap f ++ f X)) (hg : w1.grownBy w2 v.ownBlock) (hat : v.ownBlock = some g ∨ g = w1.heap.size) :
    Grow I O f k T B base (xs ++ [X]) (.slice (some ⟨g, 0, none⟩) (xs.length + 1) c) w0 w2 := by
  obtain ⟨k1, k2, k3⟩ := h
  have hvown : ∀ b, v.ownBlock = some b → base ≤ b ∧ b < wr.heap.size := fun b e => k2.lt b e
  have hold : ∀ b, b < w1.heap.size → v.ownBlock ≠ some b → w2.heap[b]? = w1.heap[b]? := fun b hb hne => hg.block b hb (fun e => hne e.symm)
  have h1s := h1.size
  have hgs := hg.size
  refine ⟨⟨(hg.os.trans h1.os).trans k1.os, (hg.tape.trans h1.tape).trans k1.tape, (hg.output.trans h1.output).trans k1.output, by have := k1.size; omega, fun b hb' => ?_⟩, ?_, ?_⟩
  · exact (hold b (by omega) (fun e => by have := (hvown b e).1; omega)).trans ((h1.block b (by omega)).trans (k1.block b hb'))
  · have e1 : (xs ++ [X]).length = xs.length + 1 := by simp
    have e2 : (xs ++ [X]).flatMap f = xs.flatMap f ++ f X := by simp
    rw [e1, e2]
    exact hown
  · intro y hy
    rcases List.mem_append.1 hy with hy | hy
    · obtain ⟨j1, j2⟩ := k3 y hy
      have j3 := hS.2.1 _ _ _ _ j2 j1
      refine ⟨hS.mono hgs (hS.2.2.1 _ _ w1 w2 y (fun b hb' => hold b ?_ hb'.1.2) j3 (hS.mono h1s (hS.below h1 j1))), hS.1 _ _ y (fun b hb' => ⟨hb'.1.1, ?_⟩) j3⟩
      · have := hb'.2
        omega
      · simp only [Value.ownBlock]
        intro e
        injection e with e
        rcases hat with e2 | e2
        · exact hb'.1.2 (by rw [e2, e])
        · have := hb'.2
          omega
    · simp only [List.mem_singleton] at hy
      subst hy
      have j3 := hS.2.1 _ _ _ _ hO hX
      refine ⟨hS.mono hgs (hS.2.2.1 _ _ w1 w2 y (fun b hb' => hold b hb'.2 (fun e => ?_)) j3 hX), hS.1 _ _ y (fun b hb' => ⟨?_, ?_⟩) j3⟩
      · have := hvown b e
        have := hb'.1
        omega
      · have := hb'.1
        omega
      · simp only [Value.ownBlock]
        intro e
        injection e with e
        rcases hat with e2 | e2
        · have := hvown g e2
          have := hb'.1
          omega
        · have := hb'.2
          omega
/-- A row that a literal makes. -/
theorem Grow.lit {α : Type} {I : Nat → World → α → Prop} {O : (Nat → Prop) → α → Prop} (hS : Stays I O) {f : α → List Value} {k : Nat} {T : TypeId} {B base : Nat} (xs : List α) {w0 w1 : World} {cs : Array Value} (hcs : cs.toList = xs.flatMap f) (hk : ∀ x, (f x).length = k) (hm : xs.length ≤ maxLen) (hb : base ≤ w1.heap.size) (h1 : Below base w0 w1)
    (hX : ∀ y ∈ xs, I w1.heap.size w1 y ∧ O (fun b => b < B ∨ base ≤ b) y) :
    Grow I O f k T B base xs (.slice (some ⟨w1.heap.size, 0, none⟩) xs.length xs.length) w0 (w1.alloc (.cells cs T)) := by
  have hal : Below w1.heap.size w1 (w1.alloc (.cells cs T)) := (Below.refl _ _).alloc (Nat.le_refl _) _
  have hl : (xs.flatMap f).length = xs.length * k := by
    clear hcs hX hm
    induction xs with
    | nil => simp
    | cons x xs ih => rw [List.flatMap_cons, List.length_append, ih, hk, List.length_cons, Nat.succ_mul]; omega
  have hcz : cs.size = xs.length * k := by rw [← hl, ← hcs]; simp
  refine ⟨h1.trans (hal.mono hb), ⟨by rw [hl], Or.inr ⟨w1.heap.size, xs.length, cs, rfl, hb, heap_alloc_new w1 _, Nat.le_refl _, hm, by omega, ?_⟩⟩, fun y hy => ⟨hS.mono hal.size (hS.below hal (hX y hy).1), ?_⟩⟩
  · rw [hcs, List.take_of_length_le (by omega)]
  · refine hS.1 _ _ y (fun b hb' => ⟨hb'.1, ?_⟩) (hS.2.1 _ _ _ _ (hX y hy).2 (hX y hy).1)
    simp only [Value.ownBlock]
    intro e
    injection e with e
    have := hb'.2
    omega
/-- What has grown lies there. -/
theorem Grow.lay {α : Type} {I : Nat → World → α → Prop} {O : (Nat → Prop) → α → Prop} (hS : Stays I O) {f : α → List Value} {k : Nat} {T : TypeId} {B base : Nat} {xs : List α} {v : Value} {w0 wr : World} (hk : ∀ x, (f x).length = k) (h : Grow I O f k T B base xs v w0 wr) :
    ∃ a c, v = .slice a xs.length c ∧ (xs.length ≤ c ∧ c ≤ maxLen) ∧ Lay wr.heap.size wr k f (I wr.heap.size wr) a xs ∧ OffL (O (fun b => b < B ∨ base ≤ b)) (fun b => b < B ∨ base ≤ b) a xs := by
  obtain ⟨k1, k2, k3⟩ := h
  rcases k2.2 with ⟨e, h0⟩ | ⟨g, cap, cur, e, hgb, hh, hc, hm, hz, he⟩
  · have hx0 : xs = [] := List.eq_nil_of_length_eq_zero (by omega)
    subst hx0
    exact ⟨none, 0, e, ⟨Nat.le_refl _, Nat.zero_le _⟩, Or.inl rfl, Or.inl rfl⟩
  · refine ⟨some ⟨g, 0, none⟩, cap, e, ⟨hc, hm⟩, Or.inr ⟨g, 0, rfl, (Array.getElem?_eq_some_iff.1 hh).1, fun i y hy => ⟨fun j u hj => ?_, (k3 y (List.mem_of_getElem? hy)).1⟩⟩, Or.inr ⟨g, 0, rfl, Or.inr hgb, fun y hy => hS.1 _ _ y (fun b hb => hb.1) (k3 y hy).2⟩⟩
    have hat : ∀ (l : List α) (i j : Nat) (y : α) (u : Value), l[i]? = some y → (f y)[j]? = some u → (l.flatMap f)[i * k + j]? = some u := by
      intro l
      induction l with
      | nil => intro i j y u h; simp at h
      | cons x l ih =>
        intro i j y u h hj
        rw [List.flatMap_cons]
        cases i with
        | zero =>
          simp at h
          subst h
          rw [List.getElem?_append_left (by have := (List.getElem?_eq_some_iff.1 hj).1; omega)]
          simpa using hj
        | succ i =>
          rw [List.getElem?_append_right (by rw [hk, Nat.succ_mul]; omega), hk, Nat.succ_mul, show i * k + k + j - k = i * k + j by omega]
          exact ih i j y u (by simpa using h) hj
    have h1 := hat xs i j y u hy hj
    have hlt := (List.getElem?_eq_some_iff.1 h1).1
    rw [← he] at h1
    rw [List.getElem?_take] at h1
    split at h1
    · rw [Nat.zero_add]
      simp only [World.cell?, hh]
      rw [Array.getElem?_toList] at h1
      simpa using h1
    · cases h1
end Go.Proofs.Ytbmjfnicfpdjfaa
namespace Go.Proofs.Ytbmjfnicfpdjfaa
open Go.RowKit

def wCode : ByteArray := ⟨#[99, 111, 100, 101]⟩
def wBeh : ByteArray := ⟨#[98, 101, 104]⟩
def wOn : ByteArray := ⟨#[111, 110]⟩
def wSend : ByteArray := ⟨#[115, 101, 110, 100]⟩
def wSpawn : ByteArray := ⟨#[115, 112, 97, 119, 110]⟩
def wLink : ByteArray := ⟨#[108, 105, 110, 107]⟩
def wStop : ByteArray := ⟨#[115, 116, 111, 112]⟩

def nothingT (n : Nat) (x : Tm n) : Bool := (hdT n x).1.1 == 0 && (hdT n x).1.2.1 == 0 && (hdT n x).1.2.2.toList.isEmpty && ((hdT n x).2.2.1 : Int) == 0
def noSp (s : ByteArray) (v : Int) : Bool := s.toList.isEmpty && v == 0
def actB (n : Nat) (a : Ac n) : Bool :=
  if a.1 = 1 then noSp a.2.2.1 a.2.2.2
  else if a.1 = 2 then nothingT n a.2.1.1 && nameB a.2.2.1 && decide (0 ≤ a.2.2.2) && decide (a.2.2.2 < 4)
  else if a.1 = 3 then nothingT n a.2.1.2 && noSp a.2.2.1 a.2.2.2
  else if a.1 = 4 then nothingT n a.2.1.1 && nothingT n a.2.1.2 && noSp a.2.2.1 a.2.2.2
  else false
def clB (n : Nat) (c : Cl n) : Bool := decide ((c.2.2.length : Int) ≤ 8) && c.2.2.all (actB n)
def bhB (n : Nat) (b : Bh n) : Bool := nameB b.1 && decide (1 ≤ (b.2.2.length : Int)) && decide ((b.2.2.length : Int) ≤ 6) && b.2.2.all (clB n)
def pgB (n : Nat) (l : List (Bh n)) : Bool := decide (1 ≤ (l.length : Int)) && decide ((l.length : Int) ≤ 7) && l.all (bhB n)

def atomV (s : ByteArray) (N : Nat) : Tm (N + 1) := ((2, 0, s), (none, 0), [])
def tellA (n : Nat) (a : Ac (n + 1)) : Tm (n + 2) :=
  if a.1 = 1 then tupV (n + 1) [atomV wSend n, a.2.1.1, a.2.1.2]
  else if a.1 = 2 then tupV (n + 1) [atomV wSpawn n, atomV a.2.2.1 n, a.2.1.2, leafV 5 a.2.2.2 n]
  else if a.1 = 3 then tupV (n + 1) [atomV wLink n, a.2.1.1]
  else tupV (n + 1) [atomV wStop n]
def tellC (n : Nat) (c : Cl (n + 1)) : Tm (n + 4) :=
  tupV (n + 3) [atomV wOn (n + 2), lift (n + 3) (n + 1) c.1.1, lift (n + 3) (n + 1) c.1.2.1, tupV (n + 2) (c.2.2.map (tellA n)), lift (n + 3) (n + 1) c.1.2.2]
def tellB (n : Nat) (b : Bh (n + 1)) : Tm (n + 5) := tupV (n + 4) (atomV wBeh (n + 3) :: atomV b.1 (n + 3) :: b.2.2.map (tellC n))
def tellP (n : Nat) (l : List (Bh (n + 1))) : Tm (n + 6) := tupV (n + 5) (atomV wCode (n + 4) :: l.map (tellB n))

/-- Two lists, place by place. -/
def RelL {α β : Type} (R : α → β → Prop) (l : List α) (r : List β) : Prop := l.length = r.length ∧ ∀ (i : Nat) (x : α) (y : β), l[i]? = some x → r[i]? = some y → R x y
theorem RelL.nil {α β : Type} {R : α → β → Prop} : RelL R [] [] := ⟨rfl, fun i x y h => by simp at h⟩
theorem RelL.snoc {α β : Type} {R : α → β → Prop} {l : List α} {r : List β} (h : RelL R l r) {x : α} {y : β} (k : R x y) : RelL R (l ++ [x]) (r ++ [y]) := by
  refine ⟨by simp [h.1], fun i a b ha hb => ?_⟩
  by_cases hi : i < l.length
  · rw [List.getElem?_append_left hi] at ha
    rw [List.getElem?_append_left (by rw [← h.1]; exact hi)] at hb
    exact h.2 i a b ha hb
  · rw [List.getElem?_append_right (by omega)] at ha
    rw [List.getElem?_append_right (by rw [← h.1]; omega)] at hb
    have h0 : i - l.length = 0 := by
      by_cases h0 : i - l.length = 0
      · exact h0
      · rw [List.getElem?_eq_none (by simp; omega)] at ha; cases ha
    rw [← h.1, h0] at hb
    rw [h0] at ha
    simp at ha hb
    rw [← ha, ← hb]
    exact k
theorem RelL.tail {α β : Type} {R : α → β → Prop} {x : α} {y : β} {l : List α} {r : List β} (h : RelL R (x :: l) (y :: r)) : R x y ∧ RelL R l r :=
  ⟨h.2 0 x y (by simp) (by simp), by simpa using h.1, fun i a b ha hb => h.2 (i + 1) a b (by simpa using ha) (by simpa using hb)⟩
theorem RelL.all {α β : Type} {R : α → β → Prop} (f : α → Bool) (g : β → Bool) (hf : ∀ x y, R x y → f x = g y) : (l : List α) → (r : List β) → RelL R l r → l.all f = r.all g
  | [], [], _ => rfl
  | [], _ :: _, h => by have := h.1; simp at this
  | _ :: _, [], h => by have := h.1; simp at this
  | x :: l, y :: r, h => by
    simp only [List.all_cons, hf x y h.tail.1, RelL.all f g hf l r h.tail.2]
theorem RelL.same {α β : Type} {R : α → β → Prop} {n m : Nat} (f : α → Tm n) (g : β → Tm m) (hf : ∀ x y, R x y → same n (f x) m (g y) = true) : (l : List α) → (r : List β) → RelL R l r → sameL (fun a b => same n a m b) (l.map f) (r.map g) = true
  | [], [], _ => rfl
  | [], _ :: _, h => by have := h.1; simp at this
  | _ :: _, [], h => by have := h.1; simp at this
  | x :: l, y :: r, h => by
    simp only [List.map_cons, sameL, Bool.and_eq_true]
    exact ⟨hf x y h.tail.1, RelL.same f g hf l r h.tail.2⟩
theorem RelL.symm {α β : Type} {R : α → β → Prop} {S : β → α → Prop} (hf : ∀ x y, R x y → S y x) {l : List α} {r : List β} (h : RelL R l r) : RelL S r l := ⟨h.1.symm, fun i x y hx hy => hf y x (h.2 i y x hy hx)⟩
theorem RelL.trans {α β γ : Type} {R : α → β → Prop} {S : β → γ → Prop} {T : α → γ → Prop} (hf : ∀ x y z, R x y → S y z → T x z) {l : List α} {r : List β} {q : List γ} (h : RelL R l r) (k : RelL S r q) : RelL T l q := by
  refine ⟨h.1.trans k.1, fun i x z hx hz => ?_⟩
  have hi : i < r.length := by have := (List.getElem?_eq_some_iff.1 hz).1; rw [k.1]; exact this
  exact hf x r[i] z (h.2 i x _ hx (List.getElem?_eq_getElem hi)) (k.2 i _ z (List.getElem?_eq_getElem hi) hz)

def acS (n : Nat) (a b : Ac n) : Prop := a.1 = b.1 ∧ same n a.2.1.1 n b.2.1.1 = true ∧ same n a.2.1.2 n b.2.1.2 = true ∧ a.2.2 = b.2.2
def clS (n : Nat) (a b : Cl n) : Prop := (same n a.1.1 n b.1.1 = true ∧ same n a.1.2.1 n b.1.2.1 = true ∧ same n a.1.2.2 n b.1.2.2 = true) ∧ RelL (acS n) a.2.2 b.2.2
def bhS (n : Nat) (a b : Bh n) : Prop := a.1 = b.1 ∧ RelL (clS n) a.2.2 b.2.2
theorem acS_symm {n : Nat} {a b : Ac n} (h : acS n a b) : acS n b a := ⟨h.1.symm, same_symm _ _ _ _ h.2.1, same_symm _ _ _ _ h.2.2.1, h.2.2.2.symm⟩
theorem clS_symm {n : Nat} {a b : Cl n} (h : clS n a b) : clS n b a := ⟨⟨same_symm _ _ _ _ h.1.1, same_symm _ _ _ _ h.1.2.1, same_symm _ _ _ _ h.1.2.2⟩, h.2.symm (fun _ _ h => acS_symm h)⟩
theorem bhS_symm {n : Nat} {a b : Bh n} (h : bhS n a b) : bhS n b a := ⟨h.1.symm, h.2.symm (fun _ _ h => clS_symm h)⟩
theorem acS_trans {n : Nat} {a b c : Ac n} (h : acS n a b) (k : acS n b c) : acS n a c := ⟨h.1.trans k.1, same_trans _ _ _ _ _ _ h.2.1 k.2.1, same_trans _ _ _ _ _ _ h.2.2.1 k.2.2.1, h.2.2.2.trans k.2.2.2⟩
theorem clS_trans {n : Nat} {a b c : Cl n} (h : clS n a b) (k : clS n b c) : clS n a c := ⟨⟨same_trans _ _ _ _ _ _ h.1.1 k.1.1, same_trans _ _ _ _ _ _ h.1.2.1 k.1.2.1, same_trans _ _ _ _ _ _ h.1.2.2 k.1.2.2⟩, RelL.trans (R := acS n) (S := acS n) (T := acS n) (fun _ _ _ h k => acS_trans h k) h.2 k.2⟩
theorem bhS_trans {n : Nat} {a b c : Bh n} (h : bhS n a b) (k : bhS n b c) : bhS n a c := ⟨h.1.trans k.1, RelL.trans (R := clS n) (S := clS n) (T := clS n) (fun _ _ _ h k => clS_trans h k) h.2 k.2⟩

theorem same_hd {n m : Nat} {x : Tm n} {y : Tm m} (h : same n x m y = true) : (hdT n x).1 = (hdT m y).1 ∧ (hdT n x).2.2.1 = (hdT m y).2.2.1 := by
  cases n with
  | zero => simp [same] at h
  | succ n =>
    cases m with
    | zero => simp [same] at h
    | succ m =>
      have h1 := same_parts h
      have h2 := sameL_length _ _ _ h1.2
      simp only [hdT, hdOf]
      exact ⟨h1.1, h2⟩
theorem same_nothing {n m : Nat} {x : Tm n} {y : Tm m} (h : same n x m y = true) : nothingT n x = nothingT m y := by
  have h1 := same_hd h
  simp only [nothingT, h1.1, h1.2]
theorem acS_B {n : Nat} {a b : Ac n} (h : acS n a b) : actB n a = actB n b := by
  obtain ⟨h1, h2, h3, h4⟩ := h
  simp only [actB, h1, h4, same_nothing h2, same_nothing h3]
theorem clS_B {n : Nat} {a b : Cl n} (h : clS n a b) : clB n a = clB n b := by
  simp only [clB, h.2.1, RelL.all (R := acS n) (actB n) (actB n) (fun _ _ h => acS_B h) _ _ h.2]
theorem bhS_B {n : Nat} {a b : Bh n} (h : bhS n a b) : bhB n a = bhB n b := by
  simp only [bhB, h.1, h.2.1, RelL.all (R := clS n) (clB n) (clB n) (fun _ _ h => clS_B h) _ _ h.2]
theorem pgS_B {n : Nat} {l r : List (Bh n)} (h : RelL (bhS n) l r) : pgB n l = pgB n r := by
  simp only [pgB, h.1, RelL.all (R := bhS n) (bhB n) (bhB n) (fun _ _ h => bhS_B h) _ _ h]

theorem atomV_same (s : ByteArray) (N M : Nat) : same (N + 1) (atomV s N) (M + 1) (atomV s M) = true := same_mk rfl rfl
theorem leafV_same (k u : Int) (N M : Nat) : same (N + 1) (leafV k u N) (M + 1) (leafV k u M) = true := same_mk rfl rfl
theorem tupV_same {N M : Nat} {l : List (Tm N)} {r : List (Tm M)} (h : sameL (fun a b => same N a M b) l r = true) : same (N + 1) (tupV N l) (M + 1) (tupV M r) = true := same_mk rfl h
theorem lift_self : (N n : Nat) → n ≤ N → (x : Tm n) → same n x n x = true → same N (lift N n x) n x = true
  | _, 0, _, _, h => by simp [same] at h
  | 0, n + 1, h, _, _ => by omega
  | N + 1, n + 1, h, x, hr => by
    have h1 := (same_parts hr).2
    refine same_mk rfl (sameL_mapl _ _ _ fun y hy => lift_self N n (by omega) y ?_)
    obtain ⟨i, hi⟩ := List.getElem?_of_mem hy
    exact sameL_at _ _ _ h1 i y y hi hi
theorem same_left {n m : Nat} {x : Tm n} {y : Tm m} (h : same n x m y = true) : same n x n x = true := same_trans _ _ _ _ _ _ h (same_symm _ _ _ _ h)
theorem same_right {n m : Nat} {x : Tm n} {y : Tm m} (h : same n x m y = true) : same m y m y = true := same_trans _ _ _ _ _ _ (same_symm _ _ _ _ h) h
theorem lift_both {N n m : Nat} (hn : n ≤ N) (hm : m ≤ N) {x : Tm n} {y : Tm m} (h : same n x m y = true) : same N (lift N n x) N (lift N m y) = true :=
  same_trans _ _ _ _ _ _ (lift_self N n hn x (same_left h)) (same_trans _ _ _ _ _ _ h (same_symm _ _ _ _ (lift_self N m hm y (same_right h))))
theorem in_self {B : Nat} {w : World} : {n : Nat} → {x : Tm n} → In B w n x → same n x n x = true
  | 0, _, k => k.elim
  | n + 1, x, k => by
    refine same_mk rfl (sameL_self _ _ fun y hy => ?_)
    obtain ⟨i, hi⟩ := List.getElem?_of_mem hy
    rcases k.2 with e | ⟨b, o, _, _, k2⟩
    · rw [e] at hy; cases hy
    · exact in_self (k2 i y hi).2
theorem sameL_two {α β : Type} {f : α → β → Bool} {a b : α} {c d : β} (h1 : f a c = true) (h2 : f b d = true) : sameL f [a, b] [c, d] = true := by simp [sameL, h1, h2]
theorem acS_tell {n : Nat} {a b : Ac (n + 1)} (h : acS (n + 1) a b) : same (n + 2) (tellA n a) (n + 2) (tellA n b) = true := by
  obtain ⟨h1, h2, h3, h4⟩ := h
  unfold tellA
  rw [h1, h4]
  split
  · exact tupV_same (by simp [sameL, atomV_same, h2, h3])
  split
  · exact tupV_same (by simp [sameL, atomV_same, leafV_same, h3])
  split
  · exact tupV_same (by simp [sameL, atomV_same, h2])
  · exact tupV_same (by simp [sameL, atomV_same])
theorem clS_tell {n : Nat} {a b : Cl (n + 1)} (h : clS (n + 1) a b) : same (n + 4) (tellC n a) (n + 4) (tellC n b) = true := by
  have e := RelL.same (tellA n) (tellA n) (fun _ _ h => acS_tell h) _ _ h.2
  exact tupV_same (by simp only [sameL, Bool.and_eq_true]; exact ⟨atomV_same _ _ _, lift_both (by omega) (by omega) h.1.1, lift_both (by omega) (by omega) h.1.2.1, tupV_same e, lift_both (by omega) (by omega) h.1.2.2, trivial⟩)
theorem bhS_tell {n : Nat} {a b : Bh (n + 1)} (h : bhS (n + 1) a b) : same (n + 5) (tellB n a) (n + 5) (tellB n b) = true := by
  have e := RelL.same (tellC n) (tellC n) (fun _ _ h => clS_tell h) _ _ h.2
  refine tupV_same ?_
  simp only [sameL, Bool.and_eq_true]
  exact ⟨atomV_same _ _ _, by rw [h.1]; exact atomV_same _ _ _, e⟩
theorem pgS_tell {n : Nat} {l r : List (Bh (n + 1))} (h : RelL (bhS (n + 1)) l r) : same (n + 6) (tellP n l) (n + 6) (tellP n r) = true := by
  have e := RelL.same (tellB n) (tellB n) (fun _ _ h => bhS_tell h) _ _ h
  refine tupV_same ?_
  simp only [sameL, Bool.and_eq_true]
  exact ⟨atomV_same _ _ _, e⟩
end Go.Proofs.Ytbmjfnicfpdjfaa
namespace Go.Proofs.Ytbmjfnicfpdjfaa
open Go.RowKit

theorem isNothing_any (k u : Int) (s : ByteArray) (a : Option Addr) (l c : Nat) (w : World) :
    Calls Try.prog 94 #[.agg #[.int .i64 k, .int .i64 u, .string s, .slice a l c]] w fun e w' => e = .returned (.bool (k == 0 && u == 0 && s.toList.isEmpty && (l : Int) == 0)) ∧ w' = w.alloc (.cells #[.int .i64 k, .int .i64 u, .string s, .slice a l c] 25) := by
  cases h1 : k == 0
  · go_enter Try.func94, Try.ntmps94
    go_wp2_with fail
    go_ret
    exact ⟨rfl, rfl⟩
  cases h2 : u == 0
  · go_enter Try.func94, Try.ntmps94
    go_wp2_with fail
    go_ret
    exact ⟨rfl, rfl⟩
  cases h3 : s.toList.isEmpty
  · go_enter Try.func94, Try.ntmps94
    go_wp2_with fail
    go_ret
    exact ⟨rfl, rfl⟩
  go_enter Try.func94, Try.ntmps94
  go_wp2_with fail
  go_ret
  exact ⟨rfl, rfl⟩

theorem spawns_any (K t0 t1 x0 x1 v : Int) (t2 x2 s : ByteArray) (t3 x3 : Option Addr) (t4 t5 x4 x5 : Nat) (w : World) :
    Calls Try.prog 93 #[.agg #[.int .i64 K, .int .i64 t0, .int .i64 t1, .string t2, .slice t3 t4 t5, .int .i64 x0, .int .i64 x1, .string x2, .slice x3 x4 x5, .string s, .int .i64 v]] w fun e w' => e = .returned (.bool (noSp s v)) ∧ w' = w.alloc (.cells #[.int .i64 K, .int .i64 t0, .int .i64 t1, .string t2, .slice t3 t4 t5, .int .i64 x0, .int .i64 x1, .string x2, .slice x3 x4 x5, .string s, .int .i64 v] 91) := by
  unfold noSp
  cases h3 : s.toList.isEmpty
  · go_enter Try.func93, Try.ntmps93
    go_wp2_with fail
    go_ret
    exact ⟨rfl, rfl⟩
  go_enter Try.func93, Try.ntmps93
  go_wp2_with fail
  go_ret
  exact ⟨rfl, rfl⟩

set_option maxHeartbeats 1000000 in
set_option maxRecDepth 100000 in
theorem isAct_walk (K t0 t1 x0 x1 v : Int) (t2 x2 s : ByteArray) (t3 x3 : Option Addr) (t4 t5 x4 x5 : Nat) (w : World) (hs : s.size ≤ 9223372036854775807) (r1 r2 r3 r4 : Bool)
    (h1 : Hid ((t0 == 0 && t1 == 0 && t2.toList.isEmpty && (t4 : Int) == 0) = r1)) (h2 : Hid ((x0 == 0 && x1 == 0 && x2.toList.isEmpty && (x4 : Int) == 0) = r2)) (h3 : Hid (noSp s v = r3)) (h4 : Hid (nameB s = r4)) :
    Calls Try.prog 85 #[.agg #[.int .i64 K, .int .i64 t0, .int .i64 t1, .string t2, .slice t3 t4 t5, .int .i64 x0, .int .i64 x1, .string x2, .slice x3 x4 x5, .string s, .int .i64 v]] w fun e w' => e = .returned (.bool (if K = 1 then r3 else if K = 2 then r1 && r4 && decide (0 ≤ v) && decide (v < 4) else if K = 3 then r2 && r3 else if K = 4 then r1 && r2 && r3 else false)) ∧ Below w.heap.size w w' := by
  by_cases k1 : K = 1
  · subst k1
    rw [if_pos rfl]
    go_enter Try.func85, Try.ntmps85
    go_wp2_with (go_at_call 93; refine (spawns_any _ _ _ _ _ _ _ _ _ _ _ _ _ _ _ _).mono ?_; rintro e w' ⟨rfl, rfl⟩; rw [h3.out])
    go_ret
    exact ⟨rfl, by go_grown⟩
  rw [if_neg k1]
  by_cases k2 : K = 2
  · subst k2
    rw [if_pos rfl]
    clear h2 h3 k1
    cases r1
    · go_enter Try.func85, Try.ntmps85
      go_wp2_with (go_at_call 94; refine (isNothing_any _ _ _ _ _ _ _).mono ?_; rintro e w' ⟨rfl, rfl⟩; rw [h1.out])
      go_ret
      exact ⟨rfl, by go_grown⟩
    cases r4
    · go_enter Try.func85, Try.ntmps85
      go_wp2_with (first | (go_at_call 94; refine (isNothing_any _ _ _ _ _ _ _).mono ?_; rintro e w' ⟨rfl, rfl⟩; rw [h1.out]) | (go_at_call 19; refine (isName_any _ _ hs).mono ?_; rintro e w' ⟨rfl, rfl⟩; rw [h4.out]))
      go_ret
      exact ⟨rfl, by go_grown⟩
    cases hv : decide (0 ≤ v)
    · go_enter Try.func85, Try.ntmps85
      go_wp2_with (first | (go_at_call 94; refine (isNothing_any _ _ _ _ _ _ _).mono ?_; rintro e w' ⟨rfl, rfl⟩; rw [h1.out]) | (go_at_call 19; refine (isName_any _ _ hs).mono ?_; rintro e w' ⟨rfl, rfl⟩; rw [h4.out]))
      go_ret
      exact ⟨rfl, by go_grown⟩
    · go_enter Try.func85, Try.ntmps85
      go_wp2_with (first | (go_at_call 94; refine (isNothing_any _ _ _ _ _ _ _).mono ?_; rintro e w' ⟨rfl, rfl⟩; rw [h1.out]) | (go_at_call 19; refine (isName_any _ _ hs).mono ?_; rintro e w' ⟨rfl, rfl⟩; rw [h4.out]))
      go_ret
      exact ⟨rfl, by go_grown⟩
  rw [if_neg k2]
  by_cases k3 : K = 3
  · subst k3
    rw [if_pos rfl]
    clear h1 h4 k1 k2
    cases r2
    · go_enter Try.func85, Try.ntmps85
      go_wp2_with (go_at_call 94; refine (isNothing_any _ _ _ _ _ _ _).mono ?_; rintro e w' ⟨rfl, rfl⟩; rw [h2.out])
      go_ret
      exact ⟨rfl, by go_grown⟩
    · go_enter Try.func85, Try.ntmps85
      go_wp2_with (first | (go_at_call 94; refine (isNothing_any _ _ _ _ _ _ _).mono ?_; rintro e w' ⟨rfl, rfl⟩; rw [h2.out]) | (go_at_call 93; refine (spawns_any _ _ _ _ _ _ _ _ _ _ _ _ _ _ _ _).mono ?_; rintro e w' ⟨rfl, rfl⟩; rw [h3.out]))
      go_ret
      exact ⟨rfl, by go_grown⟩
  rw [if_neg k3]
  by_cases k4 : K = 4
  · subst k4
    rw [if_pos rfl]
    clear h4 k1 k2 k3
    cases r1
    · go_enter Try.func85, Try.ntmps85
      go_wp2_with (go_at_call 94; refine (isNothing_any _ _ _ _ _ _ _).mono ?_; rintro e w' ⟨rfl, rfl⟩; rw [h1.out])
      go_ret
      exact ⟨rfl, by go_grown⟩
    cases r2
    · go_enter Try.func85, Try.ntmps85
      go_wp2_with (go_at_call 94; refine (isNothing_any _ _ _ _ _ _ _).mono ?_; rintro e w' ⟨rfl, rfl⟩; first | rw [h1.out] | rw [h2.out])
      go_ret
      exact ⟨rfl, by go_grown⟩
    · go_enter Try.func85, Try.ntmps85
      go_wp2_with (first | (go_at_call 94; refine (isNothing_any _ _ _ _ _ _ _).mono ?_; rintro e w' ⟨rfl, rfl⟩; first | rw [h1.out] | rw [h2.out]) | (go_at_call 93; refine (spawns_any _ _ _ _ _ _ _ _ _ _ _ _ _ _ _ _).mono ?_; rintro e w' ⟨rfl, rfl⟩; rw [h3.out]))
      go_ret
      exact ⟨rfl, by go_grown⟩
  rw [if_neg k4]
  have e1 : (K == 1) = false := by simpa using k1
  have e2 : (K == 2) = false := by simpa using k2
  have e3 : (K == 3) = false := by simpa using k3
  have e4 : (K == 4) = false := by simpa using k4
  clear k1 k2 k3 k4
  go_enter Try.func85, Try.ntmps85
  go_wp2_with fail
  go_ret
  exact ⟨rfl, by go_grown⟩

theorem isAct_any (n : Nat) (a : Ac (n + 1)) (w : World) (hs : a.2.2.1.size ≤ maxLen) :
    Calls Try.prog 85 #[.agg (ac11 (n + 1) a).toArray] w fun e w' => e = .returned (.bool (actB (n + 1) a)) ∧ Below w.heap.size w w' := by
  unfold maxLen at hs
  exact isAct_walk a.1 _ _ _ _ _ _ _ _ _ _ _ _ _ _ w (by omega) _ _ _ _ rfl rfl rfl rfl
end Go.Proofs.Ytbmjfnicfpdjfaa
