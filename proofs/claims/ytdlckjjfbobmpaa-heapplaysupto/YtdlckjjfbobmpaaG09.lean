/- What is proved here: plain facts and contracts that the claimed theorem stands on, several texts in one: plain facts on what is reckoned: the value of a term by what its variables are bound to (vl), how large it is, that it is closed, and that terms that are the same are as large. No condition. whatever reads as a list of calls on a heap is a list of them that lies in memory, no larger than the reading's bulk. No condition. plain facts on how a heap lies in memory: its box, the row of its words, the row of its names, and the map from a name to its number; what keeps them. No condition. heap.names' number: the name's number if it has one, else the next one, which it has from then on. Condition: at most 100000 names. -/
import Derived.Test.YtdlckjjfbobmpaaG06
import Derived.Test.YtdlckjjfbobmpaaG08
import Derived.Test.YtdlckjjfbobmpaaG01
import Derived.Maps.OwnSet
import Derived.Deep.AppendLies
import Derived.WalkSpells
import Derived.StringKeys
namespace Go.Proofs.Ytdlckjjfbobmpaa
open Go.RowKit

def wSelf : ByteArray := ⟨#[115, 101, 108, 102]⟩
def wAdd : ByteArray := ⟨#[97, 100, 100]⟩
def wPut : ByteArray := ⟨#[112, 117, 116]⟩
def numA (N : Nat) (x : Tm N) : Int := (hdT N x).1.2.1

/-- A tuple's parts: the atom of that name, and k others. -/
def isW (n : Nat) (p : List (Tm n)) (s : ByteArray) (k : Nat) : Bool :=
  decide (p.length = 1 + k) && match p[0]? with
    | some y => kindA ⟨n, y⟩ == 2 && (hdT n y).1.2.2.toList == s.toList
    | none => false
def allV {α β : Type} (f : α → Option β) : List α → Option (List β)
  | [] => some []
  | a :: p => (f a).bind fun b => (allV f p).map fun l => b :: l
def leafV (k u : Int) (N : Nat) : Tm (N + 1) := ((k, u, .empty), (none, 0), [])
def sumB (N : Nat) (a c : Tm N) : Bool := kindA ⟨N, a⟩ == 1 && kindA ⟨N, c⟩ == 1 && inB (numA N a + numA N c) (-1099511627776) 1099511627776
def sumV (N : Nat) (a c : Tm N) : Option (Tm (N + 1)) := if sumB N a c then some (leafV 1 (numA N a + numA N c) N) else none
def tupV (N : Nat) (l : List (Tm N)) : Tm (N + 1) := ((4, 0, .empty), (none, 0), l)

/-- The value of a term. -/
def vl (m : Nat) (b : List (Tm m)) (self : Int) : (n : Nat) → Tm n → Option (Tm (m + n))
  | 0, _ => none
  | n + 1, x =>
    if x.1.1 = 5 then (b[x.1.2.1.toNat]?).bind fun y => if kindA ⟨m, y⟩ = 6 then none else some (lift (m + n + 1) m y)
    else if x.1.1 = 6 then none
    else if x.1.1 = 4 then
      if isW n x.2.2 wSelf 0 then some (leafV 3 self (m + n))
      else if isW n x.2.2 wAdd 2 then
        (x.2.2[1]?).bind fun a => (x.2.2[2]?).bind fun c => (vl m b self n a).bind fun a => (vl m b self n c).bind fun c => sumV (m + n) a c
      else if isW n x.2.2 wPut 1 then
        (x.2.2[1]?).bind fun a => if closedT n a then some (lift (m + n + 1) n a) else none
      else (allV (fun y => vl m b self n y) x.2.2).map (tupV (m + n))
    else some (lift (m + n + 1) (n + 1) x)

theorem allV_len {α β : Type} (f : α → Option β) : (p : List α) → (l : List β) → allV f p = some l → l.length = p.length ∧ ∀ (i : Nat) (a : α) (y : β), p[i]? = some a → l[i]? = some y → f a = some y
  | [], l, h => by simp [allV] at h; subst h; exact ⟨rfl, fun i a y hi => by simp at hi⟩
  | a :: p, l, h => by
    simp only [allV] at h
    obtain ⟨y, hy, h⟩ := Option.bind_eq_some_iff.1 h
    obtain ⟨r, hr, rfl⟩ := Option.map_eq_some_iff.1 h
    obtain ⟨h1, h2⟩ := allV_len f p r hr
    refine ⟨by simp [h1], fun i a' y' hi hj => ?_⟩
    cases i with
    | zero =>
      simp at hi hj
      subst hi hj
      exact hy
    | succ i => exact h2 i a' y' (by simpa using hi) (by simpa using hj)
theorem allV_none {α β : Type} (f : α → Option β) : (p : List α) → (i : Nat) → (a : α) → p[i]? = some a → f a = none → allV f p = none
  | [], i, a, h, _ => by simp at h
  | b :: p, 0, a, h, k => by
    simp at h
    subst h
    simp [allV, k]
  | b :: p, i + 1, a, h, k => by
    simp only [allV]
    rw [allV_none f p i a (by simpa using h) k]
    simp
theorem allV_some {α β : Type} (f : α → Option β) (g : α → β) : (p : List α) → (∀ a ∈ p, f a = some (g a)) → allV f p = some (p.map g)
  | [], _ => rfl
  | a :: p, h => by simp [allV, h a (by simp), allV_some f g p fun x hx => h x (List.mem_cons_of_mem _ hx)]

theorem flat_le {α β γ : Type} (f : α → List γ) (g : β → List γ) (K : Nat) : (p : List α) → (l : List β) → l.length = p.length → (∀ (i : Nat) (a : α) (y : β), p[i]? = some a → l[i]? = some y → (g y).length ≤ K * (f a).length) → (l.flatMap g).length ≤ K * (p.flatMap f).length
  | [], [], _, _ => by simp
  | [], _ :: _, h, _ => by simp at h
  | _ :: _, [], h, _ => by simp at h
  | a :: p, y :: l, h, k => by
    have h1 := k 0 a y rfl rfl
    have h2 := flat_le f g K p l (by simpa using h) fun i a y hi hj => k (i + 1) a y (by simpa using hi) (by simpa using hj)
    simp only [List.flatMap_cons, List.length_append]
    rw [Nat.mul_add]
    omega

theorem lift_nlen : (N n : Nat) → n ≤ N → (x : Tm n) → (nodes N (lift N n x)).length ≤ (nodes n x).length
  | 0, 0, _, _ => Nat.le_refl _
  | _ + 1, 0, _, _ => by simp [lift, nodes]
  | 0, n + 1, h, _ => by omega
  | N + 1, n + 1, h, x => by
    have := flat_le (fun y => nodes n y) (fun y => nodes N y) 1 x.2.2 (x.2.2.map fun y => lift N n y) (by simp) fun i a y hi hj => by
      simp [hi] at hj
      subst hj
      rw [Nat.one_mul]
      exact lift_nlen N n (by omega) a
    simp only [nodes, lift, List.length_cons]
    omega

theorem le_mul_one {a K : Nat} (h : 1 ≤ K) : a ≤ K * a := Nat.le_mul_of_pos_left a h
theorem mem_flat_le {α γ : Type} (f : α → List γ) (p : List α) (a : α) (h : a ∈ p) : (f a).length ≤ (p.flatMap f).length := by
  induction p with
  | nil => cases h
  | cons b p ih =>
    simp only [List.flatMap_cons, List.length_append]
    rcases List.mem_cons.1 h with rfl | h
    · omega
    · have := ih h; omega

theorem vl_nodes (m : Nat) (b : List (Tm m)) (self : Int) (K : Nat) (hK : 1 ≤ K) (hb : ∀ y ∈ b, (nodes m y).length ≤ K) : (n : Nat) → (x : Tm n) → (z : Tm (m + n)) → vl m b self n x = some z → (nodes (m + n) z).length ≤ K * (nodes n x).length
  | 0, _, _, h => by simp [vl] at h
  | n + 1, x, z, h => by
    have one : ∀ k u, (nodes (m + n + 1) (leafV k u (m + n))).length ≤ K * (nodes (n + 1) x).length := fun k u => by
      have : 1 * 1 ≤ K * (nodes (n + 1) x).length := Nat.mul_le_mul hK (by simp [nodes])
      simpa [nodes, leafV] using this
    have up : ∀ (y : Tm n), y ∈ x.2.2 → K * (nodes n y).length ≤ K * (nodes (n + 1) x).length := fun y hy => by
      have := mem_flat_le (fun y => nodes n y) x.2.2 y hy
      exact Nat.mul_le_mul_left K (by simp only [nodes, List.length_cons] at this ⊢; omega)
    simp only [vl] at h
    split at h
    · obtain ⟨y, hy, h⟩ := Option.bind_eq_some_iff.1 h
      split at h
      · cases h
      · obtain rfl := Option.some.inj h
        have h1 := lift_nlen (m + n + 1) m (by omega) y
        have h2 := hb y (List.mem_of_getElem? hy)
        have h3 : K * 1 ≤ K * (nodes (n + 1) x).length := Nat.mul_le_mul_left K (by simp [nodes])
        show (nodes (m + n + 1) _).length ≤ _
        omega
    · split at h
      · cases h
      · split at h
        · split at h
          · obtain rfl := Option.some.inj h
            exact one _ _
          · split at h
            · obtain ⟨a, ha, h⟩ := Option.bind_eq_some_iff.1 h
              obtain ⟨c, hc, h⟩ := Option.bind_eq_some_iff.1 h
              obtain ⟨a', ha', h⟩ := Option.bind_eq_some_iff.1 h
              obtain ⟨c', hc', h⟩ := Option.bind_eq_some_iff.1 h
              unfold sumV at h
              split at h
              · obtain rfl := Option.some.inj h
                exact one _ _
              · cases h
            · split at h
              · obtain ⟨a, ha, h⟩ := Option.bind_eq_some_iff.1 h
                split at h
                · obtain rfl := Option.some.inj h
                  have h1 := lift_nlen (m + n + 1) n (by omega) a
                  have h2 := up a (List.mem_of_getElem? ha)
                  have h3 := le_mul_one (a := (nodes n a).length) hK
                  show (nodes (m + n + 1) _).length ≤ _
                  omega
                · cases h
              · obtain ⟨l, hl, rfl⟩ := Option.map_eq_some_iff.1 h
                obtain ⟨h1, h2⟩ := allV_len _ _ _ hl
                have h3 := flat_le (fun y => nodes n y) (fun y => nodes (m + n) y) K x.2.2 l h1 fun i a y hi hj => vl_nodes m b self K hK hb n a y (h2 i a y hi hj)
                show (nodes (m + n + 1) (tupV (m + n) l)).length ≤ _
                simp only [nodes, tupV, List.length_cons]
                rw [Nat.mul_add]
                omega
        · obtain rfl := Option.some.inj h
          have h1 := lift_nlen (m + n + 1) (n + 1) (by omega) x
          have h3 := le_mul_one (a := (nodes (n + 1) x).length) hK
          show (nodes (m + n + 1) _).length ≤ _
          omega

theorem same_nlen : (n : Nat) → (x : Tm n) → (m : Nat) → (y : Tm m) → same n x m y = true → (nodes n x).length = (nodes m y).length
  | 0, _, _, _, h => by simp [same] at h
  | _ + 1, _, 0, _, h => by simp [same] at h
  | n + 1, x, m + 1, y, h => by
    obtain ⟨h1, h2⟩ := same_parts h
    have key : ∀ (p : List (Tm n)) (q : List (Tm m)), sameL (fun a b => same n a m b) p q = true → (p.flatMap fun y => nodes n y).length = (q.flatMap fun y => nodes m y).length := by
      intro p
      induction p with
      | nil => intro q hq; cases q with
        | nil => rfl
        | cons _ _ => simp [sameL] at hq
      | cons a p ih => intro q hq; cases q with
        | nil => simp [sameL] at hq
        | cons c q =>
          simp only [sameL, Bool.and_eq_true] at hq
          simp only [List.flatMap_cons, List.length_append]
          rw [same_nlen n a m c hq.1, ih q hq.2]
    simp only [nodes, List.length_cons]
    rw [key _ _ h2]

theorem chk_iff {n : Nat} {x : Tm n} : chk n x = 0 ↔ formedB n x = true ∧ dep n x ≤ 12 ∧ sz n x ≤ 200 := by
  rw [← tchk_chk]
  unfold tchk
  constructor
  · intro h
    split at h
    · rename_i hf
      split at h
      · cases h
      · rename_i hd
        exact ⟨hf, by omega, by omega⟩
    · cases h
  · rintro ⟨h1, h2, h3⟩
    rw [if_pos h1, if_neg (by omega)]

theorem nlen_sz : (n : Nat) → (x : Tm n) → RightA ⟨n, x⟩ → ((nodes n x).length : Int) ≤ sz n x + 1
  | 0, _, h => (zero_bad h).elim
  | n + 1, x, h => by
    have gx := good_parts (hdOf n x) (h (hdOf n x) (by simp [nodes, hdOf]))
    by_cases h4 : x.1.1 = 4
    · have key : ∀ l : List (Tm n), (∀ y ∈ l, RightA ⟨n, y⟩) → ((l.flatMap fun y => nodes n y).length : Int) ≤ (l.map fun y => 1 + sz n y).sum := by
        intro l
        induction l with
        | nil => intro _; simp
        | cons y l ih =>
          intro hl
          have h1 := nlen_sz n y (hl y (by simp))
          have h2 := ih fun z hz => hl z (List.mem_cons_of_mem _ hz)
          simp only [List.flatMap_cons, List.length_append, List.map_cons, List.sum_cons]
          omega
      have := key x.2.2 fun y hy => parts_right n x y h hy
      simp only [nodes, List.length_cons, sz, if_pos h4]
      omega
    · have : x.2.2 = [] := List.eq_nil_of_length_eq_zero (gx.2.2.2.2 h4)
      simp [nodes, this, sz, h4]

theorem chk_nlen {n : Nat} {x : Tm n} (h : chk n x = 0) : (nodes n x).length ≤ 201 := by
  obtain ⟨h1, _, h3⟩ := chk_iff.1 h
  have := nlen_sz n x (right_formed.2 h1)
  omega
theorem bnd_ok {m : Nat} {b : List (Tm m)} (h : bndB m b = true) : b.length = 4 ∧ ∀ y ∈ b, chk m y = 0 ∧ RightA ⟨m, y⟩ ∧ (kindA ⟨m, y⟩ = 6 ∨ closedT m y = true) := by
  unfold bndB at h
  simp only [Bool.and_eq_true, decide_eq_true_eq, List.all_eq_true] at h
  refine ⟨h.1, fun y hy => ?_⟩
  have := h.2 y hy
  unfold okB at this
  simp only [Bool.and_eq_true, Bool.or_eq_true, beq_iff_eq] at this
  refine ⟨this.1, right_formed.2 (chk_iff.1 this.1).1, ?_⟩
  rw [closed_eq]
  exact this.2
theorem lift_right {N n : Nat} (h : n ≤ N) (x : Tm n) (hr : RightA ⟨n, x⟩) : RightA ⟨N, lift N n x⟩ := by
  cases n with
  | zero => exact (zero_bad hr).elim
  | succ n =>
    obtain ⟨M, rfl⟩ : ∃ M, N = M + 1 := ⟨N - 1, by omega⟩
    intro a ha
    simp only at ha
    rw [lift_nodes M n (by omega) x] at ha
    exact hr a ha
theorem right_mk {N : Nat} {x : Tm (N + 1)} (h : good (hdOf N x) = true) (k : ∀ y ∈ x.2.2, RightA ⟨N, y⟩) : RightA ⟨N + 1, x⟩ := by
  intro a ha
  simp only [nodes, List.mem_cons, List.mem_flatMap] at ha
  rcases ha with rfl | ⟨y, hy, ha⟩
  · exact h
  · exact k y hy a ha

/-- The value of a right term is right. -/
theorem vl_right (m : Nat) (b : List (Tm m)) (self : Int) (hs : 1 ≤ self ∧ self ≤ 99) (hb : ∀ y ∈ b, RightA ⟨m, y⟩) : (n : Nat) → (x : Tm n) → RightA ⟨n, x⟩ → (z : Tm (m + n)) → vl m b self n x = some z → RightA ⟨m + n, z⟩
  | 0, _, _, _, h => by simp [vl] at h
  | n + 1, x, hr, z, h => by
    have hg := hr (hdOf n x) (by simp [nodes, hdOf])
    have hl : x.2.2.length ≤ 8 := good_len (hdOf n x) hg
    simp only [vl] at h
    split at h
    · obtain ⟨y, hy, h⟩ := Option.bind_eq_some_iff.1 h
      split at h
      · cases h
      · obtain rfl := Option.some.inj h
        exact lift_right (N := m + n + 1) (by omega) y (hb y (List.mem_of_getElem? hy))
    · split at h
      · cases h
      · split at h
        · split at h
          · obtain rfl := Option.some.inj h
            exact right_mk (N := m + n) (by simp [good, leafV, hdOf, inB, hs]) (by intro y hy; cases hy)
          · split at h
            · obtain ⟨a, ha, h⟩ := Option.bind_eq_some_iff.1 h
              obtain ⟨c, hc, h⟩ := Option.bind_eq_some_iff.1 h
              obtain ⟨a', ha', h⟩ := Option.bind_eq_some_iff.1 h
              obtain ⟨c', hc', h⟩ := Option.bind_eq_some_iff.1 h
              unfold sumV at h
              split at h
              · rename_i hsum
                obtain rfl := Option.some.inj h
                simp only [sumB, Bool.and_eq_true] at hsum
                exact right_mk (N := m + n) (by simp [good, leafV, hdOf, hsum.2]) (by intro y hy; cases hy)
              · cases h
            · split at h
              · obtain ⟨a, ha, h⟩ := Option.bind_eq_some_iff.1 h
                split at h
                · obtain rfl := Option.some.inj h
                  exact lift_right (N := m + n + 1) (by omega) a (parts_right n x a hr (List.mem_of_getElem? ha))
                · cases h
              · obtain ⟨l, hl2, rfl⟩ := Option.map_eq_some_iff.1 h
                obtain ⟨h1, h2⟩ := allV_len _ _ _ hl2
                refine right_mk (N := m + n) ?_ fun y hy => ?_
                · have : (l.length : Int) ≤ 8 := by omega
                  simp [good, tupV, hdOf, this]
                · obtain ⟨i, hi⟩ := List.getElem?_of_mem hy
                  have hi2 : i < x.2.2.length := by rw [← h1]; exact (List.getElem?_eq_some_iff.1 hi).1
                  exact vl_right m b self hs hb n x.2.2[i] (parts_right n x _ hr (List.getElem_mem _)) y (h2 i _ y (List.getElem?_eq_getElem hi2) hi)
        · obtain rfl := Option.some.inj h
          exact lift_right (N := m + n + 1) (by omega) x hr

/-- What can go wrong ahead of it; what is answered. -/
def rvE (ck : Int) (bd : Bool) (self : Int) : Int := if ck = 0 then if bd then if 1 ≤ self ∧ self ≤ 99 then 0 else 1 else 5 else ck
def rvO {N : Nat} (E : Int) (o : Option (Tm N)) : Option (Tm N) := if E = 0 then o.bind fun z => if chk N z = 0 then some z else none else none
def rvC {N : Nat} (E : Int) (o : Option (Tm N)) : Int := if E = 0 then if o.isSome then 0 else 7 else E
end Go.Proofs.Ytdlckjjfbobmpaa
namespace Go.Proofs.Ytdlckjjfbobmpaa
open Go.ChangeShapes Go.WideShapes Go.ChangeAt Go.RowKit

def tmH (n : Nat) (x : Tm n) : List Value := nd4 (hdT n x)
/-- A row of elements of k cells each. -/
def LayH {α : Type} (B : Nat) (w : World) (k : Nat) (f : α → List Value) (I : α → Prop) (a : Option Addr) (l : List α) : Prop :=
  l = [] ∨ ∃ b o, a = some ⟨b, o, none⟩ ∧ b < B ∧ ∀ (i : Nat) (y : α), l[i]? = some y → (∀ (j : Nat) (u : Value), (f y)[j]? = some u → w.cell? ⟨b, o + i * k + j, none⟩ = some u) ∧ I y

theorem osum_leH {α H : Type} (g : α → Nat) : (p : List α) → (es : List (DataW H)) → (∀ (i : Nat) (y : α) (e : DataW H), p[i]? = some y → es[i]? = some e → g y ≤ Rows.uptoBulk e) → p.length = es.length → (p.map g).sum ≤ Rows.uptoBulkAll es
  | [], es, _, h => by simp
  | y :: p, [], _, h => by simp at h
  | y :: p, e :: es, hp, h => by
    have h0 := hp 0 y e (by simp) (by simp)
    have h1 := osum_leH g p es (fun i y' e' hy he => hp (i + 1) y' e' (by simpa using hy) (by simpa using he)) (by simpa using h)
    simp only [List.map_cons, List.sum_cons, Rows.uptoBulkAll]
    omega

set_option maxRecDepth 100000 in
theorem row_ofH {H α : Type} (enc : TypeId × Value → H) (w : World) (sp : Nat → Bool) (k : Nat) (f : α → List Value) (I : α → Prop) (g : α → Nat) (T S : TypeId) (hS : Try.prog.underlying S = some (.slice T)) (hk : Try.prog.cellsOf T = k) (hk0 : 0 < k) (hlen : ∀ y, (f y).length = k) (F : Nat)
    (elem : ∀ (m : Nat) (cs : List Value) (x : DataW H × List MemPlace), m ≤ F → DataW.trod enc Try.prog w 0 sp true m T cs = some x → ∃ y, cs = f y ∧ I y ∧ g y ≤ Rows.uptoBulk x.1)
    (m : Nat) (hm : m ≤ F) (v : Value) (x : DataW H × List MemPlace) (h : DataW.trod enc Try.prog w 0 sp true m S [v] = some x) :
    ∃ a l c, v = .slice a l.length c ∧ l.length ≤ c ∧ c ≤ maxLen ∧ LayH w.heap.size w k f I a l ∧ (l.map g).sum + 1 ≤ Rows.uptoBulk x.1 := by
  rcases DataW.trod_slice hS h with ⟨e, rfl⟩ | ⟨a, len, cap, elems, rest, m', rfl, e, rfl, _, hlc, hcm, hel, hat, _, _⟩
  · simp at e
    subst e
    exact ⟨none, [], 0, rfl, Nat.le_refl _, Nat.zero_le _, Or.inl rfl, by simp [Rows.uptoBulk]⟩
  · simp at e
    subst e
    simp only [hk] at hat
    have key : ∀ i, i < len → ∃ y : α, (∃ b o, a = ⟨b, o, none⟩ ∧ b < w.heap.size ∧ ∀ (j : Nat) (u : Value), (f y)[j]? = some u → w.cell? ⟨b, o + i * k + j, none⟩ = some u) ∧ I y ∧ ∀ e, (elems.map (·.1))[i]? = some e → g y ≤ Rows.uptoBulk e := by
      intro i hi
      have hi' := hat i hi
      have hi0 := hat 0 (by omega)
      rw [List.getElem?_eq_getElem (by omega)] at hi' hi0
      obtain ⟨cs', hcs, htr⟩ := Option.bind_eq_some_iff.1 hi'
      obtain ⟨cs0, hcs0, htr0⟩ := Option.bind_eq_some_iff.1 hi0
      obtain ⟨_, hl', hcell⟩ := World.cells?_some hcs
      obtain ⟨_, hl0, hcell0⟩ := World.cells?_some hcs0
      obtain ⟨y, rfl, hin, hb⟩ := elem m' cs' _ (by omega) htr
      have ha := spot_none (w := w) (a := a) (v := cs0[0]'(by omega)) (by have := hcell0 0 (by omega); rw [List.getElem?_eq_getElem (by omega)] at this; simpa using this)
      have hadd : ∀ j, (a.add (i * k)).add j = ⟨a.block, a.off + i * k + j, none⟩ := fun j => by
        have := add_add a.block a.off (i * k) j
        rw [← ha] at this
        exact this
      have hc : ∀ (j : Nat) (u : Value), (f y)[j]? = some u → w.cell? ⟨a.block, a.off + i * k + j, none⟩ = some u := fun j u hj => by
        have hjl := (List.getElem?_eq_some_iff.1 hj).1
        have := hcell j (by rw [hlen] at hjl; omega)
        rw [hadd, hj] at this
        exact this
      obtain ⟨u0, hu0⟩ : ∃ u, (f y)[0]? = some u := ⟨(f y)[0]'(by rw [hlen]; omega), List.getElem?_eq_getElem _⟩
      refine ⟨y, ⟨a.block, a.off, ha, World.block_lt_of_cell? w ⟨a.block, a.off + i * k + 0, none⟩ (hc 0 u0 hu0), hc⟩, hin, fun e he => ?_⟩
      rw [List.getElem?_map, List.getElem?_eq_getElem (by omega)] at he
      have : (elems[i]).1 = e := by simpa using he
      rw [← this]
      exact hb
    obtain ⟨p, hpl, hp⟩ := list_of len key
    refine ⟨some a, p, cap, by rw [hpl], by omega, hcm, ?_, ?_⟩
    · rcases Nat.eq_zero_or_pos len with h | h
      · exact Or.inl (List.eq_nil_of_length_eq_zero (hpl.trans h))
      · obtain ⟨⟨b, o, rfl, hb, _⟩, _, _⟩ := hp 0 (p[0]'(by rw [hpl]; exact h)) (List.getElem?_eq_getElem (by rw [hpl]; exact h))
        refine Or.inr ⟨b, o, rfl, hb, fun i y hy => ?_⟩
        obtain ⟨⟨b', o', e, _, hh⟩, hin, _⟩ := hp i y hy
        simp at e
        obtain ⟨rfl, rfl⟩ := e
        exact ⟨hh, hin⟩
    · have hs := osum_leH g p (elems.map (·.1)) (fun i y e hy he => (hp i y hy).2.2 e he) (by simp; omega)
      simp only [Rows.uptoBulk]
      omega
theorem term_ofH {H : Type} (enc : TypeId × Value → H) (w : World) (sp : Nat → Bool) (n m : Nat) (hm : m ≤ n) (cs : List Value) (x : DataW H × List MemPlace) (h : DataW.trod enc Try.prog w 0 sp true m 32 cs = some x) : ∃ t : Tm (n + 1), cs = tmH (n + 1) t ∧ In w.heap.size w (n + 1) t ∧ wt (n + 1) t ≤ Rows.uptoBulk x.1 := by
  obtain ⟨t, h1, h2, h3⟩ := tree_of enc w sp n m (by omega) cs x h
  exact ⟨t, h1, h2, h3⟩
/-- A call on a heap: Kind; its term; At: where the row lies and its room, and its numbers. -/
abbrev Hk (n : Nat) : Type := Int × Tm (n + 1) × (Option Addr × Nat) × List Int
def hk6 (n : Nat) (c : Hk n) : List Value := .int .i64 c.1 :: (tmH (n + 1) c.2.1 ++ [.slice c.2.2.1.1 c.2.2.2.length c.2.2.1.2])
def wtH (n : Nat) (c : Hk n) : Nat := wt (n + 1) c.2.1 + c.2.2.2.length + 1
def HkIn (n : Nat) (B : Nat) (w : World) (c : Hk n) : Prop := I64 c.1 ∧ In B w (n + 1) c.2.1 ∧ (c.2.2.2.length ≤ c.2.2.1.2 ∧ c.2.2.1.2 ≤ maxLen) ∧ LayH B w 1 (fun u : Int => [.int .i64 u]) I64 c.2.2.1.1 c.2.2.2
theorem cellsHCall : Try.prog.cellsOf 35 = 6 := by kernel_rfl
theorem cellsInts : Try.prog.cellsOf 33 = 1 := by kernel_rfl
theorem one_sum (l : List Int) : (l.map fun _ => 1).sum = l.length := by
  induction l with
  | nil => rfl
  | cons x l ih =>
    simp only [List.map_cons, List.sum_cons, List.length_cons, ih]
    omega
theorem int_ofH {H : Type} (enc : TypeId × Value → H) (w : World) (sp : Nat → Bool) (m : Nat) (cs : List Value) (x : DataW H × List MemPlace) (h : DataW.trod enc Try.prog w 0 sp true m 3 cs = some x) : ∃ a : Int, cs = [.int .i64 a] ∧ I64 a ∧ 1 ≤ Rows.uptoBulk x.1 := by
  obtain ⟨k, e, z, w0⟩ := DataW.trod_int Try.underlying3 h
  subst z
  exact ⟨k, e, wf64 w0, Nat.le_refl _⟩
set_option maxRecDepth 100000 in
set_option maxHeartbeats 1000000 in
theorem hcall_of {H : Type} (enc : TypeId × Value → H) (w : World) (sp : Nat → Bool) (n m : Nat) (hm : m ≤ n) (cs : List Value) (x : DataW H × List MemPlace) (h : DataW.trod enc Try.prog w 0 sp true m 35 cs = some x) : ∃ a : Hk n, cs = hk6 n a ∧ HkIn n w.heap.size w a ∧ wtH n a ≤ Rows.uptoBulk x.1 := by
  obtain ⟨xs, m, rfl, rfl, hl, hx, hg⟩ := DataW.trod_struct Try.underlying35 h
  have h0 : DataW.trod enc Try.prog w 0 sp true m 3 ((cs.drop 0).take (Try.prog.cellsOf 3)) = xs[0]? := hg 0 _ rfl
  have h1 : DataW.trod enc Try.prog w 0 sp true m 32 ((cs.drop 1).take (Try.prog.cellsOf 32)) = xs[1]? := hg 1 _ rfl
  have h2 : DataW.trod enc Try.prog w 0 sp true m 33 ((cs.drop 5).take (Try.prog.cellsOf 33)) = xs[2]? := hg 2 _ rfl
  rw [cellsInt] at h0
  rw [cellsTerm] at h1
  rw [cellsInts] at h2
  rw [cellsHCall] at hl
  obtain ⟨c0, c1, c2, c3, c4, c5, rfl⟩ : ∃ c0 c1 c2 c3 c4 c5, cs = [c0, c1, c2, c3, c4, c5] := by
    match cs, hl with
    | [c0, c1, c2, c3, c4, c5], _ => exact ⟨c0, c1, c2, c3, c4, c5, rfl⟩
  obtain ⟨y0, y1, y2, rfl⟩ : ∃ y0 y1 y2, xs = [y0, y1, y2] := by
    match xs, hx with
    | [y0, y1, y2], _ => exact ⟨y0, y1, y2, rfl⟩
  obtain ⟨k, e0, z0, w0⟩ := DataW.trod_int Try.underlying3 (x := y0) (by simpa using h0)
  obtain ⟨t, e1, i1, b1⟩ := term_ofH enc w sp n m (by omega) [c1, c2, c3, c4] y1 (by simpa using h1)
  obtain ⟨a, l, c, e2, l1, l2, l3, l4⟩ := row_ofH enc w sp 1 (fun u : Int => [.int .i64 u]) I64 (fun _ => 1) 3 33 Try.underlying33 cellsInt (by omega) (fun _ => rfl) m (fun m' cs x _ h => int_ofH enc w _ m' cs x h) m (Nat.le_refl _) c5 y2 (by simpa using h2)
  simp at e0 e2
  subst e0 e2 z0
  refine ⟨(k, t, (a, c), l), ?_, ⟨wf64 w0, i1, ⟨l1, l2⟩, l3⟩, ?_⟩
  · show _ = .int .i64 k :: (tmH (n + 1) t ++ [.slice a l.length c])
    rw [← e1]
    rfl
  · rw [one_sum] at l4
    simp only [wtH, Rows.uptoBulk, Rows.uptoBulkAll, List.map_cons, List.map_nil]
    omega
set_option maxRecDepth 100000 in
theorem open_hcalls {H : Type} {enc : TypeId × Value → H} {W : World} {r : Reach} {b0 : Nat} {v : Value} {d : DataW H} {p : List MemPlace} (hv : Value.okWide Try.prog W r b0 22 v)
    (h : DataW.Trod enc Try.prog W 0 (fun _ => true) true 22 v d p) : ∃ n, ∃ l : List (Hk n), ∃ a c, v = .slice a l.length c ∧ l.length ≤ c ∧ c ≤ maxLen ∧ LayH W.heap.size W 6 (hk6 n) (HkIn n W.heap.size W) a l ∧ (l.map (wtH n)).sum ≤ Rows.uptoBulk d := by
  obtain ⟨a, len, cap, rfl⟩ := okWide_slice Try.underlying22 hv
  obtain ⟨f, hf⟩ := h
  have hf' : DataW.trod enc Try.prog W 0 (fun _ => true) true f 22 [.slice a len cap] = some (d, p) := hf
  obtain ⟨a', l, c, e, h1, h2, h3, h4⟩ := row_ofH enc W (fun _ => true) 6 (hk6 f) (HkIn f W.heap.size W) (wtH f) 35 22 Try.underlying22 cellsHCall (by omega) (fun _ => rfl) f (fun m cs x hm h => hcall_of enc W _ f m hm cs x h) f (Nat.le_refl _) _ _ hf'
  exact ⟨f, l, a', c, e, h1, h2, h3, by simp only at h4; omega⟩
theorem hsum_mem {n : Nat} (l : List (Hk n)) (y : Hk n) (h : y ∈ l) : wtH n y ≤ (l.map (wtH n)).sum := by
  induction l with
  | nil => cases h
  | cons z l ih =>
    simp only [List.map_cons, List.sum_cons]
    rcases List.mem_cons.1 h with rfl | h
    · omega
    · have := ih h
      omega
/-- Each call's term has no more terms in it, and its row no more numbers, than the bulk says. -/
theorem hcall_nodes {n : Nat} {l : List (Hk n)} (hs : (l.map (wtH n)).sum ≤ 1048576) (y : Hk n) (h : y ∈ l) : (nodes (n + 1) y.2.1).length ≤ 2097152 ∧ y.2.2.2.length ≤ 1048576 := by
  have h1 := hsum_mem l y h
  have h2 := nodes_wt (n + 1) y.2.1
  have h3 : wt (n + 1) y.2.1 + y.2.2.2.length + 1 ≤ (l.map (wtH n)).sum := h1
  exact ⟨by omega, by omega⟩
end Go.Proofs.Ytdlckjjfbobmpaa
namespace Go.Proofs.Ytdlckjjfbobmpaa
open Go.RowKit Go.Maps

/-- The heap's box: room, the words, the names, the numbers of the names. -/
def HB (hp : Nat) (room : Int) (tv lv mv : Value) (w : World) : Prop := w.heap[hp]? = some (.cells #[.int .i64 room, tv, lv, mv] 65)
theorem HB.lt {hp : Nat} {room : Int} {tv lv mv : Value} {w : World} (h : HB hp room tv lv mv w) : hp < w.heap.size := (Array.getElem?_eq_some_iff.1 h).1
theorem HB.cells {hp : Nat} {room : Int} {tv lv mv : Value} {w : World} (h : HB hp room tv lv mv w) :
    (w.cell? ⟨hp, 0, none⟩ = some (.int .i64 room) ∧ w.cell? ⟨hp, 1, none⟩ = some tv ∧ w.cell? ⟨hp, 2, none⟩ = some lv ∧ w.cell? ⟨hp, 3, none⟩ = some mv) ∧ ∀ j, w.frozen? ⟨hp, j, none⟩ = false := by
  unfold HB at h
  refine ⟨⟨?_, ?_, ?_, ?_⟩, fun j => ?_⟩
  all_goals simp [World.cell?, World.frozen?, h]
theorem HB.set1 {hp : Nat} {room : Int} {tv lv mv : Value} {w : World} (h : HB hp room tv lv mv w) (v : Value) : HB hp room v lv mv (w.setCell ⟨hp, 1, none⟩ v) := by
  unfold HB at *
  simp [World.setCell, Array.getElem?_modify, h]
theorem HB.set2 {hp : Nat} {room : Int} {tv lv mv : Value} {w : World} (h : HB hp room tv lv mv w) (v : Value) : HB hp room tv v mv (w.setCell ⟨hp, 2, none⟩ v) := by
  unfold HB at *
  simp [World.setCell, Array.getElem?_modify, h]
theorem HB.set3 {hp : Nat} {room : Int} {tv lv mv : Value} {w : World} (h : HB hp room tv lv mv w) (v : Value) : HB hp room tv lv v (w.setCell ⟨hp, 3, none⟩ v) := by
  unfold HB at *
  simp [World.setCell, Array.getElem?_modify, h]
theorem HB.kept {hp : Nat} {room : Int} {tv lv mv : Value} {w w' : World} (h : HB hp room tv lv mv w) (k : w'.heap[hp]? = w.heap[hp]?) : HB hp room tv lv mv w' := k.trans h

/-- All but the blocks of which S holds are as they were; new ones may be there. -/
structure Keep (S : Nat → Prop) (w w' : World) : Prop where
  os : w'.os = w.os
  tape : w'.tape = w.tape
  output : w'.output = w.output
  size : w.heap.size ≤ w'.heap.size
  block : ∀ b, b < w.heap.size → ¬ S b → w'.heap[b]? = w.heap[b]?
theorem Keep.refl (S : Nat → Prop) (w : World) : Keep S w w := ⟨rfl, rfl, rfl, Nat.le_refl _, fun _ _ _ => rfl⟩
theorem Keep.trans {S T : Nat → Prop} {w w1 w2 : World} (h : Keep S w w1) (k : Keep T w1 w2) (hT : ∀ b, b < w.heap.size → T b → S b) : Keep S w w2 :=
  ⟨k.os.trans h.os, k.tape.trans h.tape, k.output.trans h.output, Nat.le_trans h.size k.size, fun b hb hs => (k.block b (Nat.lt_of_lt_of_le hb h.size) (fun ht => hs (hT b hb ht))).trans (h.block b hb hs)⟩
theorem Keep.mono {S T : Nat → Prop} {w w1 : World} (h : Keep S w w1) (hT : ∀ b, S b → T b) : Keep T w w1 := ⟨h.os, h.tape, h.output, h.size, fun b hb hs => h.block b hb fun k => hs (hT b k)⟩
theorem keep_below {w w' : World} (h : Below w.heap.size w w') (S : Nat → Prop) : Keep S w w' := ⟨h.os, h.tape, h.output, h.size, fun b hb _ => h.block b hb⟩
theorem keep_grown {w w' : World} {row : Option Nat} (h : w.grownBy w' row) : Keep (fun b => row = some b) w w' := ⟨h.os, h.tape, h.output, h.size, fun b hb hs => h.block b hb fun e => hs e.symm⟩
theorem keep_set (w : World) (q o : Nat) (v : Value) : Keep (fun b => b = q) w (w.setCell ⟨q, o, none⟩ v) :=
  ⟨rfl, rfl, rfl, by simp [World.setCell], fun b _ hne => by
    have : ¬ q = b := fun e => hne e.symm
    simp [World.setCell, Array.getElem?_modify, this]⟩

/-- A map's own block. -/
def mapBlock : Value → Option Nat
  | .map (some b) => some b
  | _ => none
theorem strLaw : Keyed Try.prog 9 := string_keyed Try.underlying9
theorem zeroInt (w : World) : (zeroValue 3).run Try.prog w = .ok (.int .i64 0) w := by kernel_rfl
def strCells (l : List ByteArray) : List Value := l.map .string
/-- D tells each name's number. -/
def NumsOf (D : DataW Unit) (nm : List ByteArray) : Prop := ∀ s : ByteArray, (Maps.has D (.string s.data.toList) = true ↔ s ∈ nm) ∧ ∀ i : Nat, nm[i]? = some s → D.atKey (.string s.data.toList) (.lit (.int .i64 0)) = .lit (.int .i64 i)
/-- The names, in memory. -/
def NamesAt (base : Nat) (nm : List ByteArray) (lv mv : Value) (w : World) : Prop :=
  w.ownsRow base 9 1 lv nm.length (strCells nm) ∧ nm.Nodup ∧
  ((mv = .map none ∧ nm = [] ∧ lv = .slice none 0 0) ∨ ∃ mb D, mv = .map (some mb) ∧ base ≤ mb ∧ w.ownsMap Try.prog 9 (plainElem Try.prog 3) mb nm.length D ∧ NumsOf D nm ∧ lv.ownBlock ≠ some mb)
theorem NamesAt.kept {base : Nat} {nm : List ByteArray} {lv mv : Value} {w w' : World} {S : Nat → Prop} (h : NamesAt base nm lv mv w) (k : Keep S w w') (h1 : ∀ b, lv.ownBlock = some b → ¬ S b) (h2 : ∀ b, mapBlock mv = some b → ¬ S b) : NamesAt base nm lv mv w' := by
  obtain ⟨k1, k2, k3⟩ := h
  have hrow : w'.ownsRow base 9 1 lv nm.length (strCells nm) := by
    refine ⟨k1.1, ?_⟩
    rcases k1.2 with ⟨e, e0⟩ | ⟨g, cap, cur, e, hg, hh, hr⟩
    · exact Or.inl ⟨e, e0⟩
    · exact Or.inr ⟨g, cap, cur, e, hg, (k.block g (Array.getElem?_eq_some_iff.1 hh).1 (h1 g (by rw [e]; rfl))).trans hh, hr⟩
  refine ⟨hrow, k2, ?_⟩
  rcases k3 with k3 | ⟨mb, D, rfl, hb, hm, hn, hne⟩
  · exact Or.inl k3
  · refine Or.inr ⟨mb, D, rfl, hb, ?_, hn, hne⟩
    obtain ⟨es, clock, hh, hr⟩ := hm
    exact ⟨es, clock, (k.block mb (Array.getElem?_eq_some_iff.1 hh).1 (h2 mb rfl)).trans hh, hr⟩
end Go.Proofs.Ytdlckjjfbobmpaa
namespace Go.Proofs.Ytdlckjjfbobmpaa
open Go.RowKit Go.Maps

theorem nums_index {D : DataW Unit} {nm : List ByteArray} (h : NumsOf D nm) {s : ByteArray} {c : Int} (hs : s ∈ nm) (hc : D.atKey (.string s.data.toList) (.lit (.int .i64 0)) = .lit (.int .i64 c)) : ∃ i : Nat, nm[i]? = some s ∧ c = i := by
  obtain ⟨i, hi⟩ := List.getElem?_of_mem hs
  have := (h s).2 i hi
  rw [this] at hc
  simp at hc
  exact ⟨i, hi, hc.symm⟩

set_option maxHeartbeats 1000000 in
set_option maxRecDepth 100000 in
theorem number_old (hp : Nat) (room : Int) (tv lv : Value) (mb : Nat) (D : DataW Unit) (nm : List ByteArray) (s : ByteArray) (w : World) (HBX : Hid (HB hp room tv lv (.map (some mb)) w)) (HM : Hid (w.ownsMap Try.prog 9 (plainElem Try.prog 3) mb nm.length D)) (HN : Hid (NumsOf D nm)) (hs : Hid (s ∈ nm)) (hsz : s.size ≤ 2048) :
    Calls Try.prog 38 #[.pointer (some ⟨hp, 2, none⟩), .string s] w fun e w' => ∃ i : Nat, e = .returned (.int .i64 i) ∧ Hid (nm[i]? = some s) ∧ w' = w := by
  have hhas : Maps.has D (.string s.data.toList) = true := ((HN.out s).1).2 hs.out
  obtain ⟨⟨c0, c1, c2, c3⟩, hf⟩ := HBX.out.cells
  go_enter Try.func38, Try.ntmps38
  go_wp2_with (at_lookup; refine wpList_lookup_own_ok_int _ rfl _ _ 61 rfl 9 3 .i64 strLaw Try.underlying61 Try.underlying3 (zeroInt _) mb nm.length D rfl HM.out _ _ rfl (Go.WideMaps.keyOf_string_mk Try.underlying9 (by unfold maxLen; omega)) ?_; intro c hat hwc; have HI := hide (nums_index HN.out hs.out hat); clear hat hwc; rw [hhas])
  obtain ⟨i, hi, rfl⟩ := HI.out
  go_ret
  exact ⟨i, rfl, hi, rfl⟩

/-- What a new name leaves. -/
def NewName (base hp : Nat) (room : Int) (tv lv mv : Value) (nm : List ByteArray) (s : ByteArray) (w w' : World) (lv' mv' : Value) : Prop :=
  HB hp room tv lv' mv' w' ∧ NamesAt base (nm ++ [s]) lv' mv' w' ∧ Keep (fun b => b = hp ∨ lv.ownBlock = some b ∨ mapBlock mv = some b) w w' ∧
  (∀ b, lv'.ownBlock = some b → lv.ownBlock = some b ∨ w.heap.size ≤ b) ∧ ∀ b, mapBlock mv' = some b → mapBlock mv = some b ∨ w.heap.size ≤ b

theorem infoString : (Try.prog.info? 9).map (fun i => (i.zero, i.size, i.bytes)) = some (some (.string .empty), 1, 16) := by kernel_rfl

theorem key_str (l : List UInt8) : WideAt.IsKeyLit (.string l) := by first | trivial | simp [WideAt.IsKeyLit] | decide
theorem new_name {base hp : Nat} {room : Int} {tv lv : Value} {mb : Nat} {D : DataW Unit} {nm : List ByteArray} {s : ByteArray} {w w1 w2 w4 : World} {o : Obj} {g c : Nat} (hB : HB hp room tv lv (.map (some mb)) w) (hmb : base ≤ mb) (hnd : nm.Nodup) (hn : NumsOf D nm) (hs : s ∉ nm) (hsz : s.size ≤ maxLen) (hlm : lv.ownBlock ≠ some mb)
    (hrow : w.ownsRow base 9 1 lv nm.length (strCells nm)) (hm : w.ownsMap Try.prog 9 (plainElem Try.prog 3) mb nm.length D)
    (hb : Below w.heap.size w w1) (hown : w2.ownsRow base 9 1 (.slice (some ⟨g, 0, none⟩) (nm.length + 1) c) (nm.length + 1) (strCells nm ++ [.string s])) (hg : (w1.alloc o).grownBy w2 lv.ownBlock) (hat : lv.ownBlock = some g ∨ g = w1.heap.size + 1)
    (hm4 : w4.ownsMap Try.prog 9 (plainElem Try.prog 3) mb (nm.length + 1) (D.put (.string s.data.toList) (.lit (.int .i64 nm.length)))) (hg4 : (w2.setCell ⟨hp, 2, none⟩ (.slice (some ⟨g, 0, none⟩) (nm.length + 1) c)).grownBy w4 (some mb)) :
    NewName base hp room tv lv (.map (some mb)) nm s w w4 (.slice (some ⟨g, 0, none⟩) (nm.length + 1) c) (.map (some mb)) := by
  have hhp := hB.lt
  have hmbl := hm.lt
  have hs1 := hb.size
  have es : (w1.alloc o).heap.size = w1.heap.size + 1 := by simp
  have hgs := hg.size
  have hpm : hp ≠ mb := by
    rintro rfl
    obtain ⟨es, clock, hh, _⟩ := hm
    have h2 : w.heap[hp]? = _ := hB
    rw [hh] at h2
    cases h2
  have hpl : lv.ownBlock ≠ some hp := fun e => by
    rcases hrow.2 with ⟨rfl, _⟩ | ⟨g', cap, cur, rfl, _, hh, _⟩
    · simp [Value.ownBlock] at e
    · simp [Value.ownBlock] at e
      subst e
      have h2 : w.heap[g']? = _ := hB
      rw [hh] at h2
      injection h2 with h2
      injection h2 with h2 h3
      cases h3
  have hlt : ∀ b, lv.ownBlock = some b → b < w.heap.size := fun b e => (hrow.lt b e).2
  have hgp : g ≠ hp := by
    rintro rfl
    rcases hat with e | e
    · exact hpl e
    · omega
  have hgm : g ≠ mb := by
    rintro rfl
    rcases hat with e | e
    · exact hlm e
    · omega
  have h2 : ∀ b, b < w.heap.size → lv.ownBlock ≠ some b → w2.heap[b]? = w.heap[b]? := fun b hb' hne => ((hg.block b (by omega) (fun e => hne e.symm)).trans ((World.grownBy_alloc w1 o none).block b (by omega) (by simp))).trans (hb.block b hb')
  have k3 := keep_set w2 hp 2 (.slice (some ⟨g, 0, none⟩) (nm.length + 1) c)
  have k3s := k3.size
  have k4s := hg4.size
  have hB2 : HB hp room tv lv (.map (some mb)) w2 := hB.kept (h2 hp hhp hpl)
  have hB3 := hB2.set2 (.slice (some ⟨g, 0, none⟩) (nm.length + 1) c)
  have hB4 : HB hp room tv (.slice (some ⟨g, 0, none⟩) (nm.length + 1) c) (.map (some mb)) w4 := hB3.kept (hg4.block hp (by omega) (fun e => hpm (Option.some.inj e)))
  refine ⟨hB4, ⟨?_, ?_, Or.inr ⟨mb, _, rfl, hmb, by simpa using hm4, ?_, ?_⟩⟩, ⟨?_, ?_, ?_, ?_, ?_⟩, ?_, ?_⟩
  · have e : strCells (nm ++ [s]) = strCells nm ++ [.string s] := by simp [strCells]
    rw [e, List.length_append]
    have hk3 : w2.grownBy (w2.setCell ⟨hp, 2, none⟩ (.slice (some ⟨g, 0, none⟩) (nm.length + 1) c)) (some hp) := ⟨rfl, rfl, rfl, k3s, fun b hb' hne => k3.block b hb' (fun e => hne (by rw [e]))⟩
    refine World.ownsRow.kept (World.ownsRow.kept hown hk3 (Or.inr ?_)) hg4 (Or.inr ?_)
    · simp only [Value.ownBlock]
      exact fun e => hgp (Option.some.inj e)
    · simp only [Value.ownBlock]
      exact fun e => hgm (Option.some.inj e)
  · rw [List.nodup_append]
    refine ⟨hnd, by simp, fun a ha b hb' => ?_⟩
    simp at hb'
    subst hb'
    exact fun e => hs (e ▸ ha)
  · intro t
    by_cases ht : t = s
    · subst ht
      refine ⟨?_, fun i hi => ?_⟩
      · rw [has_put_same hm.isMap (key_str _)]
        simp
      · rw [atKey_put_same hm.isMap (key_str _)]
        have : i = nm.length := by
          by_cases hlt : i < nm.length
          · rw [List.getElem?_append_left hlt] at hi
            exact absurd (List.mem_of_getElem? hi) hs
          · have := (List.getElem?_eq_some_iff.1 hi).1
            simp at this
            omega
        rw [this]
    · have hne : (Lit.string t.data.toList) ≠ (Lit.string s.data.toList) := fun e => ht (by
        injection e with e
        cases t; cases s
        simp only at e
        rw [Array.toList_inj.1 e])
      refine ⟨?_, fun i hi => ?_⟩
      · rw [has_put_other hne, (hn t).1]
        simp [ht]
      · rw [atKey_put_other hne]
        refine (hn t).2 i ?_
        by_cases hlt : i < nm.length
        · rw [List.getElem?_append_left hlt] at hi
          exact hi
        · have h1 := (List.getElem?_eq_some_iff.1 hi).1
          simp at h1
          have : i = nm.length := by omega
          subst this
          simp at hi
          exact absurd hi.symm ht
  · simp only [Value.ownBlock]
    exact fun e => hgm (Option.some.inj e)
  · exact (hg4.os.trans hg.os).trans hb.os
  · exact (hg4.tape.trans hg.tape).trans hb.tape
  · exact (hg4.output.trans hg.output).trans hb.output
  · omega
  · intro b hb' hne
    simp only [mapBlock, not_or] at hne
    exact (hg4.block b (by omega) (fun e => hne.2.2 e.symm)).trans ((k3.block b (by omega) hne.1).trans (h2 b hb' hne.2.1))
  · intro b e
    simp only [Value.ownBlock] at e
    obtain rfl := Option.some.inj e
    rcases hat with e | e
    · exact Or.inl e
    · exact Or.inr (by omega)
  · exact fun b e => Or.inl e

theorem one_string (w : World) (s : ByteArray) : ∀ j u, [Value.string s][j]? = some u → (w.alloc (.cells #[.string s] 9)).cell? ((⟨w.heap.size, 0, none⟩ : Addr).add j) = some u := by
  intro j u hj
  rw [add_none]
  cases j with
  | zero => simp at hj; subst hj; simp [go_sem]
  | succ j => simp at hj

theorem names_apart {base hp : Nat} {room : Int} {tv lv lv' mv : Value} {nm : List Value} {n : Nat} {w : World} (hrow : w.ownsRow base 9 1 lv n nm) (hB : HB hp room tv lv' mv w) : lv.ownBlock ≠ some hp := fun e => by
  rcases hrow.2 with ⟨rfl, _⟩ | ⟨g', cap, cur, rfl, _, hh, _⟩
  · simp [Value.ownBlock] at e
  · simp [Value.ownBlock] at e
    subst e
    have h2 : w.heap[g']? = _ := hB
    rw [hh] at h2
    injection h2 with h2
    injection h2 with h2 h3
    cases h3
theorem names_cells {hp : Nat} {lv v : Value} {w1 w2 : World} {o : Obj} (hlt : hp < w1.heap.size) (hne : lv.ownBlock ≠ some hp) (hg : (w1.alloc o).grownBy w2 lv.ownBlock) (hf : ∀ j, w1.frozen? ⟨hp, j, none⟩ = false) (hc : w1.cell? ⟨hp, 2, none⟩ = some v) : w2.cell? ⟨hp, 2, none⟩ = some v ∧ w2.frozen? ⟨hp, 2, none⟩ = false := by
  have h : w2.heap[hp]? = w1.heap[hp]? := (hg.block hp (by simp; omega) (fun e => hne e.symm)).trans ((World.grownBy_alloc w1 o none).block hp hlt (by simp))
  exact ⟨(block_cell h 2).trans hc, (World.frozen?_of_block (a := ⟨hp, 2, none⟩) h).trans (hf 2)⟩
theorem names_cell3 {hp : Nat} {lv v : Value} {w1 w2 : World} {o : Obj} (hlt : hp < w1.heap.size) (hne : lv.ownBlock ≠ some hp) (hg : (w1.alloc o).grownBy w2 lv.ownBlock) (hc : w1.cell? ⟨hp, 3, none⟩ = some v) : w2.cell? ⟨hp, 3, none⟩ = some v := by
  have h : w2.heap[hp]? = w1.heap[hp]? := (hg.block hp (by simp; omega) (fun e => hne e.symm)).trans ((World.grownBy_alloc w1 o none).block hp hlt (by simp))
  exact (block_cell h 3).trans hc
theorem names_map {hp mb L : Nat} {lv : Value} {D : DataW Unit} {w1 w2 : World} {o : Obj} (hm : w1.ownsMap Try.prog 9 (plainElem Try.prog 3) mb L D) (hpm : hp ≠ mb) (hlm : lv.ownBlock ≠ some mb) (hg : (w1.alloc o).grownBy w2 lv.ownBlock) (v : Value) : (w2.setCell ⟨hp, 2, none⟩ v).ownsMap Try.prog 9 (plainElem Try.prog 3) mb L D :=
  (((hm.alloc o).kept hg (fun e => hlm e.symm))).setCell (a := ⟨hp, 2, none⟩) (fun e => hpm e.symm) v

set_option maxHeartbeats 1000000 in
set_option maxRecDepth 100000 in
theorem number_new (base hp : Nat) (room : Int) (tv lv : Value) (la : Option Addr) (lc L : Nat) (mb : Nat) (D : DataW Unit) (nm : List ByteArray) (s : ByteArray) (w : World) (hlv : lv = .slice la L lc) (HL : Hid (nm.length = L)) (hL : L ≤ 100000) (HBX : Hid (HB hp room tv lv (.map (some mb)) w)) (hmb : Hid (base ≤ mb)) (hbw : base ≤ w.heap.size) (hnd : Hid (nm.Nodup)) (HM : Hid (w.ownsMap Try.prog 9 (plainElem Try.prog 3) mb L D)) (HN : Hid (NumsOf D nm)) (hs : Hid (s ∉ nm)) (hsz : s.size ≤ 2048) (hlm : Hid (lv.ownBlock ≠ some mb)) (HR : Hid (w.ownsRow base 9 1 lv L (strCells nm))) :
    Calls Try.prog 38 #[.pointer (some ⟨hp, 2, none⟩), .string s] w fun e w' => e = .returned (.int .i64 L) ∧ ∃ lv' mv', Hid (NewName base hp room tv lv (.map (some mb)) nm s w w' lv' mv') := by
  subst hlv
  have hhas : Maps.has D (.string s.data.toList) = false := by
    cases h : Maps.has D (.string s.data.toList)
    · rfl
    · exact absurd (((HN.out s).1).1 h) hs.out
  obtain ⟨it, hit, htz0, htz1, htz2⟩ := info_parts infoString
  have HT := hide (⟨hit, htz0, htz1, htz2⟩ : _ ∧ _ ∧ _ ∧ _)
  clear hit htz0 htz1 htz2
  obtain ⟨⟨c0, c1, c2, c3⟩, hf⟩ := HBX.out.cells
  have hq : ∀ (w : World) (r : Option Nat), (binOp .eql 61 (.map r) (.map none)).run Try.prog w = .ok (.bool r.isNone) w := fun w r => run_eql_map_nil w _ _ _ r Try.underlying61
  go_enter Try.func38, Try.ntmps38
  go_wp2_with (at_lookup; refine wpList_lookup_own_ok_int _ rfl _ _ 61 rfl 9 3 .i64 strLaw Try.underlying61 Try.underlying3 (zeroInt _) mb L D rfl HM.out _ _ rfl (Go.WideMaps.keyOf_string_mk Try.underlying9 (by unfold maxLen; omega)) ?_; intro c hat hwc; clear hat hwc; rw [hhas])
  refine (strcopy_any s _ hsz).mono ?_
  rintro e w1 ⟨rfl, hb1⟩
  have hhp : hp < w.heap.size := HBX.out.lt
  have HB1 := hide hb1
  obtain ⟨⟨d0, d1, d2, d3⟩, hf1⟩ := (HBX.out.kept (hb1.block hp hhp)).cells
  have hhp1 : hp < w1.heap.size := Nat.lt_of_lt_of_le hhp hb1.size
  have HMP : Hid (hp ≠ mb) := by
    rintro rfl
    obtain ⟨es, clock, hh, _⟩ := HM.out
    have h2 : w.heap[hp]? = _ := HBX.out
    rw [hh] at h2
    cases h2
  have HPL : Hid ((Value.slice la L lc).ownBlock ≠ some hp) := names_apart HR.out HBX.out
  have HM1 : Hid (w1.ownsMap Try.prog 9 (plainElem Try.prog 3) mb L D) := HM.out.kept (grown_of_below hb1 none) (by simp)
  clear hb1 c0 c1 c2 c3 hf
  go_wp2_with (first
    | (at_builtin; refine wpList_append_lies _ rfl _ _ 60 rfl base 9 it _ 1 16 Try.underlying60 HT.out.1 HT.out.2.1 HT.out.2.2.1 HT.out.2.2.2 rfl (by decide) _ L _ rfl ((own_below HR.out HB1.out).alloc _) ⟨w1.heap.size, 0, none⟩ 1 1 [.string s] rfl rfl (one_string w1 s) (by intro u hu; simp at hu; subst hu; rfl) (by decide) (by unfold maxLen; omega) (by omega) (by have := HB1.out.size; simp; omega) (w1.heap.size + 1) (by simp) ?_; intro g2 c2 w2 hown2 hgrow2 hat2 hlt2; have H2 := hide (⟨hown2, hgrow2, hat2, hlt2⟩ : _ ∧ _ ∧ _ ∧ _); obtain ⟨e2, f2⟩ := names_cells hhp1 HPL.out hgrow2 hf1 d2; have e3 := names_cell3 hhp1 HPL.out hgrow2 d3; have HM2 := hide (names_map HM1.out HMP.out hlm.out hgrow2 (.slice (some ⟨g2, 0, none⟩) (L + 1) c2)); clear hown2 hgrow2 hat2 hlt2)
    | (at_mapUpdate; refine wpList_mapUpdate_own _ rfl _ _ _ 61 rfl 9 3 strLaw Try.underlying61 (plainElem Try.prog 3) mb L D rfl HM2.out (by unfold maxLen; omega) _ _ _ rfl rfl (Go.WideMaps.keyOf_string_mk Try.underlying9 (by unfold maxLen; omega)) (.lit (.int .i64 L)) [] (plainElem_int Try.underlying3 (WalkArith.wf_i64 (by omega))) ?_; intro w4 hown4 hgrow4; have H4 := hide (⟨hown4, hgrow4⟩ : _ ∧ _); clear hown4 hgrow4))
  go_ret
  have hl := HL.out
  subst hl
  exact ⟨rfl, _, _, new_name HBX.out hmb.out hnd.out HN.out hs.out (by unfold maxLen; omega) hlm.out HR.out HM.out HB1.out H2.out.1 H2.out.2.1 H2.out.2.2.1 H4.out.1 H4.out.2⟩

theorem first_name {base hp : Nat} {room : Int} {tv lv lv' mv' : Value} {s : ByteArray} {w wA w4 : World} (h : NewName base hp room tv lv (.map (some w.heap.size)) [] s wA w4 lv' mv') (k : Keep (fun b => b = hp) w wA) (hs : wA.heap.size = w.heap.size + 1) : NewName base hp room tv lv (.map none) [] s w w4 lv' mv' := by
  obtain ⟨h1, h2, h3, h4, h5⟩ := h
  refine ⟨h1, h2, ?_, ?_, ?_⟩
  · refine (k.mono fun b hb => Or.inl hb).trans h3 fun b hb hT => ?_
    rcases hT with e | e | e
    · exact Or.inl e
    · exact Or.inr (Or.inl e)
    · simp only [mapBlock] at e
      have := Option.some.inj e
      omega
  · intro b e
    rcases h4 b e with e | e
    · exact Or.inl e
    · exact Or.inr (by omega)
  · intro b e
    rcases h5 b e with e | e
    · simp only [mapBlock] at e
      have := Option.some.inj e
      exact Or.inr (by omega)
    · exact Or.inr (by omega)
theorem nums_nil : NumsOf (.map []) [] := fun s => ⟨by simp [Maps.has], fun i hi => by simp at hi⟩

set_option maxHeartbeats 1000000 in
set_option maxRecDepth 100000 in
theorem number_first (base hp : Nat) (room : Int) (tv lv : Value) (s : ByteArray) (w : World) (hlv : lv = .slice none 0 0) (HBX : Hid (HB hp room tv lv (.map none) w)) (hbw : base ≤ w.heap.size) (hsz : s.size ≤ 2048) :
    Calls Try.prog 38 #[.pointer (some ⟨hp, 2, none⟩), .string s] w fun e w' => e = .returned (.int .i64 0) ∧ ∃ lv' mv', Hid (NewName base hp room tv lv (.map none) [] s w w' lv' mv') := by
  subst hlv
  obtain ⟨it, hit, htz0, htz1, htz2⟩ := info_parts infoString
  have HT := hide (⟨hit, htz0, htz1, htz2⟩ : _ ∧ _ ∧ _ ∧ _)
  clear hit htz0 htz1 htz2
  obtain ⟨⟨c0, c1, c2, c3⟩, hf⟩ := HBX.out.cells
  have hhp : hp < w.heap.size := HBX.out.lt
  have hq : ∀ (w : World) (r : Option Nat), (binOp .eql 61 (.map r) (.map none)).run Try.prog w = .ok (.bool r.isNone) w := fun w r => run_eql_map_nil w _ _ _ r Try.underlying61
  have hln : (Instr.lookup 61 (.map none) (.string s) true).run Try.prog w = .ok (.tuple #[.int .i64 0, .bool false]) w := by
    simpa using Maps.look_nil (w := w) true strLaw Try.underlying61 (zeroInt _) (Go.WideMaps.keyOf_string_mk Try.underlying9 (show s.size ≤ maxLen by unfold maxLen; omega))
  have hmm := @run_makeMap Try.prog
  go_enter Try.func38, Try.ntmps38
  go_wp2_with fail
  generalize hwA : (w.setCell ⟨hp, 3, none⟩ (.map (some w.heap.size))).alloc (.map #[] 0) = wA
  have HWA : Hid (HB hp room tv (.slice none 0 0) (.map (some w.heap.size)) wA ∧ wA.ownsMap Try.prog 9 (plainElem (H := Unit) Try.prog 3) w.heap.size 0 (.map []) ∧ Keep (fun b => b = hp) w wA ∧ wA.heap.size = w.heap.size + 1) := by
    subst hwA
    have es : (w.setCell ⟨hp, 3, none⟩ (.map (some w.heap.size))).heap.size = w.heap.size := by simp [World.setCell]
    have hm := World.ownsMap_made (w.setCell ⟨hp, 3, none⟩ (.map (some w.heap.size))) Try.prog 9 (plainElem (H := Unit) Try.prog 3)
    rw [es] at hm
    refine ⟨(HBX.out.set3 (.map (some w.heap.size))).kept ((World.grownBy_alloc _ _ none).block hp (by rw [es]; exact hhp) (by simp)), hm, ⟨rfl, rfl, rfl, by simp [World.setCell], fun b hb hne => ?_⟩, by simp [World.setCell]⟩
    exact ((World.grownBy_alloc _ _ none).block b (by rw [es]; exact hb) (by simp)).trans ((keep_set w hp 3 (.map (some w.heap.size))).block b hb hne)
  clear hwA c0 c1 c2 c3 hf hln hmm
  refine (strcopy_any s _ hsz).mono ?_
  rintro e w1 ⟨rfl, hb1⟩
  have hhpA : hp < wA.heap.size := HWA.out.1.lt
  have HB1 := hide hb1
  obtain ⟨⟨d0, d1, d2, d3⟩, hf1⟩ := (HWA.out.1.kept (hb1.block hp hhpA)).cells
  have hhp1 : hp < w1.heap.size := Nat.lt_of_lt_of_le hhpA hb1.size
  have HMP : Hid (hp ≠ w.heap.size) := by unfold Hid; omega
  have HPL : Hid ((Value.slice none 0 0).ownBlock ≠ some hp) := by simp [Hid, Value.ownBlock]
  have HM1 : Hid (w1.ownsMap Try.prog 9 (plainElem (H := Unit) Try.prog 3) w.heap.size 0 (.map [])) := HWA.out.2.1.kept (grown_of_below hb1 none) (by simp)
  have HBS : Hid (base ≤ w1.heap.size) := by have h1 := HWA.out.2.2.2; have h2 := hb1.size; unfold Hid; omega
  clear hb1
  go_wp2_with (first
    | (at_builtin; refine wpList_append_lies _ rfl _ _ 60 rfl base 9 it _ 1 16 Try.underlying60 HT.out.1 HT.out.2.1 HT.out.2.2.1 HT.out.2.2.2 rfl (by decide) _ 0 [] rfl (World.ownsRow_nil _ _ _ _) ⟨w1.heap.size, 0, none⟩ 1 1 [.string s] rfl rfl (one_string w1 s) (by intro u hu; simp at hu; subst hu; rfl) (by decide) (by unfold maxLen; omega) (by omega) (by have := HBS.out; simp; omega) (w1.heap.size + 1) (by simp) ?_; intro g2 c2 w2 hown2 hgrow2 hat2 hlt2; have H2 := hide (⟨hown2, hgrow2, hat2, hlt2⟩ : _ ∧ _ ∧ _ ∧ _); obtain ⟨e2, f2⟩ := names_cells hhp1 HPL.out hgrow2 hf1 d2; have e3 := names_cell3 hhp1 HPL.out hgrow2 d3; have HM2 := hide (names_map (lv := .slice none 0 0) HM1.out HMP.out (by simp [Value.ownBlock]) hgrow2 (.slice (some ⟨g2, 0, none⟩) (0 + 1) c2)); clear hown2 hgrow2 hat2 hlt2)
    | (at_mapUpdate; refine wpList_mapUpdate_own _ rfl _ _ _ 61 rfl 9 3 strLaw Try.underlying61 (plainElem Try.prog 3) w.heap.size 0 (.map []) rfl HM2.out (by unfold maxLen; omega) _ _ _ rfl rfl (Go.WideMaps.keyOf_string_mk Try.underlying9 (by unfold maxLen; omega)) (.lit (.int .i64 0)) [] (plainElem_int Try.underlying3 (WalkArith.wf_i64 (by omega))) ?_; intro w4 hown4 hgrow4; have H4 := hide (⟨hown4, hgrow4⟩ : _ ∧ _); clear hown4 hgrow4))
  go_ret
  have hnn := new_name (nm := []) HWA.out.1 hbw (by simp) nums_nil (by simp) (show s.size ≤ maxLen by unfold maxLen; omega) (by simp [Value.ownBlock]) (World.ownsRow_nil _ _ _ _) HWA.out.2.1 HB1.out H2.out.1 H2.out.2.1 H2.out.2.2.1 H4.out.1 H4.out.2
  exact ⟨rfl, _, _, first_name hnn HWA.out.2.2.1 HWA.out.2.2.2⟩

/-- Whatever name: its number, and the names as they are then. -/
theorem number_any (base hp : Nat) (room : Int) (tv lv mv : Value) (nm : List ByteArray) (s : ByteArray) (w : World) (hB : HB hp room tv lv mv w) (hN : NamesAt base nm lv mv w) (hbw : base ≤ w.heap.size) (hL : nm.length ≤ 100000) (hsz : s.size ≤ 2048) :
    Calls Try.prog 38 #[.pointer (some ⟨hp, 2, none⟩), .string s] w fun e w' => ∃ i : Nat, e = .returned (.int .i64 i) ∧ ∃ nm' lv' mv', Hid (nm'[i]? = some s ∧ (nm' = nm ∨ nm' = nm ++ [s]) ∧ HB hp room tv lv' mv' w' ∧ NamesAt base nm' lv' mv' w' ∧ Keep (fun b => b = hp ∨ lv.ownBlock = some b ∨ mapBlock mv = some b) w w' ∧
      (∀ b, lv'.ownBlock = some b → lv.ownBlock = some b ∨ w.heap.size ≤ b) ∧ ∀ b, mapBlock mv' = some b → mapBlock mv = some b ∨ w.heap.size ≤ b) := by
  obtain ⟨h1, h2, h3⟩ := hN
  rcases h3 with ⟨rfl, rfl, hlv⟩ | ⟨mb, D, rfl, hmb, hm, hn, hlm⟩
  · refine (number_first base hp room tv lv s w hlv hB hbw hsz).mono ?_
    rintro e w' ⟨rfl, lv', mv', H⟩
    obtain ⟨k1, k2, k3, k4, k5⟩ := H.out
    exact ⟨0, rfl, [s], lv', mv', rfl, Or.inr rfl, k1, k2, k3, k4, k5⟩
  · by_cases hs : s ∈ nm
    · refine (number_old hp room tv lv mb D nm s w hB hm hn hs hsz).mono ?_
      rintro e w' ⟨i, rfl, hi, rfl⟩
      exact ⟨i, rfl, nm, lv, .map (some mb), hi.out, Or.inl rfl, hB, ⟨h1, h2, Or.inr ⟨mb, D, rfl, hmb, hm, hn, hlm⟩⟩, Keep.refl _ _, fun b e => Or.inl e, fun b e => Or.inl e⟩
    · obtain ⟨la, lc, hlv⟩ : ∃ la lc, lv = .slice la nm.length lc := by
        rcases h1.2 with ⟨e, e0⟩ | ⟨g, c, cur, e, _⟩
        · exact ⟨none, 0, by rw [e, e0]⟩
        · exact ⟨_, c, e⟩
      refine (number_new base hp room tv lv la lc nm.length mb D nm s w hlv rfl hL hB hmb hbw h2 hm hn hs hsz hlm h1).mono ?_
      rintro e w' ⟨rfl, lv', mv', H⟩
      obtain ⟨k1, k2, k3, k4, k5⟩ := H.out
      exact ⟨nm.length, rfl, nm ++ [s], lv', mv', by simp, Or.inr rfl, k1, k2, k3, k4, k5⟩
end Go.Proofs.Ytdlckjjfbobmpaa
