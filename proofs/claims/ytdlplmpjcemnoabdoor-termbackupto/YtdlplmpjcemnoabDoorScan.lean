/- What is proved here: plain facts on words: which term a row of words tells (Is), where a row of words can't go on (scanD, exp), that a row tells one term, and that the same terms have the same sizes. No condition. -/
import Derived.Test.YtdlplmpjcemnoabDoorToks
import Derived.Test.YtdlplmpjcemnoabDoorSame
import Derived.Test.YtdlplmpjcemnoabDoorTDep
namespace Go.Proofs.YtdlplmpjcemnoabDoor
open Go.RowKit

/-- A word, and where it begins. -/
abbrev Tok : Type := Nat × ByteArray
def isO (x : ByteArray) : Bool := x.toList == [40]
def isC (x : ByteArray) : Bool := x.toList == [41]

theorem head_of {x : ByteArray} {c : UInt8} (h : (x.toList == [c]) = true) : x.data.toList = [c] ∧ x.size = 1 := by
  rw [ByteArray.toList_eq] at h
  have h1 : x.data.toList = [c] := by simpa using h
  refine ⟨h1, ?_⟩
  have : x.data.toList.length = x.size := by simp
  rw [h1] at this
  simpa using this.symm
theorem leaf_close {x : ByteArray} (h : isC x = true) : leafB x = false ∧ isO x = false := by
  obtain ⟨h1, h2⟩ := head_of h
  simp [leafB, isO, isNum, ByteArray.toList_eq, h1, digsB, digB, lowsB, lowB]
theorem leaf_open {x : ByteArray} (h : isO x = true) : leafB x = false ∧ isC x = false := by
  obtain ⟨h1, h2⟩ := head_of h
  simp [leafB, isC, isNum, ByteArray.toList_eq, h1, digsB, digB, lowsB, lowB]

/-- A row of terms, each told by what is left of the words. -/
def IsL {α : Type} (f : α → List Tok → List Tok → Prop) : List α → List Tok → List Tok → Prop
  | [], ts, r => ts = r
  | x :: l, ts, r => ∃ m, f x ts m ∧ IsL f l m r
/-- The term that the words begin with, and what is left of them. -/
def Is : (n : Nat) → Tm n → List Tok → List Tok → Prop
  | 0, _, _, _ => False
  | n + 1, x, ts, r => ∃ t ts', ts = t :: ts' ∧ ((isO t.2 = false ∧ leafB t.2 = true ∧ x.1 = leafV t.2 ∧ x.2.2 = [] ∧ r = ts') ∨
      (isO t.2 = true ∧ x.1 = (4, 0, ⟨#[]⟩) ∧ ∃ c, IsL (Is n) x.2.2 ts' (c :: r) ∧ isC c.2 = true))

theorem IsL.snoc {α : Type} {f : α → List Tok → List Tok → Prop} {x : α} {r : List Tok} : {l : List α} → {ts m : List Tok} → IsL f l ts m → f x m r → IsL f (l ++ [x]) ts r
  | [], ts, m, h, hx => by
    have e : ts = m := h
    subst e
    exact ⟨r, hx, rfl⟩
  | y :: l, ts, m, h, hx => by
    obtain ⟨q, h1, h2⟩ := h
    exact ⟨q, h1, h2.snoc hx⟩

/-- A term's first word is no closing bracket. -/
theorem Is.head {n : Nat} {x : Tm n} {ts r : List Tok} (h : Is n x ts r) : ∃ t ts', ts = t :: ts' ∧ isC t.2 = false := by
  cases n with
  | zero => exact h.elim
  | succ n =>
    obtain ⟨t, ts', rfl, h⟩ := h
    refine ⟨t, ts', rfl, ?_⟩
    cases hc : isC t.2
    · rfl
    · have := leaf_close hc
      rcases h with h | h
      · rw [this.1] at h; exact absurd h.2.1 (by simp)
      · rw [this.2] at h; exact absurd h.1 (by simp)

theorem IsL.one {n m : Nat} (ih : ∀ (x : Tm n) (y : Tm m) (ts r r' : List Tok), Is n x ts r → Is m y ts r' → same n x m y = true ∧ r = r') :
    (p : List (Tm n)) → (q : List (Tm m)) → (ts : List Tok) → (c c' : Tok) → (r r' : List Tok) → isC c.2 = true → isC c'.2 = true → IsL (Is n) p ts (c :: r) → IsL (Is m) q ts (c' :: r') → sameL (fun a b => same n a m b) p q = true ∧ r = r'
  | [], [], ts, c, c', r, r', hc, hc', h, h' => by
    have e1 : ts = c :: r := h
    have e2 : ts = c' :: r' := h'
    rw [e1] at e2
    injection e2 with _ e
    exact ⟨rfl, e⟩
  | [], y :: q, ts, c, c', r, r', hc, hc', h, h' => by
    have e1 : ts = c :: r := h
    obtain ⟨m', h1, _⟩ := h'
    obtain ⟨t, ts', e2, hn⟩ := h1.head
    rw [e1] at e2
    injection e2 with e _
    rw [← e, hc] at hn
    exact absurd hn (by simp)
  | x :: p, [], ts, c, c', r, r', hc, hc', h, h' => by
    have e1 : ts = c' :: r' := h'
    obtain ⟨m', h1, _⟩ := h
    obtain ⟨t, ts', e2, hn⟩ := h1.head
    rw [e1] at e2
    injection e2 with e _
    rw [← e, hc'] at hn
    exact absurd hn (by simp)
  | x :: p, y :: q, ts, c, c', r, r', hc, hc', h, h' => by
    obtain ⟨m1, h1, h2⟩ := h
    obtain ⟨m2, h3, h4⟩ := h'
    obtain ⟨e1, e2⟩ := ih x y ts m1 m2 h1 h3
    subst e2
    obtain ⟨e3, e4⟩ := IsL.one ih p q m1 c c' r r' hc hc' h2 h4
    exact ⟨by simp only [sameL]; rw [e1, e3]; rfl, e4⟩

theorem Is.one : (n : Nat) → (m : Nat) → (x : Tm n) → (y : Tm m) → (ts r r' : List Tok) → Is n x ts r → Is m y ts r' → same n x m y = true ∧ r = r'
  | 0, _, _, _, _, _, _, h, _ => h.elim
  | _ + 1, 0, _, _, _, _, _, _, h => h.elim
  | n + 1, m + 1, x, y, ts, r, r', h, h' => by
    obtain ⟨t, ts', rfl, h⟩ := h
    obtain ⟨t2, ts2, e, h'⟩ := h'
    injection e with e1 e2
    subst e1 e2
    rcases h with ⟨o, _, hx, hl, hr⟩ | ⟨o, hx, c, hl, hc⟩
    · rcases h' with ⟨_, _, hy, hl', hr'⟩ | ⟨o', _⟩
      · refine ⟨?_, hr.trans hr'.symm⟩
        simp only [same, hx, hy, hl, hl', sameL]
        simp
      · rw [o] at o'; exact absurd o' (by simp)
    · rcases h' with ⟨o', _⟩ | ⟨_, hy, c', hl', hc'⟩
      · rw [o] at o'; exact absurd o' (by simp)
      · obtain ⟨e1, e2⟩ := IsL.one (fun x y ts r r' => Is.one n m x y ts r r') x.2.2 y.2.2 ts' c c' r r' hc hc' hl hl'
        refine ⟨?_, e2⟩
        simp only [same, hx, hy, e1]
        simp

theorem Is.nodes : (n : Nat) → (x : Tm n) → (ts r : List Tok) → Is n x ts r → (nodes n x).length + r.length ≤ ts.length
  | 0, _, _, _, h => h.elim
  | n + 1, x, ts, r, h => by
    have key : ∀ (l : List (Tm n)) (ts r : List Tok), IsL (Is n) l ts r → (l.flatMap fun y => Proofs.YtdlplmpjcemnoabDoor.nodes n y).length + r.length ≤ ts.length := by
      intro l
      induction l with
      | nil => intro ts r h; have e : ts = r := h; subst e; simp
      | cons y l ih =>
        intro ts r h
        obtain ⟨m, h1, h2⟩ := h
        have := Is.nodes n y ts m h1
        have := ih m r h2
        simp only [List.flatMap_cons, List.length_append]
        omega
    obtain ⟨t, ts', rfl, h⟩ := h
    simp only [Proofs.YtdlplmpjcemnoabDoor.nodes, List.length_cons]
    rcases h with ⟨o, _, hx, hl, hr⟩ | ⟨o, hx, c, hl, hc⟩
    · rw [hl, hr]; simp; omega
    · have := key x.2.2 ts' (c :: r) hl
      simp only [List.length_cons] at this
      omega

/-- Where the words can't go on, in d brackets, behind a term; L: the text's end. -/
def scanD (L : Nat) : List Tok → Nat → Option Nat
  | [], 0 => none
  | [], _ + 1 => some L
  | t :: _, 0 => some t.1
  | t :: ts, d + 1 => if isO t.2 then scanD L ts (d + 2) else if isC t.2 then scanD L ts d else if leafB t.2 then scanD L ts (d + 1) else some t.1
/-- .. where a term is wanted. -/
def exp (L : Nat) : List Tok → Nat → Option Nat
  | [], _ => some L
  | t :: ts, d => if isO t.2 then scanD L ts (d + 1) else if leafB t.2 then scanD L ts d else some t.1
def posOf (L : Nat) : List Tok → Nat
  | [] => L
  | t :: _ => t.1
theorem scan_exp (L : Nat) (ts : List Tok) (d : Nat) (h : ∀ t ts', ts = t :: ts' → isC t.2 = false) : scanD L ts (d + 1) = exp L ts (d + 1) := by
  cases ts with
  | nil => rfl
  | cons t ts => simp only [scanD, exp]; rw [h t ts rfl]; simp
theorem scan_close (L : Nat) (t : Tok) (ts : List Tok) (d : Nat) (h : isC t.2 = true) : scanD L (t :: ts) (d + 1) = scanD L ts d := by
  simp only [scanD]; rw [(leaf_close h).2, h]; simp

/-- What of a term its sizes and its form hang on. -/
theorem sameL_len {α β : Type} (f : α → β → Bool) : (p : List α) → (q : List β) → sameL f p q = true → p.length = q.length
  | [], [], _ => rfl
  | [], _ :: _, h => by simp [sameL] at h
  | _ :: _, [], h => by simp [sameL] at h
  | a :: p, b :: q, h => by
    simp only [sameL, Bool.and_eq_true] at h
    simp [sameL_len f p q h.2]
theorem good_of {k k' u u' : Int} {s s' : ByteArray} {l l' c c' : Nat} {a a' : Option Addr} (h1 : k = k') (h2 : u = u') (h3 : s = s') (h4 : l = l') : good ((k, u, s), (a, l, c)) = good ((k', u', s'), (a', l', c')) := by
  subst h1 h2 h3 h4
  rfl
theorem same_parts : (n m : Nat) → (x : Tm n) → (y : Tm m) → same n x m y = true → formedB n x = formedB m y ∧ dep n x = dep m y ∧ sz n x = sz m y
  | 0, _, _, _, h => by simp [same] at h
  | _ + 1, 0, _, _, h => by simp [same] at h
  | n + 1, m + 1, x, y, h => by
    have key : ∀ (p : List (Tm n)) (q : List (Tm m)), sameL (fun a b => same n a m b) p q = true →
        (p.all fun y => formedB n y) = (q.all fun y => formedB m y) ∧ (∀ a, p.foldl (fun m y => max m (dep n y)) a = q.foldl (fun k y => max k (dep m y)) a) ∧ (p.map fun y => 1 + sz n y).sum = (q.map fun y => 1 + sz m y).sum := by
      intro p
      induction p with
      | nil =>
        intro q h
        cases q with
        | nil => simp
        | cons b q => simp [sameL] at h
      | cons a p ih =>
        intro q h
        cases q with
        | nil => simp [sameL] at h
        | cons b q =>
          simp only [sameL, Bool.and_eq_true] at h
          obtain ⟨e1, e2, e3⟩ := same_parts n m a b h.1
          obtain ⟨k1, k2, k3⟩ := ih q h.2
          refine ⟨by simp only [List.all_cons, e1, k1], fun z => ?_, by simp only [List.map_cons, List.sum_cons, e3, k3]⟩
          simp only [List.foldl_cons, e2]
          exact k2 _
    simp only [same, Bool.and_eq_true, beq_iff_eq] at h
    obtain ⟨⟨⟨h1, h2⟩, h3⟩, h4⟩ := h
    obtain ⟨k1, k2, k3⟩ := key _ _ h4
    have hl := sameL_len _ _ _ h4
    have hs : x.1.2.2 = y.1.2.2 := by
      rw [ByteArray.toList_eq, ByteArray.toList_eq] at h3
      exact ByteArray.ext (Array.toList_inj.1 h3)
    refine ⟨?_, ?_, ?_⟩
    · have hg : good (hdOf n x) = good (hdOf m y) := good_of h1 h2 hs hl
      simp only [formedB, hg, h1, k1]
    · simp only [dep, h1, k2]
    · simp only [sz, h1, k3]
theorem same_tchk (n m : Nat) (x : Tm n) (y : Tm m) (h : same n x m y = true) : chk n x = chk m y := by
  obtain ⟨h1, h2, h3⟩ := same_parts n m x y h
  rw [← tchk_chk, ← tchk_chk]
  simp only [tchk, h1, h2, h3]
end Go.Proofs.YtdlplmpjcemnoabDoor
