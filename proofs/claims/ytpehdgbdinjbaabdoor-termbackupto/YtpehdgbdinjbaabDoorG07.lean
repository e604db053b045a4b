/- What is proved here: plain facts and contracts that the claimed theorem stands on, several texts in one: plain facts on words: which term a row of words tells (Is), where a row of words can't go on (scanD, exp), that a row tells one term, and that the same terms have the same sizes. No condition. plain facts on texts: the row of a text's words from a place on, step by step, as a reader goes, and sign by sign. No condition. plain facts on decimal numerals: they are digits, without noughts ahead, and read as the number; and which word each right term without parts is told by. No condition. strings.Builder's WriteByte and WriteString onto a builder that the call has made, and strconv.Itoa: what is written, and what stays as it was. Condition: what is held takes at most 2^47 bytes. a plain fact: a term has at most as many terms in it as it holds terms and letters. No condition. term.write of a term that lies in memory, onto a builder that the call has made, writes the plain function wtext of it, and turns nothing else. Conditions: what is held takes at most 2^47 bytes; the library's table of powers lies as its text lays it. plain facts: a right term's text has just the words that tell it; words that tell a term alone can go on to their end; where a text can't go on lies in it. No condition. the program's reader: word is the text between its two places. No memory turns. Condition: the reader lies in memory, its places within the text. -/
import Derived.Test.YtpehdgbdinjbaabDoorG06
import Derived.Lib.ItoaNum
import Derived.Test.YtpehdgbdinjbaabDoorG05
import Derived.Test.YtpehdgbdinjbaabDoorG01
import Derived.Lib.AppendIntMem
import Derived.Lib.ItoaLen
import Derived.BigQuiet
namespace Go.Proofs.YtpehdgbdinjbaabDoor
open Go.RowKit

/-- A word, and where it begins. -/
abbrev Tok : Type := Nat × ByteArray
def isO (x : ByteArray) : Bool := x.toList == [40]
def isC (x : ByteArray) : Bool := x.toList == [41]

theorem head_of {x : ByteArray} {c : UInt8} (h : (x.toList == [c]) = true) : x.data.toList = [c] ∧ x.size = 1 := by
  rw [ByteArray.toList_eq] at h
  have h1 : x.data.toList = [c] := by simpa using h
  refine ⟨h1, ?_⟩
  have : x.data.toList.length = x.size := by simp
  rw [h1] at this
  simpa using this.symm
theorem leaf_close {x : ByteArray} (h : isC x = true) : leafB x = false ∧ isO x = false := by
  obtain ⟨h1, h2⟩ := head_of h
  simp [leafB, isO, isNum, ByteArray.toList_eq, h1, digsB, digB, lowsB, lowB]
theorem leaf_open {x : ByteArray} (h : isO x = true) : leafB x = false ∧ isC x = false := by
  obtain ⟨h1, h2⟩ := head_of h
  simp [leafB, isC, isNum, ByteArray.toList_eq, h1, digsB, digB, lowsB, lowB]

/-- A row of terms, each told by what is left of the words. -/
def IsL {α : Type} (f : α → List Tok → List Tok → Prop) : List α → List Tok → List Tok → Prop
  | [], ts, r => ts = r
  | x :: l, ts, r => ∃ m, f x ts m ∧ IsL f l m r
/-- The term that the words begin with, and what is left of them. -/
def Is : (n : Nat) → Tm n → List Tok → List Tok → Prop
  | 0, _, _, _ => False
  | n + 1, x, ts, r => ∃ t ts', ts = t :: ts' ∧ ((isO t.2 = false ∧ leafB t.2 = true ∧ x.1 = leafV t.2 ∧ x.2.2 = [] ∧ r = ts') ∨
      (isO t.2 = true ∧ x.1 = (4, 0, ⟨#[]⟩) ∧ ∃ c, IsL (Is n) x.2.2 ts' (c :: r) ∧ isC c.2 = true))

theorem IsL.snoc {α : Type} {f : α → List Tok → List Tok → Prop} {x : α} {r : List Tok} : {l : List α} → {ts m : List Tok} → IsL f l ts m → f x m r → IsL f (l ++ [x]) ts r
  | [], ts, m, h, hx => by
    have e : ts = m := h
    subst e
    exact ⟨r, hx, rfl⟩
  | y :: l, ts, m, h, hx => by
    obtain ⟨q, h1, h2⟩ := h
    exact ⟨q, h1, h2.snoc hx⟩

/-- A term's first word is no closing bracket. -/
theorem Is.head {n : Nat} {x : Tm n} {ts r : List Tok} (h : Is n x ts r) : ∃ t ts', ts = t :: ts' ∧ isC t.2 = false := by
  cases n with
  | zero => exact h.elim
  | succ n =>
    obtain ⟨t, ts', rfl, h⟩ := h
    refine ⟨t, ts', rfl, ?_⟩
    cases hc : isC t.2
    · rfl
    · have := leaf_close hc
      rcases h with h | h
      · rw [this.1] at h; exact absurd h.2.1 (by simp)
      · rw [this.2] at h; exact absurd h.1 (by simp)

theorem IsL.one {n m : Nat} (ih : ∀ (x : Tm n) (y : Tm m) (ts r r' : List Tok), Is n x ts r → Is m y ts r' → same n x m y = true ∧ r = r') :
    (p : List (Tm n)) → (q : List (Tm m)) → (ts : List Tok) → (c c' : Tok) → (r r' : List Tok) → isC c.2 = true → isC c'.2 = true → IsL (Is n) p ts (c :: r) → IsL (Is m) q ts (c' :: r') → sameL (fun a b => same n a m b) p q = true ∧ r = r'
  | [], [], ts, c, c', r, r', hc, hc', h, h' => by
    have e1 : ts = c :: r := h
    have e2 : ts = c' :: r' := h'
    rw [e1] at e2
    injection e2 with _ e
    exact ⟨rfl, e⟩
  | [], y :: q, ts, c, c', r, r', hc, hc', h, h' => by
    have e1 : ts = c :: r := h
    obtain ⟨m', h1, _⟩ := h'
    obtain ⟨t, ts', e2, hn⟩ := h1.head
    rw [e1] at e2
    injection e2 with e _
    rw [← e, hc] at hn
    exact absurd hn (by simp)
  | x :: p, [], ts, c, c', r, r', hc, hc', h, h' => by
    have e1 : ts = c' :: r' := h'
    obtain ⟨m', h1, _⟩ := h
    obtain ⟨t, ts', e2, hn⟩ := h1.head
    rw [e1] at e2
    injection e2 with e _
    rw [← e, hc'] at hn
    exact absurd hn (by simp)
  | x :: p, y :: q, ts, c, c', r, r', hc, hc', h, h' => by
    obtain ⟨m1, h1, h2⟩ := h
    obtain ⟨m2, h3, h4⟩ := h'
    obtain ⟨e1, e2⟩ := ih x y ts m1 m2 h1 h3
    subst e2
    obtain ⟨e3, e4⟩ := IsL.one ih p q m1 c c' r r' hc hc' h2 h4
    exact ⟨by simp only [sameL]; rw [e1, e3]; rfl, e4⟩

theorem Is.one : (n : Nat) → (m : Nat) → (x : Tm n) → (y : Tm m) → (ts r r' : List Tok) → Is n x ts r → Is m y ts r' → same n x m y = true ∧ r = r'
  | 0, _, _, _, _, _, _, h, _ => h.elim
  | _ + 1, 0, _, _, _, _, _, _, h => h.elim
  | n + 1, m + 1, x, y, ts, r, r', h, h' => by
    obtain ⟨t, ts', rfl, h⟩ := h
    obtain ⟨t2, ts2, e, h'⟩ := h'
    injection e with e1 e2
    subst e1 e2
    rcases h with ⟨o, _, hx, hl, hr⟩ | ⟨o, hx, c, hl, hc⟩
    · rcases h' with ⟨_, _, hy, hl', hr'⟩ | ⟨o', _⟩
      · refine ⟨?_, hr.trans hr'.symm⟩
        simp only [same, hx, hy, hl, hl', sameL]
        simp
      · rw [o] at o'; exact absurd o' (by simp)
    · rcases h' with ⟨o', _⟩ | ⟨_, hy, c', hl', hc'⟩
      · rw [o] at o'; exact absurd o' (by simp)
      · obtain ⟨e1, e2⟩ := IsL.one (fun x y ts r r' => Is.one n m x y ts r r') x.2.2 y.2.2 ts' c c' r r' hc hc' hl hl'
        refine ⟨?_, e2⟩
        simp only [same, hx, hy, e1]
        simp

theorem Is.nodes : (n : Nat) → (x : Tm n) → (ts r : List Tok) → Is n x ts r → (nodes n x).length + r.length ≤ ts.length
  | 0, _, _, _, h => h.elim
  | n + 1, x, ts, r, h => by
    have key : ∀ (l : List (Tm n)) (ts r : List Tok), IsL (Is n) l ts r → (l.flatMap fun y => Proofs.YtpehdgbdinjbaabDoor.nodes n y).length + r.length ≤ ts.length := by
      intro l
      induction l with
      | nil => intro ts r h; have e : ts = r := h; subst e; simp
      | cons y l ih =>
        intro ts r h
        obtain ⟨m, h1, h2⟩ := h
        have := Is.nodes n y ts m h1
        have := ih m r h2
        simp only [List.flatMap_cons, List.length_append]
        omega
    obtain ⟨t, ts', rfl, h⟩ := h
    simp only [Proofs.YtpehdgbdinjbaabDoor.nodes, List.length_cons]
    rcases h with ⟨o, _, hx, hl, hr⟩ | ⟨o, hx, c, hl, hc⟩
    · rw [hl, hr]; simp; omega
    · have := key x.2.2 ts' (c :: r) hl
      simp only [List.length_cons] at this
      omega

/-- Where the words can't go on, in d brackets, behind a term; L: the text's end. -/
def scanD (L : Nat) : List Tok → Nat → Option Nat
  | [], 0 => none
  | [], _ + 1 => some L
  | t :: _, 0 => some t.1
  | t :: ts, d + 1 => if isO t.2 then scanD L ts (d + 2) else if isC t.2 then scanD L ts d else if leafB t.2 then scanD L ts (d + 1) else some t.1
/-- .. where a term is wanted. -/
def exp (L : Nat) : List Tok → Nat → Option Nat
  | [], _ => some L
  | t :: ts, d => if isO t.2 then scanD L ts (d + 1) else if leafB t.2 then scanD L ts d else some t.1
def posOf (L : Nat) : List Tok → Nat
  | [] => L
  | t :: _ => t.1
theorem scan_exp (L : Nat) (ts : List Tok) (d : Nat) (h : ∀ t ts', ts = t :: ts' → isC t.2 = false) : scanD L ts (d + 1) = exp L ts (d + 1) := by
  cases ts with
  | nil => rfl
  | cons t ts => simp only [scanD, exp]; rw [h t ts rfl]; simp
theorem scan_close (L : Nat) (t : Tok) (ts : List Tok) (d : Nat) (h : isC t.2 = true) : scanD L (t :: ts) (d + 1) = scanD L ts d := by
  simp only [scanD]; rw [(leaf_close h).2, h]; simp

/-- What of a term its sizes and its form hang on. -/
theorem sameL_len {α β : Type} (f : α → β → Bool) : (p : List α) → (q : List β) → sameL f p q = true → p.length = q.length
  | [], [], _ => rfl
  | [], _ :: _, h => by simp [sameL] at h
  | _ :: _, [], h => by simp [sameL] at h
  | a :: p, b :: q, h => by
    simp only [sameL, Bool.and_eq_true] at h
    simp [sameL_len f p q h.2]
theorem good_of {k k' u u' : Int} {s s' : ByteArray} {l l' c c' : Nat} {a a' : Option Addr} (h1 : k = k') (h2 : u = u') (h3 : s = s') (h4 : l = l') : good ((k, u, s), (a, l, c)) = good ((k', u', s'), (a', l', c')) := by
  subst h1 h2 h3 h4
  rfl
theorem same_parts : (n m : Nat) → (x : Tm n) → (y : Tm m) → same n x m y = true → formedB n x = formedB m y ∧ dep n x = dep m y ∧ sz n x = sz m y
  | 0, _, _, _, h => by simp [same] at h
  | _ + 1, 0, _, _, h => by simp [same] at h
  | n + 1, m + 1, x, y, h => by
    have key : ∀ (p : List (Tm n)) (q : List (Tm m)), sameL (fun a b => same n a m b) p q = true →
        (p.all fun y => formedB n y) = (q.all fun y => formedB m y) ∧ (∀ a, p.foldl (fun m y => max m (dep n y)) a = q.foldl (fun k y => max k (dep m y)) a) ∧ (p.map fun y => 1 + sz n y).sum = (q.map fun y => 1 + sz m y).sum := by
      intro p
      induction p with
      | nil =>
        intro q h
        cases q with
        | nil => simp
        | cons b q => simp [sameL] at h
      | cons a p ih =>
        intro q h
        cases q with
        | nil => simp [sameL] at h
        | cons b q =>
          simp only [sameL, Bool.and_eq_true] at h
          obtain ⟨e1, e2, e3⟩ := same_parts n m a b h.1
          obtain ⟨k1, k2, k3⟩ := ih q h.2
          refine ⟨by simp only [List.all_cons, e1, k1], fun z => ?_, by simp only [List.map_cons, List.sum_cons, e3, k3]⟩
          simp only [List.foldl_cons, e2]
          exact k2 _
    simp only [same, Bool.and_eq_true, beq_iff_eq] at h
    obtain ⟨⟨⟨h1, h2⟩, h3⟩, h4⟩ := h
    obtain ⟨k1, k2, k3⟩ := key _ _ h4
    have hl := sameL_len _ _ _ h4
    have hs : x.1.2.2 = y.1.2.2 := by
      rw [ByteArray.toList_eq, ByteArray.toList_eq] at h3
      exact ByteArray.ext (Array.toList_inj.1 h3)
    refine ⟨?_, ?_, ?_⟩
    · have hg : good (hdOf n x) = good (hdOf m y) := good_of h1 h2 hs hl
      simp only [formedB, hg, h1, k1]
    · simp only [dep, h1, k2]
    · simp only [sz, h1, k3]
theorem same_tchk (n m : Nat) (x : Tm n) (y : Tm m) (h : same n x m y = true) : chk n x = chk m y := by
  obtain ⟨h1, h2, h3⟩ := same_parts n m x y h
  rw [← tchk_chk, ← tchk_chk]
  simp only [tchk, h1, h2, h3]
end Go.Proofs.YtpehdgbdinjbaabDoor
namespace Go.Proofs.YtpehdgbdinjbaabDoor
open Go.RowKit

def toksF : Nat → ByteArray → Nat → List Tok
  | 0, _, _ => []
  | f + 1, s, i => if wordB s i < s.size then (wordB s i, s.extract (wordB s i) (wordE s i)) :: toksF f s (wordE s i) else []
/-- The words of a text from a place on. -/
def toks (s : ByteArray) (i : Nat) : List Tok := toksF (s.size - i) s i

theorem toksF_more (s : ByteArray) : (f g i : Nat) → s.size - i ≤ f → s.size - i ≤ g → toksF f s i = toksF g s i
  | 0, 0, _, _, _ => rfl
  | 0, g + 1, i, h, _ => by
    have := wordB_ge s i
    simp only [toksF]
    rw [if_neg (by omega)]
  | f + 1, 0, i, _, h => by
    have := wordB_ge s i
    simp only [toksF]
    rw [if_neg (by omega)]
  | f + 1, g + 1, i, h, h' => by
    simp only [toksF]
    by_cases hw : wordB s i < s.size
    · rw [if_pos hw, if_pos hw]
      have h1 := wordE_gt s i hw
      have h2 := wordB_ge s i
      rw [toksF_more s f g (wordE s i) (by omega) (by omega)]
    · rw [if_neg hw, if_neg hw]
theorem toks_cons (s : ByteArray) (i : Nat) (h : wordB s i < s.size) : toks s i = (wordB s i, s.extract (wordB s i) (wordE s i)) :: toks s (wordE s i) := by
  have h1 := wordE_gt s i h
  have h2 := wordB_ge s i
  unfold toks
  rw [toksF_more s (s.size - i) (s.size - i + 1) i (by omega) (by omega)]
  simp only [toksF]
  rw [if_pos h, toksF_more s (s.size - i) (s.size - wordE s i) (wordE s i) (by omega) (by omega)]
theorem toks_nil (s : ByteArray) (i : Nat) (h : ¬ wordB s i < s.size) : toks s i = [] := by
  unfold toks
  rw [toksF_more s (s.size - i) (s.size - i + 1) i (by omega) (by omega)]
  simp only [toksF]
  rw [if_neg h]
theorem toks_length (s : ByteArray) : (f i : Nat) → s.size - i ≤ f → (toks s i).length ≤ s.size - i
  | 0, i, h => by
    have := wordB_ge s i
    rw [toks_nil s i (by omega)]; simp
  | f + 1, i, h => by
    by_cases hw : wordB s i < s.size
    · have h1 := wordE_gt s i hw
      have h2 := wordB_ge s i
      rw [toks_cons s i hw]
      have := toks_length s f (wordE s i) (by omega)
      simp only [List.length_cons]
      omega
    · rw [toks_nil s i hw]; simp

/-- A reader at the word from b to e has these words ahead. -/
def At (s : ByteArray) (b e : Nat) (ts : List Tok) : Prop :=
  b ≤ e ∧ e ≤ s.size ∧ ((b = s.size ∧ ts = []) ∨ (b < e ∧ ts = (b, s.extract b e) :: toks s e))
theorem At.next {s : ByteArray} {i : Nat} (h : i ≤ s.size) : At s (wordB s i) (wordE s i) (toks s i) := by
  refine ⟨wordE_ge s i, wordE_le s i h, ?_⟩
  by_cases hw : wordB s i < s.size
  · exact Or.inr ⟨wordE_gt s i hw, toks_cons s i hw⟩
  · exact Or.inl ⟨(wordE_end s i h hw).1, toks_nil s i hw⟩
theorem At.pos {s : ByteArray} {b e : Nat} {ts : List Tok} (h : At s b e ts) : posOf s.size ts = b := by
  rcases h.2.2 with ⟨h1, rfl⟩ | ⟨_, rfl⟩
  · exact h1.symm
  · rfl
/-- The word at hand. -/
theorem At.nil {s : ByteArray} {b e : Nat} (h : At s b e []) : (s.extract b e).toList = [] := by
  rcases h.2.2 with ⟨h1, _⟩ | ⟨_, h2⟩
  · rw [ByteArray.toList_eq]
    apply List.eq_nil_of_length_eq_zero
    have := h.2.1
    simp
    omega
  · exact absurd h2 (by simp)
theorem At.cons {s : ByteArray} {b e : Nat} {t : Tok} {ts : List Tok} (h : At s b e (t :: ts)) : t = (b, s.extract b e) ∧ ts = toks s e ∧ 0 < (s.extract b e).size := by
  rcases h.2.2 with ⟨_, h2⟩ | ⟨h1, h2⟩
  · exact absurd h2 (by simp)
  · injection h2 with h3 h4
    refine ⟨h3, h4, ?_⟩
    have := h.2.1
    simp
    omega

-- Sign by sign: what a sign does to the words ahead.
theorem tk_blank {s : ByteArray} {i : Nat} (h : i < s.size) (hb : s[i] = 32) : toks s i = toks s (i + 1) := by
  have e1 : wordB s (i + 1) = wordB s i := skip_step (p := blB) h (by simp [blB, hb])
  have e2 : wordE s (i + 1) = wordE s i := by unfold wordE; rw [e1]
  by_cases hw : wordB s i < s.size
  · rw [toks_cons s i hw, toks_cons s (i + 1) (by omega), e1, e2]
  · rw [toks_nil s i hw, toks_nil s (i + 1) (by omega)]
theorem tk_bracket {s : ByteArray} {i : Nat} (h : i < s.size) (hb : s[i] = 40 ∨ s[i] = 41) : toks s i = (i, s.extract i (i + 1)) :: toks s (i + 1) := by
  have e1 : wordB s i = i := skip_stop (p := blB) h (by rcases hb with hb | hb <;> simp [blB, hb])
  have e2 : skipTo (fun c => !enB c) s i = i := skip_stop (p := fun c => !enB c) h (by rcases hb with hb | hb <;> simp [enB, hb])
  have e3 : wordE s i = i + 1 := by unfold wordE; rw [e1, e2, if_pos ⟨rfl, h⟩]
  rw [toks_cons s i (by omega), e1, e3]
theorem tk_plain {s : ByteArray} {i : Nat} (h : i < s.size) (hb : enB s[i] = false) : toks s i = (i, s.extract i (skipTo (fun c => !enB c) s (i + 1))) :: toks s (skipTo (fun c => !enB c) s (i + 1)) := by
  have e1 : wordB s i = i := skip_stop (p := blB) h (by simp [enB] at hb; simp [blB, hb])
  have e2 : skipTo (fun c => !enB c) s (i + 1) = skipTo (fun c => !enB c) s i := skip_step (p := fun c => !enB c) h (by simp [hb])
  have e3 := skip_ge (fun c => !enB c) s (i + 1)
  have e4 : wordE s i = skipTo (fun c => !enB c) s (i + 1) := by unfold wordE; rw [e1, if_neg (by omega), e2]
  rw [toks_cons s i (by omega), e1, e4]
end Go.Proofs.YtpehdgbdinjbaabDoor
namespace Go.Proofs.YtpehdgbdinjbaabDoor
open Go.RowKit

theorem dig_of (d : Nat) (h : d < 10) : (UInt8.ofNat (48 + d)).toNat = 48 + d := by
  rw [UInt8.toNat_ofNat']
  omega
theorem dec_small {u : Nat} (h : u < 10) : Lib.decDigits u = [UInt8.ofNat (48 + u)] := by rw [Lib.decDigits, dif_pos h]
theorem dec_big {u : Nat} (h : ¬ u < 10) : Lib.decDigits u = Lib.decDigits (u / 10) ++ [UInt8.ofNat (48 + u % 10)] := by
  conv => lhs; rw [Lib.decDigits, dif_neg h]
theorem dec_digs (u : Nat) : digsB (Lib.decDigits u) = true := by
  induction u using Nat.strongRecOn with
  | _ u ih =>
    by_cases h : u < 10
    · rw [dec_small h]
      simp only [digsB, List.all_cons, List.all_nil, digB, dig_of u h]
      simp; omega
    · rw [dec_big h]
      have h1 := ih (u / 10) (by omega)
      simp only [digsB] at h1 ⊢
      rw [List.all_append, h1]
      simp only [List.all_cons, List.all_nil, digB, dig_of (u % 10) (by omega)]
      simp; omega
theorem dec_num (u : Nat) : numV (Lib.decDigits u) = u := by
  induction u using Nat.strongRecOn with
  | _ u ih =>
    by_cases h : u < 10
    · rw [dec_small h]
      simp only [numV, List.foldl_cons, List.foldl_nil, dig_of u h]
      omega
    · rw [dec_big h]
      have h1 := ih (u / 10) (by omega)
      simp only [numV] at h1 ⊢
      rw [List.foldl_append, h1]
      simp only [List.foldl_cons, List.foldl_nil, dig_of (u % 10) (by omega)]
      omega
theorem dec_head (u : Nat) (hu : u ≠ 0) : ∃ c l, Lib.decDigits u = c :: l ∧ c ≠ 48 := by
  induction u using Nat.strongRecOn with
  | _ u ih =>
    by_cases h : u < 10
    · rw [dec_small h]
      refine ⟨_, [], rfl, fun e => ?_⟩
      have := congrArg UInt8.toNat e
      rw [dig_of u h] at this
      have h48 : (48 : UInt8).toNat = 48 := rfl
      omega
    · obtain ⟨c, l, e, hc⟩ := ih (u / 10) (by omega) (by omega)
      rw [dec_big h, e]
      exact ⟨c, _, rfl, hc⟩
theorem dec_len : (m u : Nat) → u < 10 ^ (m + 1) → 1 ≤ (Lib.decDigits u).length ∧ (Lib.decDigits u).length ≤ m + 1
  | 0, u, h => by rw [dec_small (by simpa using h)]; simp
  | m + 1, u, h => by
    by_cases h1 : u < 10
    · rw [dec_small h1]; simp
    · rw [dec_big h1]
      have := dec_len m (u / 10) (by rw [Nat.pow_succ] at h; omega)
      simp
      omega
theorem size_of_list (l : List UInt8) : (⟨l.toArray⟩ : ByteArray).size = l.length := by simp [ByteArray.size]
theorem dec_isNum (m u : Nat) (h : u < 10 ^ (m + 1)) : isNum ⟨(Lib.decDigits u).toArray⟩ ((m : Int) + 1) = true := by
  have h1 := dec_len m u h
  have h2 : ((Lib.decDigits u)[0]? == some 48 && decide (1 < ((Lib.decDigits u).length : Int))) = false := by
    by_cases hu : u = 0
    · subst hu
      rw [dec_small (by omega)]; simp
    · obtain ⟨c, l, e, hc⟩ := dec_head u hu
      rw [e]; simp [hc]
  simp only [isNum, size_of_list, dec_digs, h2]
  simp
  omega
theorem dec_pos (u : Nat) : Lib.decDigits u ≠ [] := by
  by_cases h : u < 10
  · rw [dec_small h]; simp
  · rw [dec_big h]; simp
theorem dig_en {c : UInt8} (h : digB c = true) : enB c = false := by
  simp only [digB, Bool.and_eq_true, decide_eq_true_eq] at h
  have e1 : c ≠ 32 := fun e => by subst e; exact absurd h.1 (by decide)
  have e2 : c ≠ 40 := fun e => by subst e; exact absurd h.1 (by decide)
  have e3 : c ≠ 41 := fun e => by subst e; exact absurd h.1 (by decide)
  simp [enB, e1, e2, e3]
theorem low_en {c : UInt8} (h : lowB c = true) : enB c = false := by
  simp only [lowB, Bool.and_eq_true, decide_eq_true_eq] at h
  have e1 : c ≠ 32 := fun e => by subst e; exact absurd h.1 (by decide)
  have e2 : c ≠ 40 := fun e => by subst e; exact absurd h.1 (by decide)
  have e3 : c ≠ 41 := fun e => by subst e; exact absurd h.1 (by decide)
  simp [enB, e1, e2, e3]
theorem dig_ne {c d : UInt8} (h : digB c = true) (hd : digB d = false) : c ≠ d := fun e => by rw [e, hd] at h; exact absurd h (by simp)
theorem low_ne {c d : UInt8} (h : lowB c = true) (hd : lowB d = false) : c ≠ d := fun e => by rw [e, hd] at h; exact absurd h (by simp)

/-- A word that tells a right term without parts. -/
def Tells (l : List UInt8) (v : Int × Int × ByteArray) : Prop := l ≠ [] ∧ (∀ c ∈ l, enB c = false) ∧ leafB ⟨l.toArray⟩ = true ∧ leafV ⟨l.toArray⟩ = v ∧ isO ⟨l.toArray⟩ = false

theorem tells_of {l : List UInt8} {v : Int × Int × ByteArray} (h0 : l ≠ []) (h1 : ∀ c ∈ l, enB c = false) (h2 : leafB ⟨l.toArray⟩ = true) (h3 : leafV ⟨l.toArray⟩ = v) : Tells l v := by
  refine ⟨h0, h1, h2, h3, ?_⟩
  cases ho : isO ⟨l.toArray⟩
  · rfl
  · rw [(leaf_open ho).1] at h2; exact absurd h2 (by simp)

theorem digs_all {l : List UInt8} (h : digsB l = true) : ∀ c ∈ l, digB c = true := by simpa [digsB] using h
theorem tells_nat (u : Nat) (h : u < 10 ^ 13) : Tells (Lib.decDigits u) (1, u, ⟨#[]⟩) := by
  have hn := dec_isNum 12 u h
  have hd := digs_all (dec_digs u)
  cases hl : Lib.decDigits u with
  | nil => exact absurd hl (dec_pos u)
  | cons c l =>
    rw [← hl]
    have hc : digB c = true := hd c (by rw [hl]; simp)
    have hne : ∀ d, digB d = false → c ≠ d := fun d h => dig_ne hc h
    have c1 := hne 35 (by decide)
    have c2 := hne 36 (by decide)
    have c3 := hne 45 (by decide)
    have c4 := hne 95 (by decide)
    have hbar : ((⟨(Lib.decDigits u).toArray⟩ : ByteArray).toList == [95]) = false := by
      rw [ByteArray.toList_eq, hl]
      simp [c4]
    have h0 : (⟨(Lib.decDigits u).toArray⟩ : ByteArray).data.toList[0]? = some c := by simp [hl]
    refine tells_of (dec_pos u) (fun c hc => dig_en (hd c hc)) ?_ ?_
    · simp only [leafB, h0, hbar]
      have hn' : isNum ⟨(Lib.decDigits u).toArray⟩ 13 = true := by simpa using hn
      simp [c1, c2, c3, hn']
    · simp only [leafV, h0, hbar]
      have hn' : isNum ⟨(Lib.decDigits u).toArray⟩ 13 = true := by simpa using hn
      simp [c1, c2, c3, hn', dec_num]
theorem tail_of (c : UInt8) (l : List UInt8) : tail1 ⟨(c :: l).toArray⟩ = ⟨l.toArray⟩ := by
  apply ByteArray.ext
  simp [tail1]
  rw [size_of_list]
  simp
theorem tells_neg (u : Nat) (h : u < 10 ^ 13) (h0 : u ≠ 0) : Tells (45 :: Lib.decDigits u) (1, -(u : Int), ⟨#[]⟩) := by
  have hn := dec_isNum 12 u h
  have hn' : isNum ⟨(Lib.decDigits u).toArray⟩ 13 = true := by simpa using hn
  have hd := digs_all (dec_digs u)
  refine tells_of (by simp) ?_ ?_ ?_
  · intro c hc
    rcases List.mem_cons.1 hc with rfl | hc
    · decide
    · exact dig_en (hd c hc)
  · simp only [leafB, tail_of, hn', dec_num]
    simp; omega
  · simp only [leafV, tail_of, dec_num]
    simp
theorem tells_pid (u : Nat) (h : u < 10 ^ 2) : Tells (35 :: Lib.decDigits u) (3, u, ⟨#[]⟩) := by
  have hn := dec_isNum 1 u h
  have hn' : isNum ⟨(Lib.decDigits u).toArray⟩ 2 = true := by simpa using hn
  have hd := digs_all (dec_digs u)
  refine tells_of (by simp) ?_ ?_ ?_
  · intro c hc
    rcases List.mem_cons.1 hc with rfl | hc
    · decide
    · exact dig_en (hd c hc)
  · simp only [leafB, tail_of, hn']
    simp
  · simp only [leafV, tail_of, dec_num]
    simp
theorem tells_var (u : Nat) (h : u < 10 ^ 2) : Tells (36 :: Lib.decDigits u) (5, u, ⟨#[]⟩) := by
  have hn := dec_isNum 1 u h
  have hn' : isNum ⟨(Lib.decDigits u).toArray⟩ 2 = true := by simpa using hn
  have hd := digs_all (dec_digs u)
  refine tells_of (by simp) ?_ ?_ ?_
  · intro c hc
    rcases List.mem_cons.1 hc with rfl | hc
    · decide
    · exact dig_en (hd c hc)
  · simp only [leafB, tail_of, hn']
    simp
  · simp only [leafV, tail_of, dec_num]
    simp
theorem tells_any : Tells [95] (6, 0, ⟨#[]⟩) := by
  refine tells_of (by simp) (by simp [enB]) ?_ ?_
  · simp [leafB, ByteArray.toList_eq]
  · simp [leafV, ByteArray.toList_eq]
theorem bytes_of (s : ByteArray) : (⟨s.data.toList.toArray⟩ : ByteArray) = s := by cases s; simp
theorem tells_name (s : ByteArray) (h : nameB s = true) : Tells s.data.toList (2, 0, s) := by
  simp only [nameB, inB, Bool.and_eq_true, decide_eq_true_eq] at h
  have hl : ∀ c ∈ s.data.toList, lowB c = true := List.all_eq_true.1 h.2
  have hs : s.data.toList.length = s.size := by simp
  cases hd : s.data.toList with
  | nil => rw [hd] at hs; simp at hs; omega
  | cons c l =>
    rw [← hd]
    have hc : lowB c = true := hl c (by rw [hd]; simp)
    have c1 := low_ne hc (d := 35) (by decide)
    have c2 := low_ne hc (d := 36) (by decide)
    have c3 := low_ne hc (d := 45) (by decide)
    have c4 := low_ne hc (d := 95) (by decide)
    have hbar : (s.toList == [95]) = false := by
      rw [ByteArray.toList_eq, hd]
      simp [c4]
    have h0 : s.data.toList[0]? = some c := by simp [hd]
    have hn : isNum s 13 = false := by
      have : digB c = false := by
        cases hb : digB c
        · rfl
        · simp only [digB, lowB, Bool.and_eq_true, decide_eq_true_eq] at hb hc; omega
      simp [isNum, digsB, hd, this]
    refine tells_of (by rw [hd]; simp) (fun c hc => low_en (hl c hc)) ?_ ?_
    · rw [bytes_of]
      simp only [leafB, h0, hbar, hn, h.2]
      simp [c1, c2, c3]
      omega
    · rw [bytes_of]
      simp only [leafV, h0, hbar, hn]
      simp [c1, c2, c3]
end Go.Proofs.YtpehdgbdinjbaabDoor
namespace Go.Proofs.YtpehdgbdinjbaabDoor
open Go.RowKit

theorem infoByte : (Tryd.prog.info? 5).map (fun i => (i.zero, i.size, i.bytes)) = some (some (.int .u8 0), 1, 1) := by kernel_rfl
theorem sizeBuilder : (Tryd.prog.info? 47).map (·.size) = some 2 := by kernel_rfl
theorem liesBuilder : liesAt Tryd.prog Tryd.prog.depth 47 (2 / Tryd.prog.cellsOf 47) 0 47 1 = true := by kernel_rfl

/-- The builder in block b, from base B on, holds these bytes. -/
def Bu (B b : Nat) (l : List UInt8) (w : World) : Prop := Lib.IsBuilderF 47 5 B b (Lib.byteCells l) w
/-- What a write leaves: the bytes behind those that were, all below B, and every other block that is no row of bytes. -/
def Wrote (B b : Nat) (l : List UInt8) (w w' : World) : Prop := Bu B b l w' ∧ Below B w w' ∧ Lib.OthersKept 5 (some b) w w'

set_option maxRecDepth 100000 in
theorem copyCheck_used (b : Nat) (w : World) (h0 : w.cell? ⟨b, 0, none⟩ = some (.pointer (some ⟨b, 0, none⟩))) :
    Calls Tryd.prog 59 #[.pointer (some ⟨b, 0, none⟩)] w fun e w' => e = .returned (.tuple #[]) ∧ w' = w := by
  obtain ⟨j, hj, _⟩ := Option.map_eq_some_iff.1 sizeBuilder
  go_enter Tryd.func59, Tryd.ntmps59
  go_wp2
  rw [Lib.run_neq_ptr_same w _ Tryd.underlying44 hj]
  go_wp2
  go_end0
  exact ⟨rfl, rfl⟩

set_option maxRecDepth 100000 in
theorem copyCheck_fresh (b : Nat) (w : World) (h0 : w.cell? ⟨b, 0, none⟩ = some (.pointer none)) (hsh : w.shape? b = some (47, 2)) (hfz : w.frozen? ⟨b, 0, none⟩ = false) :
    Calls Tryd.prog 59 #[.pointer (some ⟨b, 0, none⟩)] w fun e w' => e = .returned (.tuple #[]) ∧ w' = w.setCell ⟨b, 0, none⟩ (.pointer (some ⟨b, 0, none⟩)) := by
  obtain ⟨j, hj, hjs⟩ := Option.map_eq_some_iff.1 sizeBuilder
  go_enter Tryd.func59, Tryd.ntmps59
  go_wp2
  rw [Lib.run_to_unsafe w ⟨b, 0, none⟩ Tryd.underlying44 Tryd.underlying107 hj (by rw [hjs]; decide) hsh (Nat.zero_lt_succ 1)]
  simp only [Result.andThen]
  rw [Oper.upon_value]
  go_wp2
  rw [run_callFunc_extern Tryd.func71 (by kernel_rfl) (by kernel_rfl) (by kernel_rfl) (e := Extern.AbiNoEscape.same) (by kernel_rfl)]
  rw [Lib.run_noEscape]
  simp only [Result.andThen]
  rw [Oper.upon_value]
  go_wp2
  rw [Lib.run_from_unsafe w ⟨b, 0, none⟩ Tryd.underlying107 Tryd.underlying44 hj hsh liesBuilder]
  simp only [Result.andThen]
  rw [Oper.upon_value]
  go_wp2
  go_end0
  exact ⟨rfl, rfl⟩

theorem copyCheck_any (B b : Nat) (l : List UInt8) (w : World) (h : Bu B b l w) :
    Calls Tryd.prog 59 #[.pointer (some ⟨b, 0, none⟩)] w fun e w' => e = .returned (.tuple #[]) ∧ Lib.BuilderAtF 47 5 B b (.pointer (some ⟨b, 0, none⟩)) (Lib.byteCells l) w' ∧ Below B w w' ∧ Lib.OthersKept 5 (some b) w w' := by
  rcases h with h | h
  · refine (copyCheck_fresh b w h.cell0 h.shape h.frozen0).mono ?_
    rintro e w' ⟨rfl, rfl⟩
    exact ⟨rfl, h.used _, (Below.refl B w).setCell (p := ⟨b, 0, none⟩) h.1 _, (Lib.OthersKept.refl _ _ w).setCell ⟨b, 0, none⟩ rfl _⟩
  · refine (copyCheck_used b w h.cell0).mono ?_
    rintro e w' ⟨rfl, rfl⟩
    exact ⟨rfl, h, Below.refl B _, Lib.OthersKept.refl _ _ _⟩

theorem lt_of_heap {w : World} {b : Nat} {o : Obj} (h : w.heap[b]? = some o) : b < w.heap.size := (Array.getElem?_eq_some_iff.1 h).1

set_option maxHeartbeats 1000000 in
set_option maxRecDepth 100000 in
theorem writeByte_any (B b : Nat) (l : List UInt8) (c : UInt8) (w : World) (h : Bu B b l w) (hlen : l.length + 1 ≤ 140737488355328) (hBw : B ≤ w.heap.size) :
    Calls Tryd.prog 35 #[.pointer (some ⟨b, 0, none⟩), .int .u8 c.toNat] w fun e w' => e = .returned .nilIface ∧ Wrote B b (l ++ [c]) w w' := by
  obtain ⟨i0, hi, hz0, hz1, hz2⟩ := info_parts infoByte
  have hbl := Lib.byteCells_length l
  have HBL := hide hbl
  have HI := hide (⟨hi, hz0, hz1, hz2⟩ : _ ∧ _ ∧ _ ∧ _)
  clear hbl hi hz0 hz1 hz2
  go_enter Tryd.func35, Tryd.ntmps35
  go_wp2_with fail
  refine (copyCheck_any B b l _ h).mono ?_
  rintro e w1 ⟨rfl, h1, hb1, hk1⟩
  obtain ⟨hB, v, hbk, hown, hne⟩ := h1
  have c0 : w1.cell? ⟨b, 0, none⟩ = some (.pointer (some ⟨b, 0, none⟩)) := by rw [Lib.cell_of_heap hbk]; rfl
  have c1 : w1.cell? ⟨b, 1, none⟩ = some v := by rw [Lib.cell_of_heap hbk]; rfl
  have H1 := hide (⟨hB, hbk, hown, hne, hb1, hk1⟩ : _ ∧ _ ∧ _ ∧ _ ∧ _ ∧ _)
  clear hB hbk hown hne hb1 hk1
  go_wp2_with (at_builtin; refine wpList_append_ownF _ rfl _ _ 45 rfl B 5 i0 (.int .u8 0) 1 1 Tryd.underlying45 HI.out.1 HI.out.2.1 HI.out.2.2.1 HI.out.2.2.2 rfl (by decide) _ _ _ rfl (H1.out.2.2.1.alloc _) ⟨w1.heap.size, 0, none⟩ 1 1 [.int .u8 c.toNat] rfl rfl ?c1 ?c2 ?c3 ?c4 ?c5 ?_)
  case c1 =>
    intro j u hj
    match j, hj with
    | 0, hj => simp at hj; subst hj; simp [Addr.add]
  case c2 => intro u hu; simp at hu; subst hu; rfl
  case c3 => rw [HBL.out]; unfold maxLen; omega
  case c4 => rw [HBL.out]; omega
  case c5 => have := H1.out.2.2.2.2.1.size; simp; omega
  intro v' w2 hown' hgrow _
  obtain ⟨hB, hbk, hown, hne, hb1, hk1⟩ := H1.out
  have hlt := lt_of_heap hbk
  have hb2 : w2.heap[b]? = some (.cells #[.pointer (some ⟨b, 0, none⟩), v] 47 (0, 0)) := by
    rw [hgrow.block b (by simp; omega) (fun e => hne e.symm), Lib.alloc_old w1 _ b hlt]
    exact hbk
  have d0 : w2.cell? ⟨b, 0, none⟩ = some (.pointer (some ⟨b, 0, none⟩)) := by rw [Lib.cell_of_heap hb2]; rfl
  have d1 : w2.cell? ⟨b, 1, none⟩ = some v := by rw [Lib.cell_of_heap hb2]; rfl
  have f1 : w2.frozen? ⟨b, 1, none⟩ = false := Lib.frozen_of_heap hb2 1
  obtain ⟨g, cap, rfl⟩ : ∃ g cap, v' = .slice (some ⟨g, 0, none⟩) ((Lib.byteCells l).length + 1) cap := by
    rcases hown'.2 with ⟨_, h0⟩ | ⟨g, cap, cur, fz, hv, _⟩
    · omega
    · exact ⟨g, cap, hv⟩
  have H2 := hide (⟨hown', hgrow, hb2⟩ : _ ∧ _ ∧ _)
  clear hown' hgrow hb2 hbk hown hne hb1 hk1 c0 c1
  go_wp2
  go_ret
  obtain ⟨hB, hbk, hown, hne, hb1, hk1⟩ := H1.out
  obtain ⟨hown', hgrow, hb2⟩ := H2.out
  refine ⟨rfl, Or.inr ?_, ?_, ((hk1.alloc _).grown hgrow (Lib.ownsRowF_kind (hown.alloc _))).setCell ⟨b, 1, none⟩ rfl _⟩
  · have e : Lib.byteCells (l ++ [c]) = Lib.byteCells l ++ [.int .u8 c.toNat] := by simp [Lib.byteCells]
    rw [e]
    exact Lib.BuilderAtF.put (T := 47) (e := 5) hB hb2 (by simpa using hown') (by decide)
  · exact ((hb1.alloc (by have := hb1.size; omega) _).grown hgrow (by have := hb1.size; simp; omega) (fun k hk => (hown.lt k hk).1)).setCell (p := ⟨b, 1, none⟩) hB _

set_option maxHeartbeats 1000000 in
set_option maxRecDepth 100000 in
theorem writeString_any (B b : Nat) (l : List UInt8) (s : ByteArray) (w : World) (h : Bu B b l w) (hlen : l.length + s.size ≤ 140737488355328) (hBw : B ≤ w.heap.size) :
    Calls Tryd.prog 33 #[.pointer (some ⟨b, 0, none⟩), .string s] w fun e w' => e = .returned (.tuple #[.int .i64 s.size, .nilIface]) ∧ Wrote B b (l ++ s.data.toList) w w' := by
  obtain ⟨i0, hi, hz0, hz1, hz2⟩ := info_parts infoByte
  have HBL := hide (Lib.byteCells_length l)
  have HI := hide (⟨hi, hz0, hz1, hz2⟩ : _ ∧ _ ∧ _ ∧ _)
  clear hi hz0 hz1 hz2
  go_enter Tryd.func33, Tryd.ntmps33
  go_wp2_with fail
  refine (copyCheck_any B b l _ h).mono ?_
  rintro e w1 ⟨rfl, h1, hb1, hk1⟩
  obtain ⟨hB, v, hbk, hown, hne⟩ := h1
  have c0 : w1.cell? ⟨b, 0, none⟩ = some (.pointer (some ⟨b, 0, none⟩)) := by rw [Lib.cell_of_heap hbk]; rfl
  have c1 : w1.cell? ⟨b, 1, none⟩ = some v := by rw [Lib.cell_of_heap hbk]; rfl
  have H1 := hide (⟨hB, hbk, hown, hne, hb1, hk1⟩ : _ ∧ _ ∧ _ ∧ _ ∧ _ ∧ _)
  clear hB hbk hown hne hb1 hk1
  go_wp2_with (at_builtin; refine Lib.wpList_append_own_stringF _ rfl _ _ 45 9 rfl B 5 i0 Tryd.underlying45 Tryd.underlying9 HI.out.1 HI.out.2.1 HI.out.2.2.1 HI.out.2.2.2 _ _ _ rfl H1.out.2.2.1 s rfl ?c3 ?c4 ?c5 ?_)
  case c3 => rw [HBL.out]; unfold maxLen; omega
  case c4 => rw [HBL.out]; omega
  case c5 => have := H1.out.2.2.2.2.1.size; omega
  intro v' w2 hown' hgrow _
  obtain ⟨hB, hbk, hown, hne, hb1, hk1⟩ := H1.out
  have hlt := lt_of_heap hbk
  have hb2 : w2.heap[b]? = some (.cells #[.pointer (some ⟨b, 0, none⟩), v] 47 (0, 0)) := by
    rw [hgrow.block b hlt (fun e => hne e.symm)]
    exact hbk
  have d0 : w2.cell? ⟨b, 0, none⟩ = some (.pointer (some ⟨b, 0, none⟩)) := by rw [Lib.cell_of_heap hb2]; rfl
  have d1 : w2.cell? ⟨b, 1, none⟩ = some v := by rw [Lib.cell_of_heap hb2]; rfl
  have f1 : w2.frozen? ⟨b, 1, none⟩ = false := Lib.frozen_of_heap hb2 1
  obtain ⟨ao, n', cap, rfl⟩ : ∃ ao n' cap, v' = .slice ao n' cap := by
    rcases hown'.2 with ⟨hv, _⟩ | ⟨g, cap, cur, fz, hv, _⟩
    · exact ⟨_, _, _, hv⟩
    · exact ⟨_, _, _, hv⟩
  have H2 := hide (⟨hown', hgrow, hb2⟩ : _ ∧ _ ∧ _)
  clear hown' hgrow hb2 hbk hown hne hb1 hk1 c0 c1
  go_wp2
  go_ret2
  obtain ⟨hB, hbk, hown, hne, hb1, hk1⟩ := H1.out
  obtain ⟨hown', hgrow, hb2⟩ := H2.out
  refine ⟨rfl, Or.inr ?_, ?_, (hk1.grown hgrow (Lib.ownsRowF_kind hown)).setCell ⟨b, 1, none⟩ rfl _⟩
  · have e : Lib.byteCells (l ++ s.data.toList) = Lib.byteCells l ++ Lib.strCells s := by rw [Lib.byteCells_append]; rfl
    rw [e]
    exact Lib.BuilderAtF.put (T := 47) (e := 5) hB hb2 (bs' := Lib.byteCells l ++ Lib.strCells s) (by simpa [Lib.strCells_length] using hown') (by decide)
  · exact (hb1.grown hgrow (by have := hb1.size; omega) (fun k hk => (hown.lt k hk).1)).setCell (p := ⟨b, 1, none⟩) hB _

theorem Bu.old {B b : Nat} {l : List UInt8} {w w' : World} (h : Bu B b l w) (hb : Below w.heap.size w w') : Bu B b l w' := by
  have key : ∀ p, Lib.BuilderAtF 47 5 B b p (Lib.byteCells l) w → Lib.BuilderAtF 47 5 B b p (Lib.byteCells l) w' := by
    rintro p ⟨hB, v, hbk, hown, hne⟩
    refine ⟨hB, v, (hb.block b (lt_of_heap hbk)).trans hbk, ?_, hne⟩
    obtain ⟨h1, h2⟩ := hown
    refine ⟨h1, ?_⟩
    rcases h2 with h2 | ⟨g, cap, cur, fz, hv, hg, hh, r⟩
    · exact Or.inl h2
    · exact Or.inr ⟨g, cap, cur, fz, hv, hg, (hb.block g (lt_of_heap hh)).trans hh, r⟩
  exact h.imp (key _) (key _)
theorem Bu.lt {B b : Nat} {l : List UInt8} {w : World} (h : Bu B b l w) : B ≤ b ∧ b < w.heap.size := by
  rcases h with h | h
  · exact ⟨h.1, h.lt⟩
  · exact ⟨h.1, h.lt⟩
/-- Where all that was is as it was, all is kept. -/
theorem kept_old {b : Option Nat} {w w' : World} (hb : Below w.heap.size w w') : Lib.OthersKept 5 b w w' := fun k _ hk _ _ => (hb.block k (lt_of_heap hk)).trans hk
/-- A box that is kept. -/
theorem kept_cell {b : Nat} {w w' : World} (h : Lib.OthersKept 5 (some b) w w') {k : Nat} {cs : Array Value} {t : TypeId} {fr : Nat × Nat} (hk : w.heap[k]? = some (.cells cs t fr)) (hne : k ≠ b) (ht : t ≠ 5) :
    w'.heap[k]? = some (.cells cs t fr) := h k _ hk (by simpa using hne) (fun c fz e => by injection e with _ e2 _; exact ht e2)

/-- The library's table of powers lies as its text lays it, whatever is done from block B on. -/
def Tab (B : Nat) (w : World) : Prop := Lib.TabBelow Tryd.prog B w "internal/strconv.uint64pow10" .u64 Lib.pow10Tab
theorem itoa_any (n : Int) (h0 : -9223372036854775808 ≤ n) (h1 : n ≤ 9223372036854775807) (B : Nat) (w : World) (htab : Tab B w) :
    Calls Tryd.prog 34 #[.int .i64 n] w fun e w' => e = .returned (.string ⟨(Lib.itoa n).toArray⟩) ∧ Below w.heap.size w w' := by
  refine (Tryd.strconv_Itoa n h0 h1 w htab.here).mono ?_
  rintro e w' ⟨rfl, k, os, rfl⟩
  exact ⟨rfl, Lib.below_grow _ _ (Nat.le_refl _) _ _⟩
end Go.Proofs.YtpehdgbdinjbaabDoor
namespace Go.Proofs.YtpehdgbdinjbaabDoor

/-- How much a term holds: its terms, and the letters of their names. -/
def wt : (n : Nat) → Tm n → Nat
  | 0, _ => 1
  | n + 1, x => 1 + x.1.2.2.size + (x.2.2.map fun y => wt n y).sum

theorem nodes_wt : (n : Nat) → (x : Tm n) → (nodes n x).length ≤ wt n x
  | 0, _ => by simp [nodes, wt]
  | n + 1, x => by
    have key : ∀ l : List (Tm n), (l.flatMap fun y => nodes n y).length ≤ (l.map fun y => wt n y).sum := by
      intro l
      induction l with
      | nil => simp
      | cons y l ih =>
        have := nodes_wt n y
        simp only [List.flatMap_cons, List.length_append, List.map_cons, List.sum_cons]
        omega
    have := key x.2.2
    simp only [nodes, wt, List.length_cons]
    omega
end Go.Proofs.YtpehdgbdinjbaabDoor
namespace Go.Proofs.YtpehdgbdinjbaabDoor
open Go.RowKit

/-- Texts, a blank between each two. -/
def jn (l : List (List UInt8)) : List UInt8 := ((l.map fun a => 32 :: a).flatten).tail
theorem jn_snoc (l : List (List UInt8)) (a : List UInt8) : jn (l ++ [a]) = if l = [] then a else jn l ++ 32 :: a := by
  unfold jn
  cases l with
  | nil => simp
  | cons b l => simp
/-- What term.write writes. -/
def wtext : (n : Nat) → Tm n → List UInt8
  | 0, _ => []
  | n + 1, x =>
    if x.1.1 = 1 then Lib.itoa x.1.2.1 else if x.1.1 = 2 then x.1.2.2.data.toList else if x.1.1 = 3 then 35 :: Lib.itoa x.1.2.1
    else if x.1.1 = 4 then 40 :: jn (x.2.2.map fun y => wtext n y) ++ [41] else if x.1.1 = 5 then 36 :: Lib.itoa x.1.2.1 else if x.1.1 = 6 then [95] else []
theorem jn_len (n : Nat) (f : Tm n → List UInt8) (l : List (Tm n)) (h : ∀ y ∈ l, (f y).length + 1 ≤ 24 * wt n y) : (jn (l.map f)).length ≤ 24 * (l.map fun y => wt n y).sum := by
  have key : ∀ l : List (Tm n), (∀ y ∈ l, (f y).length + 1 ≤ 24 * wt n y) → (((l.map f).map fun a => 32 :: a).flatten).length ≤ 24 * (l.map fun y => wt n y).sum := by
    intro l
    induction l with
    | nil => simp
    | cons y l ih =>
      intro h
      have hy := h y (by simp)
      have hr := ih (fun z hz => h z (by simp [hz]))
      simp only [List.map_cons, List.flatten_cons, List.length_append, List.length_cons, List.sum_cons]
      omega
  unfold jn
  rw [List.length_tail]
  have := key l h
  omega
theorem in_kid {B : Nat} {w : World} {n : Nat} {x : Tm (n + 1)} (h : In B w (n + 1) x) {y : Tm n} (hy : y ∈ x.2.2) : In B w n y := by
  rcases h.2 with h | ⟨b, o, _, _, h⟩
  · rw [h] at hy; cases hy
  · obtain ⟨i, hi⟩ := List.getElem?_of_mem hy
    exact (h i y hi).2
theorem wtext_len : (n : Nat) → (x : Tm n) → (B : Nat) → (w : World) → In B w n x → (wtext n x).length + 1 ≤ 24 * wt n x
  | 0, _, _, _, h => h.elim
  | n + 1, x, B, w, h => by
    have hl := jn_len n (fun y => wtext n y) x.2.2 (fun y hy => wtext_len n y B w (in_kid h hy))
    have hu : I64 x.1.2.1 := h.1.2.1
    obtain ⟨⟨k, u, s⟩, ⟨a, c⟩, p⟩ := x
    have hi := Lib.itoa_length_le u hu.1 hu.2
    have hs : s.data.toList.length = s.size := by rw [Array.length_toList]; rfl
    simp only at hl
    show (if k = 1 then Lib.itoa u else if k = 2 then s.data.toList else if k = 3 then 35 :: Lib.itoa u
      else if k = 4 then 40 :: jn (p.map fun y => wtext n y) ++ [41] else if k = 5 then 36 :: Lib.itoa u else if k = 6 then [95] else []).length + 1 ≤ 24 * (1 + s.size + (p.map fun y => wt n y).sum)
    repeat' split
    all_goals (try simp only [List.length_cons, List.length_append, List.length_nil])
    all_goals omega

theorem Wrote.trans {B b : Nat} {l l' : List UInt8} {w w1 w2 : World} (h : Wrote B b l w w1) (h' : Wrote B b l' w1 w2) : Wrote B b l' w w2 := ⟨h'.1, h.2.1.trans h'.2.1, h.2.2.trans h'.2.2⟩
theorem Wrote.old {B b : Nat} {l : List UInt8} {w w' : World} (h : Bu B b l w) (hb : Below w.heap.size w w') (hB : B ≤ w.heap.size) : Wrote B b l w w' := ⟨h.old hb, hb.mono hB, kept_old hb⟩

def FW (n : Nat) : Prop := ∀ (x : Tm n) (C B b : Nat) (l : List UInt8) (w : World), In C w n x → C ≤ B → Bu B b l w → B ≤ w.heap.size → Tab B w → l.length + 24 * wt n x ≤ 140737488355328 →
  Calls Tryd.prog 17 #[.pointer (some ⟨b, 0, none⟩), val n x] w fun e w' => e = .returned (.tuple #[]) ∧ Wrote B b (l ++ wtext n x) w w'

/-- A byte that stands as a number. -/
theorem writeByte_at (B b : Nat) (l : List UInt8) (c : Int) (c8 : UInt8) (hc : (c8.toNat : Int) = c) (w : World) (h : Bu B b l w) (hlen : l.length + 1 ≤ 140737488355328) (hBw : B ≤ w.heap.size) :
    Calls Tryd.prog 35 #[.pointer (some ⟨b, 0, none⟩), .int .u8 c] w fun e w' => e = .returned .nilIface ∧ Wrote B b (l ++ [c8]) w w' := by
  rw [← hc]
  exact writeByte_any B b l c8 w h hlen hBw
theorem box_at (w : World) (cs : Array Value) (t : TypeId) : (w.alloc (.cells cs t)).heap[w.heap.size]? = some (.cells cs t (0, 0)) := heap_alloc_new w _

set_option maxHeartbeats 1000000 in
theorem write_num (k u : Int) (s : ByteArray) (a : Option Addr) (n c : Nat) (B b : Nat) (l : List UInt8) (w : World) (hu : I64 u) (h : Bu B b l w) (hB : B ≤ w.heap.size) (ht : Tab B w) (hlen : l.length + 24 ≤ 140737488355328) (c8 : UInt8) (hk : (k = 3 ∧ c8 = 35) ∨ (k = 5 ∧ c8 = 36)) :
    Calls Tryd.prog 17 #[.pointer (some ⟨b, 0, none⟩), .agg #[.int .i64 k, .int .i64 u, .string s, .slice a n c]] w fun e w' => e = .returned (.tuple #[]) ∧ Wrote B b (l ++ c8 :: Lib.itoa u) w w' := by
  have HI := hide (Lib.itoa_length_le u hu.1 hu.2)
  have HW : Hid (∀ o, Wrote B b l w (w.alloc o)) := fun o => Wrote.old h ((Below.refl _ _).alloc (Nat.le_refl _) o) hB
  have HT := hide ht
  have HU := hide hu
  have hlt := h.lt
  clear h ht hu
  rcases hk with ⟨rfl, rfl⟩ | ⟨rfl, rfl⟩
  all_goals
    go_enter Tryd.func17, Tryd.ntmps17
    go_wp2_with fail
    refine (writeByte_at B b l _ _ (by first | exact (rfl : (((35 : UInt8).toNat : Nat) : Int) = 35) | exact (rfl : (((36 : UInt8).toNat : Nat) : Int) = 36)) _ (HW.out _).1 (by omega) (by simp; omega)).mono ?_
    rintro e w1 ⟨rfl, h1⟩
    have H1 := hide ((HW.out _).trans h1)
    have hbx := kept_cell h1.2.2 (box_at w _ 24) (by omega) (by decide)
    have hc : w1.cell? ⟨w.heap.size, 1, none⟩ = some (.int .i64 u) := by rw [Lib.cell_of_heap hbx]; rfl
    have HZ1 : Hid (B ≤ w1.heap.size) := by have := h1.2.1.size; simp at this; simp only [Hid]; omega
    clear h1 hbx
    go_wp2_with fail
    refine (itoa_any u HU.out.1 HU.out.2 B _ (HT.out.on H1.out.2.1)).mono ?_
    rintro e w2 ⟨rfl, hb2⟩
    have H2 := hide (Wrote.old H1.out.1 hb2 HZ1.out)
    have HZ2 : Hid (B ≤ w2.heap.size) := Nat.le_trans HZ1.out hb2.size
    clear hb2
    go_wp2_with fail
    refine (writeString_any B b _ _ _ H2.out.1 (by have := HI.out; simp [ByteArray.size]; omega) HZ2.out).mono ?_
    rintro e w3 ⟨rfl, h3⟩
    have H3 := hide ((H1.out.trans H2.out).trans h3)
    clear h3
    go_wp2_with fail
    go_end0
    exact ⟨rfl, by have := H3.out; simpa using this⟩
end Go.Proofs.YtpehdgbdinjbaabDoor
namespace Go.Proofs.YtpehdgbdinjbaabDoor
open Go.RowKit

/-- What a word is followed by. -/
def Ends (post : List UInt8) : Prop := post = [] ∨ ∃ c p, post = c :: p ∧ enB c = true

theorem drop_lt {s : ByteArray} {i : Nat} {c : UInt8} {l : List UInt8} (h : s.data.toList.drop i = c :: l) : ∃ h' : i < s.size, s[i] = c := by
  have h1 : i < s.size := by
    have := congrArg List.length h
    simp at this
    have e : s.data.size = s.size := rfl
    omega
  rw [drop_at s i h1] at h
  injection h with h _
  exact ⟨h1, h⟩
theorem drop_next {s : ByteArray} {i : Nat} {c : UInt8} {l : List UInt8} (h : s.data.toList.drop i = c :: l) : s.data.toList.drop (i + 1) = l := by
  rw [← List.tail_drop, h]; rfl
theorem drop_more {s : ByteArray} {i : Nat} {l post : List UInt8} (h : s.data.toList.drop i = l ++ post) : s.data.toList.drop (i + l.length) = post := by
  rw [← List.drop_drop, h, List.drop_left]
theorem drop_size {s : ByteArray} {i : Nat} {l post : List UInt8} (h : s.data.toList.drop i = l ++ post) (hl : l ≠ []) : i + l.length ≤ s.size := by
  have h2 := congrArg List.length h
  simp at h2
  have h3 : 0 < l.length := List.length_pos_iff.2 hl
  have e : s.data.size = s.size := rfl
  omega
theorem take_ends {l post : List UInt8} (h1 : ∀ c ∈ l, enB c = false) (h2 : Ends post) : (l ++ post).takeWhile (fun c => !enB c) = l := by
  induction l with
  | nil =>
    rcases h2 with rfl | ⟨c, p, rfl, hc⟩
    · rfl
    · simp [hc]
  | cons c l ih =>
    have := h1 c (by simp)
    simp [this]
    exact ih (fun d hd => h1 d (by simp [hd]))
theorem extract_of {s : ByteArray} {i : Nat} {l post : List UInt8} (h : s.data.toList.drop i = l ++ post) : s.extract i (i + l.length) = ⟨l.toArray⟩ := by
  apply ByteArray.ext
  apply Array.toList_inj.1
  have e : (s.extract i (i + l.length)).data.toList = (s.data.toList.drop i).take l.length := by
    simp
  rw [e, h]
  simp

theorem tk_word {s : ByteArray} {i : Nat} {l post : List UInt8} (h : s.data.toList.drop i = l ++ post) (hl : l ≠ []) (h1 : ∀ c ∈ l, enB c = false) (h2 : Ends post) : toks s i = (i, ⟨l.toArray⟩) :: toks s (i + l.length) := by
  cases l with
  | nil => exact absurd rfl hl
  | cons c l =>
    obtain ⟨hlt, hc⟩ := drop_lt h
    have e : skipTo (fun c => !enB c) s (i + 1) = i + (c :: l).length := by
      have h3 : s.data.toList.drop (i + 1) = l ++ post := drop_next h
      unfold skipTo
      rw [h3, take_ends (fun d hd => h1 d (by simp [hd])) h2]
      simp; omega
    rw [tk_plain hlt (by rw [hc]; exact h1 c (by simp)), e, extract_of h]
theorem tk_br {s : ByteArray} {i : Nat} {c : UInt8} {post : List UInt8} (h : s.data.toList.drop i = c :: post) (hc : c = 40 ∨ c = 41) : toks s i = (i, ⟨#[c]⟩) :: toks s (i + 1) := by
  obtain ⟨hlt, e⟩ := drop_lt h
  have h2 : s.data.toList.drop i = [c] ++ post := h
  have h3 := extract_of h2
  rw [tk_bracket hlt (by rw [e]; exact hc)]
  simp at h3
  rw [h3]
theorem tk_bl {s : ByteArray} {i : Nat} {post : List UInt8} (h : s.data.toList.drop i = 32 :: post) : toks s i = toks s (i + 1) := by
  obtain ⟨hlt, e⟩ := drop_lt h
  exact tk_blank hlt e

/-- What stands of a right term. -/
theorem right_leaf {n : Nat} {x : Tm (n + 1)} (hg : good (hdOf n x) = true) (h4 : x.1.1 ≠ 4) : Tells (wtext (n + 1) x) x.1 ∧ x.2.2 = [] := by
  obtain ⟨⟨k, u, s⟩, ⟨a, c⟩, p⟩ := x
  simp only at h4
  simp only [good, hdOf, Bool.and_eq_true, Bool.or_eq_true, beq_iff_eq, h4, false_or] at hg
  obtain ⟨hg, hp⟩ := hg
  have hp' : p = [] := by
    have : p.length = 0 := by simpa using hp
    exact List.eq_nil_of_length_eq_zero this
  refine ⟨?_, hp'⟩
  have hempty : s.toList.isEmpty = true → s = ⟨#[]⟩ := fun h => by
    rw [ByteArray.toList_eq] at h
    apply ByteArray.ext
    apply Array.toList_inj.1
    simpa using h
  simp only [wtext]
  by_cases k1 : k = 1
  · subst k1
    simp [inB] at hg
    obtain ⟨h1, h2, h3⟩ := hg
    have := hempty (by simpa using h1)
    subst this
    simp only [Lib.itoa, if_true]
    by_cases hu : u < 0
    · rw [if_pos hu]
      have := tells_neg u.natAbs (by omega) (by omega)
      rw [show -(u.natAbs : Int) = u by omega] at this
      exact this
    · rw [if_neg hu]
      have := tells_nat u.toNat (by omega)
      rw [show ((u.toNat : Nat) : Int) = u by omega] at this
      exact this
  · by_cases k2 : k = 2
    · subst k2
      simp at hg
      obtain ⟨h1, h2⟩ := hg
      subst h2
      simpa using tells_name s h1
    · by_cases k3 : k = 3
      · subst k3
        simp [inB] at hg
        obtain ⟨h1, h2, h3⟩ := hg
        have := hempty (by simpa using h1)
        subst this
        have h5 := tells_pid u.toNat (by omega)
        rw [show ((u.toNat : Nat) : Int) = u by omega] at h5
        simp only [Lib.itoa]
        have hu : ¬ u < 0 := by omega
        simpa [hu] using h5
      · by_cases k5 : k = 5
        · subst k5
          simp [inB] at hg
          obtain ⟨h1, h2, h3⟩ := hg
          have := hempty (by simpa using h1)
          subst this
          have h5 := tells_var u.toNat (by omega)
          rw [show ((u.toNat : Nat) : Int) = u by omega] at h5
          simp only [Lib.itoa]
          have hu : ¬ u < 0 := by omega
          simpa [hu] using h5
        · by_cases k6 : k = 6
          · subst k6
            simp at hg
            obtain ⟨h1, h2⟩ := hg
            subst h2
            have := hempty (by simpa using h1)
            subst this
            simpa using tells_any
          · simp [k1, k2, k3, k5, k6] at hg

theorem isO_open : isO ⟨#[40]⟩ = true := by simp [isO, ByteArray.toList_eq]
theorem isC_close : isC ⟨#[41]⟩ = true := by simp [isC, ByteArray.toList_eq]

def flat (n : Nat) (p : List (Tm n)) : List UInt8 := ((p.map fun y => wtext n y).map fun a => 32 :: a).flatten
theorem flat_ends {n : Nat} (p : List (Tm n)) (post : List UInt8) : Ends (flat n p ++ 41 :: post) := by
  cases p with
  | nil => exact Or.inr ⟨41, post, rfl, by decide⟩
  | cons y p => exact Or.inr ⟨32, _, rfl, by decide⟩

/-- A right term's text has just the words that tell it. -/
theorem text_is (s : ByteArray) : (n : Nat) → (x : Tm n) → formedB n x = true → (i : Nat) → (post : List UInt8) → s.data.toList.drop i = wtext n x ++ post → Ends post → Is n x (toks s i) (toks s (i + (wtext n x).length))
  | 0, x, hf, _, _, _, _ => by simp [formedB] at hf
  | n + 1, x, hf, i, post, h, hp => by
    simp only [formedB, Bool.and_eq_true] at hf
    obtain ⟨hg, hk⟩ := hf
    by_cases h4 : x.1.1 = 4
    · have hk' : ∀ y ∈ x.2.2, formedB n y = true := by
        rw [h4] at hk
        simpa using hk
      have key : ∀ (p : List (Tm n)) (i : Nat) (post : List UInt8), (∀ y ∈ p, formedB n y = true) → s.data.toList.drop i = flat n p ++ 41 :: post → IsL (Is n) p (toks s i) (toks s (i + (flat n p).length)) := by
        intro p
        induction p with
        | nil => intro i post _ _; simp [flat, IsL]
        | cons y p ih =>
          intro i post hy h
          have e1 : flat n (y :: p) = 32 :: wtext n y ++ flat n p := rfl
          rw [e1] at h
          have h1 : s.data.toList.drop i = 32 :: (wtext n y ++ (flat n p ++ 41 :: post)) := by simpa using h
          have h2 := drop_next h1
          have k1 := text_is s n y (hy y (by simp)) (i + 1) _ h2 (flat_ends p post)
          have h3 := drop_more h2
          have k2 := ih (i + 1 + (wtext n y).length) post (fun z hz => hy z (by simp [hz])) h3
          rw [tk_bl h1, e1]
          refine ⟨_, k1, ?_⟩
          have e2 : i + (32 :: wtext n y ++ flat n p).length = i + 1 + (wtext n y).length + (flat n p).length := by simp; omega
          rw [e2]
          exact k2
      have hx1 : x.1 = (4, 0, ⟨#[]⟩) := by
        obtain ⟨⟨k, u, b⟩, ⟨a, c⟩, p⟩ := x
        simp only at h4
        subst h4
        simp [good, hdOf] at hg
        obtain ⟨⟨h1, h2⟩, h3⟩ := hg
        subst h2
        have : b = ⟨#[]⟩ := by
          rw [ByteArray.toList_eq] at h1
          apply ByteArray.ext
          apply Array.toList_inj.1
          simpa using h1
        subst this
        rfl
      have ew : wtext (n + 1) x = 40 :: jn (x.2.2.map fun y => wtext n y) ++ [41] := by simp [wtext, h4]
      rw [ew] at h ⊢
      have h1 : s.data.toList.drop i = 40 :: (jn (x.2.2.map fun y => wtext n y) ++ 41 :: post) := by simpa using h
      have h2 := drop_next h1
      have hl : IsL (Is n) x.2.2 (toks s (i + 1)) (toks s (i + 1 + (jn (x.2.2.map fun y => wtext n y)).length)) := by
        cases hp2 : x.2.2 with
        | nil => simp [jn, IsL]
        | cons y p =>
          rw [hp2] at h2 hk'
          have e1 : jn ((y :: p).map fun y => wtext n y) = wtext n y ++ flat n p := rfl
          rw [e1] at h2 ⊢
          have h3 : s.data.toList.drop (i + 1) = wtext n y ++ (flat n p ++ 41 :: post) := by simpa using h2
          have k1 := text_is s n y (hk' y (by simp)) (i + 1) _ h3 (flat_ends p post)
          have k2 := key p (i + 1 + (wtext n y).length) post (fun z hz => hk' z (by simp [hz])) (drop_more h3)
          refine ⟨_, k1, ?_⟩
          have e2 : i + 1 + (wtext n y ++ flat n p).length = i + 1 + (wtext n y).length + (flat n p).length := by simp; omega
          rw [e2]
          exact k2
      have h3 := drop_more h2
      rw [tk_br h3 (Or.inr rfl)] at hl
      rw [tk_br h1 (Or.inl rfl)]
      have e3 : i + (40 :: jn (x.2.2.map fun y => wtext n y) ++ [41]).length = i + 1 + (jn (x.2.2.map fun y => wtext n y)).length + 1 := by simp; omega
      rw [e3]
      exact ⟨_, _, rfl, Or.inr ⟨isO_open, hx1, _, hl, isC_close⟩⟩
    · obtain ⟨ht, hx⟩ := right_leaf hg h4
      rw [tk_word h ht.1 ht.2.1 hp]
      exact ⟨_, _, rfl, Or.inl ⟨ht.2.2.2.2, ht.2.2.1, ht.2.2.2.1.symm, hx, rfl⟩⟩

/-- Words that begin with a term go on behind it. -/
theorem is_exp (L : Nat) : (n : Nat) → (x : Tm n) → (ts r : List Tok) → Is n x ts r → ∀ d, exp L ts d = scanD L r d
  | 0, _, _, _, h, _ => h.elim
  | n + 1, x, ts, r, h, d => by
    have key : ∀ (l : List (Tm n)) (ts m : List Tok) (e : Nat), IsL (Is n) l ts m → scanD L ts (e + 1) = scanD L m (e + 1) := by
      intro l
      induction l with
      | nil => intro ts m e h; have h' : ts = m := h; rw [h']
      | cons y l ih =>
        intro ts m e h
        obtain ⟨q, h1, h2⟩ := h
        rw [scan_exp L ts e, is_exp L n y ts q h1 (e + 1), ih q m e h2]
        intro t ts' e2
        obtain ⟨t2, ts2, e3, hc⟩ := h1.head
        rw [e3] at e2
        injection e2 with e2 _
        rw [← e2]; exact hc
    obtain ⟨t, ts', rfl, h⟩ := h
    rcases h with ⟨o, hl, _, _, hr⟩ | ⟨o, _, c, hl, hc⟩
    · simp [exp, o, hl, hr]
    · simp only [exp, o, if_true]
      rw [key _ _ _ d hl, scan_close _ _ _ _ hc]
end Go.Proofs.YtpehdgbdinjbaabDoor
namespace Go.Proofs.YtpehdgbdinjbaabDoor
open Go.RowKit

/-- A reader of text s, at the word from b to e, lies in block r. -/
def Rd (r : Nat) (s : ByteArray) (b e : Nat) (w : World) : Prop := w.heap[r]? = some (.cells #[.string s, .int .i64 b, .int .i64 e] 51)

theorem Rd.cells {r : Nat} {s : ByteArray} {b e : Nat} {w : World} (h : Rd r s b e w) :
    (w.cell? ⟨r, 0, none⟩ = some (.string s) ∧ w.cell? ⟨r, 1, none⟩ = some (.int .i64 b) ∧ w.cell? ⟨r, 2, none⟩ = some (.int .i64 e)) ∧ w.frozen? ⟨r, 1, none⟩ = false ∧ w.frozen? ⟨r, 2, none⟩ = false := by
  unfold Rd at h
  exact ⟨⟨by simp [World.cell?, h], by simp [World.cell?, h], by simp [World.cell?, h]⟩, by simp [World.frozen?, h], by simp [World.frozen?, h]⟩
theorem Rd.set1 {r : Nat} {s : ByteArray} {b e : Nat} {w : World} (h : Rd r s b e w) (k : Nat) : Rd r s k e (w.setCell ⟨r, 1, none⟩ (.int .i64 k)) := by
  unfold Rd at *
  simp [World.setCell, Array.getElem?_modify, h]
theorem Rd.set2 {r : Nat} {s : ByteArray} {b e : Nat} {w : World} (h : Rd r s b e w) (k : Nat) : Rd r s b k (w.setCell ⟨r, 2, none⟩ (.int .i64 k)) := by
  unfold Rd at *
  simp [World.setCell, Array.getElem?_modify, h]
theorem Rd.drew {r : Nat} {s : ByteArray} {b e : Nat} {w : World} (h : Rd r s b e w) (n : Nat) : Rd r s b e (w.drewN n) := h
theorem Rd.lt {r : Nat} {s : ByteArray} {b e : Nat} {w : World} (h : Rd r s b e w) : r < w.heap.size := (Array.getElem?_eq_some_iff.1 h).1

theorem moved_set (w : World) (r o : Nat) (v : Value) : w.grownBy (w.setCell ⟨r, o, none⟩ v) (some r) :=
  ⟨rfl, rfl, rfl, by simp [World.setCell], fun k _ hk => Below.heap_setCell w _ v k (fun e => hk (by rw [e]))⟩
theorem moved_drew (w : World) (n : Nat) (q : Option Nat) : w.grownBy (w.drewN n) q := ⟨rfl, rfl, rfl, Nat.le_refl _, fun _ _ _ => rfl⟩
theorem moved_trans {w w1 w2 : World} {q : Option Nat} (h : w.grownBy w1 q) (k : w1.grownBy w2 q) : w.grownBy w2 q :=
  ⟨k.os.trans h.os, k.tape.trans h.tape, k.output.trans h.output, Nat.le_trans h.size k.size, fun i hi hne => (k.block i (Nat.lt_of_lt_of_le hi h.size) hne).trans (h.block i hi hne)⟩

theorem ends_any (c : UInt8) (w : World) : Calls Tryd.prog 37 #[.int .u8 c.toNat] w fun e w' => e = .returned (.bool (enB c)) ∧ w' = w := by
  by_cases h1 : c = 32
  · subst h1
    go_enter Tryd.func37, Tryd.ntmps37
    go_wp2_with fail
    all_goals go_ret
    all_goals exact ⟨rfl, rfl⟩
  · have d1 := byte_ne (k := 32) (d := 32) rfl h1
    by_cases h2 : c = 40
    · subst h2
      go_enter Tryd.func37, Tryd.ntmps37
      go_wp2_with fail
      all_goals go_ret
      all_goals exact ⟨rfl, rfl⟩
    · have d2 := byte_ne (k := 40) (d := 40) rfl h2
      by_cases h3 : c = 41
      · subst h3
        go_enter Tryd.func37, Tryd.ntmps37
        go_wp2_with fail
        all_goals go_ret
        all_goals exact ⟨rfl, rfl⟩
      · have d3 := byte_ne (k := 41) (d := 41) rfl h3
        go_enter Tryd.func37, Tryd.ntmps37
        go_wp2_with fail
        all_goals go_ret
        all_goals exact ⟨ret_bool (by rw [show enB c = false by simp [enB, h1, h2, h3]]; simp; omega), rfl⟩

theorem word_any (r : Nat) (s : ByteArray) (b e : Nat) (w : World) (h : Rd r s b e w) (hb : b ≤ e) (he : e ≤ s.size) :
    Calls Tryd.prog 21 #[.pointer (some ⟨r, 0, none⟩)] w fun e' w' => e' = .returned (.string (s.extract b e)) ∧ ∃ n, w' = w.drewN n := by
  obtain ⟨⟨c0, c1, c2⟩, f1, f2⟩ := h.cells
  clear h
  have hb' : (b : Int) ≤ e := by omega
  have he' : (e : Int) ≤ s.size := by omega
  go_enter Tryd.func21, Tryd.ntmps21
  go_wp2_with fail
  go_quiet (fail)
  go_wp2_with fail
  go_ret
  exact ⟨by simp, _, rfl⟩
end Go.Proofs.YtpehdgbdinjbaabDoor
