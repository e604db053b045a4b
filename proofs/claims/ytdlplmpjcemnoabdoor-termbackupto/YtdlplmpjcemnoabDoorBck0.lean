/- What is proved here: plain facts: a right term's text has just the words that tell it; words that tell a term alone can go on to their end; where a text can't go on lies in it. No condition. -/
import Derived.Test.YtdlplmpjcemnoabDoorDec
import Derived.Test.YtdlplmpjcemnoabDoorWri
namespace Go.Proofs.YtdlplmpjcemnoabDoor
open Go.RowKit

/-- What a word is followed by. -/
def Ends (post : List UInt8) : Prop := post = [] ∨ ∃ c p, post = c :: p ∧ enB c = true

theorem drop_lt {s : ByteArray} {i : Nat} {c : UInt8} {l : List UInt8} (h : s.data.toList.drop i = c :: l) : ∃ h' : i < s.size, s[i] = c := by
  have h1 : i < s.size := by
    have := congrArg List.length h
    simp at this
    have e : s.data.size = s.size := rfl
    omega
  rw [drop_at s i h1] at h
  injection h with h _
  exact ⟨h1, h⟩
theorem drop_next {s : ByteArray} {i : Nat} {c : UInt8} {l : List UInt8} (h : s.data.toList.drop i = c :: l) : s.data.toList.drop (i + 1) = l := by
  rw [← List.tail_drop, h]; rfl
theorem drop_more {s : ByteArray} {i : Nat} {l post : List UInt8} (h : s.data.toList.drop i = l ++ post) : s.data.toList.drop (i + l.length) = post := by
  rw [← List.drop_drop, h, List.drop_left]
theorem drop_size {s : ByteArray} {i : Nat} {l post : List UInt8} (h : s.data.toList.drop i = l ++ post) (hl : l ≠ []) : i + l.length ≤ s.size := by
  have h2 := congrArg List.length h
  simp at h2
  have h3 : 0 < l.length := List.length_pos_iff.2 hl
  have e : s.data.size = s.size := rfl
  omega
theorem take_ends {l post : List UInt8} (h1 : ∀ c ∈ l, enB c = false) (h2 : Ends post) : (l ++ post).takeWhile (fun c => !enB c) = l := by
  induction l with
  | nil =>
    rcases h2 with rfl | ⟨c, p, rfl, hc⟩
    · rfl
    · simp [hc]
  | cons c l ih =>
    have := h1 c (by simp)
    simp [this]
    exact ih (fun d hd => h1 d (by simp [hd]))
theorem extract_of {s : ByteArray} {i : Nat} {l post : List UInt8} (h : s.data.toList.drop i = l ++ post) : s.extract i (i + l.length) = ⟨l.toArray⟩ := by
  apply ByteArray.ext
  apply Array.toList_inj.1
  have e : (s.extract i (i + l.length)).data.toList = (s.data.toList.drop i).take l.length := by
    simp
  rw [e, h]
  simp

theorem tk_word {s : ByteArray} {i : Nat} {l post : List UInt8} (h : s.data.toList.drop i = l ++ post) (hl : l ≠ []) (h1 : ∀ c ∈ l, enB c = false) (h2 : Ends post) : toks s i = (i, ⟨l.toArray⟩) :: toks s (i + l.length) := by
  cases l with
  | nil => exact absurd rfl hl
  | cons c l =>
    obtain ⟨hlt, hc⟩ := drop_lt h
    have e : skipTo (fun c => !enB c) s (i + 1) = i + (c :: l).length := by
      have h3 : s.data.toList.drop (i + 1) = l ++ post := drop_next h
      unfold skipTo
      rw [h3, take_ends (fun d hd => h1 d (by simp [hd])) h2]
      simp; omega
    rw [tk_plain hlt (by rw [hc]; exact h1 c (by simp)), e, extract_of h]
theorem tk_br {s : ByteArray} {i : Nat} {c : UInt8} {post : List UInt8} (h : s.data.toList.drop i = c :: post) (hc : c = 40 ∨ c = 41) : toks s i = (i, ⟨#[c]⟩) :: toks s (i + 1) := by
  obtain ⟨hlt, e⟩ := drop_lt h
  have h2 : s.data.toList.drop i = [c] ++ post := h
  have h3 := extract_of h2
  rw [tk_bracket hlt (by rw [e]; exact hc)]
  simp at h3
  rw [h3]
theorem tk_bl {s : ByteArray} {i : Nat} {post : List UInt8} (h : s.data.toList.drop i = 32 :: post) : toks s i = toks s (i + 1) := by
  obtain ⟨hlt, e⟩ := drop_lt h
  exact tk_blank hlt e

/-- What stands of a right term. -/
theorem right_leaf {n : Nat} {x : Tm (n + 1)} (hg : good (hdOf n x) = true) (h4 : x.1.1 ≠ 4) : Tells (wtext (n + 1) x) x.1 ∧ x.2.2 = [] := by
  obtain ⟨⟨k, u, s⟩, ⟨a, c⟩, p⟩ := x
  simp only at h4
  simp only [good, hdOf, Bool.and_eq_true, Bool.or_eq_true, beq_iff_eq, h4, false_or] at hg
  obtain ⟨hg, hp⟩ := hg
  have hp' : p = [] := by
    have : p.length = 0 := by simpa using hp
    exact List.eq_nil_of_length_eq_zero this
  refine ⟨?_, hp'⟩
  have hempty : s.toList.isEmpty = true → s = ⟨#[]⟩ := fun h => by
    rw [ByteArray.toList_eq] at h
    apply ByteArray.ext
    apply Array.toList_inj.1
    simpa using h
  simp only [wtext]
  by_cases k1 : k = 1
  · subst k1
    simp [inB] at hg
    obtain ⟨h1, h2, h3⟩ := hg
    have := hempty (by simpa using h1)
    subst this
    simp only [Lib.itoa, if_true]
    by_cases hu : u < 0
    · rw [if_pos hu]
      have := tells_neg u.natAbs (by omega) (by omega)
      rw [show -(u.natAbs : Int) = u by omega] at this
      exact this
    · rw [if_neg hu]
      have := tells_nat u.toNat (by omega)
      rw [show ((u.toNat : Nat) : Int) = u by omega] at this
      exact this
  · by_cases k2 : k = 2
    · subst k2
      simp at hg
      obtain ⟨h1, h2⟩ := hg
      subst h2
      simpa using tells_name s h1
    · by_cases k3 : k = 3
      · subst k3
        simp [inB] at hg
        obtain ⟨h1, h2, h3⟩ := hg
        have := hempty (by simpa using h1)
        subst this
        have h5 := tells_pid u.toNat (by omega)
        rw [show ((u.toNat : Nat) : Int) = u by omega] at h5
        simp only [Lib.itoa]
        have hu : ¬ u < 0 := by omega
        simpa [hu] using h5
      · by_cases k5 : k = 5
        · subst k5
          simp [inB] at hg
          obtain ⟨h1, h2, h3⟩ := hg
          have := hempty (by simpa using h1)
          subst this
          have h5 := tells_var u.toNat (by omega)
          rw [show ((u.toNat : Nat) : Int) = u by omega] at h5
          simp only [Lib.itoa]
          have hu : ¬ u < 0 := by omega
          simpa [hu] using h5
        · by_cases k6 : k = 6
          · subst k6
            simp at hg
            obtain ⟨h1, h2⟩ := hg
            subst h2
            have := hempty (by simpa using h1)
            subst this
            simpa using tells_any
          · simp [k1, k2, k3, k5, k6] at hg

theorem isO_open : isO ⟨#[40]⟩ = true := by simp [isO, ByteArray.toList_eq]
theorem isC_close : isC ⟨#[41]⟩ = true := by simp [isC, ByteArray.toList_eq]

def flat (n : Nat) (p : List (Tm n)) : List UInt8 := ((p.map fun y => wtext n y).map fun a => 32 :: a).flatten
theorem flat_ends {n : Nat} (p : List (Tm n)) (post : List UInt8) : Ends (flat n p ++ 41 :: post) := by
  cases p with
  | nil => exact Or.inr ⟨41, post, rfl, by decide⟩
  | cons y p => exact Or.inr ⟨32, _, rfl, by decide⟩

/-- A right term's text has just the words that tell it. -/
theorem text_is (s : ByteArray) : (n : Nat) → (x : Tm n) → formedB n x = true → (i : Nat) → (post : List UInt8) → s.data.toList.drop i = wtext n x ++ post → Ends post → Is n x (toks s i) (toks s (i + (wtext n x).length))
  | 0, x, hf, _, _, _, _ => by simp [formedB] at hf
  | n + 1, x, hf, i, post, h, hp => by
    simp only [formedB, Bool.and_eq_true] at hf
    obtain ⟨hg, hk⟩ := hf
    by_cases h4 : x.1.1 = 4
    · have hk' : ∀ y ∈ x.2.2, formedB n y = true := by
        rw [h4] at hk
        simpa using hk
      have key : ∀ (p : List (Tm n)) (i : Nat) (post : List UInt8), (∀ y ∈ p, formedB n y = true) → s.data.toList.drop i = flat n p ++ 41 :: post → IsL (Is n) p (toks s i) (toks s (i + (flat n p).length)) := by
        intro p
        induction p with
        | nil => intro i post _ _; simp [flat, IsL]
        | cons y p ih =>
          intro i post hy h
          have e1 : flat n (y :: p) = 32 :: wtext n y ++ flat n p := rfl
          rw [e1] at h
          have h1 : s.data.toList.drop i = 32 :: (wtext n y ++ (flat n p ++ 41 :: post)) := by simpa using h
          have h2 := drop_next h1
          have k1 := text_is s n y (hy y (by simp)) (i + 1) _ h2 (flat_ends p post)
          have h3 := drop_more h2
          have k2 := ih (i + 1 + (wtext n y).length) post (fun z hz => hy z (by simp [hz])) h3
          rw [tk_bl h1, e1]
          refine ⟨_, k1, ?_⟩
          have e2 : i + (32 :: wtext n y ++ flat n p).length = i + 1 + (wtext n y).length + (flat n p).length := by simp; omega
          rw [e2]
          exact k2
      have hx1 : x.1 = (4, 0, ⟨#[]⟩) := by
        obtain ⟨⟨k, u, b⟩, ⟨a, c⟩, p⟩ := x
        simp only at h4
        subst h4
        simp [good, hdOf] at hg
        obtain ⟨⟨h1, h2⟩, h3⟩ := hg
        subst h2
        have : b = ⟨#[]⟩ := by
          rw [ByteArray.toList_eq] at h1
          apply ByteArray.ext
          apply Array.toList_inj.1
          simpa using h1
        subst this
        rfl
      have ew : wtext (n + 1) x = 40 :: jn (x.2.2.map fun y => wtext n y) ++ [41] := by simp [wtext, h4]
      rw [ew] at h ⊢
      have h1 : s.data.toList.drop i = 40 :: (jn (x.2.2.map fun y => wtext n y) ++ 41 :: post) := by simpa using h
      have h2 := drop_next h1
      have hl : IsL (Is n) x.2.2 (toks s (i + 1)) (toks s (i + 1 + (jn (x.2.2.map fun y => wtext n y)).length)) := by
        cases hp2 : x.2.2 with
        | nil => simp [jn, IsL]
        | cons y p =>
          rw [hp2] at h2 hk'
          have e1 : jn ((y :: p).map fun y => wtext n y) = wtext n y ++ flat n p := rfl
          rw [e1] at h2 ⊢
          have h3 : s.data.toList.drop (i + 1) = wtext n y ++ (flat n p ++ 41 :: post) := by simpa using h2
          have k1 := text_is s n y (hk' y (by simp)) (i + 1) _ h3 (flat_ends p post)
          have k2 := key p (i + 1 + (wtext n y).length) post (fun z hz => hk' z (by simp [hz])) (drop_more h3)
          refine ⟨_, k1, ?_⟩
          have e2 : i + 1 + (wtext n y ++ flat n p).length = i + 1 + (wtext n y).length + (flat n p).length := by simp; omega
          rw [e2]
          exact k2
      have h3 := drop_more h2
      rw [tk_br h3 (Or.inr rfl)] at hl
      rw [tk_br h1 (Or.inl rfl)]
      have e3 : i + (40 :: jn (x.2.2.map fun y => wtext n y) ++ [41]).length = i + 1 + (jn (x.2.2.map fun y => wtext n y)).length + 1 := by simp; omega
      rw [e3]
      exact ⟨_, _, rfl, Or.inr ⟨isO_open, hx1, _, hl, isC_close⟩⟩
    · obtain ⟨ht, hx⟩ := right_leaf hg h4
      rw [tk_word h ht.1 ht.2.1 hp]
      exact ⟨_, _, rfl, Or.inl ⟨ht.2.2.2.2, ht.2.2.1, ht.2.2.2.1.symm, hx, rfl⟩⟩

/-- Words that begin with a term go on behind it. -/
theorem is_exp (L : Nat) : (n : Nat) → (x : Tm n) → (ts r : List Tok) → Is n x ts r → ∀ d, exp L ts d = scanD L r d
  | 0, _, _, _, h, _ => h.elim
  | n + 1, x, ts, r, h, d => by
    have key : ∀ (l : List (Tm n)) (ts m : List Tok) (e : Nat), IsL (Is n) l ts m → scanD L ts (e + 1) = scanD L m (e + 1) := by
      intro l
      induction l with
      | nil => intro ts m e h; have h' : ts = m := h; rw [h']
      | cons y l ih =>
        intro ts m e h
        obtain ⟨q, h1, h2⟩ := h
        rw [scan_exp L ts e, is_exp L n y ts q h1 (e + 1), ih q m e h2]
        intro t ts' e2
        obtain ⟨t2, ts2, e3, hc⟩ := h1.head
        rw [e3] at e2
        injection e2 with e2 _
        rw [← e2]; exact hc
    obtain ⟨t, ts', rfl, h⟩ := h
    rcases h with ⟨o, hl, _, _, hr⟩ | ⟨o, _, c, hl, hc⟩
    · simp [exp, o, hl, hr]
    · simp only [exp, o, if_true]
      rw [key _ _ _ d hl, scan_close _ _ _ _ hc]
end Go.Proofs.YtdlplmpjcemnoabDoor
