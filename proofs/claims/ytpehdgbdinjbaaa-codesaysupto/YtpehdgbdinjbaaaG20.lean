/- What is proved here: plain facts and contracts that the claimed theorem stands on, several texts in one: plain facts: a term that is the same as what tells a program in form is read, and what is read is as long. No condition. plain facts on programs that are told, and read again: the same programs have the same error and are told the same; what is read of a told program is told the same. No condition. the document's From of a term that lies in memory: its error is that of code.From, and the list that it returns is the program that is read. Condition: at most 2097152 terms in it. -/
import Derived.Test.YtpehdgbdinjbaaaG16
import Derived.Test.YtpehdgbdinjbaaaG19
namespace Go.Proofs.Ytpehdgbdinjbaaa
open Go.RowKit

theorem sameL_cons {α β : Type} {f : α → β → Bool} {p : List α} {b : β} {q : List β} (h : sameL f p (b :: q) = true) : ∃ a p', p = a :: p' ∧ f a b = true ∧ sameL f p' q = true := by
  cases p with
  | nil => simp [sameL] at h
  | cons a p =>
    simp only [sameL, Bool.and_eq_true] at h
    exact ⟨a, p, rfl, h.1, h.2⟩
theorem sameL_nil {α β : Type} {f : α → β → Bool} {p : List α} (h : sameL f p ([] : List β) = true) : p = [] := by
  cases p with
  | nil => rfl
  | cons a p => simp [sameL] at h
theorem same_hdT {n m : Nat} {x : Tm n} {y : Tm (m + 1)} (h : same n x (m + 1) y = true) : (hdT n x).1 = y.1 := (same_hd h).1
/-- What begins with an atom is opened so. -/
theorem word_of {N n : Nat} {x : Tm (N + 1)} {wd : ByteArray} {ys : List (Tm (n + 1))} (h : same (N + 1) x (n + 2) (tupV (n + 1) (atomV wd n :: ys)) = true) : wordT N x = wd ∧ sameL (fun a b => same N a (n + 1) b) (partsT N x) ys = true := by
  obtain ⟨h1, h2⟩ := same_parts h
  obtain ⟨a, p, h3, h4, h5⟩ := sameL_cons h2
  have e4 : x.1.1 = 4 := by rw [h1]; rfl
  have ea := same_hdT h4
  have hk : kindA ⟨N, a⟩ = 2 := by
    cases N with
    | zero => simp [same] at h4
    | succ N =>
      have : a.1.1 = 2 := by
        have e : a.1 = (2, 0, wd) := ea
        rw [e]
      exact this
  have h0 : x.2.2[0]? = some a := by rw [h3]; rfl
  have hd : x.2.2.drop 1 = p := by rw [h3]; rfl
  constructor
  · simp only [wordT, e4, if_true, h0, hk]
    rw [ea]
    rfl
  · simp only [partsT, e4, if_true, h0, hk, hd]
    exact h5
theorem isB_self (wd : ByteArray) : isB wd wd = true := by simp [isB]
theorem allV_ex {α β : Type} {n : Nat} {f : Tm n → Option α} {R : Tm n → β → Prop} {Q : α → β → Prop} (hf : ∀ y b, R y b → ∃ z, f y = some z ∧ Q z b) : (q : List (Tm n)) → (l : List β) → RelL R q l → ∃ zs, allV f q = some zs ∧ RelL Q zs l
  | [], [], _ => ⟨[], rfl, RelL.nil⟩
  | [], _ :: _, h => by have := h.1; simp at this
  | _ :: _, [], h => by have := h.1; simp at this
  | y :: q, b :: l, h => by
    obtain ⟨z, hz, k⟩ := hf y b h.tail.1
    obtain ⟨zs, hzs, k2⟩ := allV_ex hf q l h.tail.2
    refine ⟨z :: zs, by simp [allV, hz, hzs], by simp [k2.1], fun i u v hu hv => ?_⟩
    cases i with
    | zero =>
      simp at hu hv
      subst hu hv
      exact k
    | succ i => exact k2.2 i u v (by simpa using hu) (by simpa using hv)
theorem rel_of_same {β : Type} {n m : Nat} (g : β → Tm m) : (q : List (Tm n)) → (l : List β) → sameL (fun a b => same n a m b) q (l.map g) = true → RelL (fun y b => same n y m (g b) = true) q l
  | [], [], _ => RelL.nil
  | [], _ :: _, h => by simp [sameL] at h
  | _ :: _, [], h => by simp [sameL] at h
  | y :: q, b :: l, h => by
    simp only [List.map_cons, sameL, Bool.and_eq_true] at h
    have ih := rel_of_same g q l h.2
    refine ⟨by simp [ih.1], fun i u v hu hv => ?_⟩
    cases i with
    | zero =>
      simp at hu hv
      subst hu hv
      exact h.1
    | succ i => exact ih.2 i u v (by simpa using hu) (by simpa using hv)
theorem RelL.of_mem {α β : Type} {R : α → β → Prop} {P : β → Prop} {l : List α} {r : List β} (h : RelL R l r) (hp : ∀ y ∈ r, P y) : RelL (fun x y => R x y ∧ P y) l r := ⟨h.1, fun i x y hx hy => ⟨h.2 i x y hx hy, hp y (List.mem_of_getElem? hy)⟩⟩

theorem isB_other {wd s : ByteArray} (h : wd.toList ≠ s.toList) : isB wd s = false := by simpa [isB] using h
theorem rdA_ex (M N n : Nat) (a : Ac (n + 1)) (y : Tm N) (h : same N y (n + 2) (tellA n a) = true) : ∃ z, rdA M N y = some z := by
  cases N with
  | zero => simp [same] at h
  | succ N =>
  have L1 : wSend.toList = [115, 101, 110, 100] := bytes_lit [115, 101, 110, 100]
  have L2 : wSpawn.toList = [115, 112, 97, 119, 110] := bytes_lit [115, 112, 97, 119, 110]
  have L3 : wLink.toList = [108, 105, 110, 107] := bytes_lit [108, 105, 110, 107]
  have L4 : wStop.toList = [115, 116, 111, 112] := bytes_lit [115, 116, 111, 112]
  unfold tellA at h
  split at h
  · obtain ⟨h1, h2⟩ := word_of h
    obtain ⟨p, q1, e1, k1, h3⟩ := sameL_cons h2
    obtain ⟨q, q2, e2, k2, h4⟩ := sameL_cons h3
    have e3 := sameL_nil h4
    subst e2 e3
    simp only [rdA, rdAq, h1, e1, isB_self]
    exact ⟨_, rfl⟩
  split at h
  · obtain ⟨h1, h2⟩ := word_of h
    obtain ⟨p, q1, e1, k1, h3⟩ := sameL_cons h2
    obtain ⟨q, q2, e2, k2, h4⟩ := sameL_cons h3
    obtain ⟨r, q3, e3, k3, h5⟩ := sameL_cons h4
    have e4 := sameL_nil h5
    subst e2 e3 e4
    have hk1 : kindA ⟨N, p⟩ = 2 := by rw [same_kind k1]; rfl
    have hk3 : kindA ⟨N, r⟩ = 5 := by rw [same_kind k3]; rfl
    have b1 : isB wSpawn wSend = false := isB_other (by rw [L1, L2]; decide)
    simp only [rdA, rdAq, h1, e1, isB_self, b1, Bool.false_and, Bool.true_and]
    simp [rdSp, hk1, hk3]
  split at h
  · obtain ⟨h1, h2⟩ := word_of h
    obtain ⟨p, q1, e1, k1, h3⟩ := sameL_cons h2
    have e4 := sameL_nil h3
    subst e4
    have b1 : isB wLink wSend = false := isB_other (by rw [L1, L3]; decide)
    have b2 : isB wLink wSpawn = false := isB_other (by rw [L2, L3]; decide)
    simp only [rdA, rdAq, h1, e1, isB_self, b1, b2, Bool.false_and, Bool.true_and]
    simp
  · obtain ⟨h1, h2⟩ := word_of h
    have e4 := sameL_nil h2
    have b1 : isB wStop wSend = false := isB_other (by rw [L1, L4]; decide)
    have b2 : isB wStop wSpawn = false := isB_other (by rw [L2, L4]; decide)
    have b3 : isB wStop wLink = false := isB_other (by rw [L3, L4]; decide)
    simp only [rdA, rdAq, h1, e4, isB_self, b1, b2, b3, Bool.false_and, Bool.true_and]
    simp
theorem rdC_ex (M N n : Nat) (c : Cl (n + 1)) (y : Tm N) (h : same N y (n + 4) (tellC n c) = true) : ∃ z, rdC M N y = some z := by
  cases N with
  | zero => simp [same] at h
  | succ N =>
  obtain ⟨h1, h2⟩ := word_of h
  obtain ⟨p, q1, e1, k1, h3⟩ := sameL_cons h2
  obtain ⟨q, q2, e2, k2, h4⟩ := sameL_cons h3
  obtain ⟨r, q3, e3, k3, h5⟩ := sameL_cons h4
  obtain ⟨t, q4, e4, k4, h6⟩ := sameL_cons h5
  have e5 := sameL_nil h6
  subst e2 e3 e4 e5
  have hk3 : kindA ⟨N, r⟩ = 4 := by rw [same_kind k3]; rfl
  cases N with
  | zero => simp [same] at k3
  | succ N =>
  obtain ⟨zs, hzs, _⟩ := allV_ex (f := rdA M N) (R := fun y b => same N y (n + 2) (tellA n b) = true) (Q := fun _ _ => True) (fun y b hyb => by
    obtain ⟨z, hz⟩ := rdA_ex M N n b y hyb
    exact ⟨z, hz, trivial⟩) r.2.2 c.2.2 (rel_of_same (tellA n) _ _ (same_parts k3).2)
  have hzs' : allV (rdA M (N + 1 - 1)) (argsA (N + 1) r) = some zs := hzs
  refine ⟨((lift (M + 1) (N + 1) p, lift (M + 1) (N + 1) q, lift (M + 1) (N + 1) t), (none, 0), zs), ?_⟩
  show rdCq M (N + 1) (wordT (N + 1) y) (partsT (N + 1) y) = _
  rw [h1, e1]
  unfold rdCq
  rw [if_pos (by rw [isB_self]; rfl)]
  show (if kindA ⟨N + 1, r⟩ = 4 then (allV (rdA M (N + 1 - 1)) (argsA (N + 1) r)).map _ else none) = _
  rw [if_pos hk3, hzs']
  rfl
theorem rdB_ex (M N n : Nat) (b : Bh (n + 1)) (y : Tm N) (h : same N y (n + 5) (tellB n b) = true) : ∃ z, rdB M N y = some z ∧ z.2.2.length = b.2.2.length := by
  cases N with
  | zero => simp [same] at h
  | succ N =>
  obtain ⟨h1, h2⟩ := word_of h
  obtain ⟨p, q, e1, k1, h3⟩ := sameL_cons h2
  have hk1 : kindA ⟨N, p⟩ = 2 := by rw [same_kind k1]; rfl
  obtain ⟨zs, hzs, hl⟩ := allV_ex (f := rdC M N) (R := fun y b => same N y (n + 4) (tellC n b) = true) (Q := fun _ _ => True) (fun y b hyb => by
    obtain ⟨z, hz⟩ := rdC_ex M N n b y hyb
    exact ⟨z, hz, trivial⟩) q b.2.2 (rel_of_same (tellC n) _ _ h3)
  refine ⟨(nameA N p, (none, 0), zs), ?_, hl.1⟩
  simp only [rdB, rdBq, h1, e1, isB_self]
  simp [hk1, hzs]
theorem rdP_ex (M N n : Nat) (hN : N ≤ M + 1) (l : List (Bh (n + 1))) (hl : pgB (n + 1) l = true) (x : Tm N) (hr : RightA ⟨N, x⟩) (h : same N x (n + 6) (tellP n l) = true) : ∃ z, rdP M N x = some z ∧ pgB (M + 1) z = true ∧ z.length = l.length := by
  cases N with
  | zero => simp [same] at h
  | succ N =>
  obtain ⟨h1, h2⟩ := word_of h
  obtain ⟨zs, hzs, hq⟩ := allV_ex (f := rdB M N) (R := fun y b => same N y (n + 5) (tellB n b) = true) (Q := fun z b => z.2.2.length = b.2.2.length) (fun y b hyb => rdB_ex M N n b y hyb) (partsT N x) l (rel_of_same (tellB n) _ _ h2)
  have hp : rdP M (N + 1) x = some zs := by
    simp only [rdP, h1, isB_self]
    simpa using hzs
  refine ⟨zs, hp, ?_, hq.1⟩
  rw [(rdP_tell M (N + 1) hN x hr zs hp).2]
  simp only [pgB, bhB, Bool.and_eq_true, decide_eq_true_eq, List.all_eq_true] at hl ⊢
  refine ⟨by rw [hq.1]; exact hl.1.1, fun z hz => ?_⟩
  obtain ⟨i, hi⟩ := List.getElem?_of_mem hz
  have hlt : i < l.length := by have := (List.getElem?_eq_some_iff.1 hi).1; rw [← hq.1]; exact this
  have := hq.2 i z l[i] hi (List.getElem?_eq_getElem hlt)
  rw [this]
  exact (hl.2 l[i] (List.getElem_mem hlt)).1.1.2
end Go.Proofs.Ytpehdgbdinjbaaa
namespace Go.Proofs.Ytpehdgbdinjbaaa

theorem chk_rightA {n : Nat} {x : Tm n} (h : chk n x = 0) : RightA ⟨n, x⟩ := right_formed.2 (chk_iff.1 h).1
theorem toE_form {n : Nat} {p : List (Bh (n + 1))} (h : toE n p = 0) : pgB (n + 1) p = true ∧ chk (n + 6) (tellP n p) = 0 ∧ toT n p = tellP n p := by
  have h' := h
  unfold toE at h'
  split at h'
  · rename_i hp
    exact ⟨hp, h', by unfold toT; rw [if_pos h]⟩
  · omega
theorem toE_mk {n : Nat} {p : List (Bh (n + 1))} (h : pgB (n + 1) p = true) (k : chk (n + 6) (tellP n p) = 0) : toE n p = 0 := by
  unfold toE
  rw [if_pos h]
  exact k
theorem toE_congr {n : Nat} {l r : List (Bh (n + 1))} (h : RelL (bhS (n + 1)) l r) : toE n l = toE n r := by
  unfold toE
  rw [pgS_B h, same_chk (pgS_tell h)]
/-- A list that was read of a term is told as that term. -/
theorem read_told {M n : Nat} (hn : n ≤ M + 1) {x : Tm n} (hc : chk n x = 0) {z l : List (Bh (M + 1))} (hz : rdP M n x = some z) (hl : RelL (bhS (M + 1)) l z) (hB : pgB (M + 1) z = true) :
    pgB (M + 1) l = true ∧ toE M l = 0 ∧ same (M + 6) (toT M l) n x = true ∧ (nodes (M + 6) (tellP M l)).length = (nodes n x).length := by
  have h1 := rdP_tell M n hn x (chk_rightA hc) z hz
  have h2 : pgB (M + 1) l = true := (pgS_B hl).trans hB
  have h3 : same (M + 6) (tellP M l) n x = true := same_trans _ _ _ _ _ _ (pgS_tell hl) h1.1
  have h4 : toE M l = 0 := toE_mk h2 ((same_chk h3).trans hc)
  exact ⟨h2, h4, by rw [(toE_form h4).2.2]; exact h3, same_nlen _ _ _ _ h3⟩
theorem from_form {M n : Nat} {x : Tm n} (h : fromE M n x = 0) : chk n x = 0 ∧ ∀ z, rdP M n x = some z → pgB (M + 1) z = true := by
  unfold fromE at h
  split at h
  · rename_i hc
    refine ⟨hc, fun z hz => ?_⟩
    rw [hz] at h
    unfold fromO at h
    simp only at h
    split at h
    · assumption
    · omega
  · rename_i hc
    exact absurd h hc
/-- What a program in form is told as is read. -/
theorem told_read {n : Nat} {p : List (Bh (n + 1))} (h : toE n p = 0) {y : Tm (n + 6)} (hy : same (n + 6) y (n + 6) (toT n p) = true) :
    chk (n + 6) y = 0 ∧ fromE (n + 5) (n + 6) y = 0 ∧ ∀ z l, rdP (n + 5) (n + 6) y = some z → RelL (bhS (n + 6)) l z → pgB (n + 6) l = true ∧ toE (n + 5) l = 0 ∧ same (n + 11) (toT (n + 5) l) (n + 6) (toT n p) = true ∧ l.length = p.length ∧ (nodes (n + 11) (tellP (n + 5) l)).length = (nodes (n + 6) (tellP n p)).length := by
  obtain ⟨h1, h2, h3⟩ := toE_form h
  rw [h3] at hy
  have hc : chk (n + 6) y = 0 := (same_chk hy).trans h2
  obtain ⟨z, hz, hzB, hzl⟩ := rdP_ex (n + 5) (n + 6) n (Nat.le_refl _) p h1 y (chk_rightA hc) hy
  refine ⟨hc, ?_, fun z' l hz' hl => ?_⟩
  · unfold fromE
    rw [if_pos hc, hz]
    unfold fromO
    simp only [hzB, if_true]
  · rw [hz] at hz'
    injection hz' with hz'
    subst hz'
    obtain ⟨k1, k2, k3, k4⟩ := read_told (Nat.le_refl _) hc hz hl hzB
    exact ⟨k1, k2, by rw [h3]; exact same_trans _ _ _ _ _ _ k3 hy, hl.1.trans hzl, by rw [k4]; exact same_nlen _ _ _ _ hy⟩
theorem sameP_of {n m : Nat} {p : List (Bh (n + 1))} {q : List (Bh (m + 1))} (h1 : toE n p = 0) (h2 : toE m q = 0) (h3 : same (n + 6) (toT n p) (m + 6) (toT m q) = true) (h4 : p.length = q.length) : sameP n p m q = true := by
  unfold sameP
  rw [h1, h2, h3, h4]
  simp
end Go.Proofs.Ytpehdgbdinjbaaa
namespace Go.Proofs.Ytpehdgbdinjbaaa
open Go.RowKit

theorem allV_filter {α β : Type} (f : α → Option β) (p : β → Prop) [DecidablePred p] : (q : List α) → allV (fun x => (f x).bind fun b => if p b then some b else none) q = (allV f q).bind fun z => if ∀ b ∈ z, p b then some z else none
  | [] => by simp [allV]
  | a :: q => by
    simp only [allV, allV_filter f p q]
    cases f a with
    | none => rfl
    | some b =>
      simp only [Option.bind_some]
      cases allV f q with
      | none => split <;> rfl
      | some z =>
        simp only [Option.bind_some, Option.map_some]
        by_cases hb : p b
        · rw [if_pos hb]
          by_cases hz : ∀ b ∈ z, p b
          · rw [if_pos hz, if_pos (by simpa using ⟨hb, hz⟩)]
            rfl
          · rw [if_neg hz, if_neg (by simpa using fun _ => by simpa using hz)]
            rfl
        · have hn : ¬ ∀ b' ∈ b :: z, p b' := fun h => hb (h b (by simp))
          rw [if_neg hb, if_neg hn]
          rfl
/-- What a program is read as, by the document. -/
def sP (M n : Nat) (x : Tm (n + 6)) : Option (List (Bh (M + 1))) := if 2 ≤ x.2.2.length ∧ isT (n + 5) x wCode (x.2.2.length - 1) = true then allV (sB M (n + 5)) (x.2.2.drop 1) else none
theorem sP_is (M n : Nat) (hn : n + 6 ≤ M + 1) (x : Tm (n + 6)) (hr : RightA ⟨n + 6, x⟩) : sP M n x = (rdP M (n + 6) x).bind fun z => if pgB (M + 1) z = true then some z else none := by
  have hw := fun k => isT_word (n + 5) x wCode k (word_lit [99, 111, 100, 101] (by simp))
  have ht := rdP_tell M (n + 6) hn x hr
  have hrd : rdP M (n + 6) x = if isB (wordT (n + 5) x) wCode = true then allV (rdB M (n + 5)) (partsT (n + 5) x) else none := rfl
  unfold sP
  cases hb : isB (wordT (n + 5) x) wCode with
  | false =>
    rw [hrd, hb, if_neg (by rw [hw, hb]; simp)]
    rfl
  | true =>
    have h1 : isT (n + 5) x wCode (partsT (n + 5) x).length = true := by rw [hw, hb]; simp
    obtain ⟨h0, e, _, hl⟩ := isT_parts h1
    have hT : isT (n + 5) x wCode (x.2.2.length - 1) = true := by rw [hl]; exact h1
    rw [hb, if_pos rfl] at hrd
    rw [hT]
    have hd : x.2.2.drop 1 = partsT (n + 5) x := by rw [e]; rfl
    rw [hd, hl]
    have hf : allV (sB M (n + 5)) (partsT (n + 5) x) = (allV (rdB M (n + 5)) (partsT (n + 5) x)).bind fun z => if ∀ b ∈ z, 1 ≤ b.2.2.length then some z else none := allV_filter (rdB M (n + 5)) (fun b => 1 ≤ b.2.2.length) _
    rw [hf, ← hrd]
    cases hz : rdP M (n + 6) x with
    | none => simp
    | some z =>
      have hB := (ht z hz).2
      rw [hrd] at hz
      have hlz := (allV_len _ _ _ hz).1
      simp only [Option.bind_some]
      by_cases h2 : 2 ≤ (partsT (n + 5) x).length + 1
      · rw [if_pos ⟨h2, trivial⟩]
        by_cases hall : ∀ b ∈ z, 1 ≤ b.2.2.length
        · rw [if_pos hall, if_pos]
          rw [hB]
          simp only [Bool.and_eq_true, decide_eq_true_eq, List.all_eq_true]
          exact ⟨by omega, fun b hb => by have := hall b hb; omega⟩
        · rw [if_neg hall, if_neg]
          rw [hB]
          simp only [Bool.and_eq_true, decide_eq_true_eq, List.all_eq_true]
          exact fun h => hall fun b hb => by have := h.2 b hb; omega
      · rw [if_neg (fun h => h2 h.1), if_neg]
        rw [hB]
        simp only [Bool.and_eq_true, decide_eq_true_eq]
        exact fun h => h2 (by omega)

def RfOut (M : Nat) (E : Int) (o : Option (List (Bh (M + 1)))) (w : World) (e : Ending) (w' : World) : Prop :=
  ∃ (l : List (Bh (M + 1))) (len : Nat) (a : Option Addr) (c : Nat), e = .returned (.tuple #[.slice a len c, .int .i64 E]) ∧ Hid (Below w.heap.size w w' ∧ l.length = len ∧ len ≤ 8 ∧ PgIn (M + 1) w'.heap.size w' a l ∧ (¬ E = 0 → len = 0) ∧ (E = 0 → ∃ z, o = some z ∧ RelL (bhS (M + 1)) l z))
theorem rf_none {M : Nat} {E : Int} {o : Option (List (Bh (M + 1)))} {w w' : World} (h : ¬ E = 0) (hb : Below w.heap.size w w') : RfOut M E o w (.returned (.tuple #[.slice none 0 0, .int .i64 E])) w' :=
  ⟨[], 0, none, 0, rfl, hb, rfl, by omega, Or.inl rfl, fun _ => rfl, fun h0 => (h h0).elim⟩

set_option maxHeartbeats 4000000 in
set_option maxRecDepth 100000 in
theorem rfrom_bad (M : Nat) (k0 u0 : Int) (s0 : ByteArray) (a0 : Option Addr) (c0 L : Nat) (w : World) (ck : Int) (o : Option (List (Bh (M + 1)))) (hc : ¬ ck = 0)
    (HC : Hid (∀ w1, Below w.heap.size w w1 → Calls Try.prog 10 #[.agg #[.int .i64 k0, .int .i64 u0, .string s0, .slice a0 L c0]] w1 fun e w' => e = .returned (.int .i64 ck) ∧ Below w1.heap.size w1 w')) :
    Calls Try.prog 37 #[.agg #[.int .i64 k0, .int .i64 u0, .string s0, .slice a0 L c0]] w (RfOut M ck o w) := by
  have hc' : (ck != 0) = true := by simpa using hc
  go_enter Try.func37, Try.ntmps37
  go_wp2_with fail
  refine (HC.out _ one_alloc).mono ?_
  rintro e w1 ⟨rfl, hb1⟩
  have HB1 : Hid (Below w.heap.size w w1) := one_alloc.trans (hb1.mono (by simp))
  clear hb1
  go_wp2_with fail
  exact bodyPost_ret (v := .tuple #[.slice none 0 0, .int .i64 ck]) (by simp [results, Try.results37, go_sem]) rfl (rf_none hc HB1.out)
set_option maxHeartbeats 4000000 in
set_option maxRecDepth 100000 in
theorem rfrom_short (M : Nat) (k0 u0 : Int) (s0 : ByteArray) (a0 : Option Addr) (c0 L : Nat) (w : World) (o : Option (List (Bh (M + 1)))) (h2 : L < 2)
    (HC : Hid (∀ w1, Below w.heap.size w w1 → Calls Try.prog 10 #[.agg #[.int .i64 k0, .int .i64 u0, .string s0, .slice a0 L c0]] w1 fun e w' => e = .returned (.int .i64 0) ∧ Below w1.heap.size w1 w')) :
    Calls Try.prog 37 #[.agg #[.int .i64 k0, .int .i64 u0, .string s0, .slice a0 L c0]] w (RfOut M 5 o w) := by
  have hL3 : decide ((L : Int) < 2) = true := by simp; omega
  go_enter Try.func37, Try.ntmps37
  go_wp2_with fail
  refine (HC.out _ one_alloc).mono ?_
  rintro e w1 ⟨rfl, hb1⟩
  have HB1 : Hid (Below w.heap.size w w1) := one_alloc.trans (hb1.mono (by simp))
  have HX1 := hide (box4_new w _ _ _ _ _ hb1)
  clear hb1
  have t3 : w1.cell? ⟨w.heap.size, 3, none⟩ = some (.slice a0 L c0) := box_cell HX1.out 3
  go_wp2_with fail
  exact bodyPost_ret (v := .tuple #[.slice none 0 0, .int .i64 5]) (by simp [results, Try.results37, go_sem]) rfl (rf_none (by omega) HB1.out)
set_option maxHeartbeats 4000000 in
set_option maxRecDepth 100000 in
theorem rfrom_no (M : Nat) (k0 u0 : Int) (s0 : ByteArray) (a0 : Option Addr) (c0 L : Nat) (w : World) (o : Option (List (Bh (M + 1)))) (h2 : 2 ≤ L) (h8 : L ≤ 8)
    (HC : Hid (∀ w1, Below w.heap.size w w1 → Calls Try.prog 10 #[.agg #[.int .i64 k0, .int .i64 u0, .string s0, .slice a0 L c0]] w1 fun e w' => e = .returned (.int .i64 0) ∧ Below w1.heap.size w1 w'))
    (HIS : Hid (∀ w1, Below w.heap.size w w1 → Calls Try.prog 74 #[.agg #[.int .i64 k0, .int .i64 u0, .string s0, .slice a0 L c0], .string ⟨#[99, 111, 100, 101]⟩, .int .i64 ((L : Int) - 1)] w1 fun e w' => e = .returned (.bool false) ∧ Below w1.heap.size w1 w')) :
    Calls Try.prog 37 #[.agg #[.int .i64 k0, .int .i64 u0, .string s0, .slice a0 L c0]] w (RfOut M 5 o w) := by
  have hL3 : decide ((L : Int) < 2) = false := by simp; omega
  go_enter Try.func37, Try.ntmps37
  go_wp2_with fail
  refine (HC.out _ one_alloc).mono ?_
  rintro e w1 ⟨rfl, hb1⟩
  have HB1 : Hid (Below w.heap.size w w1) := one_alloc.trans (hb1.mono (by simp))
  have HX1 := hide (box4_new w _ _ _ _ _ hb1)
  clear hb1
  have t0 : w1.cell? ⟨w.heap.size, 0, none⟩ = some (.int .i64 k0) := box_cell HX1.out 0
  have t1 : w1.cell? ⟨w.heap.size, 1, none⟩ = some (.int .i64 u0) := box_cell HX1.out 1
  have t2 : w1.cell? ⟨w.heap.size, 2, none⟩ = some (.string s0) := box_cell HX1.out 2
  have t3 : w1.cell? ⟨w.heap.size, 3, none⟩ = some (.slice a0 L c0) := box_cell HX1.out 3
  go_wp2_with fail
  refine (HIS.out _ HB1.out).mono ?_
  rintro e w2 ⟨rfl, hb2⟩
  have HB2 : Hid (Below w.heap.size w w2) := HB1.out.trans (hb2.mono HB1.out.size)
  clear hb2 t0 t1 t2 t3
  go_wp2_with fail
  exact bodyPost_ret (v := .tuple #[.slice none 0 0, .int .i64 5]) (by simp [results, Try.results37, go_sem]) rfl (rf_none (by omega) HB2.out)

/-- The list while it is read. -/
def PgR (M n B : Nat) (w w1 : World) (args : List (Tm (n + 5))) (j : Nat) (v : Value) (wr : World) : Prop :=
  ∃ (bs zs : List (Bh (M + 1))), (∃ a c, v = .slice a bs.length c) ∧ Grow (BhIn (M + 1)) (BhOff (M + 1)) (bh2 (M + 1)) 2 127 B (w.heap.size + 1) bs v w1 wr ∧ allV (sB M (n + 5)) ((args.drop 1).take (j - 1)) = some zs ∧ RelL (bhS (M + 1)) bs zs
set_option maxHeartbeats 4000000 in
set_option maxRecDepth 100000 in
theorem rfrom_walk (M n : Nat) (k0 u0 : Int) (s0 : ByteArray) (c0 L : Nat) (args : List (Tm (n + 5))) (hL : Hid (args.length = L)) (B : Nat) (w : World) (E : Int) (o : Option (List (Bh (M + 1)))) (hB : B ≤ w.heap.size) (h2 : 2 ≤ L) (h8 : L ≤ 8) (pb po : Nat) (hpb : pb < B)
    (HC : Hid (∀ w1, Below w.heap.size w w1 → Calls Try.prog 10 #[.agg #[.int .i64 k0, .int .i64 u0, .string s0, .slice (some ⟨pb, po, none⟩) L c0]] w1 fun e w' => e = .returned (.int .i64 0) ∧ Below w1.heap.size w1 w'))
    (HIS : Hid (∀ w1, Below w.heap.size w w1 → Calls Try.prog 74 #[.agg #[.int .i64 k0, .int .i64 u0, .string s0, .slice (some ⟨pb, po, none⟩) L c0], .string ⟨#[99, 111, 100, 101]⟩, .int .i64 ((L : Int) - 1)] w1 fun e w' => e = .returned (.bool true) ∧ Below w1.heap.size w1 w'))
    (HAR : Hid (∀ (i : Nat) (y : Tm (n + 5)), args[i]? = some y → ∀ w1, Below w.heap.size w w1 → Held w1 pb (po + i * 4) (n + 5) y ∧ Calls Try.prog 75 #[.agg #[.int .i64 y.1.1, .int .i64 y.1.2.1, .string y.1.2.2, .slice y.2.1.1 y.2.2.length y.2.1.2]] w1 (RbOut M (sB M (n + 5) y) B w1)))
    (HO1 : Hid (∀ (j : Nat) (y : Tm (n + 5)), 1 ≤ j → args[j]? = some y → sB M (n + 5) y = none → E = 5)) (HO2 : Hid (∀ zs, allV (sB M (n + 5)) (args.drop 1) = some zs → E = 0 ∧ o = some zs)) :
    Calls Try.prog 37 #[.agg #[.int .i64 k0, .int .i64 u0, .string s0, .slice (some ⟨pb, po, none⟩) L c0]] w (RfOut M E o w) := by
  obtain ⟨it, hit, htz0, htz1, htz2⟩ := info_parts infoBehaviour
  have HT := hide (⟨hit, htz0, htz1, htz2⟩ : _ ∧ _ ∧ _ ∧ _)
  clear hit htz0 htz1 htz2
  have hL3 : decide ((L : Int) < 2) = false := by simp; omega
  have hpw : pb < w.heap.size := by omega
  go_enter Try.func37, Try.ntmps37
  go_wp2_with fail
  refine (HC.out _ one_alloc).mono ?_
  rintro e w1 ⟨rfl, hb1⟩
  have HB1 : Hid (Below w.heap.size w w1) := one_alloc.trans (hb1.mono (by simp))
  have HX1 := hide (box4_new w _ _ _ _ _ hb1)
  clear hb1
  have t0 : w1.cell? ⟨w.heap.size, 0, none⟩ = some (.int .i64 k0) := box_cell HX1.out 0
  have t1 : w1.cell? ⟨w.heap.size, 1, none⟩ = some (.int .i64 u0) := box_cell HX1.out 1
  have t2 : w1.cell? ⟨w.heap.size, 2, none⟩ = some (.string s0) := box_cell HX1.out 2
  have t3 : w1.cell? ⟨w.heap.size, 3, none⟩ = some (.slice (some ⟨pb, po, none⟩) L c0) := box_cell HX1.out 3
  have hz1 : w.heap.size < w1.heap.size := (Array.getElem?_eq_some_iff.1 HX1.out).1
  go_wp2_with fail
  refine (HIS.out _ HB1.out).mono ?_
  rintro e w2 ⟨rfl, hb2⟩
  have HB2 : Hid (Below w.heap.size w w2) := HB1.out.trans (hb2.mono HB1.out.size)
  have HX2 := hide ((hb2.block _ hz1).trans HX1.out)
  have hz2 : w.heap.size < w2.heap.size := (Array.getElem?_eq_some_iff.1 HX2.out).1
  clear hb2 t0 t1 t2 t3 HB1 HX1 hz1
  go_wp2_with fail
  go_loopw [6, 7] (fun v i wr => ∃ j : Nat, 1 ≤ j ∧ j ≤ L ∧ i = .int .i64 j ∧ Hid (PgR M n B w w2 args j v wr)) (fun _ i _ => L - (intOf i).toNat)
  case atStart => exact ⟨1, by omega, by omega, rfl, [], [], ⟨none, 0, rfl⟩, Grow.nil _, by simp [allV], RelL.nil⟩
  case round =>
    obtain ⟨j, hj1, hjL, rfl, HR⟩ := hrel
    obtain ⟨bs, zs, ⟨ba, bc, rfl⟩, r1, r2, r3⟩ := HR.out
    have HR1 := hide r1
    have HR23 := hide (⟨r2, r3⟩ : _ ∧ _)
    clear HR r1 r2 r3
    obtain ⟨bl, hbl⟩ : ∃ bl, bs.length = bl := ⟨_, rfl⟩
    rw [hbl] at HR1 ⊢
    have HBL := hide hbl
    have hbl8 : bl ≤ 8 := by
      have h := (allV_len _ _ _ HR23.out.1).1
      have h3 := HR23.out.2.1
      rw [hbl] at h3
      rw [List.length_take, List.length_drop, hL.out] at h
      omega
    clear hbl
    have HBW : Hid (Below w.heap.size w wr) := HB2.out.trans (HR1.out.1.mono (by omega))
    have HXr := hide ((HR1.out.1.block _ (by omega)).trans HX2.out)
    have hzr : w.heap.size < wr.heap.size := (Array.getElem?_eq_some_iff.1 HXr.out).1
    have t3 : wr.cell? ⟨w.heap.size, 3, none⟩ = some (.slice (some ⟨pb, po, none⟩) L c0) := box_cell HXr.out 3
    by_cases hlt : j < L
    rotate_left
    · obtain rfl : j = L := by omega
      go_wp2_with fail
      refine bodyPost_ret (v := .tuple #[.slice ba bl bc, .int .i64 0]) (by simp [results, Try.results37, go_sem]) rfl ?_
      have hz := HR23.out.1
      rw [List.take_of_length_le (by rw [List.length_drop, hL.out]; omega)] at hz
      obtain ⟨e1, e2⟩ := HO2.out zs hz
      obtain ⟨la, lc, lv, lh, ll, lo⟩ := HR1.out.lay (bh_stays (M + 1)) (fun a => (rfl : (bh2 (M + 1) a).length = 2))
      injection lv with l1 l2 l3
      subst l1 l3
      rw [e1]
      exact ⟨bs, bl, ba, bc, rfl, HBW.out, HBL.out, hbl8, ll, fun h => (h rfl).elim, fun _ => ⟨zs, e2, HR23.out.2⟩⟩
    · obtain ⟨y, hy⟩ : ∃ y, args[j]? = some y := ⟨args[j]'(by rw [hL.out]; exact hlt), List.getElem?_eq_getElem _⟩
      have HY := hide hy
      have HAy := hide (HAR.out j y hy)
      clear hy
      obtain ⟨⟨y0, y1, y2, y3⟩, _⟩ := HAy.out wr HBW.out
      have hj0 : (0 : Int) ≤ (j : Int) := by omega
      have hjLi : (j : Int) < (L : Int) := by omega
      go_wp2_with fail
      refine (HAy.out wr HBW.out).2.mono ?_
      rintro e w3 ⟨s3, a3, l3, c3, r3, rfl, H3⟩
      have HB3 : Hid (Below w.heap.size w w3) := HBW.out.trans (H3.out.1.mono HBW.out.size)
      clear y0 y1 y2 y3 t3
      cases r3
      · have HE5 : Hid (E = 5) := HO1.out j y hj1 HY.out (by
          have h := H3.out.2.1
          cases ho : sB M (n + 5) y with
          | none => rfl
          | some b => rw [ho] at h; cases h)
        go_wp2_with fail
        refine bodyPost_ret (v := .tuple #[.slice none 0 0, .int .i64 5]) (by simp [results, Try.results37, go_sem]) rfl ?_
        have h := rf_none (M := M) (E := E) (o := o) (by rw [HE5.out]; omega) (HB3.out.trans ((one_alloc (w := w3) (o := .cells #[.string s3, .slice a3 l3 c3] 127)).mono HB3.out.size))
        rw [HE5.out] at h ⊢
        exact h
      · obtain ⟨z, hz⟩ : ∃ z, sB M (n + 5) y = some z := by
          cases ho : sB M (n + 5) y with
          | some b => exact ⟨b, rfl⟩
          | none => have h := H3.out.2.1; rw [ho] at h; cases h
        obtain ⟨cls, hcl, ci, co, cS⟩ := H3.out.2.2 z hz
        have HZ := hide hz
        have HCL := hide hcl
        have HCI := hide (⟨ci, co, cS⟩ : _ ∧ _ ∧ _)
        clear hz hcl ci co cS
        have HBS : Hid (Below wr.heap.size wr ((w3.alloc (.cells #[.string s3, .slice a3 l3 c3] 127)).alloc (.cells #[.string s3, .slice a3 l3 c3] 127)) ∧ ((w3.alloc (.cells #[.string s3, .slice a3 l3 c3] 127)).alloc (.cells #[.string s3, .slice a3 l3 c3] 127)).heap.size = w3.heap.size + 1 + 1 ∧ ((w3.alloc (.cells #[.string s3, .slice a3 l3 c3] 127)).alloc (.cells #[.string s3, .slice a3 l3 c3] 127)).heap[w3.heap.size + 1]? = some (.cells #[.string s3, .slice a3 l3 c3] 127) ∧ Below w3.heap.size w3 ((w3.alloc (.cells #[.string s3, .slice a3 l3 c3] 127)).alloc (.cells #[.string s3, .slice a3 l3 c3] 127))) := by
          have h : Below w3.heap.size w3 ((w3.alloc (.cells #[.string s3, .slice a3 l3 c3] 127)).alloc (.cells #[.string s3, .slice a3 l3 c3] 127)) := by go_grown
          exact ⟨H3.out.1.trans (h.mono H3.out.1.size), by simp, new_last0 _ _ (by simp), h⟩
        have HOW : Hid (((w3.alloc (.cells #[.string s3, .slice a3 l3 c3] 127)).alloc (.cells #[.string s3, .slice a3 l3 c3] 127)).ownsRow (w.heap.size + 1) 127 2 (.slice ba bl bc) bl (bs.flatMap (bh2 (M + 1)))) := (by have h := own_below HR1.out.2.1 HBS.out.1; rw [HBL.out] at h; exact h)
        have HIN : Hid (BhIn (M + 1) ((w3.alloc (.cells #[.string s3, .slice a3 l3 c3] 127)).alloc (.cells #[.string s3, .slice a3 l3 c3] 127)).heap.size ((w3.alloc (.cells #[.string s3, .slice a3 l3 c3] 127)).alloc (.cells #[.string s3, .slice a3 l3 c3] 127)) (s3, (a3, c3), cls)) := (bh_stays (M + 1)).mono HBS.out.2.2.2.size ((bh_stays (M + 1)).below HBS.out.2.2.2 HCI.out.1)
        have HXC : Hid (bh2 (M + 1) (s3, (a3, c3), cls) = [.string s3, .slice a3 l3 c3]) := (by show [_, _] = _; rw [← HCL.out])
        have HST := fun (w4 : World) (gg gc : Nat) (hown : w4.ownsRow (w.heap.size + 1) 127 2 (.slice (some ⟨gg, 0, none⟩) (bl + 1) gc) (bl + 1) (bs.flatMap (bh2 (M + 1)) ++ [.string s3, .slice a3 l3 c3])) hgrow (hat : (Value.slice ba bl bc).ownBlock = some gg ∨ gg = w3.heap.size + 1 + 1) => hide (Grow.step (bh_stays (M + 1)) HR1.out (by omega) (by omega) HBS.out.1 (s3, (a3, c3), cls) HIN.out HCI.out.2.1 (g := gg) (c := gc) (w2 := w4) (by rw [HXC.out, HBL.out]; exact hown) hgrow (by rw [HBS.out.2.1]; exact hat))
        go_wp2_with (at_builtin; refine wpList_append_lies _ rfl _ _ 75 rfl (w.heap.size + 1) 127 it _ 2 40 Try.underlying75 HT.out.1 HT.out.2.1 HT.out.2.2.1 HT.out.2.2.2 rfl (by decide) (.slice ba bl bc) bl (bs.flatMap (bh2 (M + 1))) (by simp [Act.eval]) HOW.out ⟨w3.heap.size + 1, 0, none⟩ 1 1 [.string s3, .slice a3 l3 c3] (by simp [Act.eval]) rfl (World.news_of_block (cs := #[.string s3, .slice a3 l3 c3]) (t := 127) (fr := (0, 0)) HBS.out.2.2.1) (by simp [Value.oneCell']) (by decide) (by unfold maxLen; omega) (by omega) (by have := HBS.out.2.1; have := HB3.out.size; omega) (w3.heap.size + 1 + 1) HBS.out.2.1 ?_; intro g4 c4 w4 hown4 hgrow4 hat4 hlt4; have HS4 := HST w4 g4 c4 hown4 hgrow4 hat4; clear hown4 hgrow4 hat4 hlt4 HST HOW)
        go_roundw
        case rel =>
          have hd : (args.drop 1)[j - 1]? = some y := by rw [List.getElem?_drop, show 1 + (j - 1) = j by omega]; exact HY.out
          refine ⟨j + 1, by omega, by omega, by go_num, bs ++ [(s3, (a3, c3), cls)], zs ++ [z], ⟨some ⟨g4, 0, none⟩, c4, by rw [List.length_append, HBL.out]; rfl⟩, ?_, ?_, HR23.out.2.snoc HCI.out.2.2⟩
          · have h := HS4.out
            rw [HBL.out] at h
            exact h
          · rw [show j + 1 - 1 = j - 1 + 1 by omega]
            exact allV_take _ _ _ _ hd _ _ HR23.out.1 HZ.out
        case measure => simp [intOf]; omega
theorem rfrom_any (M n : Nat) (hM : n + 6 ≤ M + 1) (x : Tm (n + 6)) (B : Nat) (w : World) (hx : In B w (n + 6) x) (hN : (nodes (n + 6) x).length ≤ 2097152) (hB : B ≤ w.heap.size) :
    Calls Try.prog 37 #[.agg #[.int .i64 x.1.1, .int .i64 x.1.2.1, .string x.1.2.2, .slice x.2.1.1 x.2.2.length x.2.1.2]] w (RfOut M (fromE M (n + 6) x) (rdP M (n + 6) x) w) := by
  have HC : ∀ w1, Below w.heap.size w w1 → Calls Try.prog 10 #[.agg #[.int .i64 x.1.1, .int .i64 x.1.2.1, .string x.1.2.2, .slice x.2.1.1 x.2.2.length x.2.1.2]] w1 fun e w' => e = .returned (.int .i64 (chk (n + 6) x)) ∧ Below w1.heap.size w1 w' := fun w1 h1 => rcheck_any (n + 6) x B w1 (hx.below (h1.mono hB)) (Nat.le_trans hB h1.size) hN
  by_cases hc : chk (n + 6) x = 0
  rotate_left
  · have e : fromE M (n + 6) x = chk (n + 6) x := by unfold fromE; rw [if_neg hc]
    rw [e]
    exact rfrom_bad M _ _ _ _ _ _ w _ _ hc HC
  · rw [hc] at HC
    have hr := chk_rightA hc
    have hsp := sP_is M n hM x hr
    have e : fromE M (n + 6) x = if (sP M n x).isSome then 0 else 5 := by
      unfold fromE
      rw [if_pos hc, hsp]
      cases rdP M (n + 6) x with
      | none => rfl
      | some z =>
        unfold fromO
        simp only [Option.bind_some]
        by_cases h : pgB (M + 1) z = true <;> simp [h]
    have ho : ∀ zs, sP M n x = some zs → rdP M (n + 6) x = some zs := fun zs h => by
      rw [hsp] at h
      obtain ⟨z, h1, h2⟩ := Option.bind_eq_some_iff.1 h
      split at h2
      · injection h2 with h2
        rw [← h2]
        exact h1
      · cases h2
    clear hsp
    by_cases h2 : 2 ≤ x.2.2.length
    · have h4 : x.1.1 = 4 := by
        by_cases h4 : x.1.1 = 4
        · exact h4
        · have hg := hr (hdOf (n + 5) x) (by simp [nodes, hdOf])
          simp only [good, hdOf, Bool.and_eq_true, Bool.or_eq_true, beq_iff_eq] at hg
          have h5 := hg.2.resolve_left h4
          simp at h5
          rw [h5] at h2
          simp at h2
      have h8 := right_len hr h4
      have HIS : ∀ w1, Below w.heap.size w w1 → Calls Try.prog 74 #[.agg #[.int .i64 x.1.1, .int .i64 x.1.2.1, .string x.1.2.2, .slice x.2.1.1 x.2.2.length x.2.1.2], .string ⟨#[99, 111, 100, 101]⟩, .int .i64 ((x.2.2.length : Int) - 1)] w1 fun e w' => e = .returned (.bool (isT (n + 5) x wCode (x.2.2.length - 1))) ∧ Below w1.heap.size w1 w' := fun w1 h1 => by
        have h := ris_any (n + 5) x B wCode (x.2.2.length - 1) w1 (hx.below (h1.mono hB)) (Nat.le_trans hB h1.size) hr (by omega)
        rw [show ((x.2.2.length - 1 : Nat) : Int) = (x.2.2.length : Int) - 1 by omega] at h
        exact h
      cases hb : isT (n + 5) x wCode (x.2.2.length - 1) with
      | false =>
        rw [hb] at HIS
        have e5 : fromE M (n + 6) x = 5 := by rw [e]; unfold sP; rw [hb]; simp
        rw [e5]
        exact rfrom_no M _ _ _ _ _ _ w _ h2 h8 HC HIS
      | true =>
        rw [hb] at HIS
        have hs : sP M n x = allV (sB M (n + 5)) (x.2.2.drop 1) := by unfold sP; rw [hb, if_pos ⟨h2, rfl⟩]
        obtain ⟨pb, po, he, hpb, hh⟩ : ∃ pb po, x.2.1.1 = some ⟨pb, po, none⟩ ∧ pb < B ∧ ∀ w1, Below w.heap.size w w1 → ∀ (i : Nat) (y : Tm (n + 5)), x.2.2[i]? = some y → Held w1 pb (po + i * 4) (n + 5) y ∧ In B w1 (n + 5) y := by
          rcases hx.2 with e | ⟨b, o, e1, e2, _⟩
          · rw [e] at h2; simp at h2
          · refine ⟨b, o, e1, e2, fun w1 h1 i y hy => ?_⟩
            rcases (hx.below (h1.mono hB)).2 with e | ⟨b', o', e3, _, e4⟩
            · rw [e] at h2; simp at h2
            · rw [e1] at e3
              injection e3 with e3
              injection e3 with e5 e6
              subst e5 e6
              exact e4 i y hy
        rw [he] at HC HIS ⊢
        refine rfrom_walk M n x.1.1 x.1.2.1 x.1.2.2 x.2.1.2 x.2.2.length x.2.2 rfl B w _ _ hB h2 h8 pb po hpb HC HIS (fun i y hy w1 h1 => ⟨(hh w1 h1 i y hy).1, rbeh_any M n (by omega) y B w1 (hh w1 h1 i y hy).2 (right_args hr (List.mem_of_getElem? hy)) (Nat.le_trans hB h1.size)⟩) (fun j y hj hy hn => ?_) (fun zs hz => ?_)
        · have hd : (x.2.2.drop 1)[j - 1]? = some y := by rw [List.getElem?_drop, show 1 + (j - 1) = j by omega]; exact hy
          rw [e, hs, allV_none _ _ _ _ hd hn]
          rfl
        · rw [hz] at hs
          exact ⟨by rw [e, hs]; rfl, ho zs hs⟩
    · have e5 : fromE M (n + 6) x = 5 := by rw [e, show sP M n x = none from if_neg (fun h => h2 h.1)]; rfl
      rw [e5]
      exact rfrom_short M _ _ _ _ _ _ w _ (by omega) HC
end Go.Proofs.Ytpehdgbdinjbaaa
