/- What is proved here: plain facts and contracts that the claimed theorem stands on, several texts in one: plain facts: what is read of a right term is told as that term. No condition. plain facts: a program that is read of a right term is told as that term; what is in form of it. No condition. plain facts: a term that is the same as what tells a program in form is read, and what is read is as long. No condition. code.From of a term that lies in memory: its error is what plain functions say, and the list that it returns is the program that rdP reads, in new memory, or none. Condition: at most 2097152 terms in it. plain facts on programs that are told, and read again: the same programs have the same error and are told the same; what is read of a told program is told the same. No condition. the small program of the statement is in form, and told as a term it is right. No condition. plain facts on rows that the document's To makes: what they hold while all is in form, and how they grow. No condition. -/
import Derived.Test.YtpehdgbdinjbaabDoorG15
import Derived.Test.YtpehdgbdinjbaabDoorG11
namespace Go.Proofs.YtpehdgbdinjbaabDoor
open Go.RowKit

theorem empty_of {s : ByteArray} (h : s.toList.isEmpty = true) : s = .empty := by
  apply bytes_eq
  have e : ByteArray.empty.toList = [] := by rw [ByteArray.toList_eq]; rfl
  rw [e]
  simpa using h
theorem right_tup {n : Nat} {x : Tm (n + 1)} (hr : RightA ⟨n + 1, x⟩) (h4 : x.1.1 = 4) : x.1 = (4, 0, .empty) := by
  have h1 := hr (hdOf n x) (by simp [nodes, hdOf])
  unfold good at h1
  have e : (hdOf n x).1.1 = 4 := h4
  rw [if_neg (by rw [e]; omega), if_neg (by rw [e]; omega), if_neg (by rw [e]; omega), if_pos e] at h1
  simp only [Bool.and_eq_true, beq_iff_eq] at h1
  have h2 : x.1.2.2 = .empty := empty_of h1.1.1.1
  have h3 : x.1.2.1 = 0 := h1.1.1.2
  exact Prod.ext h4 (Prod.ext h3 h2)
theorem right_atom {n : Nat} {x : Tm (n + 1)} (hr : RightA ⟨n + 1, x⟩) (h2 : x.1.1 = 2) : x.1 = (2, 0, x.1.2.2) ∧ x.2.2 = [] ∧ nameB x.1.2.2 = true := by
  have h1 := hr (hdOf n x) (by simp [nodes, hdOf])
  unfold good at h1
  have e : (hdOf n x).1.1 = 2 := h2
  rw [if_neg (by rw [e]; omega), if_pos e] at h1
  simp only [Bool.and_eq_true, Bool.or_eq_true, beq_iff_eq] at h1
  obtain ⟨⟨hn, h0⟩, hk⟩ := h1
  refine ⟨Prod.ext h2 (Prod.ext h0 rfl), ?_, hn⟩
  rcases hk with hk | hk
  · rw [e] at hk; omega
  · have hk2 : ¬ (0 : Int) < (x.2.2.length : Int) := by simpa [hdOf] using hk
    exact List.eq_nil_of_length_eq_zero (by omega)
theorem right_var {n : Nat} {x : Tm (n + 1)} (hr : RightA ⟨n + 1, x⟩) (h5 : x.1.1 = 5) : x.1 = (5, x.1.2.1, .empty) ∧ x.2.2 = [] ∧ 0 ≤ x.1.2.1 ∧ x.1.2.1 ≤ 3 := by
  have h1 := hr (hdOf n x) (by simp [nodes, hdOf])
  unfold good at h1
  have e : (hdOf n x).1.1 = 5 := h5
  rw [if_neg (by rw [e]; omega), if_neg (by rw [e]; omega), if_neg (by rw [e]; omega), if_neg (by rw [e]; omega), if_pos e] at h1
  simp only [Bool.and_eq_true, Bool.or_eq_true, beq_iff_eq, inB, decide_eq_true_eq] at h1
  obtain ⟨⟨hn, h0⟩, hk⟩ := h1
  refine ⟨Prod.ext h5 (Prod.ext rfl (empty_of hn)), ?_, h0⟩
  rcases hk with hk | hk
  · rw [e] at hk; omega
  · have hk2 : ¬ (0 : Int) < (x.2.2.length : Int) := by simpa [hdOf] using hk
    exact List.eq_nil_of_length_eq_zero (by omega)
theorem atom_same {n : Nat} {x : Tm (n + 1)} (hr : RightA ⟨n + 1, x⟩) (h2 : x.1.1 = 2) (N : Nat) : same (N + 1) (atomV x.1.2.2 N) (n + 1) x = true := by
  obtain ⟨h1, h3, _⟩ := right_atom hr h2
  refine same_mk h1.symm ?_
  rw [h3]
  rfl
theorem var_same {n : Nat} {x : Tm (n + 1)} (hr : RightA ⟨n + 1, x⟩) (h5 : x.1.1 = 5) (N : Nat) : same (N + 1) (leafV 5 x.1.2.1 N) (n + 1) x = true := by
  obtain ⟨h1, h3, _⟩ := right_var hr h5
  refine same_mk h1.symm ?_
  rw [h3]
  rfl
/-- A right tuple that begins with an atom. -/
theorem word_right {n : Nat} {x : Tm (n + 1)} (hr : RightA ⟨n + 1, x⟩) {wd : ByteArray} (h : isB (wordT n x) wd = true) (hne : wd.toList ≠ []) :
    x.1 = (4, 0, .empty) ∧ ∃ h', x.2.2 = h' :: partsT n x ∧ ∀ N, same (N + 1) (atomV wd N) n h' = true := by
  have e0 : ByteArray.empty.toList = [] := by rw [ByteArray.toList_eq]; rfl
  have hw : wordT n x = wd := bytes_eq h
  unfold wordT at hw
  by_cases h4 : x.1.1 = 4
  · rw [if_pos h4] at hw
    refine ⟨right_tup hr h4, ?_⟩
    obtain ⟨⟨k, u, s⟩, ⟨a, c⟩, p⟩ := x
    simp only at h4 hw
    subst h4
    cases p with
    | nil =>
      simp at hw
      rw [← hw, e0] at hne
      exact (hne rfl).elim
    | cons y p =>
      simp only [List.getElem?_cons_zero] at hw
      cases n with
      | zero =>
        simp [kindA] at hw
        rw [← hw, e0] at hne
        exact (hne rfl).elim
      | succ n =>
        by_cases hk : y.1.1 = 2
        · refine ⟨y, by simp [partsT, kindA, hk], fun N => ?_⟩
          have e : wd = y.1.2.2 := by
            rw [if_pos (show kindA ⟨n + 1, y⟩ = 2 from hk)] at hw
            exact hw.symm
          rw [e]
          exact atom_same (parts_right (n + 1) _ y hr (by simp)) hk N
        · rw [if_neg (show ¬ kindA ⟨n + 1, y⟩ = 2 from hk)] at hw
          rw [← hw, e0] at hne
          exact (hne rfl).elim
  · rw [if_neg h4] at hw
    rw [← hw, e0] at hne
    exact (hne rfl).elim
theorem word_ne (l : List UInt8) (h : l ≠ []) : (⟨l.toArray⟩ : ByteArray).toList ≠ [] := by rw [bytes_lit]; exact h
theorem part_same {M n : Nat} (hn : n ≤ M + 1) {y : Tm n} (hr : RightA ⟨n, y⟩) : same (M + 1) (lift (M + 1) n y) n y = true := lift_self (M + 1) n hn y (same_refl n y hr)
theorem list_one {α : Type} {l : List α} {a : α} (h : l.length = 1) (h0 : l[0]? = some a) : l = [a] := by
  match l, h with
  | [x], _ => simpa using h0
theorem list_two {α : Type} {l : List α} {a b : α} (h : l.length = 2) (h0 : l[0]? = some a) (h1 : l[1]? = some b) : l = [a, b] := by
  match l, h with
  | [x, y], _ =>
    simp at h0 h1
    rw [h0, h1]
theorem list_three {α : Type} {l : List α} {a b c : α} (h : l.length = 3) (h0 : l[0]? = some a) (h1 : l[1]? = some b) (h2 : l[2]? = some c) : l = [a, b, c] := by
  match l, h with
  | [x, y, z], _ =>
    simp at h0 h1 h2
    rw [h0, h1, h2]
theorem list_four {α : Type} {l : List α} {a b c d : α} (h : l.length = 4) (h0 : l[0]? = some a) (h1 : l[1]? = some b) (h2 : l[2]? = some c) (h3 : l[3]? = some d) : l = [a, b, c, d] := by
  match l, h with
  | [x, y, z, t], _ =>
    simp at h0 h1 h2 h3
    rw [h0, h1, h2, h3]
/-- What is told of an act that was read. -/
theorem rdA_tell (M : Nat) : (n : Nat) → n ≤ M + 1 → (x : Tm n) → RightA ⟨n, x⟩ → (a : Ac (M + 1)) → rdA M n x = some a → same (M + 2) (tellA M a) n x = true ∧ actB (M + 1) a = true
  | 0, _, _, hr, _, _ => (zero_bad hr).elim
  | n + 1, hn, x, hr, a, h => by
    have hq : ∀ y ∈ partsT n x, RightA ⟨n, y⟩ := fun y hy => parts_right' hr hy
    have hz : nothingT (M + 1) (zT M) = true := by
      have e0 : ByteArray.empty.toList = [] := by rw [ByteArray.toList_eq]; rfl
      simp [nothingT, hdT, hdOf, zT, e0]
    have hns : noSp .empty 0 = true := by
      have e0 : ByteArray.empty.toList = [] := by rw [ByteArray.toList_eq]; rfl
      simp [noSp, e0]
    have get : ∀ (q : List (Tm n)) (i : Nat), i < q.length → ∃ y, q[i]? = some y ∧ y ∈ q := fun q i hi => ⟨q[i], List.getElem?_eq_getElem hi, List.getElem_mem hi⟩
    simp only [rdA, rdAq] at h
    split at h
    · rename_i hb
      simp only [Bool.and_eq_true, decide_eq_true_eq] at hb
      obtain ⟨h1, h', h2, h3⟩ := word_right hr hb.1 (word_ne [115, 101, 110, 100] (by simp))
      obtain ⟨p, hp, hpm⟩ := get _ 0 (by rw [hb.2]; omega)
      obtain ⟨q, hqq, hqm⟩ := get _ 1 (by rw [hb.2]; omega)
      rw [hp, hqq] at h
      have e : a = (1, (lift (M + 1) n p, lift (M + 1) n q), (.empty, 0)) := by simpa using h.symm
      have hl : partsT n x = [p, q] := list_two hb.2 hp hqq
      subst e
      refine ⟨same_mk h1.symm ?_, hns⟩
      rw [h2, hl]
      show sameL _ [atomV wSend M, lift (M + 1) n p, lift (M + 1) n q] [h', p, q] = true
      simp only [sameL, h3 M, part_same (M := M) (by omega) (hq p hpm), part_same (M := M) (by omega) (hq q hqm), Bool.and_self]
    split at h
    · rename_i hb
      simp only [Bool.and_eq_true, decide_eq_true_eq] at hb
      obtain ⟨h1, h', h2, h3⟩ := word_right hr hb.1 (word_ne [115, 112, 97, 119, 110] (by simp))
      obtain ⟨p, hp, hpm⟩ := get _ 0 (by rw [hb.2]; omega)
      obtain ⟨q, hqq, hqm⟩ := get _ 1 (by rw [hb.2]; omega)
      obtain ⟨r, hrr, hrm⟩ := get _ 2 (by rw [hb.2]; omega)
      rw [hp, hqq, hrr] at h
      simp only [Option.bind_some, rdSp] at h
      split at h
      · rename_i hk
        have e : a = (2, (zT M, lift (M + 1) n q), (nameA n p, numA n r)) := by simpa using h.symm
        have hl : partsT n x = [p, q, r] := list_three hb.2 hp hqq hrr
        subst e
        cases n with
        | zero => exact (zero_bad (hq p hpm)).elim
        | succ n =>
        have hv := right_var (hq r hrm) hk.2
        have hnm := right_atom (hq p hpm) hk.1
        refine ⟨same_mk h1.symm ?_, ?_⟩
        · rw [h2, hl]
          show sameL _ [atomV wSpawn M, atomV p.1.2.2 M, lift (M + 1) (n + 1) q, leafV 5 r.1.2.1 M] [h', p, q, r] = true
          simp only [sameL, h3 M, part_same (M := M) (by omega) (hq q hqm), atom_same (hq p hpm) hk.1 M, var_same (hq r hrm) hk.2 M, Bool.and_self]
        · show (nothingT (M + 1) (zT M) && nameB p.1.2.2 && decide (0 ≤ r.1.2.1) && decide (r.1.2.1 < 4)) = true
          rw [hz, hnm.2.2, decide_eq_true hv.2.2.1, decide_eq_true (by omega)]
          rfl
      · cases h
    split at h
    · rename_i hb
      simp only [Bool.and_eq_true, decide_eq_true_eq] at hb
      obtain ⟨h1, h', h2, h3⟩ := word_right hr hb.1 (word_ne [108, 105, 110, 107] (by simp))
      obtain ⟨p, hp, hpm⟩ := get _ 0 (by rw [hb.2]; omega)
      rw [hp] at h
      have e : a = (3, (lift (M + 1) n p, zT M), (.empty, 0)) := by simpa using h.symm
      have hl : partsT n x = [p] := list_one hb.2 hp
      subst e
      refine ⟨same_mk h1.symm ?_, ?_⟩
      · rw [h2, hl]
        show sameL _ [atomV wLink M, lift (M + 1) n p] [h', p] = true
        simp only [sameL, h3 M, part_same (M := M) (by omega) (hq p hpm), Bool.and_self]
      · show (nothingT (M + 1) (zT M) && noSp .empty 0) = true
        rw [hz, hns]
        rfl
    split at h
    · rename_i hb
      simp only [Bool.and_eq_true, decide_eq_true_eq] at hb
      obtain ⟨h1, h', h2, h3⟩ := word_right hr hb.1 (word_ne [115, 116, 111, 112] (by simp))
      have e : a = (4, (zT M, zT M), (.empty, 0)) := by simpa using h.symm
      have hl : partsT n x = [] := List.eq_nil_of_length_eq_zero hb.2
      subst e
      refine ⟨same_mk h1.symm ?_, ?_⟩
      · rw [h2, hl]
        show sameL _ [atomV wStop M] [h'] = true
        simp only [sameL, h3 M, Bool.and_self]
      · show (nothingT (M + 1) (zT M) && nothingT (M + 1) (zT M) && noSp .empty 0) = true
        rw [hz, hns]
        rfl
    · cases h
end Go.Proofs.YtpehdgbdinjbaabDoor
namespace Go.Proofs.YtpehdgbdinjbaabDoor
open Go.RowKit

theorem all_congr_mem {α : Type} {f g : α → Bool} : {l : List α} → (∀ x ∈ l, f x = g x) → l.all f = l.all g
  | [], _ => rfl
  | a :: l, h => by
    simp only [List.all_cons, h a (by simp), all_congr_mem (l := l) fun x hx => h x (by simp [hx])]
theorem allV_tell {α : Type} {n N : Nat} {f : Tm n → Option α} {g : α → Tm N} {B : α → Bool} (hf : ∀ x a, RightA ⟨n, x⟩ → f x = some a → same N (g a) n x = true ∧ B a = true) : (p : List (Tm n)) → (∀ y ∈ p, RightA ⟨n, y⟩) → (l : List α) → allV f p = some l → sameL (fun a b => same N a n b) (l.map g) p = true ∧ l.all B = true ∧ l.length = p.length
  | [], _, l, h => by
    simp [allV] at h
    subst h
    exact ⟨rfl, rfl, rfl⟩
  | y :: p, hr, l, h => by
    simp only [allV] at h
    obtain ⟨a, ha, h⟩ := Option.bind_eq_some_iff.1 h
    obtain ⟨r, hrr, rfl⟩ := Option.map_eq_some_iff.1 h
    obtain ⟨h1, h2, h3⟩ := allV_tell hf p (fun z hz => hr z (by simp [hz])) r hrr
    obtain ⟨k1, k2⟩ := hf y a (hr y (by simp)) ha
    refine ⟨?_, by simp [k2, h2], by simp [h3]⟩
    simp only [List.map_cons, sameL, k1, h1, Bool.and_self]
theorem lift_twice {N M n : Nat} (hn : n ≤ M + 1) (hN : M + 1 ≤ N) {y : Tm n} (hr : RightA ⟨n, y⟩) : same N (lift N (M + 1) (lift (M + 1) n y)) n y = true := by
  have h1 := part_same hn hr
  exact same_trans _ _ _ _ _ _ (lift_self N (M + 1) hN _ (same_left h1)) h1
theorem rdC_tell (M : Nat) : (n : Nat) → n ≤ M + 1 → (x : Tm n) → RightA ⟨n, x⟩ → (c : Cl (M + 1)) → rdC M n x = some c → same (M + 4) (tellC M c) n x = true ∧ clB (M + 1) c = true
  | 0, _, _, hr, _, _ => (zero_bad hr).elim
  | n + 1, hn, x, hr, c, h => by
    have hq : ∀ y ∈ partsT n x, RightA ⟨n, y⟩ := fun y hy => parts_right' hr hy
    have get : ∀ (q : List (Tm n)) (i : Nat), i < q.length → ∃ y, q[i]? = some y ∧ y ∈ q := fun q i hi => ⟨q[i], List.getElem?_eq_getElem hi, List.getElem_mem hi⟩
    simp only [rdC, rdCq] at h
    split at h
    · rename_i hb
      simp only [Bool.and_eq_true, decide_eq_true_eq] at hb
      obtain ⟨h1, h', h2, h3⟩ := word_right hr hb.1 (word_ne [111, 110] (by simp))
      obtain ⟨p, hp, hpm⟩ := get _ 0 (by rw [hb.2]; omega)
      obtain ⟨q, hqq, hqm⟩ := get _ 1 (by rw [hb.2]; omega)
      obtain ⟨r, hrr, hrm⟩ := get _ 2 (by rw [hb.2]; omega)
      obtain ⟨t, htt, htm⟩ := get _ 3 (by rw [hb.2]; omega)
      rw [hp, hqq, hrr, htt] at h
      simp only [Option.bind_some] at h
      split at h
      · rename_i hk
        obtain ⟨l, hl, rfl⟩ := Option.map_eq_some_iff.1 h
        have hparts : partsT n x = [p, q, r, t] := list_four hb.2 hp hqq hrr htt
        cases n with
        | zero => exact (zero_bad (hq p hpm)).elim
        | succ n =>
        have hr4 : r.1.1 = 4 := hk
        obtain ⟨k1, k2, k3⟩ := allV_tell (g := tellA M) (B := actB (M + 1)) (fun y a hy ha => rdA_tell M n (by omega) y hy a ha) r.2.2 (fun y hy => parts_right n r y (hq r hrm) hy) l hl
        have h8 := right_len (hq r hrm) hr4
        refine ⟨same_mk h1.symm ?_, ?_⟩
        · rw [h2, hparts]
          show sameL _ [atomV wOn (M + 2), lift (M + 3) (M + 1) (lift (M + 1) (n + 1) p), lift (M + 3) (M + 1) (lift (M + 1) (n + 1) q), tupV (M + 2) (l.map (tellA M)), lift (M + 3) (M + 1) (lift (M + 1) (n + 1) t)] [h', p, q, r, t] = true
          have hA : same (M + 3) (tupV (M + 2) (l.map (tellA M))) (n + 1) r = true := same_mk (right_tup (hq r hrm) hr4).symm k1
          simp only [sameL, h3 (M + 2), lift_twice (N := M + 3) (M := M) (by omega) (by omega) (hq p hpm), lift_twice (N := M + 3) (M := M) (by omega) (by omega) (hq q hqm), lift_twice (N := M + 3) (M := M) (by omega) (by omega) (hq t htm), hA, Bool.and_self]
        · show (decide ((l.length : Int) ≤ 8) && l.all (actB (M + 1))) = true
          rw [k2, decide_eq_true (by omega)]
          rfl
      · cases h
    · cases h
theorem rdB_tell (M : Nat) : (n : Nat) → n ≤ M + 1 → (x : Tm n) → RightA ⟨n, x⟩ → (b : Bh (M + 1)) → rdB M n x = some b → same (M + 5) (tellB M b) n x = true ∧ (nameB b.1 && decide ((b.2.2.length : Int) ≤ 6) && b.2.2.all (clB (M + 1))) = true
  | 0, _, _, hr, _, _ => (zero_bad hr).elim
  | n + 1, hn, x, hr, b, h => by
    have hq : ∀ y ∈ partsT n x, RightA ⟨n, y⟩ := fun y hy => parts_right' hr hy
    simp only [rdB, rdBq] at h
    split at h
    · rename_i hb
      obtain ⟨h1, h', h2, h3⟩ := word_right hr hb (word_ne [98, 101, 104] (by simp))
      obtain ⟨p, hp, h⟩ := Option.bind_eq_some_iff.1 h
      split at h
      · rename_i hk
        obtain ⟨l, hl, rfl⟩ := Option.map_eq_some_iff.1 h
        have hx4 : x.1.1 = 4 := by rw [h1]
        have h8 := right_len hr hx4
        generalize partsT n x = q at *
        cases q with
        | nil => simp at hp
        | cons p' q =>
        have e : p' = p := by simpa using hp
        subst e
        cases n with
        | zero => exact (zero_bad (hq p' (by simp))).elim
        | succ n =>
        have hnm := right_atom (hq p' (by simp)) hk
        obtain ⟨k1, k2, k3⟩ := allV_tell (g := tellC M) (B := clB (M + 1)) (fun y a hy ha => rdC_tell M (n + 1) (by omega) y hy a ha) q (fun y hy => hq y (by simp [hy])) l hl
        rw [h2] at h8
        simp only [List.length_cons] at h8
        refine ⟨same_mk h1.symm ?_, ?_⟩
        · rw [h2]
          show sameL _ (atomV wBeh (M + 3) :: atomV p'.1.2.2 (M + 3) :: l.map (tellC M)) (h' :: p' :: q) = true
          simp only [sameL, h3 (M + 3), atom_same (hq p' (by simp)) hk (M + 3), k1, Bool.and_self]
        · show (nameB p'.1.2.2 && decide ((l.length : Int) ≤ 6) && l.all (clB (M + 1))) = true
          rw [hnm.2.2, k2, decide_eq_true (by omega)]
          rfl
      · cases h
    · cases h
theorem rdP_tell (M : Nat) : (n : Nat) → n ≤ M + 1 → (x : Tm n) → RightA ⟨n, x⟩ → (l : List (Bh (M + 1))) → rdP M n x = some l → same (M + 6) (tellP M l) n x = true ∧ pgB (M + 1) l = (decide (1 ≤ (l.length : Int)) && l.all fun b => decide (1 ≤ (b.2.2.length : Int)))
  | 0, _, _, hr, _, _ => (zero_bad hr).elim
  | n + 1, hn, x, hr, l, h => by
    have hq : ∀ y ∈ partsT n x, RightA ⟨n, y⟩ := fun y hy => parts_right' hr hy
    simp only [rdP] at h
    split at h
    · rename_i hb
      obtain ⟨h1, h', h2, h3⟩ := word_right hr hb (word_ne [99, 111, 100, 101] (by simp))
      have hx4 : x.1.1 = 4 := by rw [h1]
      have h8 := right_len hr hx4
      obtain ⟨k1, k2, k3⟩ := allV_tell (g := tellB M) (B := fun b => nameB b.1 && decide ((b.2.2.length : Int) ≤ 6) && b.2.2.all (clB (M + 1))) (fun y a hy ha => rdB_tell M n (by omega) y hy a ha) (partsT n x) hq l h
      rw [h2] at h8
      simp only [List.length_cons] at h8
      refine ⟨same_mk h1.symm ?_, ?_⟩
      · rw [h2]
        show sameL _ (atomV wCode (M + 4) :: l.map (tellB M)) (h' :: partsT n x) = true
        simp only [sameL, h3 (M + 4), k1, Bool.and_self]
      · have e7 : decide ((l.length : Int) ≤ 7) = true := decide_eq_true (by omega)
        have ea : l.all (bhB (M + 1)) = l.all fun b => decide (1 ≤ (b.2.2.length : Int)) := by
          rw [List.all_eq_true] at k2
          refine all_congr_mem fun b hb => ?_
          have := k2 b hb
          simp only [Bool.and_eq_true] at this
          simp only [bhB, this.1.1, this.1.2, this.2, Bool.true_and, Bool.and_true]
        simp only [pgB, e7, ea, Bool.and_true]
    · cases h
end Go.Proofs.YtpehdgbdinjbaabDoor
namespace Go.Proofs.YtpehdgbdinjbaabDoor
open Go.RowKit

theorem sameL_cons {α β : Type} {f : α → β → Bool} {p : List α} {b : β} {q : List β} (h : sameL f p (b :: q) = true) : ∃ a p', p = a :: p' ∧ f a b = true ∧ sameL f p' q = true := by
  cases p with
  | nil => simp [sameL] at h
  | cons a p =>
    simp only [sameL, Bool.and_eq_true] at h
    exact ⟨a, p, rfl, h.1, h.2⟩
theorem sameL_nil {α β : Type} {f : α → β → Bool} {p : List α} (h : sameL f p ([] : List β) = true) : p = [] := by
  cases p with
  | nil => rfl
  | cons a p => simp [sameL] at h
theorem same_hdT {n m : Nat} {x : Tm n} {y : Tm (m + 1)} (h : same n x (m + 1) y = true) : (hdT n x).1 = y.1 := (same_hd h).1
/-- What begins with an atom is opened so. -/
theorem word_of {N n : Nat} {x : Tm (N + 1)} {wd : ByteArray} {ys : List (Tm (n + 1))} (h : same (N + 1) x (n + 2) (tupV (n + 1) (atomV wd n :: ys)) = true) : wordT N x = wd ∧ sameL (fun a b => same N a (n + 1) b) (partsT N x) ys = true := by
  obtain ⟨h1, h2⟩ := same_parts h
  obtain ⟨a, p, h3, h4, h5⟩ := sameL_cons h2
  have e4 : x.1.1 = 4 := by rw [h1]; rfl
  have ea := same_hdT h4
  have hk : kindA ⟨N, a⟩ = 2 := by
    cases N with
    | zero => simp [same] at h4
    | succ N =>
      have : a.1.1 = 2 := by
        have e : a.1 = (2, 0, wd) := ea
        rw [e]
      exact this
  have h0 : x.2.2[0]? = some a := by rw [h3]; rfl
  have hd : x.2.2.drop 1 = p := by rw [h3]; rfl
  constructor
  · simp only [wordT, e4, if_true, h0, hk]
    rw [ea]
    rfl
  · simp only [partsT, e4, if_true, h0, hk, hd]
    exact h5
theorem isB_self (wd : ByteArray) : isB wd wd = true := by simp [isB]
theorem allV_ex {α β : Type} {n : Nat} {f : Tm n → Option α} {R : Tm n → β → Prop} {Q : α → β → Prop} (hf : ∀ y b, R y b → ∃ z, f y = some z ∧ Q z b) : (q : List (Tm n)) → (l : List β) → RelL R q l → ∃ zs, allV f q = some zs ∧ RelL Q zs l
  | [], [], _ => ⟨[], rfl, RelL.nil⟩
  | [], _ :: _, h => by have := h.1; simp at this
  | _ :: _, [], h => by have := h.1; simp at this
  | y :: q, b :: l, h => by
    obtain ⟨z, hz, k⟩ := hf y b h.tail.1
    obtain ⟨zs, hzs, k2⟩ := allV_ex hf q l h.tail.2
    refine ⟨z :: zs, by simp [allV, hz, hzs], by simp [k2.1], fun i u v hu hv => ?_⟩
    cases i with
    | zero =>
      simp at hu hv
      subst hu hv
      exact k
    | succ i => exact k2.2 i u v (by simpa using hu) (by simpa using hv)
theorem rel_of_same {β : Type} {n m : Nat} (g : β → Tm m) : (q : List (Tm n)) → (l : List β) → sameL (fun a b => same n a m b) q (l.map g) = true → RelL (fun y b => same n y m (g b) = true) q l
  | [], [], _ => RelL.nil
  | [], _ :: _, h => by simp [sameL] at h
  | _ :: _, [], h => by simp [sameL] at h
  | y :: q, b :: l, h => by
    simp only [List.map_cons, sameL, Bool.and_eq_true] at h
    have ih := rel_of_same g q l h.2
    refine ⟨by simp [ih.1], fun i u v hu hv => ?_⟩
    cases i with
    | zero =>
      simp at hu hv
      subst hu hv
      exact h.1
    | succ i => exact ih.2 i u v (by simpa using hu) (by simpa using hv)
theorem RelL.of_mem {α β : Type} {R : α → β → Prop} {P : β → Prop} {l : List α} {r : List β} (h : RelL R l r) (hp : ∀ y ∈ r, P y) : RelL (fun x y => R x y ∧ P y) l r := ⟨h.1, fun i x y hx hy => ⟨h.2 i x y hx hy, hp y (List.mem_of_getElem? hy)⟩⟩

theorem isB_other {wd s : ByteArray} (h : wd.toList ≠ s.toList) : isB wd s = false := by simpa [isB] using h
theorem rdA_ex (M N n : Nat) (a : Ac (n + 1)) (y : Tm N) (h : same N y (n + 2) (tellA n a) = true) : ∃ z, rdA M N y = some z := by
  cases N with
  | zero => simp [same] at h
  | succ N =>
  have L1 : wSend.toList = [115, 101, 110, 100] := bytes_lit [115, 101, 110, 100]
  have L2 : wSpawn.toList = [115, 112, 97, 119, 110] := bytes_lit [115, 112, 97, 119, 110]
  have L3 : wLink.toList = [108, 105, 110, 107] := bytes_lit [108, 105, 110, 107]
  have L4 : wStop.toList = [115, 116, 111, 112] := bytes_lit [115, 116, 111, 112]
  unfold tellA at h
  split at h
  · obtain ⟨h1, h2⟩ := word_of h
    obtain ⟨p, q1, e1, k1, h3⟩ := sameL_cons h2
    obtain ⟨q, q2, e2, k2, h4⟩ := sameL_cons h3
    have e3 := sameL_nil h4
    subst e2 e3
    simp only [rdA, rdAq, h1, e1, isB_self]
    exact ⟨_, rfl⟩
  split at h
  · obtain ⟨h1, h2⟩ := word_of h
    obtain ⟨p, q1, e1, k1, h3⟩ := sameL_cons h2
    obtain ⟨q, q2, e2, k2, h4⟩ := sameL_cons h3
    obtain ⟨r, q3, e3, k3, h5⟩ := sameL_cons h4
    have e4 := sameL_nil h5
    subst e2 e3 e4
    have hk1 : kindA ⟨N, p⟩ = 2 := by rw [same_kind k1]; rfl
    have hk3 : kindA ⟨N, r⟩ = 5 := by rw [same_kind k3]; rfl
    have b1 : isB wSpawn wSend = false := isB_other (by rw [L1, L2]; decide)
    simp only [rdA, rdAq, h1, e1, isB_self, b1, Bool.false_and, Bool.true_and]
    simp [rdSp, hk1, hk3]
  split at h
  · obtain ⟨h1, h2⟩ := word_of h
    obtain ⟨p, q1, e1, k1, h3⟩ := sameL_cons h2
    have e4 := sameL_nil h3
    subst e4
    have b1 : isB wLink wSend = false := isB_other (by rw [L1, L3]; decide)
    have b2 : isB wLink wSpawn = false := isB_other (by rw [L2, L3]; decide)
    simp only [rdA, rdAq, h1, e1, isB_self, b1, b2, Bool.false_and, Bool.true_and]
    simp
  · obtain ⟨h1, h2⟩ := word_of h
    have e4 := sameL_nil h2
    have b1 : isB wStop wSend = false := isB_other (by rw [L1, L4]; decide)
    have b2 : isB wStop wSpawn = false := isB_other (by rw [L2, L4]; decide)
    have b3 : isB wStop wLink = false := isB_other (by rw [L3, L4]; decide)
    simp only [rdA, rdAq, h1, e4, isB_self, b1, b2, b3, Bool.false_and, Bool.true_and]
    simp
theorem rdC_ex (M N n : Nat) (c : Cl (n + 1)) (y : Tm N) (h : same N y (n + 4) (tellC n c) = true) : ∃ z, rdC M N y = some z := by
  cases N with
  | zero => simp [same] at h
  | succ N =>
  obtain ⟨h1, h2⟩ := word_of h
  obtain ⟨p, q1, e1, k1, h3⟩ := sameL_cons h2
  obtain ⟨q, q2, e2, k2, h4⟩ := sameL_cons h3
  obtain ⟨r, q3, e3, k3, h5⟩ := sameL_cons h4
  obtain ⟨t, q4, e4, k4, h6⟩ := sameL_cons h5
  have e5 := sameL_nil h6
  subst e2 e3 e4 e5
  have hk3 : kindA ⟨N, r⟩ = 4 := by rw [same_kind k3]; rfl
  cases N with
  | zero => simp [same] at k3
  | succ N =>
  obtain ⟨zs, hzs, _⟩ := allV_ex (f := rdA M N) (R := fun y b => same N y (n + 2) (tellA n b) = true) (Q := fun _ _ => True) (fun y b hyb => by
    obtain ⟨z, hz⟩ := rdA_ex M N n b y hyb
    exact ⟨z, hz, trivial⟩) r.2.2 c.2.2 (rel_of_same (tellA n) _ _ (same_parts k3).2)
  have hzs' : allV (rdA M (N + 1 - 1)) (argsA (N + 1) r) = some zs := hzs
  refine ⟨((lift (M + 1) (N + 1) p, lift (M + 1) (N + 1) q, lift (M + 1) (N + 1) t), (none, 0), zs), ?_⟩
  show rdCq M (N + 1) (wordT (N + 1) y) (partsT (N + 1) y) = _
  rw [h1, e1]
  unfold rdCq
  rw [if_pos (by rw [isB_self]; rfl)]
  show (if kindA ⟨N + 1, r⟩ = 4 then (allV (rdA M (N + 1 - 1)) (argsA (N + 1) r)).map _ else none) = _
  rw [if_pos hk3, hzs']
  rfl
theorem rdB_ex (M N n : Nat) (b : Bh (n + 1)) (y : Tm N) (h : same N y (n + 5) (tellB n b) = true) : ∃ z, rdB M N y = some z ∧ z.2.2.length = b.2.2.length := by
  cases N with
  | zero => simp [same] at h
  | succ N =>
  obtain ⟨h1, h2⟩ := word_of h
  obtain ⟨p, q, e1, k1, h3⟩ := sameL_cons h2
  have hk1 : kindA ⟨N, p⟩ = 2 := by rw [same_kind k1]; rfl
  obtain ⟨zs, hzs, hl⟩ := allV_ex (f := rdC M N) (R := fun y b => same N y (n + 4) (tellC n b) = true) (Q := fun _ _ => True) (fun y b hyb => by
    obtain ⟨z, hz⟩ := rdC_ex M N n b y hyb
    exact ⟨z, hz, trivial⟩) q b.2.2 (rel_of_same (tellC n) _ _ h3)
  refine ⟨(nameA N p, (none, 0), zs), ?_, hl.1⟩
  simp only [rdB, rdBq, h1, e1, isB_self]
  simp [hk1, hzs]
theorem rdP_ex (M N n : Nat) (hN : N ≤ M + 1) (l : List (Bh (n + 1))) (hl : pgB (n + 1) l = true) (x : Tm N) (hr : RightA ⟨N, x⟩) (h : same N x (n + 6) (tellP n l) = true) : ∃ z, rdP M N x = some z ∧ pgB (M + 1) z = true ∧ z.length = l.length := by
  cases N with
  | zero => simp [same] at h
  | succ N =>
  obtain ⟨h1, h2⟩ := word_of h
  obtain ⟨zs, hzs, hq⟩ := allV_ex (f := rdB M N) (R := fun y b => same N y (n + 5) (tellB n b) = true) (Q := fun z b => z.2.2.length = b.2.2.length) (fun y b hyb => rdB_ex M N n b y hyb) (partsT N x) l (rel_of_same (tellB n) _ _ h2)
  have hp : rdP M (N + 1) x = some zs := by
    simp only [rdP, h1, isB_self]
    simpa using hzs
  refine ⟨zs, hp, ?_, hq.1⟩
  rw [(rdP_tell M (N + 1) hN x hr zs hp).2]
  simp only [pgB, bhB, Bool.and_eq_true, decide_eq_true_eq, List.all_eq_true] at hl ⊢
  refine ⟨by rw [hq.1]; exact hl.1.1, fun z hz => ?_⟩
  obtain ⟨i, hi⟩ := List.getElem?_of_mem hz
  have hlt : i < l.length := by have := (List.getElem?_eq_some_iff.1 hi).1; rw [← hq.1]; exact this
  have := hq.2 i z l[i] hi (List.getElem?_eq_getElem hlt)
  rw [this]
  exact (hl.2 l[i] (List.getElem_mem hlt)).1.1.2
end Go.Proofs.YtpehdgbdinjbaabDoor
namespace Go.Proofs.YtpehdgbdinjbaabDoor
open Go.RowKit

def fromO (M : Nat) (o : Option (List (Bh (M + 1)))) : Int := match o with | some l => if pgB (M + 1) l = true then 0 else 5 | none => 5
def fromE (M n : Nat) (x : Tm n) : Int := if chk n x = 0 then fromO M (rdP M n x) else chk n x
def FromOut (M : Nat) (E : Int) (o : Option (List (Bh (M + 1)))) (w : World) (e : Ending) (w' : World) : Prop :=
  ∃ (l : List (Bh (M + 1))) (a : Option Addr) (c : Nat), e = .returned (.tuple #[.slice a l.length c, .int .i64 E]) ∧ Hid (Below w.heap.size w w' ∧ (l.length ≤ c ∧ c ≤ maxLen) ∧ PgIn (M + 1) w'.heap.size w' a l ∧ OffL (BhOff (M + 1) (fun b => w.heap.size ≤ b)) (fun b => w.heap.size ≤ b) a l ∧ (¬ E = 0 → l = []) ∧ (E = 0 → ∃ z, o = some z ∧ RelL (bhS (M + 1)) l z))
theorem from_none {M : Nat} {E : Int} {o : Option (List (Bh (M + 1)))} {w w' : World} (h : ¬ E = 0) (hb : Below w.heap.size w w') : FromOut M E o w (.returned (.tuple #[.slice none 0 0, .int .i64 E])) w' :=
  ⟨[], none, 0, rfl, hb, ⟨Nat.le_refl _, Nat.zero_le _⟩, Or.inl rfl, Or.inl rfl, fun _ => rfl, fun h0 => (h h0).elim⟩

set_option maxHeartbeats 1000000 in
set_option maxRecDepth 100000 in
theorem from_walk (M : Nat) (k u : Int) (s : ByteArray) (a : Option Addr) (l c : Nat) (w : World) (ck : Int) (o : Option (List (Bh (M + 1)))) (E : Int) (hE : Hid (E = if ck = 0 then fromO M o else ck))
    (HC : Hid (∀ w1, Below w.heap.size w w1 → Calls Tryd.prog 16 #[.agg #[.int .i64 k, .int .i64 u, .string s, .slice a l c]] w1 fun e w' => e = .returned (.int .i64 ck) ∧ Below w1.heap.size w1 w'))
    (HR : Hid (ck = 0 → ∀ w1, Below w.heap.size w w1 → Calls Tryd.prog 27 #[.agg #[.int .i64 k, .int .i64 u, .string s, .slice a l c]] w1 (RdProg M o w1))) :
    Calls Tryd.prog 11 #[.agg #[.int .i64 k, .int .i64 u, .string s, .slice a l c]] w (FromOut M E o w) := by
  go_enter Tryd.func11, Tryd.ntmps11
  go_wp2_with fail
  refine (HC.out _ one_alloc).mono ?_
  rintro e w1 ⟨rfl, hb1⟩
  have HB1 : Hid (Below w.heap.size w w1) := one_alloc.trans (hb1.mono (by simp))
  have HX1 := hide (box4_new w _ _ _ _ _ hb1)
  clear hb1 HC
  by_cases h0 : ck = 0
  · subst h0
    have HR1 := hide (HR.out (by simp) w1 HB1.out)
    have c0 : w1.cell? ⟨w.heap.size, 0, none⟩ = some (.int .i64 k) := box_cell HX1.out 0
    have c1 : w1.cell? ⟨w.heap.size, 1, none⟩ = some (.int .i64 u) := box_cell HX1.out 1
    have c2 : w1.cell? ⟨w.heap.size, 2, none⟩ = some (.string s) := box_cell HX1.out 2
    have c3 : w1.cell? ⟨w.heap.size, 3, none⟩ = some (.slice a l c) := box_cell HX1.out 3
    have hq1 : w.heap.size < w1.heap.size := (Array.getElem?_eq_some_iff.1 HX1.out).1
    have HEO := hide (show E = fromO M o by simpa using hE.out)
    clear HR hE
    go_wp2_with fail
    refine HR1.out.mono ?_
    rintro e w2 ⟨q, a', c', r, rfl, HQ⟩
    obtain ⟨L, hL⟩ : ∃ L, q.length = L := ⟨_, rfl⟩
    rw [hL]
    have HLL := hide hL
    have HB2 : Hid (Below w.heap.size w w2) := HB1.out.trans (HQ.out.1.mono HB1.out.size)
    clear hL HR1 c0 c1 c2 c3 HX1
    cases r
    · have HE5 : Hid (E = 5) := by
        show E = 5
        rw [HEO.out]
        have h := HQ.out.2.1
        cases o with
        | none => rfl
        | some z => cases h
      have HF : Hid (FromOut M E o w (.returned (.tuple #[.slice none 0 0, .int .i64 5])) w2) := by
        have h := from_none (M := M) (E := E) (o := o) (by rw [HE5.out]; omega) HB2.out
        rw [HE5.out] at h
        rw [HE5.out]
        exact h
      go_wp2_with fail
      exact bodyPost_ret (v := .tuple #[.slice none 0 0, .int .i64 5]) (by simp [results, Tryd.results11, go_sem]) rfl HF.out
    · have HIP : Hid (∀ w3, Below w2.heap.size w2 w3 → Calls Tryd.prog 24 #[.slice a' L c'] w3 fun e w' => e = .returned (.bool (pgB (M + 1) q)) ∧ Below w3.heap.size w3 w') := fun w3 h3 =>
        isProgram_any M q L HLL.out a' c' w2.heap.size w3 (PgIn.below h3 HQ.out.2.2.2.1) (by have := HQ.out.2.2.1; have := HLL.out; unfold maxLen at *; omega) h3.size
      obtain ⟨b, hb⟩ : ∃ b, pgB (M + 1) q = b := ⟨_, rfl⟩
      rw [hb] at HIP
      have HPB := hide hb
      clear hb
      have HZ : Hid (∃ z, o = some z ∧ RelL (bhS (M + 1)) q z) := by
        have h := HQ.out.2.1
        cases o with
        | none => cases h
        | some z => exact ⟨z, rfl, HQ.out.2.2.2.2.2 z rfl⟩
      cases b
      · have HE5 : Hid (E = 5) := by
          show E = 5
          obtain ⟨z, hz, hr⟩ := HZ.out
          rw [HEO.out, hz]
          show (if pgB (M + 1) z = true then (0 : Int) else 5) = 5
          rw [← pgS_B hr, HPB.out]
          rfl
        go_wp2_with (go_at_call 24; refine (HIP.out _ (Below.refl _ _)).mono ?_; rintro e w3 ⟨rfl, hb3⟩; have HB3 := hide (HB2.out.trans (hb3.mono HB2.out.size)); clear hb3)
        refine bodyPost_ret (v := .tuple #[.slice none 0 0, .int .i64 5]) (by simp [results, Tryd.results11, go_sem]) rfl ?_
        have h := from_none (M := M) (E := E) (o := o) (by rw [HE5.out]; omega) HB3.out
        rw [HE5.out] at h
        rw [HE5.out]
        exact h
      · have HE0 : Hid (E = 0) := by
          show E = 0
          obtain ⟨z, hz, hr⟩ := HZ.out
          rw [HEO.out, hz]
          show (if pgB (M + 1) z = true then (0 : Int) else 5) = 0
          rw [← pgS_B hr, HPB.out]
          rfl
        go_wp2_with (go_at_call 24; refine (HIP.out _ (Below.refl _ _)).mono ?_; rintro e w3 ⟨rfl, hb3⟩; have HB23 := hide hb3; have HB3 := hide (HB2.out.trans (hb3.mono HB2.out.size)); clear hb3)
        refine bodyPost_ret (v := .tuple #[.slice a' L c', .int .i64 0]) (by simp [results, Tryd.results11, go_sem]) rfl ?_
        obtain ⟨k1, k2, k3, k4, k5, k6⟩ := HQ.out
        rw [HE0.out]
        exact ⟨q, a', c', by rw [HLL.out], HB3.out, k3, (PgIn.below HB23.out k4).mono HB23.out.size, (lay_stays (bh_stays _) 2 (bh2 (M + 1)) a').1 _ _ _ (fun b hb => Nat.le_trans HB1.out.size hb) k5, fun h => (h rfl).elim, fun _ => HZ.out⟩
  · have e0 : (ck != 0) = true := by simpa using h0
    have HEE : Hid (E = ck) := by
      show E = ck
      rw [hE.out, if_neg h0]
    clear HR HX1
    go_wp2_with fail
    refine bodyPost_ret (v := .tuple #[.slice none 0 0, .int .i64 ck]) (by simp [results, Tryd.results11, go_sem]) rfl ?_
    rw [HEE.out]
    exact from_none h0 HB1.out
theorem from_any (M n : Nat) (hn : n ≤ M + 1) (x : Tm n) (B : Nat) (w : World) (hx : In B w n x) (hN : (nodes n x).length ≤ 2097152) (hB : B ≤ w.heap.size) :
    Calls Tryd.prog 11 #[val n x] w (FromOut M (fromE M n x) (rdP M n x) w) := by
  cases n with
  | zero => exact hx.elim
  | succ n =>
  exact from_walk M x.1.1 x.1.2.1 x.1.2.2 x.2.1.1 x.2.2.length x.2.1.2 w (chk (n + 1) x) _ _ rfl (fun w1 h1 => tcheck_any (n + 1) x B w1 (hx.below (h1.mono hB)) (Nat.le_trans hB h1.size) hN) (fun h0 w1 h1 => readProg_any M (n + 1) hn x B w1 (hx.below (h1.mono hB)) (right_formed.2 (chk_iff.1 h0).1) (Nat.le_trans hB h1.size))
end Go.Proofs.YtpehdgbdinjbaabDoor
namespace Go.Proofs.YtpehdgbdinjbaabDoor

theorem chk_rightA {n : Nat} {x : Tm n} (h : chk n x = 0) : RightA ⟨n, x⟩ := right_formed.2 (chk_iff.1 h).1
theorem toE_form {n : Nat} {p : List (Bh (n + 1))} (h : toE n p = 0) : pgB (n + 1) p = true ∧ chk (n + 6) (tellP n p) = 0 ∧ toT n p = tellP n p := by
  have h' := h
  unfold toE at h'
  split at h'
  · rename_i hp
    exact ⟨hp, h', by unfold toT; rw [if_pos h]⟩
  · omega
theorem toE_mk {n : Nat} {p : List (Bh (n + 1))} (h : pgB (n + 1) p = true) (k : chk (n + 6) (tellP n p) = 0) : toE n p = 0 := by
  unfold toE
  rw [if_pos h]
  exact k
theorem toE_congr {n : Nat} {l r : List (Bh (n + 1))} (h : RelL (bhS (n + 1)) l r) : toE n l = toE n r := by
  unfold toE
  rw [pgS_B h, same_chk (pgS_tell h)]
/-- A list that was read of a term is told as that term. -/
theorem read_told {M n : Nat} (hn : n ≤ M + 1) {x : Tm n} (hc : chk n x = 0) {z l : List (Bh (M + 1))} (hz : rdP M n x = some z) (hl : RelL (bhS (M + 1)) l z) (hB : pgB (M + 1) z = true) :
    pgB (M + 1) l = true ∧ toE M l = 0 ∧ same (M + 6) (toT M l) n x = true ∧ (nodes (M + 6) (tellP M l)).length = (nodes n x).length := by
  have h1 := rdP_tell M n hn x (chk_rightA hc) z hz
  have h2 : pgB (M + 1) l = true := (pgS_B hl).trans hB
  have h3 : same (M + 6) (tellP M l) n x = true := same_trans _ _ _ _ _ _ (pgS_tell hl) h1.1
  have h4 : toE M l = 0 := toE_mk h2 ((same_chk h3).trans hc)
  exact ⟨h2, h4, by rw [(toE_form h4).2.2]; exact h3, same_nlen _ _ _ _ h3⟩
theorem from_form {M n : Nat} {x : Tm n} (h : fromE M n x = 0) : chk n x = 0 ∧ ∀ z, rdP M n x = some z → pgB (M + 1) z = true := by
  unfold fromE at h
  split at h
  · rename_i hc
    refine ⟨hc, fun z hz => ?_⟩
    rw [hz] at h
    unfold fromO at h
    simp only at h
    split at h
    · assumption
    · omega
  · rename_i hc
    exact absurd h hc
/-- What a program in form is told as is read. -/
theorem told_read {n : Nat} {p : List (Bh (n + 1))} (h : toE n p = 0) {y : Tm (n + 6)} (hy : same (n + 6) y (n + 6) (toT n p) = true) :
    chk (n + 6) y = 0 ∧ fromE (n + 5) (n + 6) y = 0 ∧ ∀ z l, rdP (n + 5) (n + 6) y = some z → RelL (bhS (n + 6)) l z → pgB (n + 6) l = true ∧ toE (n + 5) l = 0 ∧ same (n + 11) (toT (n + 5) l) (n + 6) (toT n p) = true ∧ l.length = p.length ∧ (nodes (n + 11) (tellP (n + 5) l)).length = (nodes (n + 6) (tellP n p)).length := by
  obtain ⟨h1, h2, h3⟩ := toE_form h
  rw [h3] at hy
  have hc : chk (n + 6) y = 0 := (same_chk hy).trans h2
  obtain ⟨z, hz, hzB, hzl⟩ := rdP_ex (n + 5) (n + 6) n (Nat.le_refl _) p h1 y (chk_rightA hc) hy
  refine ⟨hc, ?_, fun z' l hz' hl => ?_⟩
  · unfold fromE
    rw [if_pos hc, hz]
    unfold fromO
    simp only [hzB, if_true]
  · rw [hz] at hz'
    injection hz' with hz'
    subst hz'
    obtain ⟨k1, k2, k3, k4⟩ := read_told (Nat.le_refl _) hc hz hl hzB
    exact ⟨k1, k2, by rw [h3]; exact same_trans _ _ _ _ _ _ k3 hy, hl.1.trans hzl, by rw [k4]; exact same_nlen _ _ _ _ hy⟩
theorem sameP_of {n m : Nat} {p : List (Bh (n + 1))} {q : List (Bh (m + 1))} (h1 : toE n p = 0) (h2 : toE m q = 0) (h3 : same (n + 6) (toT n p) (m + 6) (toT m q) = true) (h4 : p.length = q.length) : sameP n p m q = true := by
  unfold sameP
  rw [h1, h2, h3, h4]
  simp
end Go.Proofs.YtpehdgbdinjbaabDoor
namespace Go.Proofs.YtpehdgbdinjbaabDoor

def wN : ByteArray := ⟨#[110]⟩
def wAddW : ByteArray := ⟨#[97, 100, 100]⟩
def wRelay : ByteArray := ⟨#[114, 101, 108, 97, 121]⟩
def smV (k : Int) (N : Nat) : Tm (N + 1) := leafV 5 k N
def smMsg : Tm 3 := tupV 2 [atomV wN 1, smV 1 1]
def smWhat : Tm 3 := tupV 2 [atomV wN 1, tupV 1 [atomV wAddW 0, smV 1 0, leafV 1 1 0]]
/-- The small program, wherever its parts lie. -/
def smallP : List (Bh 3) := [(wRelay, (none, 0), [((smV 0 2, smMsg, smV 0 2), (none, 0), [(1, (smV 0 2, smWhat), .empty, 0)])])]
theorem small_form : pgB 3 smallP = true := by
  have h1 : nameB wRelay = true := by simp [nameB, wRelay, inB, lowsB, lowB, show (⟨#[114, 101, 108, 97, 121]⟩ : ByteArray).size = 5 from rfl]
  have h2 : (ByteArray.empty).toList = [] := by simp [ByteArray.toList_eq]
  simp [pgB, smallP, bhB, clB, actB, noSp, h1, h2]
theorem small_chk : chk 8 (tellP 2 smallP) = 0 := by
  have n1 : nodes 8 (tellP 2 smallP) = [((4, 0, .empty), (none, 2, 0)), ((2, 0, wCode), (none, 0, 0)), ((4, 0, .empty), (none, 3, 0)), ((2, 0, wBeh), (none, 0, 0)), ((2, 0, wRelay), (none, 0, 0)), ((4, 0, .empty), (none, 5, 0)), ((2, 0, wOn), (none, 0, 0)), ((5, 0, .empty), (none, 0, 0)), ((4, 0, .empty), (none, 2, 0)), ((2, 0, wN), (none, 0, 0)), ((5, 1, .empty), (none, 0, 0)), ((4, 0, .empty), (none, 1, 0)), ((4, 0, .empty), (none, 3, 0)), ((2, 0, wSend), (none, 0, 0)), ((5, 0, .empty), (none, 0, 0)), ((4, 0, .empty), (none, 2, 0)), ((2, 0, wN), (none, 0, 0)), ((4, 0, .empty), (none, 3, 0)), ((2, 0, wAddW), (none, 0, 0)), ((5, 1, .empty), (none, 0, 0)), ((1, 1, .empty), (none, 0, 0)), ((5, 0, .empty), (none, 0, 0))] := rfl
  have d1 : deeps 8 (tellP 2 smallP) 0 = [0, 1, 1, 2, 2, 2, 3, 3, 3, 4, 4, 3, 4, 5, 5, 5, 6, 6, 7, 7, 7, 3] := rfl
  have s1 : (sz 8 (tellP 2 smallP) : Int) ≤ 200 := by decide
  have h2 : (ByteArray.empty).toList = [] := by simp [ByteArray.toList_eq]
  have m1 : nameB wCode = true := by simp [nameB, wCode, inB, lowsB, lowB, show (⟨#[99, 111, 100, 101]⟩ : ByteArray).size = 4 from rfl]
  have m2 : nameB wBeh = true := by simp [nameB, wBeh, inB, lowsB, lowB, show (⟨#[98, 101, 104]⟩ : ByteArray).size = 3 from rfl]
  have m3 : nameB wRelay = true := by simp [nameB, wRelay, inB, lowsB, lowB, show (⟨#[114, 101, 108, 97, 121]⟩ : ByteArray).size = 5 from rfl]
  have m4 : nameB wOn = true := by simp [nameB, wOn, inB, lowsB, lowB, show (⟨#[111, 110]⟩ : ByteArray).size = 2 from rfl]
  have m5 : nameB wN = true := by simp [nameB, wN, inB, lowsB, lowB, show (⟨#[110]⟩ : ByteArray).size = 1 from rfl]
  have m6 : nameB wSend = true := by simp [nameB, wSend, inB, lowsB, lowB, show (⟨#[115, 101, 110, 100]⟩ : ByteArray).size = 4 from rfl]
  have m7 : nameB wAddW = true := by simp [nameB, wAddW, inB, lowsB, lowB, show (⟨#[97, 100, 100]⟩ : ByteArray).size = 3 from rfl]
  unfold chk
  generalize sz 8 (tellP 2 smallP) = S at *
  rw [n1, d1]
  have hS : ¬ 200 < S := by omega
  simp [chkL, good, deeper, inB, h2, m1, m2, m3, m4, m5, m6, m7, hS]
theorem small_toE : toE 2 smallP = 0 := by
  unfold toE
  rw [small_form]
  exact small_chk
end Go.Proofs.YtpehdgbdinjbaabDoor
namespace Go.Proofs.YtpehdgbdinjbaabDoor
open Go.RowKit

def Few (n : Nat) (M : Nat) (p : List (Bh n)) : Prop := p.length ≤ M ∧ ∀ b ∈ p, b.2.2.length ≤ M ∧ ∀ c ∈ b.2.2, c.2.2.length ≤ M
/-- A row of terms behind k rounds: h ahead of what tells the first k things, as long as all is in form. -/
def RowI {α : Type} (N B : Nat) (f : α → Tm N) (h : List (Tm N)) (p : List α) (w0 : World) (base k : Nat) (ok : Bool) (v : Value) (wr : World) : Prop :=
  ∃ xs, xs.length ≤ k + h.length ∧ GrowT N B base xs v w0 wr ∧ (ok = true → sameL (fun a b => same N a N b) xs (h ++ (p.take k).map f) = true)
theorem RowI.slice {α : Type} {N B : Nat} {f : α → Tm N} {h : List (Tm N)} {p : List α} {w0 : World} {base k : Nat} {ok : Bool} {v : Value} {wr : World} (H : RowI N B f h p w0 base k ok v wr) : ∃ a L c, v = .slice a L c ∧ L ≤ k + h.length ∧ ∃ xs, xs.length = L ∧ GrowT N B base xs v w0 wr ∧ (ok = true → sameL (fun a b => same N a N b) xs (h ++ (p.take k).map f) = true) := by
  obtain ⟨xs, h1, h2, h3⟩ := H
  obtain ⟨a, c, e⟩ := h2.slice
  exact ⟨a, xs.length, c, e, h1, xs, rfl, h2, h3⟩
theorem GrowT.ownAt {N B base k : Nat} {xs : List (Tm N)} {v : Value} {w0 wr W : World} (h : GrowT N B base xs v w0 wr) (hk : xs.length = k) (h3 : Below wr.heap.size wr W) : W.ownsRow base 24 4 v k (xs.flatMap (tm4 N)) := by
  subst hk
  exact own_below h.2.1 h3
theorem GrowT.appAt {N B base k : Nat} {xs : List (Tm N)} {v : Value} {w0 wr W w4 : World} {g c : Nat} (h : GrowT N B base xs v w0 wr) (hk : xs.length = k) (hB : B ≤ base) (hb : base ≤ wr.heap.size) (h3 : Below wr.heap.size wr W) (X : Tm N) (hX : In W.heap.size W N X) (hO : Off (fun b => b < B ∨ wr.heap.size ≤ b) N X)
    (hown : w4.ownsRow base 24 4 (.slice (some ⟨g, 0, none⟩) (k + 1) c) (k + 1) (xs.flatMap (tm4 N) ++ tm4 N X)) (hg : W.grownBy w4 v.ownBlock) (hat : v.ownBlock = some g ∨ g = W.heap.size) :
    GrowT N B base (xs ++ [X]) (.slice (some ⟨g, 0, none⟩) (k + 1) c) w0 w4 := by
  subst hk
  exact Grow.step (tm_stays N) h hB hb h3 X hX hO hown hg hat
theorem RowI.mk {α : Type} {N B : Nat} {f : α → Tm N} {h : List (Tm N)} {p : List α} {w0 : World} {base k : Nat} {ok ok' : Bool} {v : Value} {wr : World} {xs : List (Tm N)} {X : Tm N} {y : α} (hy : p[k]? = some y) (hl : xs.length ≤ k + h.length) (hs : ok = true → sameL (fun a b => same N a N b) xs (h ++ (p.take k).map f) = true) (hg : GrowT N B base (xs ++ [X]) v w0 wr) (hok : ok' = true → ok = true ∧ same N X N (f y) = true) : RowI N B f h p w0 base (k + 1) ok' v wr := by
  refine ⟨xs ++ [X], by simp; omega, hg, fun h1 => ?_⟩
  rw [take_map_snoc f p k y hy, ← List.append_assoc]
  exact sameL_snoc _ _ _ _ _ (hs (hok h1).1) (hok h1).2
theorem RowI.skip {α : Type} {N B : Nat} {f : α → Tm N} {h : List (Tm N)} {p : List α} {w0 : World} {base k : Nat} {v : Value} {wr : World} {xs : List (Tm N)} (hl : xs.length ≤ k + h.length) (hg : GrowT N B base xs v w0 wr) : RowI N B f h p w0 base (k + 1) false v wr :=
  ⟨xs, by omega, hg, fun h1 => by cases h1⟩
/-- A block that is not the row's own stays behind an append. -/
theorem grown_at {W w4 : World} {v : Value} (hg : W.grownBy w4 v.ownBlock) {q : Nat} (hq : q < W.heap.size) (hne : v.ownBlock ≠ some q) : w4.heap[q]? = W.heap[q]? := hg.block q hq (fun e => hne e.symm)
theorem GrowT.apart {N B base : Nat} {xs : List (Tm N)} {v : Value} {w0 wr : World} (h : GrowT N B base xs v w0 wr) {q : Nat} (hq : wr.heap.size ≤ q ∨ q < base) : v.ownBlock ≠ some q := fun e => by
  have := h.2.1.lt q e
  omega
theorem rto_row2 {n B : Nat} {ys : ByteArray} {cls : List (Cl (n + 1))} {ok : Bool} {wc : World} (hs : ys.size ≤ maxLen) :
    RowI (n + 4) B (tellC n) [atomV wBeh (n + 3), atomV ys (n + 3)] cls wc wc.heap.size 0 ok (.slice (some ⟨wc.heap.size + 1 + 1, 0, none⟩) 2 2) (((wc.alloc (.cells #[.int .i64 2, .int .i64 0, .string ⟨#[98, 101, 104]⟩, .slice none 0 0] 24)).alloc (.cells #[.int .i64 2, .int .i64 0, .string ys, .slice none 0 0] 24)).alloc (.cells #[.int .i64 2, .int .i64 0, .string ⟨#[98, 101, 104]⟩, .slice none 0 0, .int .i64 2, .int .i64 0, .string ys, .slice none 0 0] 24)).drew := by
  have h := Grow.lit (T := 24) (k := 4) (B := B) (base := wc.heap.size) (tm_stays (n + 4)) [atomV wBeh (n + 3), atomV ys (n + 3)] (w0 := wc) (w1 := (wc.alloc (.cells #[.int .i64 2, .int .i64 0, .string ⟨#[98, 101, 104]⟩, .slice none 0 0] 24)).alloc (.cells #[.int .i64 2, .int .i64 0, .string ys, .slice none 0 0] 24)) (cs := #[.int .i64 2, .int .i64 0, .string ⟨#[98, 101, 104]⟩, .slice none 0 0, .int .i64 2, .int .i64 0, .string ys, .slice none 0 0]) rfl (tm4_len _) (by show 2 ≤ maxLen; unfold maxLen; omega) (by simp; omega) (((Below.refl _ _).alloc (Nat.le_refl _) _).alloc (by simp) _) (fun y hy => by
    simp only [List.mem_cons, List.not_mem_nil, or_false] at hy
    rcases hy with rfl | rfl
    · exact ⟨atomV_in _ _ (word_le _ (by decide)) _ _, atomV_off _ _ _⟩
    · exact ⟨atomV_in _ _ hs _ _, atomV_off _ _ _⟩)
  have e : ((wc.alloc (.cells #[.int .i64 2, .int .i64 0, .string ⟨#[98, 101, 104]⟩, .slice none 0 0] 24)).alloc (.cells #[.int .i64 2, .int .i64 0, .string ys, .slice none 0 0] 24)).heap.size = wc.heap.size + 1 + 1 := by simp
  rw [e] at h
  exact ⟨_, by simp, h.later (tm_stays _) (by simp; omega) (Below.refl _ _).drew, fun _ => by simp [sameL, atomV_same]⟩
/-- A literal of some terms, as a tuple. -/
theorem lit_tup {B N : Nat} (xs : List (Tm N)) {w w1 W : World} {cs : Array Value} {g L : Nat} (h1 : Below w.heap.size w w1) (hg : g = w1.heap.size) (hL : L = xs.length) (h2 : Below (w1.alloc (.cells cs 24)).heap.size (w1.alloc (.cells cs 24)) W) (hcs : cs.toList = xs.flatMap (tm4 N)) (hm : xs.length ≤ 8) (hBw : B ≤ w.heap.size) (hX : ∀ y ∈ xs, In B w N y) :
    In W.heap.size W (N + 1) ((4, 0, .empty), (some ⟨g, 0, none⟩, L), xs) ∧ Off (fun b => b < B ∨ w.heap.size ≤ b) (N + 1) ((4, 0, .empty), (some ⟨g, 0, none⟩, L), xs) ∧ same (N + 1) ((4, 0, .empty), (some ⟨g, 0, none⟩, L), xs) (N + 1) (tupV N xs) = true := by
  subst hg hL
  have h := Grow.lit (T := 24) (k := 4) (B := B) (base := w1.heap.size) (tm_stays N) xs (w0 := w1) hcs (tm4_len N) (by unfold maxLen; omega) (Nat.le_refl _) (Below.refl _ _) (fun y hy => ⟨((hX y hy).below (h1.mono hBw)).mono (Nat.le_trans hBw h1.size), (in_offLow (hX y hy)).mono fun b hb => Or.inl hb⟩)
  have k := GrowT.tup (Grow.later (tm_stays N) h (by simp) h2)
  exact ⟨k.1, k.2.mono fun b hb => by have := h1.size; omega, same_mk rfl (sameL_self _ _ fun y hy => in_self (hX y hy))⟩
theorem new_last (Z : World) (o : Obj) {g : Nat} (hg : g = Z.heap.size) : (Z.alloc o).drew.heap[g]? = some o := by
  subst hg
  exact heap_alloc_new Z o
theorem new_last0 (Z : World) (o : Obj) {g : Nat} (hg : g = Z.heap.size) : (Z.alloc o).heap[g]? = some o := by
  subst hg
  exact heap_alloc_new Z o
/-- An act's box. -/
theorem act_box {w : World} {q : Nat} {c0 c1 c2 c3 c4 c5 c6 c7 c8 c9 c10 : Value} {t : TypeId} (h : w.heap[q]? = some (.cells #[c0, c1, c2, c3, c4, c5, c6, c7, c8, c9, c10] t)) :
    w.cell? ⟨q, 1, none⟩ = some c1 ∧ w.cell? ⟨q, 2, none⟩ = some c2 ∧ w.cell? ⟨q, 3, none⟩ = some c3 ∧ w.cell? ⟨q, 4, none⟩ = some c4 ∧ w.cell? ⟨q, 5, none⟩ = some c5 ∧ w.cell? ⟨q, 6, none⟩ = some c6 ∧ w.cell? ⟨q, 7, none⟩ = some c7 ∧ w.cell? ⟨q, 8, none⟩ = some c8 ∧ w.cell? ⟨q, 9, none⟩ = some c9 ∧ w.cell? ⟨q, 10, none⟩ = some c10 :=
  ⟨box_cell h 1, box_cell h 2, box_cell h 3, box_cell h 4, box_cell h 5, box_cell h 6, box_cell h 7, box_cell h 8, box_cell h 9, box_cell h 10⟩
theorem spawn_B {n : Nat} (t x : Tm n) (s : ByteArray) (v : Int) : actB n (2, (t, x), (s, v)) = (nothingT n t && nameB s && inB v 0 3) := by
  have h : decide (v < 4) = decide (v ≤ 3) := by
    by_cases h : v < 4
    · rw [decide_eq_true h, decide_eq_true (by omega)]
    · rw [decide_eq_false h, decide_eq_false (by omega)]
  show (nothingT n t && nameB s && decide (0 ≤ v) && decide (v < 4)) = (nothingT n t && nameB s && (decide (0 ≤ v) && decide (v ≤ 3)))
  rw [h, Bool.and_assoc]
theorem clause_in {n B base : Nat} {s m x : Tm (n + 1)} {w wr w1 : World} {A : Tm (n + 3)} (hB : B ≤ w.heap.size) (hs : In B w (n + 1) s) (hm : In B w (n + 1) m) (hx : In B w (n + 1) x) (hbw : Below w.heap.size w wr) (hA : In wr.heap.size wr (n + 3) A ∧ Off (fun b => b < B ∨ base ≤ b) (n + 3) A) (h1 : Below wr.heap.size wr w1) :
    ∀ y ∈ [atomV wOn (n + 2), lift (n + 3) (n + 1) s, lift (n + 3) (n + 1) m, A, lift (n + 3) (n + 1) x], In w1.heap.size w1 (n + 3) y ∧ Off (fun b => b < B ∨ base ≤ b) (n + 3) y := by
  have L : ∀ t : Tm (n + 1), In B w (n + 1) t → In w1.heap.size w1 (n + 3) (lift (n + 3) (n + 1) t) ∧ Off (fun b => b < B ∨ base ≤ b) (n + 3) (lift (n + 3) (n + 1) t) := fun t ht => by
    have h2 := lift_in (n + 3) (n + 1) (by omega) t B w ht
    have hb := hbw.trans (h1.mono hbw.size)
    exact ⟨(h2.below (hb.mono hB)).mono (Nat.le_trans hB hb.size), (in_offLow h2).mono fun b hb => Or.inl hb⟩
  intro y hy
  simp only [List.mem_cons, List.not_mem_nil, or_false] at hy
  rcases hy with rfl | rfl | rfl | rfl | rfl
  · exact ⟨atomV_in _ _ (word_le _ (by decide)) _ _, atomV_off _ _ _⟩
  · exact L s hs
  · exact L m hm
  · exact ⟨(hA.1.below h1).mono h1.size, hA.2⟩
  · exact L x hx
theorem clause_same {n B : Nat} {s m x : Tm (n + 1)} {w : World} {A : Tm (n + 3)} {ys : List (Tm (n + 2))} (hs : In B w (n + 1) s) (hm : In B w (n + 1) m) (hx : In B w (n + 1) x) (hAs : same (n + 3) A (n + 3) (tupV (n + 2) ys) = true) :
    sameL (fun a b => same (n + 3) a (n + 3) b) [atomV wOn (n + 2), lift (n + 3) (n + 1) s, lift (n + 3) (n + 1) m, A, lift (n + 3) (n + 1) x] [atomV wOn (n + 2), lift (n + 3) (n + 1) s, lift (n + 3) (n + 1) m, tupV (n + 2) ys, lift (n + 3) (n + 1) x] = true := by
  have S : ∀ t : Tm (n + 1), In B w (n + 1) t → same (n + 3) (lift (n + 3) (n + 1) t) (n + 3) (lift (n + 3) (n + 1) t) = true := fun t ht => in_self (lift_in (n + 3) (n + 1) (by omega) t B w ht)
  simp only [sameL, S s hs, S m hm, S x hx, hAs, atomV_same, Bool.and_self]
theorem lit_tup2 {B N base : Nat} (xs : List (Tm N)) {w1 W : World} {cs : Array Value} {g L : Nat} (hb1 : base ≤ w1.heap.size) (hg : g = w1.heap.size) (hL : L = xs.length) (h2 : Below (w1.alloc (.cells cs 24)).heap.size (w1.alloc (.cells cs 24)) W) (hcs : cs.toList = xs.flatMap (tm4 N)) (hm : xs.length ≤ 8) (hX : ∀ y ∈ xs, In w1.heap.size w1 N y ∧ Off (fun b => b < B ∨ base ≤ b) N y) :
    In W.heap.size W (N + 1) ((4, 0, .empty), (some ⟨g, 0, none⟩, L), xs) ∧ Off (fun b => b < B ∨ base ≤ b) (N + 1) ((4, 0, .empty), (some ⟨g, 0, none⟩, L), xs) := by
  subst hg hL
  have h := Grow.lit (T := 24) (k := 4) (B := B) (base := base) (tm_stays N) xs (w0 := w1) hcs (tm4_len N) (by unfold maxLen; omega) hb1 (Below.refl _ _) hX
  exact GrowT.tup (Grow.later (tm_stays N) h (by simp; omega) h2)
/-- A clause's box: its terms. -/
theorem clause_box {w : World} {q : Nat} {c0 c1 c2 c3 c4 c5 c6 c7 c8 c9 c10 c11 c12 : Value} {t : TypeId} (h : w.heap[q]? = some (.cells #[c0, c1, c2, c3, c4, c5, c6, c7, c8, c9, c10, c11, c12] t)) :
    (w.cell? ⟨q, 0, none⟩ = some c0 ∧ w.cell? ⟨q, 1, none⟩ = some c1 ∧ w.cell? ⟨q, 2, none⟩ = some c2 ∧ w.cell? ⟨q, 3, none⟩ = some c3) ∧ (w.cell? ⟨q, 4, none⟩ = some c4 ∧ w.cell? ⟨q, 5, none⟩ = some c5 ∧ w.cell? ⟨q, 6, none⟩ = some c6 ∧ w.cell? ⟨q, 7, none⟩ = some c7) ∧ (w.cell? ⟨q, 9, none⟩ = some c9 ∧ w.cell? ⟨q, 10, none⟩ = some c10 ∧ w.cell? ⟨q, 11, none⟩ = some c11 ∧ w.cell? ⟨q, 12, none⟩ = some c12) :=
  ⟨⟨box_cell h 0, box_cell h 1, box_cell h 2, box_cell h 3⟩, ⟨box_cell h 4, box_cell h 5, box_cell h 6, box_cell h 7⟩, box_cell h 9, box_cell h 10, box_cell h 11, box_cell h 12⟩
theorem ok_left {a b c d : Bool} (h : d = (a && b && c)) (k : d = true) : a = true := by
  subst h
  simp only [Bool.and_eq_true] at k
  exact k.1.1
theorem ok_left2 {a b c e d : Bool} (h : d = (a && b && c && e)) (k : d = true) : a = true := by
  subst h
  simp only [Bool.and_eq_true] at k
  exact k.1.1.1
theorem cs_is {w : World} {q L : Nat} {N : Nat} {xs : List (Tm N)} {va : Option Addr} {vc : Nat} {t : TypeId} (hL : xs.length = L) (h : w.heap[q]? = some (.cells #[.int .i64 4, .int .i64 0, .string ⟨#[]⟩, .slice va L vc] t)) : w.heap[q]? = some (.cells #[.int .i64 4, .int .i64 0, .string ⟨#[]⟩, .slice va xs.length vc] t) := by rw [hL]; exact h
theorem form_len {n len : Nat} {p : List (Bh n)} (h : pgB n p = true) (hl : p.length = len) : inB (len : Int) 1 7 = true := by
  rw [← hl]
  simp only [pgB, Bool.and_eq_true] at h
  simp only [inB, h.1.1, h.1.2, Bool.and_self]
theorem form_beh {n : Nat} {p : List (Bh n)} (h : pgB n p = true) {b : Bh n} (hb : b ∈ p) : nameB b.1 = true ∧ inB (b.2.2.length : Int) 1 6 = true ∧ b.2.2.length ≤ 6 ∧ ∀ c ∈ b.2.2, c.2.2.length ≤ 8 ∧ ∀ a ∈ c.2.2, actB n a = true := by
  simp only [pgB, bhB, clB, Bool.and_eq_true, decide_eq_true_eq, List.all_eq_true] at h
  obtain ⟨⟨⟨h1, h2⟩, h3⟩, h4⟩ := h.2 b hb
  refine ⟨h1, ?_, by omega, fun c hc => ⟨by have := (h4 c hc).1; omega, (h4 c hc).2⟩⟩
  simp only [inB, decide_eq_true h2, decide_eq_true h3, Bool.and_self]
theorem form_kind {n : Nat} {K : Int} {t x : Tm n} {s : ByteArray} {v : Int} (h : actB n (K, (t, x), (s, v)) = true) :
    (K = 1 ∧ s.toList.isEmpty = true ∧ (v == 0) = true) ∨ (K = 2 ∧ nothingT n t = true ∧ nameB s = true ∧ inB v 0 3 = true) ∨ (K = 3 ∧ nothingT n x = true ∧ s.toList.isEmpty = true ∧ (v == 0) = true) ∨ (K = 4 ∧ nothingT n t = true ∧ nothingT n x = true ∧ s.toList.isEmpty = true ∧ (v == 0) = true) := by
  by_cases k1 : K = 1
  · subst k1
    have h' : (s.toList.isEmpty && v == 0) = true := h
    rw [Bool.and_eq_true] at h'
    exact Or.inl ⟨rfl, h'.1, h'.2⟩
  by_cases k2 : K = 2
  · subst k2
    rw [spawn_B] at h
    simp only [Bool.and_eq_true] at h
    exact Or.inr (Or.inl ⟨rfl, h.1.1, h.1.2, h.2⟩)
  by_cases k3 : K = 3
  · subst k3
    have h' : (nothingT n x && (s.toList.isEmpty && v == 0)) = true := h
    simp only [Bool.and_eq_true] at h'
    exact Or.inr (Or.inr (Or.inl ⟨rfl, h'.1, h'.2.1, h'.2.2⟩))
  by_cases k4 : K = 4
  · subst k4
    have h' : (nothingT n t && nothingT n x && (s.toList.isEmpty && v == 0)) = true := h
    simp only [Bool.and_eq_true] at h'
    exact Or.inr (Or.inr (Or.inr ⟨rfl, h'.1.1, h'.1.2, h'.2.1, h'.2.2⟩))
  · simp [actB, k1, k2, k3, k4] at h
end Go.Proofs.YtpehdgbdinjbaabDoor
