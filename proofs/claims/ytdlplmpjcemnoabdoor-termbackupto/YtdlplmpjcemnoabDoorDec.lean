/- What is proved here: plain facts on decimal numerals: they are digits, without noughts ahead, and read as the number; and which word each right term without parts is told by. No condition. -/
import Derived.Test.YtdlplmpjcemnoabDoorTks
import Derived.Lib.ItoaNum
namespace Go.Proofs.YtdlplmpjcemnoabDoor
open Go.RowKit

theorem dig_of (d : Nat) (h : d < 10) : (UInt8.ofNat (48 + d)).toNat = 48 + d := by
  rw [UInt8.toNat_ofNat']
  omega
theorem dec_small {u : Nat} (h : u < 10) : Lib.decDigits u = [UInt8.ofNat (48 + u)] := by rw [Lib.decDigits, dif_pos h]
theorem dec_big {u : Nat} (h : ¬ u < 10) : Lib.decDigits u = Lib.decDigits (u / 10) ++ [UInt8.ofNat (48 + u % 10)] := by
  conv => lhs; rw [Lib.decDigits, dif_neg h]
theorem dec_digs (u : Nat) : digsB (Lib.decDigits u) = true := by
  induction u using Nat.strongRecOn with
  | _ u ih =>
    by_cases h : u < 10
    · rw [dec_small h]
      simp only [digsB, List.all_cons, List.all_nil, digB, dig_of u h]
      simp; omega
    · rw [dec_big h]
      have h1 := ih (u / 10) (by omega)
      simp only [digsB] at h1 ⊢
      rw [List.all_append, h1]
      simp only [List.all_cons, List.all_nil, digB, dig_of (u % 10) (by omega)]
      simp; omega
theorem dec_num (u : Nat) : numV (Lib.decDigits u) = u := by
  induction u using Nat.strongRecOn with
  | _ u ih =>
    by_cases h : u < 10
    · rw [dec_small h]
      simp only [numV, List.foldl_cons, List.foldl_nil, dig_of u h]
      omega
    · rw [dec_big h]
      have h1 := ih (u / 10) (by omega)
      simp only [numV] at h1 ⊢
      rw [List.foldl_append, h1]
      simp only [List.foldl_cons, List.foldl_nil, dig_of (u % 10) (by omega)]
      omega
theorem dec_head (u : Nat) (hu : u ≠ 0) : ∃ c l, Lib.decDigits u = c :: l ∧ c ≠ 48 := by
  induction u using Nat.strongRecOn with
  | _ u ih =>
    by_cases h : u < 10
    · rw [dec_small h]
      refine ⟨_, [], rfl, fun e => ?_⟩
      have := congrArg UInt8.toNat e
      rw [dig_of u h] at this
      have h48 : (48 : UInt8).toNat = 48 := rfl
      omega
    · obtain ⟨c, l, e, hc⟩ := ih (u / 10) (by omega) (by omega)
      rw [dec_big h, e]
      exact ⟨c, _, rfl, hc⟩
theorem dec_len : (m u : Nat) → u < 10 ^ (m + 1) → 1 ≤ (Lib.decDigits u).length ∧ (Lib.decDigits u).length ≤ m + 1
  | 0, u, h => by rw [dec_small (by simpa using h)]; simp
  | m + 1, u, h => by
    by_cases h1 : u < 10
    · rw [dec_small h1]; simp
    · rw [dec_big h1]
      have := dec_len m (u / 10) (by rw [Nat.pow_succ] at h; omega)
      simp
      omega
theorem size_of_list (l : List UInt8) : (⟨l.toArray⟩ : ByteArray).size = l.length := by simp [ByteArray.size]
theorem dec_isNum (m u : Nat) (h : u < 10 ^ (m + 1)) : isNum ⟨(Lib.decDigits u).toArray⟩ ((m : Int) + 1) = true := by
  have h1 := dec_len m u h
  have h2 : ((Lib.decDigits u)[0]? == some 48 && decide (1 < ((Lib.decDigits u).length : Int))) = false := by
    by_cases hu : u = 0
    · subst hu
      rw [dec_small (by omega)]; simp
    · obtain ⟨c, l, e, hc⟩ := dec_head u hu
      rw [e]; simp [hc]
  simp only [isNum, size_of_list, dec_digs, h2]
  simp
  omega
theorem dec_pos (u : Nat) : Lib.decDigits u ≠ [] := by
  by_cases h : u < 10
  · rw [dec_small h]; simp
  · rw [dec_big h]; simp
theorem dig_en {c : UInt8} (h : digB c = true) : enB c = false := by
  simp only [digB, Bool.and_eq_true, decide_eq_true_eq] at h
  have e1 : c ≠ 32 := fun e => by subst e; exact absurd h.1 (by decide)
  have e2 : c ≠ 40 := fun e => by subst e; exact absurd h.1 (by decide)
  have e3 : c ≠ 41 := fun e => by subst e; exact absurd h.1 (by decide)
  simp [enB, e1, e2, e3]
theorem low_en {c : UInt8} (h : lowB c = true) : enB c = false := by
  simp only [lowB, Bool.and_eq_true, decide_eq_true_eq] at h
  have e1 : c ≠ 32 := fun e => by subst e; exact absurd h.1 (by decide)
  have e2 : c ≠ 40 := fun e => by subst e; exact absurd h.1 (by decide)
  have e3 : c ≠ 41 := fun e => by subst e; exact absurd h.1 (by decide)
  simp [enB, e1, e2, e3]
theorem dig_ne {c d : UInt8} (h : digB c = true) (hd : digB d = false) : c ≠ d := fun e => by rw [e, hd] at h; exact absurd h (by simp)
theorem low_ne {c d : UInt8} (h : lowB c = true) (hd : lowB d = false) : c ≠ d := fun e => by rw [e, hd] at h; exact absurd h (by simp)

/-- A word that tells a right term without parts. -/
def Tells (l : List UInt8) (v : Int × Int × ByteArray) : Prop := l ≠ [] ∧ (∀ c ∈ l, enB c = false) ∧ leafB ⟨l.toArray⟩ = true ∧ leafV ⟨l.toArray⟩ = v ∧ isO ⟨l.toArray⟩ = false

theorem tells_of {l : List UInt8} {v : Int × Int × ByteArray} (h0 : l ≠ []) (h1 : ∀ c ∈ l, enB c = false) (h2 : leafB ⟨l.toArray⟩ = true) (h3 : leafV ⟨l.toArray⟩ = v) : Tells l v := by
  refine ⟨h0, h1, h2, h3, ?_⟩
  cases ho : isO ⟨l.toArray⟩
  · rfl
  · rw [(leaf_open ho).1] at h2; exact absurd h2 (by simp)

theorem digs_all {l : List UInt8} (h : digsB l = true) : ∀ c ∈ l, digB c = true := by simpa [digsB] using h
theorem tells_nat (u : Nat) (h : u < 10 ^ 13) : Tells (Lib.decDigits u) (1, u, ⟨#[]⟩) := by
  have hn := dec_isNum 12 u h
  have hd := digs_all (dec_digs u)
  cases hl : Lib.decDigits u with
  | nil => exact absurd hl (dec_pos u)
  | cons c l =>
    rw [← hl]
    have hc : digB c = true := hd c (by rw [hl]; simp)
    have hne : ∀ d, digB d = false → c ≠ d := fun d h => dig_ne hc h
    have c1 := hne 35 (by decide)
    have c2 := hne 36 (by decide)
    have c3 := hne 45 (by decide)
    have c4 := hne 95 (by decide)
    have hbar : ((⟨(Lib.decDigits u).toArray⟩ : ByteArray).toList == [95]) = false := by
      rw [ByteArray.toList_eq, hl]
      simp [c4]
    have h0 : (⟨(Lib.decDigits u).toArray⟩ : ByteArray).data.toList[0]? = some c := by simp [hl]
    refine tells_of (dec_pos u) (fun c hc => dig_en (hd c hc)) ?_ ?_
    · simp only [leafB, h0, hbar]
      have hn' : isNum ⟨(Lib.decDigits u).toArray⟩ 13 = true := by simpa using hn
      simp [c1, c2, c3, hn']
    · simp only [leafV, h0, hbar]
      have hn' : isNum ⟨(Lib.decDigits u).toArray⟩ 13 = true := by simpa using hn
      simp [c1, c2, c3, hn', dec_num]
theorem tail_of (c : UInt8) (l : List UInt8) : tail1 ⟨(c :: l).toArray⟩ = ⟨l.toArray⟩ := by
  apply ByteArray.ext
  simp [tail1]
  rw [size_of_list]
  simp
theorem tells_neg (u : Nat) (h : u < 10 ^ 13) (h0 : u ≠ 0) : Tells (45 :: Lib.decDigits u) (1, -(u : Int), ⟨#[]⟩) := by
  have hn := dec_isNum 12 u h
  have hn' : isNum ⟨(Lib.decDigits u).toArray⟩ 13 = true := by simpa using hn
  have hd := digs_all (dec_digs u)
  refine tells_of (by simp) ?_ ?_ ?_
  · intro c hc
    rcases List.mem_cons.1 hc with rfl | hc
    · decide
    · exact dig_en (hd c hc)
  · simp only [leafB, tail_of, hn', dec_num]
    simp; omega
  · simp only [leafV, tail_of, dec_num]
    simp
theorem tells_pid (u : Nat) (h : u < 10 ^ 2) : Tells (35 :: Lib.decDigits u) (3, u, ⟨#[]⟩) := by
  have hn := dec_isNum 1 u h
  have hn' : isNum ⟨(Lib.decDigits u).toArray⟩ 2 = true := by simpa using hn
  have hd := digs_all (dec_digs u)
  refine tells_of (by simp) ?_ ?_ ?_
  · intro c hc
    rcases List.mem_cons.1 hc with rfl | hc
    · decide
    · exact dig_en (hd c hc)
  · simp only [leafB, tail_of, hn']
    simp
  · simp only [leafV, tail_of, dec_num]
    simp
theorem tells_var (u : Nat) (h : u < 10 ^ 2) : Tells (36 :: Lib.decDigits u) (5, u, ⟨#[]⟩) := by
  have hn := dec_isNum 1 u h
  have hn' : isNum ⟨(Lib.decDigits u).toArray⟩ 2 = true := by simpa using hn
  have hd := digs_all (dec_digs u)
  refine tells_of (by simp) ?_ ?_ ?_
  · intro c hc
    rcases List.mem_cons.1 hc with rfl | hc
    · decide
    · exact dig_en (hd c hc)
  · simp only [leafB, tail_of, hn']
    simp
  · simp only [leafV, tail_of, dec_num]
    simp
theorem tells_any : Tells [95] (6, 0, ⟨#[]⟩) := by
  refine tells_of (by simp) (by simp [enB]) ?_ ?_
  · simp [leafB, ByteArray.toList_eq]
  · simp [leafV, ByteArray.toList_eq]
theorem bytes_of (s : ByteArray) : (⟨s.data.toList.toArray⟩ : ByteArray) = s := by cases s; simp
theorem tells_name (s : ByteArray) (h : nameB s = true) : Tells s.data.toList (2, 0, s) := by
  simp only [nameB, inB, Bool.and_eq_true, decide_eq_true_eq] at h
  have hl : ∀ c ∈ s.data.toList, lowB c = true := List.all_eq_true.1 h.2
  have hs : s.data.toList.length = s.size := by simp
  cases hd : s.data.toList with
  | nil => rw [hd] at hs; simp at hs; omega
  | cons c l =>
    rw [← hd]
    have hc : lowB c = true := hl c (by rw [hd]; simp)
    have c1 := low_ne hc (d := 35) (by decide)
    have c2 := low_ne hc (d := 36) (by decide)
    have c3 := low_ne hc (d := 45) (by decide)
    have c4 := low_ne hc (d := 95) (by decide)
    have hbar : (s.toList == [95]) = false := by
      rw [ByteArray.toList_eq, hd]
      simp [c4]
    have h0 : s.data.toList[0]? = some c := by simp [hd]
    have hn : isNum s 13 = false := by
      have : digB c = false := by
        cases hb : digB c
        · rfl
        · simp only [digB, lowB, Bool.and_eq_true, decide_eq_true_eq] at hb hc; omega
      simp [isNum, digsB, hd, this]
    refine tells_of (by rw [hd]; simp) (fun c hc => low_en (hl c hc)) ?_ ?_
    · rw [bytes_of]
      simp only [leafB, h0, hbar, hn, h.2]
      simp [c1, c2, c3]
      omega
    · rw [bytes_of]
      simp only [leafV, h0, hbar, hn]
      simp [c1, c2, c3]
end Go.Proofs.YtdlplmpjcemnoabDoor
