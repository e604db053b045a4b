/- What is proved here: the program's number and the document's Digits: whether a text is a number of at most so many digits without noughts ahead, and which. No memory turns. Condition: at most 13 digits are asked for. -/
import Derived.Test.YtdlplmpjcemnoabDoorRSize
namespace Go.Proofs.YtdlplmpjcemnoabDoor
open Go.RowKit

def digB (c : UInt8) : Bool := decide (48 ≤ (c.toNat : Int)) && decide ((c.toNat : Int) ≤ 57)
def digsB (l : List UInt8) : Bool := l.all digB
def numV (l : List UInt8) : Int := l.foldl (fun n c => 10 * n + ((c.toNat : Int) - 48)) 0
/-- Is a text a number, of at most so many digits? -/
def isNum (s : ByteArray) (m : Int) : Bool := decide (1 ≤ (s.size : Int)) && decide ((s.size : Int) ≤ m) && !(s.data.toList[0]? == some 48 && decide (1 < (s.size : Int))) && digsB s.data.toList

theorem digsB_snoc (s : ByteArray) (k : Nat) (h : k < s.size) : digsB (s.data.toList.take (k + 1)) = (digsB (s.data.toList.take k) && digB s[k]) := by
  rw [take_snoc s k h]; simp [digsB]
theorem numV_snoc (s : ByteArray) (k : Nat) (h : k < s.size) : numV (s.data.toList.take (k + 1)) = 10 * numV (s.data.toList.take k) + ((s[k].toNat : Int) - 48) := by
  rw [take_snoc s k h]; simp [numV]
theorem numV_bound (l : List UInt8) : digsB l = true → 0 ≤ numV l ∧ numV l < 10 ^ l.length := by
  suffices h : ∀ (l : List UInt8) (a : Int) (p : Nat), digsB l = true → 0 ≤ a → a < 10 ^ p → 0 ≤ l.foldl (fun n c => 10 * n + ((c.toNat : Int) - 48)) a ∧ l.foldl (fun n c => 10 * n + ((c.toNat : Int) - 48)) a < 10 ^ (p + l.length) by
    intro hd
    have := h l 0 0 hd (by omega) (by simp)
    simpa [numV] using this
  intro l
  induction l with
  | nil => intro a p _ h1 h2; exact ⟨h1, h2⟩
  | cons c l ih =>
    intro a p hd h1 h2
    simp only [digsB, List.all_cons, Bool.and_eq_true, digB, decide_eq_true_eq] at hd
    have := ih (10 * a + ((c.toNat : Int) - 48)) (p + 1) (by simp only [digsB]; exact hd.2) (by omega) (by rw [Int.pow_succ]; omega)
    simp only [List.foldl_cons, List.length_cons]
    rw [show p + (l.length + 1) = p + 1 + l.length by omega]
    exact this
theorem numV_small (s : ByteArray) (k : Nat) (hk : k ≤ 14) (hd : digsB (s.data.toList.take k) = true) : 0 ≤ numV (s.data.toList.take k) ∧ numV (s.data.toList.take k) < 100000000000000 := by
  have h := numV_bound _ hd
  refine ⟨h.1, Int.lt_of_lt_of_le h.2 ?_⟩
  have : (10 : Int) ^ (s.data.toList.take k).length ≤ 10 ^ 14 := by
    have h2 : (10 : Nat) ^ (s.data.toList.take k).length ≤ 10 ^ 14 := Nat.pow_le_pow_right (by omega) (by simp; omega)
    exact_mod_cast h2
  simpa using this
theorem digs_stop (s : ByteArray) (k : Nat) (h : k < s.size) (hd : digB s[k] = false) : digsB s.data.toList = false := by
  have h2 : digsB s.data.toList = (digsB (s.data.toList.take (k + 1)) && digsB (s.data.toList.drop (k + 1))) := by
    conv => lhs; rw [← List.take_append_drop (k + 1) s.data.toList]
    simp only [digsB, List.all_append]
  rw [h2, digsB_snoc s k h, hd]; simp

theorem ret_two {a b : Int} {c d : Bool} (h1 : a = b) (h2 : c = d) : Ending.returned (.tuple #[.int .i64 a, .bool c]) = .returned (.tuple #[.int .i64 b, .bool d]) := by rw [h1, h2]

theorem head_at (s : ByteArray) (h : 0 < s.size) : s.data.toList[0]? = some s[0] := by
  rw [List.getElem?_eq_getElem (by simpa using h)]; rfl

theorem one_of (s : ByteArray) (h : 0 < s.size) (h2 : s[0] = 48) : (s.toList == [48]) = decide (¬ 1 < s.size) := by
  rw [ByteArray.toList_eq]
  have h3 := head_at s h
  rw [h2] at h3
  have h4 : s.data.toList.length = s.size := by simp
  cases hl : s.data.toList with
  | nil => rw [hl] at h4; simp at h4; omega
  | cons c l =>
    rw [hl] at h3 h4
    simp at h3
    subst h3
    cases l with
    | nil => simp at h4; simp; omega
    | cons d l => simp at h4; simp; omega

theorem size_pos {s : ByteArray} (h : 0 < s.size) : s.toList.isEmpty = false := by
  rw [ByteArray.toList_eq, List.isEmpty_eq_false_iff]
  intro e
  have : s.data.toList.length = s.size := by simp
  rw [e] at this
  simp at this
  omega
theorem size_nil {s : ByteArray} (h : ¬ 0 < s.size) : s.toList.isEmpty = true := by
  rw [ByteArray.toList_eq, List.isEmpty_iff]
  apply List.eq_nil_of_length_eq_zero
  have : s.data.toList.length = s.size := by simp
  omega
theorem byte_ne {c : UInt8} {k : Nat} {d : UInt8} (hd : d.toNat = k) (h : ¬ c = d) : ¬ ((c.toNat : Int) = k) := fun e => h (UInt8.toNat.inj (by omega))

def NumOut (s : ByteArray) (m : Int) (e : Ending) : Prop :=
  ∃ (v : Int) (b : Bool), e = .returned (.tuple #[.int .i64 v, .bool b]) ∧ Hid (b = isNum s m ∧ 0 ≤ v ∧ v < 100000000000000 ∧ (b = true → v = numV s.data.toList))

set_option maxHeartbeats 1000000 in
theorem number_any (s : ByteArray) (m : Int) (w : World) (hs : s.size ≤ 9223372036854775807) (hm : m ≤ 13) :
    Calls Tryd.prog 36 #[.string s, .int .i64 m] w fun e w' => NumOut s m e ∧ w' = w := by
  go_enter Tryd.func36, Tryd.ntmps36
  by_cases h0 : 0 < s.size
  · have hE := size_pos h0
    have hN : (s.toList = []) = False := by simpa using hE
    by_cases h1 : (s.size : Int) ≤ m
    · have h1' : decide (m < (s.size : Int)) = false := by simp; omega
      have HK : s[0] = 48 → (s.toList == [48]) = decide (¬ 1 < s.size) := one_of s h0
      by_cases h2 : s[0] = 48 ∧ 1 < s.size
      · obtain ⟨h2, h3⟩ := h2
        have h4 : (s.toList == [48]) = false := by rw [HK h2]; simp; omega
        have HF : Hid (isNum s m = false) := by simp [Hid, isNum, head_at s h0, h2]; omega
        clear HK
        go_wp2_with fail
        all_goals go_ret2
        all_goals exact ⟨⟨0, false, rfl, HF.out.symm, by omega, by omega, by simp⟩, rfl⟩
      · have HF : Hid (isNum s m = digsB s.data.toList) := by
          simp only [Hid, isNum]
          rw [head_at s h0]
          by_cases h3 : s[0] = 48
          · have : ¬ 1 < s.size := fun h => h2 ⟨h3, h⟩
            simp [h1]; omega
          · simp [h1, h3]; omega
        have h4 : (s[0] = 48 ∧ (s.toList == [48]) = true) ∨ ¬ ((s[0].toNat : Int) = 48) := by
          by_cases h3 : s[0] = 48
          · exact Or.inl ⟨h3, by rw [HK h3]; simp; have : ¬ 1 < s.size := fun h => h2 ⟨h3, h⟩
                                 omega⟩
          · exact Or.inr (byte_ne (k := 48) rfl h3)
        clear HK h2
        rcases h4 with ⟨h3, h4⟩ | h4
        all_goals
          go_wp2_with fail
          go_loop [6, 7] (fun t i => ∃ k : Nat, ∃ r : Int, k ≤ s.size ∧ i = .int .i64 k ∧ t = .int .i64 r ∧ Hid (r = numV (s.data.toList.take k) ∧ digsB (s.data.toList.take k) = true)) (fun _ i => s.size - (intOf i).toNat)
          case atStart => exact ⟨0, 0, Nat.zero_le _, rfl, rfl, by simp [Hid, digsB, numV]⟩
          case round =>
            obtain ⟨k, r, hk, rfl, rfl, hb⟩ := hrel
            have hr := numV_small s k (by omega) hb.out.2
            rw [← hb.out.1] at hr
            obtain ⟨r1, r2⟩ := hr
            by_cases hlt : k < s.size
            · have HS := hide (digsB_snoc s k hlt)
              have HV := hide (numV_snoc s k hlt)
              have HX : Hid (digB s[k] = false → false = isNum s m) := fun h => by rw [HF.out, digs_stop s k hlt h]
              by_cases d1 : 48 ≤ (s[k].toNat : Int)
              · by_cases d2 : (s[k].toNat : Int) ≤ 57
                · go_wp2_with fail
                  go_round
                  case rel => exact ⟨k + 1, 10 * r + ((s[k].toNat : Int) - 48), by omega, by go_num, by go_num, by rw [HV.out, hb.out.1], by rw [HS.out, hb.out.2]; simp [digB, d1, d2]⟩
                  case measure => simp [intOf]; omega
                · go_wp2_with fail
                  go_ret2
                  exact ⟨⟨0, false, rfl, HX.out (by simp [digB, d2]), by omega, by omega, by simp⟩, rfl⟩
              · go_wp2_with fail
                go_ret2
                exact ⟨⟨0, false, rfl, HX.out (by simp [digB]; omega), by omega, by omega, by simp⟩, rfl⟩
            · go_wp2_with fail
              go_ret2
              have ht : s.data.toList.take k = s.data.toList := List.take_of_length_le (by simp; omega)
              refine ⟨⟨r, true, rfl, ?_, by omega, by omega, fun _ => ?_⟩, rfl⟩
              · rw [HF.out, ← ht, hb.out.2]
              · rw [hb.out.1, ht]
    · have h1' : m < (s.size : Int) := by omega
      have HF : Hid (isNum s m = false) := by simp [Hid, isNum, h1]
      go_wp2_with fail
      all_goals go_ret2
      all_goals exact ⟨⟨0, false, rfl, HF.out.symm, by omega, by omega, by simp⟩, rfl⟩
  · have hE := size_nil h0
    have hN : (s.toList = []) = True := by simpa using hE
    have hz : s.size = 0 := by omega
    have HF : Hid (isNum s m = false) := by simp [Hid, isNum, hz]
    clear hz
    go_wp2_with fail
    all_goals go_ret2
    all_goals exact ⟨⟨0, false, rfl, HF.out.symm, by omega, by omega, by simp⟩, rfl⟩

def DigOut (s : ByteArray) (m : Int) (e : Ending) : Prop :=
  ∃ v : Int, e = .returned (.int .i64 v) ∧ Hid (decide (0 ≤ v) = isNum s m ∧ -1 ≤ v ∧ v < 100000000000000 ∧ (isNum s m = true → v = numV s.data.toList))
theorem dig_no {s : ByteArray} {m : Int} (h : isNum s m = false) : DigOut s m (.returned (.int .i64 (-1))) := ⟨-1, rfl, by rw [h]; rfl, by omega, by omega, by rw [h]; simp⟩

end Go.Proofs.YtdlplmpjcemnoabDoor
