/- What is proved here: plain facts and contracts that the claimed theorem stands on, several texts in one: the program's plain (with numbered and strings.Clone): which word is a term, and which. No memory that was there turns. No condition but the text's size. plain facts on texts: where the next word of a text begins and ends. No condition. the document's Same of two terms that lie in memory returns what the plain function same says, and turns no memory that was there. No condition but that the terms lie in memory. term.depth, term.Size and term.Check of a term that lies in memory return what plain functions say, and turn no memory that was there; Check is the document's Check. Condition: at most 2097152 terms in it. -/
import Derived.Test.YtpehdgbdinjbaabDoorG01
import Derived.Test.YtpehdgbdinjbaabDoorG04
import Derived.Test.YtpehdgbdinjbaabDoorG05
namespace Go.Proofs.YtpehdgbdinjbaabDoor
open Go.RowKit

/-- A word behind its first sign. -/
def tail1 (s : ByteArray) : ByteArray := s.extract 1 s.size
/-- Is a word a term? -/
def leafB (s : ByteArray) : Bool :=
  if s.data.toList[0]? = some 35 then isNum (tail1 s) 2
  else if s.data.toList[0]? = some 36 then isNum (tail1 s) 2
  else if s.data.toList[0]? = some 45 then isNum (tail1 s) 13 && !(numV (tail1 s).data.toList == 0)
  else if s.toList == [95] then true
  else if isNum s 13 then true
  else decide (0 < s.size) && lowsB s.data.toList
/-- Its Kind, N and Name. -/
def leafV (s : ByteArray) : Int × Int × ByteArray :=
  if s.data.toList[0]? = some 35 then (3, numV (tail1 s).data.toList, ⟨#[]⟩)
  else if s.data.toList[0]? = some 36 then (5, numV (tail1 s).data.toList, ⟨#[]⟩)
  else if s.data.toList[0]? = some 45 then (1, - numV (tail1 s).data.toList, ⟨#[]⟩)
  else if s.toList == [95] then (6, 0, ⟨#[]⟩)
  else if isNum s 13 then (1, numV s.data.toList, ⟨#[]⟩)
  else (2, 0, s)

def LeafOut (s : ByteArray) (e : Ending) : Prop :=
  ∃ (k u : Int) (t : ByteArray) (b : Bool), e = .returned (.tuple #[.agg #[.int .i64 k, .int .i64 u, .string t, .slice none 0 0], .bool b]) ∧ Hid (b = leafB s ∧ (b = true → (k, u, t) = leafV s) ∧ t.size ≤ s.size ∧ I64 k ∧ I64 u)

theorem tail1_size (s : ByteArray) : (tail1 s).size ≤ s.size := by simp [tail1]

def NbrOut (k : Int) (s : ByteArray) (e : Ending) : Prop :=
  ∃ (v : Int) (b : Bool), e = .returned (.tuple #[.agg #[.int .i64 k, .int .i64 v, .string ⟨#[]⟩, .slice none 0 0], .bool b]) ∧ Hid (b = isNum s 2 ∧ 0 ≤ v ∧ v < 100000000000000 ∧ (b = true → v = numV s.data.toList))

theorem numbered_any (k : Int) (s : ByteArray) (w : World) (hs : s.size ≤ 9223372036854775807) :
    Calls Tryd.prog 61 #[.int .i64 k, .string s] w fun e w' => NbrOut k s e ∧ Below w.heap.size w w' := by
  go_enter Tryd.func61, Tryd.ntmps61
  go_wp2_with (go_at_call 62; refine (number_any _ _ _ hs (by omega)).mono ?_; rintro e w' ⟨⟨v, b, rfl, HV⟩, rfl⟩)
  exact bodyPost_ret (v := .tuple #[.agg #[.int .i64 k, .int .i64 v, .string ⟨#[]⟩, .slice none 0 0], .bool b]) (by simp [results, Tryd.results61, go_sem]) rfl ⟨⟨v, b, rfl, HV⟩, by go_grown⟩

theorem clone_any (s : ByteArray) (w : World) (hs : s.size ≤ 2048) :
    Calls Tryd.prog 47 #[.string s] w fun e w' => e = .returned (.string s) ∧ Below w.heap.size w w' := by
  go_enter Tryd.func47, Tryd.ntmps47
  go_wp2_with (go_at_call 66; refine (Tryd.stringslite_Clone s w (by omega)).mono ?_; rintro e w' ⟨rfl, hb⟩)
  go_ret
  exact ⟨rfl, hb⟩

theorem digs_head (s : ByteArray) (h : 0 < s.size) (hd : digB s[0] = false) (m : Int) : isNum s m = false := by simp [isNum, digs_stop s 0 h hd]
theorem lows_head (s : ByteArray) (h : 0 < s.size) (hd : lowB s[0] = false) : lowsB s.data.toList = false := by
  have h2 : lowsB s.data.toList = (lowsB (s.data.toList.take 1) && lowsB (s.data.toList.drop 1)) := by
    conv => lhs; rw [← List.take_append_drop 1 s.data.toList]
    simp only [lowsB, List.all_append]
  rw [h2, lowsB_snoc s 0 h, hd]; simp
theorem bar_of (s : ByteArray) (h : 0 < s.size) (h2 : ¬ s[0] = 95) : (s.toList == [95]) = false := by
  rw [ByteArray.toList_eq]
  have h3 := head_at s h
  cases hl : s.data.toList with
  | nil => rfl
  | cons c l =>
    rw [hl] at h3
    simp at h3
    rw [← h3] at h2
    simp [h2]

def agg4 (k u : Int) (t : ByteArray) : Value := .agg #[.int .i64 k, .int .i64 u, .string t, .slice none 0 0]
theorem i64_small {u : Int} (h1 : -100000000000000 ≤ u) (h2 : u ≤ 100000000000000) : I64 u := ⟨by omega, by omega⟩

/-- The cells of the call's own result, behind a call that only makes new memory. -/
theorem box_of {w w' : World} {v0 v1 v2 v3 : Value} {t : TypeId} (hb : Below (w.alloc (.cells #[v0, v1, v2, v3] t)).heap.size (w.alloc (.cells #[v0, v1, v2, v3] t)) w') :
    (w'.cell? ⟨w.heap.size, 0, none⟩ = some v0 ∧ w'.cell? ⟨w.heap.size, 1, none⟩ = some v1 ∧ w'.cell? ⟨w.heap.size, 2, none⟩ = some v2 ∧ w'.cell? ⟨w.heap.size, 3, none⟩ = some v3) ∧
    (w'.frozen? ⟨w.heap.size, 0, none⟩ = false ∧ w'.frozen? ⟨w.heap.size, 1, none⟩ = false ∧ w'.frozen? ⟨w.heap.size, 2, none⟩ = false ∧ w'.frozen? ⟨w.heap.size, 3, none⟩ = false) := by
  have hc := fun o => hb.cell (p := ⟨w.heap.size, o, none⟩) (by simp)
  have hf := fun o => hb.frozen (p := ⟨w.heap.size, o, none⟩) (by simp)
  exact ⟨⟨(hc 0).trans (by simp [go_sem]), (hc 1).trans (by simp [go_sem]), (hc 2).trans (by simp [go_sem]), (hc 3).trans (by simp [go_sem])⟩, (hf 0).trans (by simp [go_sem]), (hf 1).trans (by simp [go_sem]), (hf 2).trans (by simp [go_sem]), (hf 3).trans (by simp [go_sem])⟩

theorem grown4 {w w' : World} {o : Obj} (hb : Below (w.alloc o).heap.size (w.alloc o) w') (a b c d : Value) :
    Below w.heap.size w ((((w'.setCell ⟨w.heap.size, 0, none⟩ a).setCell ⟨w.heap.size, 1, none⟩ b).setCell ⟨w.heap.size, 2, none⟩ c).setCell ⟨w.heap.size, 3, none⟩ d) := by
  have hb2 : Below w.heap.size w w' := ((Below.refl _ _).alloc (Nat.le_refl _) _).trans (hb.mono (by simp))
  go_grown

set_option maxHeartbeats 2000000 in
theorem plain_any (s : ByteArray) (w : World) (hs : s.size ≤ 2048) :
    Calls Tryd.prog 39 #[.string s] w fun e w' => LeafOut s e ∧ Below w.heap.size w w' := by
  have ht := tail1_size s
  by_cases h0 : 0 < s.size
  · have hE := size_pos h0
    have hN : (s.toList = []) = False := by simpa using hE
    have HH := hide (head_at s h0)
    have h01 : (1 : Int) ≤ s.size := by omega
    by_cases c1 : s[0] = 95
    · have HL : Hid (leafB s = (s.toList == [95]) ∧ ((s.toList == [95]) = true → leafV s = (6, 0, ⟨#[]⟩))) := by
        simp only [Hid, leafB, leafV, HH.out, c1, digs_head s h0 (by simp [digB, c1]) 13, lows_head s h0 (by simp [lowB, c1])]
        cases h : (s.toList == [95]) <;> simp
      go_enter Tryd.func39, Tryd.ntmps39
      go_wp2_with fail
      exact bodyPost_ret (v := .tuple #[agg4 6 0 ⟨#[]⟩, .bool (s.toList == [95])]) (by simp [results, Tryd.results39, go_sem, agg4]) rfl ⟨⟨6, 0, ⟨#[]⟩, _, rfl, HL.out.1.symm, fun h => (HL.out.2 h).symm, Nat.zero_le _, i64_small (by omega) (by omega), i64_small (by omega) (by omega)⟩, by go_grown⟩
    · have d1 := byte_ne (k := 95) (d := 95) rfl c1
      by_cases c2 : s[0] = 35
      · have HL : Hid (leafB s = isNum (tail1 s) 2 ∧ leafV s = (3, numV (tail1 s).data.toList, ⟨#[]⟩)) := by
          simp [Hid, leafB, leafV, HH.out, c2]
        go_enter Tryd.func39, Tryd.ntmps39
        go_wp2_with (go_at_call 61; refine (numbered_any 3 (tail1 s) _ (by omega)).mono ?_; rintro e w' ⟨⟨v, b, rfl, HV⟩, hb⟩; obtain ⟨⟨x0, x1, x2, x3⟩, f0, f1, f2, f3⟩ := box_of hb; have HB := hide (grown4 hb); clear hb)
        exact bodyPost_ret (v := .tuple #[agg4 3 v ⟨#[]⟩, .bool b]) (by simp [results, Tryd.results39, go_sem, agg4, x0, x1, x2, x3]) rfl ⟨⟨3, v, ⟨#[]⟩, _, rfl, by rw [HL.out.1, HV.out.1], fun h => by rw [HL.out.2, HV.out.2.2.2 h], Nat.zero_le _, i64_small (by omega) (by omega), i64_small (by have := HV.out.2.1; omega) (by have := HV.out.2.2.1; omega)⟩, HB.out _ _ _ _⟩
      · have d2 := byte_ne (k := 35) (d := 35) rfl c2
        by_cases c3 : s[0] = 36
        · have HL : Hid (leafB s = isNum (tail1 s) 2 ∧ leafV s = (5, numV (tail1 s).data.toList, ⟨#[]⟩)) := by
            simp [Hid, leafB, leafV, HH.out, c3]
          go_enter Tryd.func39, Tryd.ntmps39
          go_wp2_with (go_at_call 61; refine (numbered_any 5 (tail1 s) _ (by omega)).mono ?_; rintro e w' ⟨⟨v, b, rfl, HV⟩, hb⟩; obtain ⟨⟨x0, x1, x2, x3⟩, f0, f1, f2, f3⟩ := box_of hb; have HB := hide (grown4 hb); clear hb)
          exact bodyPost_ret (v := .tuple #[agg4 5 v ⟨#[]⟩, .bool b]) (by simp [results, Tryd.results39, go_sem, agg4, x0, x1, x2, x3]) rfl ⟨⟨5, v, ⟨#[]⟩, _, rfl, by rw [HL.out.1, HV.out.1], fun h => by rw [HL.out.2, HV.out.2.2.2 h], Nat.zero_le _, i64_small (by omega) (by omega), i64_small (by have := HV.out.2.1; omega) (by have := HV.out.2.2.1; omega)⟩, HB.out _ _ _ _⟩
        · have d3 := byte_ne (k := 36) (d := 36) rfl c3
          by_cases c4 : s[0] = 45
          · have HL : Hid (leafB s = (isNum (tail1 s) 13 && !(numV (tail1 s).data.toList == 0)) ∧ leafV s = (1, - numV (tail1 s).data.toList, ⟨#[]⟩)) := by
              simp [Hid, leafB, leafV, HH.out, c4]
            go_enter Tryd.func39, Tryd.ntmps39
            go_wp2_with (go_at_call 62; refine (number_any (tail1 s) 13 _ (by omega) (by omega)).mono ?_; rintro e w' ⟨⟨v, b, rfl, HV⟩, rfl⟩; obtain ⟨v1, v2⟩ := (⟨HV.out.2.1, HV.out.2.2.1⟩ : 0 ≤ v ∧ v < 100000000000000); cases b)
            · exact bodyPost_ret (v := .tuple #[agg4 1 (-v) ⟨#[]⟩, .bool false]) (by simp [results, Tryd.results39, go_sem, agg4]) rfl ⟨⟨1, -v, ⟨#[]⟩, _, rfl, by rw [HL.out.1, ← HV.out.1]; rfl, by simp, Nat.zero_le _, i64_small (by omega) (by omega), i64_small (by omega) (by omega)⟩, by go_grown⟩
            · exact bodyPost_ret (v := .tuple #[agg4 1 (-v) ⟨#[]⟩, .bool (v != 0)]) (by simp [results, Tryd.results39, go_sem, agg4]) rfl ⟨⟨1, -v, ⟨#[]⟩, _, rfl, by rw [HL.out.1, ← HV.out.1, ← HV.out.2.2.2 (by trivial)]; simp [bne], fun _ => by rw [HL.out.2, HV.out.2.2.2 (by trivial)], Nat.zero_le _, i64_small (by omega) (by omega), i64_small (by omega) (by omega)⟩, by go_grown⟩
          · have d4 := byte_ne (k := 45) (d := 45) rfl c4
            have HL : Hid (leafB s = (isNum s 13 || lowsB s.data.toList) ∧ (leafV s = if isNum s 13 = true then (1, numV s.data.toList, ⟨#[]⟩) else (2, 0, s))) := by
              simp only [Hid, leafB, leafV, HH.out, bar_of s h0 c1]
              simp [c2, c3, c4]
              cases isNum s 13 <;> simp [h0]
            go_enter Tryd.func39, Tryd.ntmps39
            go_wp2_with (first
              | (go_at_call 62; refine (number_any s 13 _ (by omega) (by omega)).mono ?_; rintro e w' ⟨⟨v, b, rfl, HV⟩, rfl⟩; obtain ⟨v1, v2⟩ := (⟨HV.out.2.1, HV.out.2.2.1⟩ : 0 ≤ v ∧ v < 100000000000000); cases b)
              | (go_at_call 47; refine (clone_any s _ hs).mono ?_; rintro e w2 ⟨rfl, hb⟩; obtain ⟨⟨x0, x1, x2, x3⟩, f0, f1, f2, f3⟩ := box_of hb; have HB := hide (grown4 hb); clear hb)
              | (go_at_call 63; refine (letters_any s _ (by omega)).mono ?_; rintro e w3 ⟨rfl, rfl⟩))
            · exact bodyPost_ret (v := .tuple #[agg4 2 0 s, .bool (lowsB s.data.toList)]) (by simp [results, Tryd.results39, go_sem, agg4, x0, x1, x2, x3]) rfl ⟨⟨2, 0, s, _, rfl, by rw [HL.out.1, ← HV.out.1]; rfl, fun _ => by rw [HL.out.2, ← HV.out.1]; rfl, Nat.le_refl _, i64_small (by omega) (by omega), i64_small (by omega) (by omega)⟩, HB.out _ _ _ _⟩
            · exact bodyPost_ret (v := .tuple #[agg4 1 v ⟨#[]⟩, .bool true]) (by simp [results, Tryd.results39, go_sem, agg4]) rfl ⟨⟨1, v, ⟨#[]⟩, _, rfl, by rw [HL.out.1, ← HV.out.1]; rfl, fun _ => by rw [HL.out.2, ← HV.out.1, HV.out.2.2.2 (by trivial)]; rfl, Nat.zero_le _, i64_small (by omega) (by omega), i64_small (by omega) (by omega)⟩, by go_grown⟩
  · have hE := size_nil h0
    have hN : (s.toList = []) = True := by simpa using hE
    have HL : Hid (leafB s = false) := by
      have hz : s.size = 0 := by omega
      have hl : s.data.toList = [] := by rw [← ByteArray.toList_eq]; simpa using hE
      simp [Hid, leafB, ByteArray.toList_eq, isNum, hl, hz]
    go_enter Tryd.func39, Tryd.ntmps39
    go_wp2_with fail
    exact bodyPost_ret (v := .tuple #[agg4 0 0 ⟨#[]⟩, .bool false]) (by simp [results, Tryd.results39, go_sem, agg4]) rfl ⟨⟨0, 0, ⟨#[]⟩, _, rfl, HL.out.symm, by simp, Nat.zero_le _, i64_small (by omega) (by omega), i64_small (by omega) (by omega)⟩, by go_grown⟩
end Go.Proofs.YtpehdgbdinjbaabDoor
namespace Go.Proofs.YtpehdgbdinjbaabDoor
open Go.RowKit

def blB (c : UInt8) : Bool := c == 32
def enB (c : UInt8) : Bool := c == 32 || c == 40 || c == 41
/-- The first place from i on whose sign is none of these; or the end. -/
def skipTo (p : UInt8 → Bool) (s : ByteArray) (i : Nat) : Nat := i + ((s.data.toList.drop i).takeWhile p).length

theorem drop_at (s : ByteArray) (k : Nat) (h : k < s.size) : s.data.toList.drop k = s[k] :: s.data.toList.drop (k + 1) := by
  rw [List.drop_eq_getElem_cons (by simpa using h)]; rfl
theorem skip_step {p : UInt8 → Bool} {s : ByteArray} {k : Nat} (h : k < s.size) (hp : p s[k] = true) : skipTo p s (k + 1) = skipTo p s k := by
  unfold skipTo
  rw [drop_at s k h, List.takeWhile_cons, if_pos hp, List.length_cons]
  omega
theorem skip_stop {p : UInt8 → Bool} {s : ByteArray} {k : Nat} (h : k < s.size) (hp : p s[k] = false) : skipTo p s k = k := by
  unfold skipTo
  rw [drop_at s k h, List.takeWhile_cons, if_neg (by simp [hp])]
  rfl
theorem skip_end {p : UInt8 → Bool} {s : ByteArray} {k : Nat} (h : ¬ k < s.size) : skipTo p s k = k := by
  unfold skipTo
  rw [List.drop_of_length_le (by simp; omega)]
  rfl
theorem skip_ge (p : UInt8 → Bool) (s : ByteArray) (k : Nat) : k ≤ skipTo p s k := Nat.le_add_right _ _
theorem skip_le (p : UInt8 → Bool) (s : ByteArray) (k : Nat) (h : k ≤ s.size) : skipTo p s k ≤ s.size := by
  unfold skipTo
  have h1 := (List.takeWhile_sublist (l := s.data.toList.drop k) p).length_le
  have h2 : (s.data.toList.drop k).length = s.size - k := by simp
  omega

/-- Where the word behind place i begins, and where it ends. -/
def wordB (s : ByteArray) (i : Nat) : Nat := skipTo blB s i
def wordE (s : ByteArray) (i : Nat) : Nat := if skipTo (fun c => !enB c) s (wordB s i) = wordB s i ∧ wordB s i < s.size then wordB s i + 1 else skipTo (fun c => !enB c) s (wordB s i)
theorem wordB_ge (s : ByteArray) (i : Nat) : i ≤ wordB s i := skip_ge _ _ _
theorem wordB_le (s : ByteArray) (i : Nat) (h : i ≤ s.size) : wordB s i ≤ s.size := skip_le _ _ _ h
theorem wordE_ge (s : ByteArray) (i : Nat) : wordB s i ≤ wordE s i := by
  unfold wordE
  have := skip_ge (fun c => !enB c) s (wordB s i)
  split <;> omega
theorem wordE_le (s : ByteArray) (i : Nat) (h : i ≤ s.size) : wordE s i ≤ s.size := by
  unfold wordE
  have := skip_le (fun c => !enB c) s (wordB s i) (wordB_le s i h)
  split <;> omega
/-- It is a word of no signs just at the end. -/
theorem wordE_gt (s : ByteArray) (i : Nat) (h : wordB s i < s.size) : wordB s i < wordE s i := by
  unfold wordE
  have := skip_ge (fun c => !enB c) s (wordB s i)
  split <;> omega
theorem wordE_end (s : ByteArray) (i : Nat) (hi : i ≤ s.size) (h : ¬ wordB s i < s.size) : wordB s i = s.size ∧ wordE s i = s.size := by
  have h1 := wordB_le s i hi
  have h2 := wordE_le s i hi
  have h3 := wordE_ge s i
  omega
end Go.Proofs.YtpehdgbdinjbaabDoor
namespace Go.Proofs.YtpehdgbdinjbaabDoor
open Go.RowKit

def sameL {α β : Type} (f : α → β → Bool) : List α → List β → Bool
  | [], [] => true
  | a :: p, b :: q => f a b && sameL f p q
  | _, _ => false
def same : (n : Nat) → Tm n → (m : Nat) → Tm m → Bool
  | n + 1, x, m + 1, y => x.1.1 == y.1.1 && x.1.2.1 == y.1.2.1 && x.1.2.2.toList == y.1.2.2.toList && sameL (fun a b => same n a m b) x.2.2 y.2.2
  | _, _, _, _ => false

theorem ret_same {a b : Bool} (h : a = b) : Ending.returned (.bool a) = .returned (.bool b) := by rw [h]
theorem sameL_drop {α β : Type} (f : α → β → Bool) (p : List α) (q : List β) (k : Nat) (a : α) (b : β) (ha : p[k]? = some a) (hb : q[k]? = some b) :
    sameL f (p.drop k) (q.drop k) = (f a b && sameL f (p.drop (k + 1)) (q.drop (k + 1))) := by
  obtain ⟨h1, e1⟩ := List.getElem?_eq_some_iff.1 ha
  obtain ⟨h2, e2⟩ := List.getElem?_eq_some_iff.1 hb
  rw [List.drop_eq_getElem_cons h1, List.drop_eq_getElem_cons h2, e1, e2]
  rfl
theorem sameL_ne {α β : Type} (f : α → β → Bool) : (p : List α) → (q : List β) → ¬ p.length = q.length → sameL f p q = false
  | [], [], h => by simp at h
  | [], _ :: _, _ => rfl
  | _ :: _, [], _ => rfl
  | a :: p, b :: q, h => by
    simp only [sameL]
    rw [sameL_ne f p q (by simpa using h)]
    simp

def FSame (n : Nat) : Prop := ∀ (x : Tm n) (m : Nat) (y : Tm m) (B : Nat) (w : World), In B w n x → In B w m y → B ≤ w.heap.size →
  Calls Tryd.prog 8 #[val n x, val m y] w fun e w' => e = .returned (.bool (same n x m y)) ∧ Below w.heap.size w w'

theorem equal_ne (p q : Nat) (a c : Option Addr) (pc qc : Nat) (w : World) (_hpc : p ≤ 9223372036854775807) (_hqc : q ≤ 9223372036854775807) (hl : ((p : Int) == (q : Int)) = false) :
    Calls Tryd.prog 40 #[.slice a p pc, .slice c q qc, .func (Fn.func 8) #[] #[]] w fun e w' => e = .returned (.bool false) ∧ w' = w := by
  have hl' : ((p : Int) != (q : Int)) = true := by simpa using hl
  go_enter Tryd.func40, Tryd.ntmps40
  go_wp2_with fail
  go_ret
  exact ⟨rfl, rfl⟩

theorem equal_nil (a c : Option Addr) (pc qc : Nat) (w : World) :
    Calls Tryd.prog 40 #[.slice a 0 pc, .slice c 0 qc, .func (Fn.func 8) #[] #[]] w fun e w' => e = .returned (.bool true) ∧ w' = w := by
  go_enter Tryd.func40, Tryd.ntmps40
  go_wp2_with fail
  go_loop [17] (fun i => i = .int .i64 0) (fun _ => 0)
  case atStart => rfl
  case round =>
    obtain rfl := hrel
    go_wp2_with fail
    go_ret
    exact ⟨rfl, rfl⟩

set_option maxHeartbeats 400000 in
theorem equal_eq (n m : Nat) (ih : FSame n) (p : List (Tm n)) (q : List (Tm m)) (len : Nat) (hpl : Hid (p.length = len)) (hql : Hid (q.length = len)) (pb po qb qo pc qc : Nat) (B : Nat) (w : World)
    (hlen : len ≤ 9223372036854775807) (hpb : pb < B) (hqb : qb < B)
    (hp : ∀ (i : Nat) (y : Tm n), p[i]? = some y → Held w pb (po + i * 4) n y ∧ In B w n y)
    (hq : ∀ (i : Nat) (y : Tm m), q[i]? = some y → Held w qb (qo + i * 4) m y ∧ In B w m y)
    (hB : B ≤ w.heap.size) :
    Calls Tryd.prog 40 #[.slice (some ⟨pb, po, none⟩) len pc, .slice (some ⟨qb, qo, none⟩) len qc, .func (Fn.func 8) #[] #[]] w fun e w' =>
      e = .returned (.bool (sameL (fun a b => same n a m b) p q)) ∧ Below w.heap.size w w' := by
  go_enter Tryd.func40, Tryd.ntmps40
  go_wp2_with fail
  go_loopw [17] (fun i wr => ∃ k : Nat, k ≤ len ∧ i = .int .i64 k ∧ Below w.heap.size w wr ∧ Hid (sameL (fun a b => same n a m b) (p.drop k) (q.drop k) = sameL (fun a b => same n a m b) p q)) (fun i _ => len - (intOf i).toNat)
  case atStart => exact ⟨0, by omega, rfl, Below.refl _ _, rfl⟩
  case round =>
    obtain ⟨k, hk, rfl, hb, hd⟩ := hrel
    by_cases hlt : k < len
    · obtain ⟨x, hx⟩ : ∃ x, p[k]? = some x := ⟨p[k]'(by rw [hpl.out]; exact hlt), List.getElem?_eq_getElem _⟩
      obtain ⟨y, hy⟩ : ∃ y, q[k]? = some y := ⟨q[k]'(by rw [hql.out]; exact hlt), List.getElem?_eq_getElem _⟩
      obtain ⟨hx1, hx2⟩ := hp k x hx
      obtain ⟨hy1, hy2⟩ := hq k y hy
      have HS := hide (sameL_drop (fun a b => same n a m b) p q k x y hx hy)
      replace hx1 := hx1.below (hb.mono hB) hpb
      replace hy1 := hy1.below (hb.mono hB) hqb
      replace hx2 := hx2.below (hb.mono hB)
      replace hy2 := hy2.below (hb.mono hB)
      clear hp hq hx hy
      cases n with
      | zero => exact hx1.elim
      | succ n =>
      cases m with
      | zero => exact hy1.elim
      | succ m =>
      obtain ⟨x0, x1, x2, x3⟩ := hx1
      obtain ⟨y0, y1, y2, y3⟩ := hy1
      have hB' : B ≤ wr.heap.size := Nat.le_trans hB hb.size
      have HC : Hid (∀ (w1 : World), Below wr.heap.size wr w1 → Calls Tryd.prog 8 #[.agg #[.int .i64 x.1.1, .int .i64 x.1.2.1, .string x.1.2.2, .slice x.2.1.1 x.2.2.length x.2.1.2], .agg #[.int .i64 y.1.1, .int .i64 y.1.2.1, .string y.1.2.2, .slice y.2.1.1 y.2.2.length y.2.1.2]] w1 fun e w' => e = .returned (.bool (same (n + 1) x (m + 1) y)) ∧ Below w1.heap.size w1 w') :=
        fun w1 h1 => ih x (m + 1) y B w1 (hx2.below (h1.mono hB')) (hy2.below (h1.mono hB')) (Nat.le_trans hB' h1.size)
      clear ih hx2 hy2
      replace HS : Hid (sameL (fun a b => same (n + 1) a (m + 1) b) (p.drop k) (q.drop k) = (same (n + 1) x (m + 1) y && sameL (fun a b => same (n + 1) a (m + 1) b) (p.drop (k + 1)) (q.drop (k + 1)))) := HS
      generalize same (n + 1) x (m + 1) y = r at *
      generalize x.2.2.length = xl at *
      generalize y.2.2.length = yl at *
      have hk1 : (0 : Int) ≤ (k : Int) := by omega
      have hk2 : (k : Int) < (len : Int) := by omega
      have hpw : pb < wr.heap.size := by omega
      have hqw : qb < wr.heap.size := by omega
      go_wp2_with fail
      refine (HC.out _ (((Below.refl _ _).alloc (Nat.le_refl _) _).alloc (by simp) _)).mono ?_
      rintro e w1 ⟨rfl, hb1⟩
      have hb2 : Below w.heap.size w w1 := (hb.trans ((((Below.refl _ _).alloc (Nat.le_refl _) _).alloc (by simp) _).mono hb.size)).trans (hb1.mono (by have := hb.size; simp; omega))
      clear hb1
      cases r with
      | true =>
        go_wp2_with fail
        go_roundw
        case rel => exact ⟨k + 1, by omega, by go_num, hb2, by rw [← hd.out, HS.out]; rfl⟩
        case measure => simp [intOf]; omega
      | false =>
        go_wp2_with fail
        go_ret
        exact ⟨ret_same (by rw [← hd.out, HS.out]; rfl), hb2⟩
    · go_wp2_with fail
      go_ret
      refine ⟨ret_same ?_, hb⟩
      rw [← hd.out, List.drop_eq_nil_of_le (by rw [hpl.out]; omega), List.drop_eq_nil_of_le (by rw [hql.out]; omega)]
      rfl

theorem sameTerms_any (n m : Nat) (ih : FSame n) (p : List (Tm n)) (q : List (Tm m)) (a c : Option Addr) (pc qc : Nat) (B : Nat) (w : World)
    (hp : p = [] ∨ ∃ b o, a = some ⟨b, o, none⟩ ∧ b < B ∧ ∀ (i : Nat) (y : Tm n), p[i]? = some y → Held w b (o + i * 4) n y ∧ In B w n y)
    (hq : q = [] ∨ ∃ b o, c = some ⟨b, o, none⟩ ∧ b < B ∧ ∀ (i : Nat) (y : Tm m), q[i]? = some y → Held w b (o + i * 4) m y ∧ In B w m y)
    (hpl : p.length ≤ 9223372036854775807) (hql : q.length ≤ 9223372036854775807) (hB : B ≤ w.heap.size) :
    Calls Tryd.prog 22 #[.slice a p.length pc, .slice c q.length qc] w fun e w' => e = .returned (.bool (sameL (fun a b => same n a m b) p q)) ∧ Below w.heap.size w w' := by
  have HE : Hid (Calls Tryd.prog 40 #[.slice a p.length pc, .slice c q.length qc, .func (Fn.func 8) #[] #[]] w fun e w' =>
      e = .returned (.bool (sameL (fun a b => same n a m b) p q)) ∧ Below w.heap.size w w') := by
    by_cases hl : p.length = q.length
    · rcases hp with hp | ⟨pb, po, rfl, hpb, hp⟩
      · subst hp
        have hq0 : q = [] := List.eq_nil_of_length_eq_zero hl.symm
        subst hq0
        refine (equal_nil a c pc qc w).mono ?_
        rintro e w' ⟨rfl, rfl⟩
        exact ⟨rfl, Below.refl _ _⟩
      · rcases hq with hq | ⟨qb, qo, rfl, hqb, hq⟩
        · subst hq
          have hp0 : p = [] := List.eq_nil_of_length_eq_zero hl
          subst hp0
          refine (equal_nil _ c pc qc w).mono ?_
          rintro e w' ⟨rfl, rfl⟩
          exact ⟨rfl, Below.refl _ _⟩
        · have h := equal_eq n m ih p q p.length rfl hl.symm pb po qb qo pc qc B w (by omega) hpb hqb hp hq hB
          rw [hl] at h
          rw [hl]
          exact h
    · rw [sameL_ne _ _ _ hl]
      refine (equal_ne p.length q.length a c pc qc w hpl hql (by simp; omega)).mono ?_
      rintro e w' ⟨rfl, rfl⟩
      exact ⟨rfl, Below.refl _ _⟩
  clear hp hq ih hpl hql hB
  generalize p.length = pl at *
  generalize q.length = ql at *
  generalize sameL (fun a b => same n a m b) p q = r at *
  go_enter Tryd.func22, Tryd.ntmps22
  go_wp2_with fail
  refine HE.out.mono ?_
  rintro e w1 ⟨rfl, hb1⟩
  go_wp2_with fail
  go_ret
  exact ⟨rfl, hb1⟩

set_option maxHeartbeats 400000 in
theorem same_walk (w : World) (k k' u u' : Int) (s s' : ByteArray) (a a' : Option Addr) (l l' c c' : Nat) (r : Bool)
    (H : Hid (∀ w1 : World, Below w.heap.size w w1 → Calls Tryd.prog 22 #[.slice a l c, .slice a' l' c'] w1 fun e w' => e = .returned (.bool r) ∧ Below w1.heap.size w1 w')) :
    Calls Tryd.prog 8 #[.agg #[.int .i64 k, .int .i64 u, .string s, .slice a l c], .agg #[.int .i64 k', .int .i64 u', .string s', .slice a' l' c']] w fun e w' => e = .returned (.bool (k == k' && u == u' && s.toList == s'.toList && r)) ∧ Below w.heap.size w w' := by
  cases h1 : k == k'
  · go_enter Tryd.func8, Tryd.ntmps8
    go_wp2_with fail
    go_ret
    exact ⟨rfl, ((Below.refl _ _).alloc (Nat.le_refl _) _).alloc (by simp) _⟩
  cases h2 : u == u'
  · go_enter Tryd.func8, Tryd.ntmps8
    go_wp2_with fail
    go_ret
    exact ⟨rfl, ((Below.refl _ _).alloc (Nat.le_refl _) _).alloc (by simp) _⟩
  cases h3 : s.toList == s'.toList
  · go_enter Tryd.func8, Tryd.ntmps8
    go_wp2_with fail
    go_ret
    exact ⟨rfl, ((Below.refl _ _).alloc (Nat.le_refl _) _).alloc (by simp) _⟩
  go_enter Tryd.func8, Tryd.ntmps8
  go_wp2_with fail
  refine (H.out _ (((Below.refl _ _).alloc (Nat.le_refl _) _).alloc (by simp) _)).mono ?_
  rintro e w1 ⟨rfl, hb1⟩
  go_wp2_with fail
  all_goals go_ret
  all_goals exact ⟨rfl, (((Below.refl _ _).alloc (Nat.le_refl _) _).alloc (by simp) _).trans (hb1.mono (by simp; omega))⟩

theorem same_any (n : Nat) : FSame n := by
  induction n with
  | zero => intro x m y B w hx; exact hx.elim
  | succ n ih =>
    intro x m y B w hx hy hB
    cases m with
    | zero => exact hy.elim
    | succ m =>
    obtain ⟨⟨k, u, s⟩, ⟨a, pc⟩, p⟩ := x
    obtain ⟨⟨k', u', s'⟩, ⟨a', qc⟩, q⟩ := y
    obtain ⟨⟨_, _, _, hpl, hpc⟩, hp⟩ := hx
    obtain ⟨⟨_, _, _, hql, hqc⟩, hq⟩ := hy
    simp only at hpl hpc hp hql hqc hq
    unfold maxLen at hpc hqc
    refine same_walk w k k' u u' s s' a a' p.length q.length pc qc _ (fun w1 hw => sameTerms_any n m ih p q a a' pc qc B w1 ?_ ?_ (by omega) (by omega) (Nat.le_trans hB hw.size))
    · rcases hp with hp | ⟨b, o, e, hb, hp⟩
      · exact Or.inl hp
      · exact Or.inr ⟨b, o, e, hb, fun i y hy => ⟨(hp i y hy).1.below (hw.mono hB) hb, (hp i y hy).2.below (hw.mono hB)⟩⟩
    · rcases hq with hq | ⟨b, o, e, hb, hq⟩
      · exact Or.inl hq
      · exact Or.inr ⟨b, o, e, hb, fun i y hy => ⟨(hq i y hy).1.below (hw.mono hB) hb, (hq i y hy).2.below (hw.mono hB)⟩⟩
end Go.Proofs.YtpehdgbdinjbaabDoor
namespace Go.Proofs.YtpehdgbdinjbaabDoor
open Go.RowKit

def dep : (n : Nat) → Tm n → Int
  | 0, _ => 0
  | n + 1, x => if x.1.1 = 4 then 1 + x.2.2.foldl (fun m y => max m (dep n y)) 0 else 0
def depTo (n : Nat) (p : List (Tm n)) (k : Nat) : Int := (p.take k).foldl (fun m y => max m (dep n y)) 0
theorem depTo_succ (n : Nat) (p : List (Tm n)) (k : Nat) (x : Tm n) (h : p[k]? = some x) : depTo n p (k + 1) = max (depTo n p k) (dep n x) := by
  obtain ⟨h1, e1⟩ := List.getElem?_eq_some_iff.1 h
  unfold depTo
  rw [List.take_succ_eq_append_getElem h1, e1, List.foldl_append]
  rfl
theorem fold_bound {n : Nat} (N : Int) : (l : List (Tm n)) → (m : Int) → 0 ≤ m → m ≤ N → (∀ y ∈ l, 0 ≤ dep n y ∧ dep n y ≤ N) → 0 ≤ l.foldl (fun m y => max m (dep n y)) m ∧ l.foldl (fun m y => max m (dep n y)) m ≤ N
  | [], _, h0, h1, _ => ⟨h0, h1⟩
  | y :: l, m, h0, h1, h => by
    have hy := h y (by simp)
    exact fold_bound N l (max m (dep n y)) (by omega) (by omega) (fun z hz => h z (by simp [hz]))
theorem mem_nodes_le {n : Nat} (l : List (Tm n)) (y : Tm n) (h : y ∈ l) : (nodes n y).length ≤ (l.flatMap fun y => nodes n y).length := by
  obtain ⟨i, hi⟩ := List.getElem?_of_mem h
  have e4 := take_le (fun y => nodes n y) l (i + 1)
  rw [take_flat _ l i y hi, List.length_append] at e4
  omega
theorem dep_bound : (n : Nat) → (x : Tm n) → 0 ≤ dep n x ∧ dep n x ≤ (nodes n x).length
  | 0, _ => by simp [dep]
  | n + 1, x => by
    have hb := fold_bound ((x.2.2.flatMap fun y => nodes n y).length : Int) x.2.2 0 (by omega) (by omega) (fun y hy => by
      have h1 := dep_bound n y
      have h2 := mem_nodes_le x.2.2 y hy
      omega)
    simp only [dep, nodes, List.length_cons]
    by_cases h4 : x.1.1 = 4
    · rw [if_pos h4]; omega
    · rw [if_neg h4]; omega
theorem depTo_bound (n : Nat) (p : List (Tm n)) (k : Nat) : 0 ≤ depTo n p k ∧ depTo n p k ≤ (p.flatMap fun y => nodes n y).length :=
  fold_bound _ (p.take k) 0 (by omega) (by omega) (fun y hy => by
    have h1 := dep_bound n y
    have h2 := mem_nodes_le p y (List.mem_of_mem_take hy)
    omega)

def FDep (n : Nat) : Prop := ∀ (x : Tm n) (B : Nat) (w : World), In B w n x → B ≤ w.heap.size → (nodes n x).length ≤ 2097152 →
  Calls Tryd.prog 32 #[val n x] w fun e w' => e = .returned (.int .i64 (dep n x)) ∧ Below w.heap.size w w'

theorem depth_else (k0 u0 : Int) (s : ByteArray) (a : Option Addr) (len pc : Nat) (w : World) (h : ¬ k0 = 4) :
    Calls Tryd.prog 32 #[.agg #[.int .i64 k0, .int .i64 u0, .string s, .slice a len pc]] w fun e w' => e = .returned (.int .i64 0) ∧ Below w.heap.size w w' := by
  have h4 : (k0 != 4) = true := by simpa using h
  clear h
  go_enter Tryd.func32, Tryd.ntmps32
  go_wp2_with fail
  go_ret
  exact ⟨rfl, (Below.refl _ _).alloc (Nat.le_refl _) _⟩

set_option maxHeartbeats 400000 in
theorem depth_tup (n : Nat) (ih : FDep n) (u0 : Int) (s : ByteArray) (a : Option Addr) (pc len : Nat) (p : List (Tm n)) (hpl : Hid (p.length = len)) (B : Nat) (w : World)
    (hp : Hid (p = [] ∨ ∃ b o, a = some ⟨b, o, none⟩ ∧ b < B ∧ ∀ (i : Nat) (y : Tm n), p[i]? = some y → Held w b (o + i * 4) n y ∧ In B w n y))
    (hlen : len ≤ 9223372036854775807) (hB : B ≤ w.heap.size) (hsum : Hid (1 + (p.flatMap fun y => nodes n y).length ≤ 2097152)) :
    Calls Tryd.prog 32 #[.agg #[.int .i64 4, .int .i64 u0, .string s, .slice a len pc]] w fun e w' =>
      e = .returned (.int .i64 (1 + p.foldl (fun m y => max m (dep n y)) 0)) ∧ Below w.heap.size w w' := by
  go_enter Tryd.func32, Tryd.ntmps32
  go_wp2_with fail
  go_loopw [3, 12] (fun t i wr => ∃ k : Nat, ∃ r : Int, k ≤ len ∧ i = .int .i64 k ∧ t = .int .i64 r ∧ Hid (r = depTo n p k) ∧ Below w.heap.size w wr) (fun _ i _ => len - (intOf i).toNat)
  case atStart => exact ⟨0, 0, by omega, rfl, rfl, by simp [Hid, depTo], (Below.refl _ _).alloc (Nat.le_refl _) _⟩
  case round =>
    obtain ⟨k, r, hk, rfl, rfl, hr, hb⟩ := hrel
    have e1 := depTo_bound n p k
    rw [← hr.out] at e1
    have e5 := hsum.out
    have r1 : 0 ≤ r := e1.1
    have r2 : r ≤ 2097152 := by omega
    clear e1
    by_cases hlt : k < len
    · obtain ⟨x, hx⟩ : ∃ x, p[k]? = some x := ⟨p[k]'(by rw [hpl.out]; exact hlt), List.getElem?_eq_getElem _⟩
      have HS := hide (depTo_succ n p k x hx)
      have e3 := mem_nodes_le p x (List.mem_of_getElem? hx)
      have hx9 : (nodes n x).length ≤ 2097152 := by omega
      clear e3 e5
      rcases hp.out with hp | ⟨pb, po, rfl, hpb, hp⟩
      · subst hp; simp at hx
      obtain ⟨hx1, hx2⟩ := hp k x hx
      replace hx1 := hx1.below (hb.mono hB) hpb
      replace hx2 := hx2.below (hb.mono hB)
      clear hp hx
      cases n with
      | zero => exact hx1.elim
      | succ n =>
      obtain ⟨x0, x1, x2, x3⟩ := hx1
      have hB' : B ≤ wr.heap.size := Nat.le_trans hB hb.size
      have HC : Hid (∀ w1, Below wr.heap.size wr w1 → Calls Tryd.prog 32 #[.agg #[.int .i64 x.1.1, .int .i64 x.1.2.1, .string x.1.2.2, .slice x.2.1.1 x.2.2.length x.2.1.2]] w1 fun e w' => e = .returned (.int .i64 (dep (n + 1) x)) ∧ Below w1.heap.size w1 w') :=
        fun w1 h1 => ih x B w1 (hx2.below (h1.mono hB')) (Nat.le_trans hB' h1.size) hx9
      clear ih hx2 hx9
      generalize x.2.2.length = xl at *
      generalize dep (n + 1) x = z at *
      have hk1 : (0 : Int) ≤ (k : Int) := by omega
      have hk2 : (k : Int) < (len : Int) := by omega
      go_wp2_with fail
      refine (HC.out _ ((Below.refl _ _).alloc (Nat.le_refl _) _)).mono ?_
      rintro e w1 ⟨rfl, hb1⟩
      have hb2 : Below w.heap.size w w1 := (hb.trans (((Below.refl _ _).alloc (Nat.le_refl _) _).mono hb.size)).trans (hb1.mono (by have := hb.size; simp; omega))
      clear hb1
      have hmx : max r z = if r < z then z else r := by split <;> omega
      have HMX := hide hmx
      clear hmx
      go_wp2_with fail
      go_roundw
      case rel => exact ⟨k + 1, _, by omega, by go_num, rfl, by simp only [Hid]; rw [HS.out, ← hr.out, HMX.out], hb2⟩
      case measure => simp [intOf]; omega
    · go_wp2_with fail
      go_ret
      refine ⟨ret_int ?_, hb⟩
      rw [hr.out]
      unfold depTo
      rw [List.take_of_length_le (by rw [hpl.out]; omega)]

theorem depth_any (n : Nat) : FDep n := by
  induction n with
  | zero => intro x B w hx; exact hx.elim
  | succ n ih =>
    intro x B w hx hB hsum
    obtain ⟨⟨k, u, s⟩, ⟨a, pc⟩, p⟩ := x
    obtain ⟨⟨_, _, _, hpl, hpc⟩, hp⟩ := hx
    simp only at hpl hpc hp
    unfold maxLen at hpc
    have hL : (nodes (n + 1) ((k, u, s), (a, pc), p)).length = 1 + (p.flatMap fun y => nodes n y).length := by simp only [nodes, List.length_cons]; omega
    rw [hL] at hsum
    show Calls Tryd.prog 32 #[.agg #[.int .i64 k, .int .i64 u, .string s, .slice a p.length pc]] w fun e w' => e = .returned (.int .i64 (if k = 4 then 1 + p.foldl (fun m y => max m (dep n y)) 0 else 0)) ∧ Below w.heap.size w w'
    by_cases h4 : k = 4
    · subst h4
      exact depth_tup n ih u s a pc p.length p rfl B w hp (by omega) hB hsum
    · rw [if_neg h4]
      exact depth_else k u s a p.length pc w h4

/-- So many words behind k of the parts, as term.Size counts them. -/
def tszTo (n : Nat) (p : List (Tm n)) (k : Nat) : Int := 1 + p.length + ((p.take k).map fun y => sz n y).sum
theorem tszTo_succ (n : Nat) (p : List (Tm n)) (k : Nat) (x : Tm n) (h : p[k]? = some x) : tszTo n p (k + 1) = tszTo n p k + sz n x := by
  obtain ⟨h1, e1⟩ := List.getElem?_eq_some_iff.1 h
  unfold tszTo
  rw [List.take_succ_eq_append_getElem h1, e1]
  simp
  omega
theorem sum_split (n : Nat) (l : List (Tm n)) : (l.map fun y => 1 + sz n y).sum = l.length + (l.map fun y => sz n y).sum := by
  induction l with
  | nil => simp
  | cons y l ih => simp only [List.map_cons, List.sum_cons, List.length_cons, ih]; omega
theorem tszTo_all (n : Nat) (p : List (Tm n)) (k : Nat) (h : p.length ≤ k) : tszTo n p k = 1 + (p.map fun y => 1 + sz n y).sum := by
  unfold tszTo
  rw [List.take_of_length_le h, sum_split]
  omega
theorem len_nodes (n : Nat) (p : List (Tm n)) : p.length ≤ (p.flatMap fun y => nodes n y).length := by
  induction p with
  | nil => simp
  | cons y l ih =>
    have : 1 ≤ (nodes n y).length := by cases n <;> simp [nodes]
    simp only [List.flatMap_cons, List.length_append, List.length_cons]
    omega
theorem tszTo_bound (n : Nat) (p : List (Tm n)) (k : Nat) : 0 ≤ tszTo n p k ∧ tszTo n p k ≤ 3 * (1 + (p.flatMap fun y => nodes n y).length : Int) := by
  have h0 := len_nodes n p
  have h := take_le (fun y => nodes n y) p k
  have key : ∀ l : List (Tm n), 0 ≤ (l.map fun y => sz n y).sum ∧ (l.map fun y => sz n y).sum ≤ 2 * ((l.flatMap fun y => nodes n y).length : Int) := by
    intro l
    induction l with
    | nil => exact ⟨by simp, by simp⟩
    | cons y l ih =>
      have hy := sz_bound n y
      simp only [List.map_cons, List.sum_cons, List.flatMap_cons, List.length_append]
      exact ⟨by omega, by omega⟩
  have k := key (p.take k)
  unfold tszTo
  exact ⟨by omega, by omega⟩

def FSz (n : Nat) : Prop := ∀ (x : Tm n) (B : Nat) (w : World), In B w n x → B ≤ w.heap.size → (nodes n x).length ≤ 2097152 →
  Calls Tryd.prog 15 #[val n x] w fun e w' => e = .returned (.int .i64 (sz n x)) ∧ Below w.heap.size w w'

theorem tsize_else (k0 u0 : Int) (s : ByteArray) (a : Option Addr) (len pc : Nat) (w : World) (h : ¬ k0 = 4) :
    Calls Tryd.prog 15 #[.agg #[.int .i64 k0, .int .i64 u0, .string s, .slice a len pc]] w fun e w' => e = .returned (.int .i64 0) ∧ Below w.heap.size w w' := by
  have h4 : (k0 != 4) = true := by simpa using h
  clear h
  go_enter Tryd.func15, Tryd.ntmps15
  go_wp2_with fail
  go_ret
  exact ⟨rfl, (Below.refl _ _).alloc (Nat.le_refl _) _⟩

set_option maxHeartbeats 400000 in
theorem tsize_tup (n : Nat) (ih : FSz n) (u0 : Int) (s : ByteArray) (a : Option Addr) (pc len : Nat) (p : List (Tm n)) (hpl : Hid (p.length = len)) (B : Nat) (w : World)
    (hp : Hid (p = [] ∨ ∃ b o, a = some ⟨b, o, none⟩ ∧ b < B ∧ ∀ (i : Nat) (y : Tm n), p[i]? = some y → Held w b (o + i * 4) n y ∧ In B w n y))
    (hB : B ≤ w.heap.size) (hsum : Hid (1 + (p.flatMap fun y => nodes n y).length ≤ 2097152)) :
    Calls Tryd.prog 15 #[.agg #[.int .i64 4, .int .i64 u0, .string s, .slice a len pc]] w fun e w' =>
      e = .returned (.int .i64 (1 + (p.map fun y => 1 + sz n y).sum)) ∧ Below w.heap.size w w' := by
  have hlen : len ≤ 2097152 := by have h1 := len_nodes n p; have h2 := hsum.out; rw [← hpl.out]; omega
  go_enter Tryd.func15, Tryd.ntmps15
  go_wp2_with fail
  go_loopw [3, 16] (fun t i wr => ∃ k : Nat, ∃ r : Int, k ≤ len ∧ i = .int .i64 k ∧ t = .int .i64 r ∧ Hid (r = tszTo n p k) ∧ Below w.heap.size w wr) (fun _ i _ => len - (intOf i).toNat)
  case atStart => exact ⟨0, 1 + len, by omega, rfl, rfl, by simp only [Hid, tszTo]; rw [hpl.out]; simp, (Below.refl _ _).alloc (Nat.le_refl _) _⟩
  case round =>
    obtain ⟨k, r, hk, rfl, rfl, hr, hb⟩ := hrel
    have e1 := tszTo_bound n p k
    rw [← hr.out] at e1
    have e5 := hsum.out
    have r1 : 0 ≤ r := e1.1
    have r2 : r ≤ 6291456 := by omega
    clear e1
    by_cases hlt : k < len
    · obtain ⟨x, hx⟩ : ∃ x, p[k]? = some x := ⟨p[k]'(by rw [hpl.out]; exact hlt), List.getElem?_eq_getElem _⟩
      have HS := hide (tszTo_succ n p k x hx)
      have e3 := mem_nodes_le p x (List.mem_of_getElem? hx)
      have hx9 : (nodes n x).length ≤ 2097152 := by omega
      have e2 := sz_bound n x
      have z1 : 0 ≤ sz n x := e2.1
      have z2 : sz n x ≤ 4194304 := by omega
      clear e3 e5 e2
      rcases hp.out with hp | ⟨pb, po, rfl, hpb, hp⟩
      · subst hp; simp at hx
      obtain ⟨hx1, hx2⟩ := hp k x hx
      replace hx1 := hx1.below (hb.mono hB) hpb
      replace hx2 := hx2.below (hb.mono hB)
      clear hp hx
      cases n with
      | zero => exact hx1.elim
      | succ n =>
      obtain ⟨x0, x1, x2, x3⟩ := hx1
      have hB' : B ≤ wr.heap.size := Nat.le_trans hB hb.size
      have HC : Hid (∀ w1, Below wr.heap.size wr w1 → Calls Tryd.prog 15 #[.agg #[.int .i64 x.1.1, .int .i64 x.1.2.1, .string x.1.2.2, .slice x.2.1.1 x.2.2.length x.2.1.2]] w1 fun e w' => e = .returned (.int .i64 (sz (n + 1) x)) ∧ Below w1.heap.size w1 w') :=
        fun w1 h1 => ih x B w1 (hx2.below (h1.mono hB')) (Nat.le_trans hB' h1.size) hx9
      clear ih hx2 hx9
      generalize x.2.2.length = xl at *
      generalize sz (n + 1) x = z at *
      have hk1 : (0 : Int) ≤ (k : Int) := by omega
      have hk2 : (k : Int) < (len : Int) := by omega
      go_wp2_with fail
      refine (HC.out _ ((Below.refl _ _).alloc (Nat.le_refl _) _)).mono ?_
      rintro e w1 ⟨rfl, hb1⟩
      have hb2 : Below w.heap.size w w1 := (hb.trans (((Below.refl _ _).alloc (Nat.le_refl _) _).mono hb.size)).trans (hb1.mono (by have := hb.size; simp; omega))
      clear hb1
      go_wp2_with fail
      go_roundw
      case rel => exact ⟨k + 1, r + z, by omega, by go_num, by go_num, by simp only [Hid]; rw [HS.out, ← hr.out], hb2⟩
      case measure => simp [intOf]; omega
    · go_wp2_with fail
      go_ret
      refine ⟨ret_int ?_, hb⟩
      rw [hr.out, tszTo_all n p k (by rw [hpl.out]; omega)]

theorem tsize_any (n : Nat) : FSz n := by
  induction n with
  | zero => intro x B w hx; exact hx.elim
  | succ n ih =>
    intro x B w hx hB hsum
    obtain ⟨⟨k, u, s⟩, ⟨a, pc⟩, p⟩ := x
    obtain ⟨⟨_, _, _, hpl, hpc⟩, hp⟩ := hx
    simp only at hpl hpc hp
    have hL : (nodes (n + 1) ((k, u, s), (a, pc), p)).length = 1 + (p.flatMap fun y => nodes n y).length := by simp only [nodes, List.length_cons]; omega
    rw [hL] at hsum
    show Calls Tryd.prog 15 #[.agg #[.int .i64 k, .int .i64 u, .string s, .slice a p.length pc]] w fun e w' => e = .returned (.int .i64 (if k = 4 then 1 + (p.map fun y => 1 + sz n y).sum else 0)) ∧ Below w.heap.size w w'
    by_cases h4 : k = 4
    · subst h4
      exact tsize_tup n ih u s a pc p.length p rfl B w hp hB hsum
    · rw [if_neg h4]
      exact tsize_else k u s a p.length pc w h4

set_option maxHeartbeats 400000 in
theorem tcheck_walk (w : World) (k u : Int) (s : ByteArray) (a : Option Addr) (l c : Nat) (fb : Bool) (d z : Int)
    (HF : Hid (∀ w1, Below w.heap.size w w1 → Calls Tryd.prog 31 #[.agg #[.int .i64 k, .int .i64 u, .string s, .slice a l c]] w1 fun e w' => e = .returned (.bool fb) ∧ Below w1.heap.size w1 w'))
    (HD : Hid (∀ w1, Below w.heap.size w w1 → Calls Tryd.prog 32 #[.agg #[.int .i64 k, .int .i64 u, .string s, .slice a l c]] w1 fun e w' => e = .returned (.int .i64 d) ∧ Below w1.heap.size w1 w'))
    (HZ : Hid (∀ w1, Below w.heap.size w w1 → Calls Tryd.prog 15 #[.agg #[.int .i64 k, .int .i64 u, .string s, .slice a l c]] w1 fun e w' => e = .returned (.int .i64 z) ∧ Below w1.heap.size w1 w')) :
    Calls Tryd.prog 16 #[.agg #[.int .i64 k, .int .i64 u, .string s, .slice a l c]] w fun e w' => e = .returned (.int .i64 (if fb then if 12 < d ∨ 200 < z then 2 else 0 else 5)) ∧ Below w.heap.size w w' := by
  generalize hr : (if fb then if 12 < d ∨ 200 < z then (2 : Int) else 0 else 5) = r
  have HR := hide hr
  clear hr
  go_enter Tryd.func16, Tryd.ntmps16
  go_wp2_with fail
  refine (HF.out _ ((Below.refl _ _).alloc (Nat.le_refl _) _)).mono ?_
  rintro e w1 ⟨rfl, hb1⟩
  have HB1 : Hid (Below w.heap.size w w1 ∧ w.heap.size + 1 ≤ w1.heap.size) := ⟨((Below.refl _ _).alloc (Nat.le_refl _) _).trans (hb1.mono (by simp)), by have := hb1.size; simpa using this⟩
  have hcc := below_cells hb1
  simp only [World.size_alloc] at hcc
  have a0 := (hcc w.heap.size 0 (by omega)).trans (by simp [go_sem] : _ = some (Value.int .i64 k))
  have a1 := (hcc w.heap.size 1 (by omega)).trans (by simp [go_sem] : _ = some (Value.int .i64 u))
  have a2 := (hcc w.heap.size 2 (by omega)).trans (by simp [go_sem] : _ = some (Value.string s))
  have a3 := (hcc w.heap.size 3 (by omega)).trans (by simp [go_sem] : _ = some (Value.slice a l c))
  clear hcc hb1
  cases fb with
  | false =>
    go_wp2_with fail
    go_ret
    exact ⟨ret_int (by rw [← HR.out]; rfl), HB1.out.1⟩
  | true =>
    go_wp2_with fail
    refine (HD.out _ HB1.out.1).mono ?_
    rintro e w2 ⟨rfl, hb2⟩
    have HB2 : Hid (Below w.heap.size w w2) := HB1.out.1.trans (hb2.mono HB1.out.1.size)
    have hcc := below_cells hb2
    have hz1 := HB1.out.2
    replace a0 := (hcc w.heap.size 0 (by omega)).trans a0
    replace a1 := (hcc w.heap.size 1 (by omega)).trans a1
    replace a2 := (hcc w.heap.size 2 (by omega)).trans a2
    replace a3 := (hcc w.heap.size 3 (by omega)).trans a3
    clear hcc hb2 hz1
    by_cases h12 : 12 < d
    · have H12 := hide h12
      go_wp2_with fail
      go_ret
      exact ⟨ret_int (by rw [← HR.out, if_pos trivial, if_pos (Or.inl H12.out)]), HB2.out⟩
    · have H12 := hide h12
      go_wp2_with fail
      refine (HZ.out _ HB2.out).mono ?_
      rintro e w3 ⟨rfl, hb3⟩
      have HB3 : Hid (Below w.heap.size w w3) := HB2.out.trans (hb3.mono HB2.out.size)
      clear hb3
      by_cases hz : 200 < z
      · have HZ2 := hide hz
        go_wp2_with fail
        go_ret
        exact ⟨ret_int (by rw [← HR.out, if_pos trivial, if_pos (Or.inr HZ2.out)]), HB3.out⟩
      · have HZ2 := hide hz
        go_wp2_with fail
        go_ret
        exact ⟨ret_int (by rw [← HR.out, if_pos trivial, if_neg (by have := H12.out; have := HZ2.out; omega)]), HB3.out⟩

def tchk (n : Nat) (x : Tm n) : Int := if formedB n x then if 12 < dep n x ∨ 200 < sz n x then 2 else 0 else 5
theorem tcheck_tchk (n : Nat) (x : Tm n) (B : Nat) (w : World) (hx : In B w n x) (hB : B ≤ w.heap.size) (hN : (nodes n x).length ≤ 2097152) :
    Calls Tryd.prog 16 #[val n x] w fun e w' => e = .returned (.int .i64 (tchk n x)) ∧ Below w.heap.size w w' := by
  cases n with
  | zero => exact hx.elim
  | succ n =>
  exact tcheck_walk w x.1.1 x.1.2.1 x.1.2.2 x.2.1.1 x.2.2.length x.2.1.2 (formedB (n + 1) x) (dep (n + 1) x) (sz (n + 1) x)
    (fun w1 hw => formed_any (n + 1) x B w1 (hx.below (hw.mono hB)) (Nat.le_trans hB hw.size))
    (fun w1 hw => depth_any (n + 1) x B w1 (hx.below (hw.mono hB)) (Nat.le_trans hB hw.size) hN)
    (fun w1 hw => tsize_any (n + 1) x B w1 (hx.below (hw.mono hB)) (Nat.le_trans hB hw.size) hN)

/-- That each term in it is right by itself: the one way and the other. -/
theorem formed_good : (n : Nat) → (x : Tm n) → formedB n x = (nodes n x).all good
  | 0, _ => by simp [formedB, nodes, good]
  | n + 1, x => by
    have e : (nodes (n + 1) x).all good = (good (hdOf n x) && (x.2.2.flatMap fun y => nodes n y).all good) := rfl
    rw [e]
    simp only [formedB]
    cases hg : good (hdOf n x)
    · rfl
    · rw [Bool.true_and, Bool.true_and]
      by_cases h4 : x.1.1 = 4
      · rw [h4]
        have key : ∀ l : List (Tm n), (l.all fun y => formedB n y) = (l.flatMap fun y => nodes n y).all good := by
          intro l
          induction l with
          | nil => rfl
          | cons y l ih => simp only [List.all_cons, List.flatMap_cons, List.all_append, ih, formed_good n y]
        rw [key]
        simp
      · have hl : x.2.2 = [] := by
          unfold good at hg
          simp only [Bool.and_eq_true, Bool.or_eq_true, beq_iff_eq] at hg
          rcases hg.2 with h | h
          · exact (h4 h).elim
          · have : ¬ (0 : Int) < (x.2.2.length : Int) := by simpa [hdOf] using h
            exact List.eq_nil_of_length_eq_zero (by omega)
        rw [hl]
        simp

/-- How deep it is, of what is still to be looked at. -/
def deepL : List Nd → List Int → Int → Int
  | x :: l, d :: ds, m => deepL l ds (deeper x d m)
  | _, _, m => m
theorem chkL_all (z : Int) : (l : List Nd) → (ds : List Int) → (m : Int) → l.length = ds.length → chkL z l ds m = if l.all good then (if 12 < deepL l ds m ∨ 200 < z then 2 else 0) else 5
  | [], _, _, _ => rfl
  | x :: l, [], _, h => by simp at h
  | x :: l, d :: ds, m, h => by
    have ih := chkL_all z l ds (deeper x d m) (by simpa using h)
    simp only [chkL, deepL]
    by_cases hg : good x = true
    · have e : (x :: l).all good = l.all good := by simp [hg]
      rw [if_pos hg, ih]
      by_cases ha : l.all good = true
      · rw [if_pos ha, if_pos (e.trans ha)]; rfl
      · rw [if_neg ha, if_neg (fun h => ha (e.symm.trans h))]
    · rw [if_neg hg, if_neg (fun h => hg (List.all_eq_true.1 h x (by simp)))]

theorem deepL_append : (l r : List Nd) → (ds es : List Int) → (m : Int) → l.length = ds.length → deepL (l ++ r) (ds ++ es) m = deepL r es (deepL l ds m)
  | [], _, [], _, _, _ => rfl
  | [], _, _ :: _, _, _, h => by simp at h
  | _ :: _, _, [], _, _, h => by simp at h
  | x :: l, r, d :: ds, es, m, h => by
    simp only [List.cons_append, deepL]
    exact deepL_append l r ds es _ (by simpa using h)
theorem fold_max {n : Nat} (c : Int) : (p : List (Tm n)) → (m e : Int) → p.foldl (fun m y => max m (c + dep n y)) (max m (c + e)) = max m (c + p.foldl (fun m y => max m (dep n y)) e)
  | [], _, _ => rfl
  | y :: p, m, e => by
    simp only [List.foldl_cons]
    have h : max (max m (c + e)) (c + dep n y) = max m (c + max e (dep n y)) := by omega
    rw [h]
    exact fold_max c p m (max e (dep n y))
theorem deep_dep : (n : Nat) → (x : Tm n) → (d m : Int) → (∀ a ∈ nodes n x, good a = true) → d ≤ m → deepL (nodes n x) (deeps n x d) m = max m (d + dep n x)
  | 0, x, _, _, h, _ => by
    have := h ((0, 0, .empty), (none, 0, 0)) (by simp [nodes])
    rcases good_kind _ this with g | g | g | g | g | ⟨g, _⟩ <;> simp at g
  | n + 1, x, d, m, h, hm => by
    have hg := h (hdOf n x) (by simp [nodes, hdOf])
    have key : ∀ (p : List (Tm n)) (m : Int), (∀ y ∈ p, y ∈ x.2.2) → d + 1 ≤ m → deepL (p.flatMap fun y => nodes n y) (p.flatMap fun y => deeps n y (d + 1)) m = p.foldl (fun m y => max m (d + 1 + dep n y)) m := by
      intro p
      induction p with
      | nil => intro m _ _; rfl
      | cons y p ih =>
        intro m hp hm
        simp only [List.flatMap_cons, List.foldl_cons]
        rw [deepL_append _ _ _ _ _ (deeps_length n y (d + 1)).symm, deep_dep n y (d + 1) m (fun a ha => h a (nodes_mem (hp y (by simp)) ha)) hm]
        exact ih _ (fun z hz => hp z (by simp [hz])) (by omega)
    have e : deepL (nodes (n + 1) x) (deeps (n + 1) x d) m = deepL (x.2.2.flatMap fun y => nodes n y) (x.2.2.flatMap fun y => deeps n y (d + 1)) (deeper (hdOf n x) d m) := rfl
    rw [e]
    simp only [dep]
    by_cases h4 : x.1.1 = 4
    · rw [if_pos h4]
      have e1 : deeper (hdOf n x) d m = max m (d + 1 + 0) := by
        unfold deeper hdOf
        by_cases hlt : m < d + 1
        · rw [if_pos ⟨h4, hlt⟩]; omega
        · rw [if_neg (fun hh => hlt hh.2)]; omega
      rw [e1, key x.2.2 _ (fun _ hy => hy) (by omega), fold_max]
      omega
    · rw [if_neg h4]
      have hl : x.2.2 = [] := by
        unfold good at hg
        simp only [Bool.and_eq_true, Bool.or_eq_true, beq_iff_eq] at hg
        rcases hg.2 with h' | h'
        · exact (h4 h').elim
        · have : ¬ (0 : Int) < (x.2.2.length : Int) := by simpa [hdOf] using h'
          exact List.eq_nil_of_length_eq_zero (by omega)
      have e1 : deeper (hdOf n x) d m = m := deeper_no _ (fun hh => h4 hh.1)
      rw [hl, e1]
      simp only [List.flatMap_nil, deepL]
      omega
theorem tchk_chk (n : Nat) (x : Tm n) : tchk n x = chk n x := by
  unfold tchk chk
  rw [chkL_all _ _ _ _ (deeps_length n x 0).symm, ← formed_good n x]
  by_cases hf : formedB n x = true
  · rw [if_pos hf, if_pos hf]
    have hg : ∀ a ∈ nodes n x, good a = true := by
      rw [formed_good n x] at hf
      exact fun a ha => List.all_eq_true.1 hf a ha
    have hd := dep_bound n x
    rw [deep_dep n x 0 0 hg (by omega)]
    have : max (0 : Int) (0 + dep n x) = dep n x := by omega
    rw [this]
  · rw [if_neg hf, if_neg hf]

/-- term.Check is the document's Check. -/
theorem tcheck_any (n : Nat) (x : Tm n) (B : Nat) (w : World) (hx : In B w n x) (hB : B ≤ w.heap.size) (hN : (nodes n x).length ≤ 2097152) :
    Calls Tryd.prog 16 #[val n x] w fun e w' => e = .returned (.int .i64 (chk n x)) ∧ Below w.heap.size w w' := by
  rw [← tchk_chk]
  exact tcheck_tchk n x B w hx hB hN
end Go.Proofs.YtpehdgbdinjbaabDoor
