/- What is proved here: the program's plain (with numbered and strings.Clone): which word is a term, and which. No memory that was there turns. No condition but the text's size. -/
import Derived.Test.YtdlplmpjcemnoabDoorNum
import Derived.Test.YtdlplmpjcemnoabDoorTChk
import Derived.Test.YtdlplmpjcemnoabDoorShelf
namespace Go.Proofs.YtdlplmpjcemnoabDoor
open Go.RowKit

/-- A word behind its first sign. -/
def tail1 (s : ByteArray) : ByteArray := s.extract 1 s.size
/-- Is a word a term? -/
def leafB (s : ByteArray) : Bool :=
  if s.data.toList[0]? = some 35 then isNum (tail1 s) 2
  else if s.data.toList[0]? = some 36 then isNum (tail1 s) 2
  else if s.data.toList[0]? = some 45 then isNum (tail1 s) 13 && !(numV (tail1 s).data.toList == 0)
  else if s.toList == [95] then true
  else if isNum s 13 then true
  else decide (0 < s.size) && lowsB s.data.toList
/-- Its Kind, N and Name. -/
def leafV (s : ByteArray) : Int × Int × ByteArray :=
  if s.data.toList[0]? = some 35 then (3, numV (tail1 s).data.toList, ⟨#[]⟩)
  else if s.data.toList[0]? = some 36 then (5, numV (tail1 s).data.toList, ⟨#[]⟩)
  else if s.data.toList[0]? = some 45 then (1, - numV (tail1 s).data.toList, ⟨#[]⟩)
  else if s.toList == [95] then (6, 0, ⟨#[]⟩)
  else if isNum s 13 then (1, numV s.data.toList, ⟨#[]⟩)
  else (2, 0, s)

def LeafOut (s : ByteArray) (e : Ending) : Prop :=
  ∃ (k u : Int) (t : ByteArray) (b : Bool), e = .returned (.tuple #[.agg #[.int .i64 k, .int .i64 u, .string t, .slice none 0 0], .bool b]) ∧ Hid (b = leafB s ∧ (b = true → (k, u, t) = leafV s) ∧ t.size ≤ s.size ∧ I64 k ∧ I64 u)

theorem tail1_size (s : ByteArray) : (tail1 s).size ≤ s.size := by simp [tail1]

def NbrOut (k : Int) (s : ByteArray) (e : Ending) : Prop :=
  ∃ (v : Int) (b : Bool), e = .returned (.tuple #[.agg #[.int .i64 k, .int .i64 v, .string ⟨#[]⟩, .slice none 0 0], .bool b]) ∧ Hid (b = isNum s 2 ∧ 0 ≤ v ∧ v < 100000000000000 ∧ (b = true → v = numV s.data.toList))

theorem numbered_any (k : Int) (s : ByteArray) (w : World) (hs : s.size ≤ 9223372036854775807) :
    Calls Tryd.prog 35 #[.int .i64 k, .string s] w fun e w' => NbrOut k s e ∧ Below w.heap.size w w' := by
  go_enter Tryd.func35, Tryd.ntmps35
  go_wp2_with (go_at_call 36; refine (number_any _ _ _ hs (by omega)).mono ?_; rintro e w' ⟨⟨v, b, rfl, HV⟩, rfl⟩)
  exact bodyPost_ret (v := .tuple #[.agg #[.int .i64 k, .int .i64 v, .string ⟨#[]⟩, .slice none 0 0], .bool b]) (by simp [results, Tryd.results35, go_sem]) rfl ⟨⟨v, b, rfl, HV⟩, by go_grown⟩

theorem clone_any (s : ByteArray) (w : World) (hs : s.size ≤ 2048) :
    Calls Tryd.prog 37 #[.string s] w fun e w' => e = .returned (.string s) ∧ Below w.heap.size w w' := by
  go_enter Tryd.func37, Tryd.ntmps37
  go_wp2_with (go_at_call 41; refine (Tryd.stringslite_Clone s w (by omega)).mono ?_; rintro e w' ⟨rfl, hb⟩)
  go_ret
  exact ⟨rfl, hb⟩

theorem digs_head (s : ByteArray) (h : 0 < s.size) (hd : digB s[0] = false) (m : Int) : isNum s m = false := by simp [isNum, digs_stop s 0 h hd]
theorem lows_head (s : ByteArray) (h : 0 < s.size) (hd : lowB s[0] = false) : lowsB s.data.toList = false := by
  have h2 : lowsB s.data.toList = (lowsB (s.data.toList.take 1) && lowsB (s.data.toList.drop 1)) := by
    conv => lhs; rw [← List.take_append_drop 1 s.data.toList]
    simp only [lowsB, List.all_append]
  rw [h2, lowsB_snoc s 0 h, hd]; simp
theorem bar_of (s : ByteArray) (h : 0 < s.size) (h2 : ¬ s[0] = 95) : (s.toList == [95]) = false := by
  rw [ByteArray.toList_eq]
  have h3 := head_at s h
  cases hl : s.data.toList with
  | nil => rfl
  | cons c l =>
    rw [hl] at h3
    simp at h3
    rw [← h3] at h2
    simp [h2]

def agg4 (k u : Int) (t : ByteArray) : Value := .agg #[.int .i64 k, .int .i64 u, .string t, .slice none 0 0]
theorem i64_small {u : Int} (h1 : -100000000000000 ≤ u) (h2 : u ≤ 100000000000000) : I64 u := ⟨by omega, by omega⟩

/-- The cells of the call's own result, behind a call that only makes new memory. -/
theorem box_of {w w' : World} {v0 v1 v2 v3 : Value} {t : TypeId} (hb : Below (w.alloc (.cells #[v0, v1, v2, v3] t)).heap.size (w.alloc (.cells #[v0, v1, v2, v3] t)) w') :
    (w'.cell? ⟨w.heap.size, 0, none⟩ = some v0 ∧ w'.cell? ⟨w.heap.size, 1, none⟩ = some v1 ∧ w'.cell? ⟨w.heap.size, 2, none⟩ = some v2 ∧ w'.cell? ⟨w.heap.size, 3, none⟩ = some v3) ∧
    (w'.frozen? ⟨w.heap.size, 0, none⟩ = false ∧ w'.frozen? ⟨w.heap.size, 1, none⟩ = false ∧ w'.frozen? ⟨w.heap.size, 2, none⟩ = false ∧ w'.frozen? ⟨w.heap.size, 3, none⟩ = false) := by
  have hc := fun o => hb.cell (p := ⟨w.heap.size, o, none⟩) (by simp)
  have hf := fun o => hb.frozen (p := ⟨w.heap.size, o, none⟩) (by simp)
  exact ⟨⟨(hc 0).trans (by simp [go_sem]), (hc 1).trans (by simp [go_sem]), (hc 2).trans (by simp [go_sem]), (hc 3).trans (by simp [go_sem])⟩, (hf 0).trans (by simp [go_sem]), (hf 1).trans (by simp [go_sem]), (hf 2).trans (by simp [go_sem]), (hf 3).trans (by simp [go_sem])⟩

theorem grown4 {w w' : World} {o : Obj} (hb : Below (w.alloc o).heap.size (w.alloc o) w') (a b c d : Value) :
    Below w.heap.size w ((((w'.setCell ⟨w.heap.size, 0, none⟩ a).setCell ⟨w.heap.size, 1, none⟩ b).setCell ⟨w.heap.size, 2, none⟩ c).setCell ⟨w.heap.size, 3, none⟩ d) := by
  have hb2 : Below w.heap.size w w' := ((Below.refl _ _).alloc (Nat.le_refl _) _).trans (hb.mono (by simp))
  go_grown

set_option maxHeartbeats 2000000 in
theorem plain_any (s : ByteArray) (w : World) (hs : s.size ≤ 2048) :
    Calls Tryd.prog 28 #[.string s] w fun e w' => LeafOut s e ∧ Below w.heap.size w w' := by
  have ht := tail1_size s
  by_cases h0 : 0 < s.size
  · have hE := size_pos h0
    have hN : (s.toList = []) = False := by simpa using hE
    have HH := hide (head_at s h0)
    have h01 : (1 : Int) ≤ s.size := by omega
    by_cases c1 : s[0] = 95
    · have HL : Hid (leafB s = (s.toList == [95]) ∧ ((s.toList == [95]) = true → leafV s = (6, 0, ⟨#[]⟩))) := by
        simp only [Hid, leafB, leafV, HH.out, c1, digs_head s h0 (by simp [digB, c1]) 13, lows_head s h0 (by simp [lowB, c1])]
        cases h : (s.toList == [95]) <;> simp
      go_enter Tryd.func28, Tryd.ntmps28
      go_wp2_with fail
      exact bodyPost_ret (v := .tuple #[agg4 6 0 ⟨#[]⟩, .bool (s.toList == [95])]) (by simp [results, Tryd.results28, go_sem, agg4]) rfl ⟨⟨6, 0, ⟨#[]⟩, _, rfl, HL.out.1.symm, fun h => (HL.out.2 h).symm, Nat.zero_le _, i64_small (by omega) (by omega), i64_small (by omega) (by omega)⟩, by go_grown⟩
    · have d1 := byte_ne (k := 95) (d := 95) rfl c1
      by_cases c2 : s[0] = 35
      · have HL : Hid (leafB s = isNum (tail1 s) 2 ∧ leafV s = (3, numV (tail1 s).data.toList, ⟨#[]⟩)) := by
          simp [Hid, leafB, leafV, HH.out, c2]
        go_enter Tryd.func28, Tryd.ntmps28
        go_wp2_with (go_at_call 35; refine (numbered_any 3 (tail1 s) _ (by omega)).mono ?_; rintro e w' ⟨⟨v, b, rfl, HV⟩, hb⟩; obtain ⟨⟨x0, x1, x2, x3⟩, f0, f1, f2, f3⟩ := box_of hb; have HB := hide (grown4 hb); clear hb)
        exact bodyPost_ret (v := .tuple #[agg4 3 v ⟨#[]⟩, .bool b]) (by simp [results, Tryd.results28, go_sem, agg4, x0, x1, x2, x3]) rfl ⟨⟨3, v, ⟨#[]⟩, _, rfl, by rw [HL.out.1, HV.out.1], fun h => by rw [HL.out.2, HV.out.2.2.2 h], Nat.zero_le _, i64_small (by omega) (by omega), i64_small (by have := HV.out.2.1; omega) (by have := HV.out.2.2.1; omega)⟩, HB.out _ _ _ _⟩
      · have d2 := byte_ne (k := 35) (d := 35) rfl c2
        by_cases c3 : s[0] = 36
        · have HL : Hid (leafB s = isNum (tail1 s) 2 ∧ leafV s = (5, numV (tail1 s).data.toList, ⟨#[]⟩)) := by
            simp [Hid, leafB, leafV, HH.out, c3]
          go_enter Tryd.func28, Tryd.ntmps28
          go_wp2_with (go_at_call 35; refine (numbered_any 5 (tail1 s) _ (by omega)).mono ?_; rintro e w' ⟨⟨v, b, rfl, HV⟩, hb⟩; obtain ⟨⟨x0, x1, x2, x3⟩, f0, f1, f2, f3⟩ := box_of hb; have HB := hide (grown4 hb); clear hb)
          exact bodyPost_ret (v := .tuple #[agg4 5 v ⟨#[]⟩, .bool b]) (by simp [results, Tryd.results28, go_sem, agg4, x0, x1, x2, x3]) rfl ⟨⟨5, v, ⟨#[]⟩, _, rfl, by rw [HL.out.1, HV.out.1], fun h => by rw [HL.out.2, HV.out.2.2.2 h], Nat.zero_le _, i64_small (by omega) (by omega), i64_small (by have := HV.out.2.1; omega) (by have := HV.out.2.2.1; omega)⟩, HB.out _ _ _ _⟩
        · have d3 := byte_ne (k := 36) (d := 36) rfl c3
          by_cases c4 : s[0] = 45
          · have HL : Hid (leafB s = (isNum (tail1 s) 13 && !(numV (tail1 s).data.toList == 0)) ∧ leafV s = (1, - numV (tail1 s).data.toList, ⟨#[]⟩)) := by
              simp [Hid, leafB, leafV, HH.out, c4]
            go_enter Tryd.func28, Tryd.ntmps28
            go_wp2_with (go_at_call 36; refine (number_any (tail1 s) 13 _ (by omega) (by omega)).mono ?_; rintro e w' ⟨⟨v, b, rfl, HV⟩, rfl⟩; obtain ⟨v1, v2⟩ := (⟨HV.out.2.1, HV.out.2.2.1⟩ : 0 ≤ v ∧ v < 100000000000000); cases b)
            · exact bodyPost_ret (v := .tuple #[agg4 1 (-v) ⟨#[]⟩, .bool false]) (by simp [results, Tryd.results28, go_sem, agg4]) rfl ⟨⟨1, -v, ⟨#[]⟩, _, rfl, by rw [HL.out.1, ← HV.out.1]; rfl, by simp, Nat.zero_le _, i64_small (by omega) (by omega), i64_small (by omega) (by omega)⟩, by go_grown⟩
            · exact bodyPost_ret (v := .tuple #[agg4 1 (-v) ⟨#[]⟩, .bool (v != 0)]) (by simp [results, Tryd.results28, go_sem, agg4]) rfl ⟨⟨1, -v, ⟨#[]⟩, _, rfl, by rw [HL.out.1, ← HV.out.1, ← HV.out.2.2.2 (by trivial)]; simp [bne], fun _ => by rw [HL.out.2, HV.out.2.2.2 (by trivial)], Nat.zero_le _, i64_small (by omega) (by omega), i64_small (by omega) (by omega)⟩, by go_grown⟩
          · have d4 := byte_ne (k := 45) (d := 45) rfl c4
            have HL : Hid (leafB s = (isNum s 13 || lowsB s.data.toList) ∧ (leafV s = if isNum s 13 = true then (1, numV s.data.toList, ⟨#[]⟩) else (2, 0, s))) := by
              simp only [Hid, leafB, leafV, HH.out, bar_of s h0 c1]
              simp [c2, c3, c4]
              cases isNum s 13 <;> simp [h0]
            go_enter Tryd.func28, Tryd.ntmps28
            go_wp2_with (first
              | (go_at_call 36; refine (number_any s 13 _ (by omega) (by omega)).mono ?_; rintro e w' ⟨⟨v, b, rfl, HV⟩, rfl⟩; obtain ⟨v1, v2⟩ := (⟨HV.out.2.1, HV.out.2.2.1⟩ : 0 ≤ v ∧ v < 100000000000000); cases b)
              | (go_at_call 37; refine (clone_any s _ hs).mono ?_; rintro e w2 ⟨rfl, hb⟩; obtain ⟨⟨x0, x1, x2, x3⟩, f0, f1, f2, f3⟩ := box_of hb; have HB := hide (grown4 hb); clear hb)
              | (go_at_call 38; refine (letters_any s _ (by omega)).mono ?_; rintro e w3 ⟨rfl, rfl⟩))
            · exact bodyPost_ret (v := .tuple #[agg4 2 0 s, .bool (lowsB s.data.toList)]) (by simp [results, Tryd.results28, go_sem, agg4, x0, x1, x2, x3]) rfl ⟨⟨2, 0, s, _, rfl, by rw [HL.out.1, ← HV.out.1]; rfl, fun _ => by rw [HL.out.2, ← HV.out.1]; rfl, Nat.le_refl _, i64_small (by omega) (by omega), i64_small (by omega) (by omega)⟩, HB.out _ _ _ _⟩
            · exact bodyPost_ret (v := .tuple #[agg4 1 v ⟨#[]⟩, .bool true]) (by simp [results, Tryd.results28, go_sem, agg4]) rfl ⟨⟨1, v, ⟨#[]⟩, _, rfl, by rw [HL.out.1, ← HV.out.1]; rfl, fun _ => by rw [HL.out.2, ← HV.out.1, HV.out.2.2.2 (by trivial)]; rfl, Nat.zero_le _, i64_small (by omega) (by omega), i64_small (by omega) (by omega)⟩, by go_grown⟩
  · have hE := size_nil h0
    have hN : (s.toList = []) = True := by simpa using hE
    have HL : Hid (leafB s = false) := by
      have hz : s.size = 0 := by omega
      have hl : s.data.toList = [] := by rw [← ByteArray.toList_eq]; simpa using hE
      simp [Hid, leafB, ByteArray.toList_eq, isNum, hl, hz]
    go_enter Tryd.func28, Tryd.ntmps28
    go_wp2_with fail
    exact bodyPost_ret (v := .tuple #[agg4 0 0 ⟨#[]⟩, .bool false]) (by simp [results, Tryd.results28, go_sem, agg4]) rfl ⟨⟨0, 0, ⟨#[]⟩, _, rfl, HL.out.symm, by simp, Nat.zero_le _, i64_small (by omega) (by omega), i64_small (by omega) (by omega)⟩, by go_grown⟩
end Go.Proofs.YtdlplmpjcemnoabDoor
