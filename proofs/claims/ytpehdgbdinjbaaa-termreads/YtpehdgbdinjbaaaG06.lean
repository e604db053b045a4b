/- What is proved here: plain facts and contracts that the claimed theorem stands on, several texts in one: the program's plain (with numbered and strings.Clone): which word is a term, and which. No memory that was there turns. No condition but the text's size. plain facts on texts: where the next word of a text begins and ends. No condition. the program's reader: word is the text between its two places. No memory turns. Condition: the reader lies in memory, its places within the text. the program's reader goes on to the next word. Only the reader's own block turns. Condition: the reader lies in memory, its places within the text. the document's Same of two terms that lie in memory returns what the plain function same says, and turns no memory that was there. No condition but that the terms lie in memory. -/
import Derived.Test.YtpehdgbdinjbaaaG01
import Derived.Test.YtpehdgbdinjbaaaG04
import Derived.Test.YtpehdgbdinjbaaaG05
import Derived.BigQuiet
namespace Go.Proofs.Ytpehdgbdinjbaaa
open Go.RowKit

/-- A word behind its first sign. -/
def tail1 (s : ByteArray) : ByteArray := s.extract 1 s.size
/-- Is a word a term? -/
def leafB (s : ByteArray) : Bool :=
  if s.data.toList[0]? = some 35 then isNum (tail1 s) 2
  else if s.data.toList[0]? = some 36 then isNum (tail1 s) 2
  else if s.data.toList[0]? = some 45 then isNum (tail1 s) 13 && !(numV (tail1 s).data.toList == 0)
  else if s.toList == [95] then true
  else if isNum s 13 then true
  else decide (0 < s.size) && lowsB s.data.toList
/-- Its Kind, N and Name. -/
def leafV (s : ByteArray) : Int × Int × ByteArray :=
  if s.data.toList[0]? = some 35 then (3, numV (tail1 s).data.toList, ⟨#[]⟩)
  else if s.data.toList[0]? = some 36 then (5, numV (tail1 s).data.toList, ⟨#[]⟩)
  else if s.data.toList[0]? = some 45 then (1, - numV (tail1 s).data.toList, ⟨#[]⟩)
  else if s.toList == [95] then (6, 0, ⟨#[]⟩)
  else if isNum s 13 then (1, numV s.data.toList, ⟨#[]⟩)
  else (2, 0, s)

def LeafOut (s : ByteArray) (e : Ending) : Prop :=
  ∃ (k u : Int) (t : ByteArray) (b : Bool), e = .returned (.tuple #[.agg #[.int .i64 k, .int .i64 u, .string t, .slice none 0 0], .bool b]) ∧ Hid (b = leafB s ∧ (b = true → (k, u, t) = leafV s) ∧ t.size ≤ s.size ∧ I64 k ∧ I64 u)

theorem tail1_size (s : ByteArray) : (tail1 s).size ≤ s.size := by simp [tail1]

def NbrOut (k : Int) (s : ByteArray) (e : Ending) : Prop :=
  ∃ (v : Int) (b : Bool), e = .returned (.tuple #[.agg #[.int .i64 k, .int .i64 v, .string ⟨#[]⟩, .slice none 0 0], .bool b]) ∧ Hid (b = isNum s 2 ∧ 0 ≤ v ∧ v < 100000000000000 ∧ (b = true → v = numV s.data.toList))

theorem numbered_any (k : Int) (s : ByteArray) (w : World) (hs : s.size ≤ 9223372036854775807) :
    Calls Try.prog 108 #[.int .i64 k, .string s] w fun e w' => NbrOut k s e ∧ Below w.heap.size w w' := by
  go_enter Try.func108, Try.ntmps108
  go_wp2_with (go_at_call 109; refine (number_any _ _ _ hs (by omega)).mono ?_; rintro e w' ⟨⟨v, b, rfl, HV⟩, rfl⟩)
  exact bodyPost_ret (v := .tuple #[.agg #[.int .i64 k, .int .i64 v, .string ⟨#[]⟩, .slice none 0 0], .bool b]) (by simp [results, Try.results108, go_sem]) rfl ⟨⟨v, b, rfl, HV⟩, by go_grown⟩

theorem clone_any (s : ByteArray) (w : World) (hs : s.size ≤ 2048) :
    Calls Try.prog 107 #[.string s] w fun e w' => e = .returned (.string s) ∧ Below w.heap.size w w' := by
  go_enter Try.func107, Try.ntmps107
  go_wp2_with (go_at_call 121; refine (Try.stringslite_Clone s w (by omega)).mono ?_; rintro e w' ⟨rfl, hb⟩)
  go_ret
  exact ⟨rfl, hb⟩

theorem digs_head (s : ByteArray) (h : 0 < s.size) (hd : digB s[0] = false) (m : Int) : isNum s m = false := by simp [isNum, digs_stop s 0 h hd]
theorem lows_head (s : ByteArray) (h : 0 < s.size) (hd : lowB s[0] = false) : lowsB s.data.toList = false := by
  have h2 : lowsB s.data.toList = (lowsB (s.data.toList.take 1) && lowsB (s.data.toList.drop 1)) := by
    conv => lhs; rw [← List.take_append_drop 1 s.data.toList]
    simp only [lowsB, List.all_append]
  rw [h2, lowsB_snoc s 0 h, hd]; simp
theorem bar_of (s : ByteArray) (h : 0 < s.size) (h2 : ¬ s[0] = 95) : (s.toList == [95]) = false := by
  rw [ByteArray.toList_eq]
  have h3 := head_at s h
  cases hl : s.data.toList with
  | nil => rfl
  | cons c l =>
    rw [hl] at h3
    simp at h3
    rw [← h3] at h2
    simp [h2]

def agg4 (k u : Int) (t : ByteArray) : Value := .agg #[.int .i64 k, .int .i64 u, .string t, .slice none 0 0]
theorem i64_small {u : Int} (h1 : -100000000000000 ≤ u) (h2 : u ≤ 100000000000000) : I64 u := ⟨by omega, by omega⟩

/-- The cells of the call's own result, behind a call that only makes new memory. -/
theorem box_of {w w' : World} {v0 v1 v2 v3 : Value} {t : TypeId} (hb : Below (w.alloc (.cells #[v0, v1, v2, v3] t)).heap.size (w.alloc (.cells #[v0, v1, v2, v3] t)) w') :
    (w'.cell? ⟨w.heap.size, 0, none⟩ = some v0 ∧ w'.cell? ⟨w.heap.size, 1, none⟩ = some v1 ∧ w'.cell? ⟨w.heap.size, 2, none⟩ = some v2 ∧ w'.cell? ⟨w.heap.size, 3, none⟩ = some v3) ∧
    (w'.frozen? ⟨w.heap.size, 0, none⟩ = false ∧ w'.frozen? ⟨w.heap.size, 1, none⟩ = false ∧ w'.frozen? ⟨w.heap.size, 2, none⟩ = false ∧ w'.frozen? ⟨w.heap.size, 3, none⟩ = false) := by
  have hc := fun o => hb.cell (p := ⟨w.heap.size, o, none⟩) (by simp)
  have hf := fun o => hb.frozen (p := ⟨w.heap.size, o, none⟩) (by simp)
  exact ⟨⟨(hc 0).trans (by simp [go_sem]), (hc 1).trans (by simp [go_sem]), (hc 2).trans (by simp [go_sem]), (hc 3).trans (by simp [go_sem])⟩, (hf 0).trans (by simp [go_sem]), (hf 1).trans (by simp [go_sem]), (hf 2).trans (by simp [go_sem]), (hf 3).trans (by simp [go_sem])⟩

theorem grown4 {w w' : World} {o : Obj} (hb : Below (w.alloc o).heap.size (w.alloc o) w') (a b c d : Value) :
    Below w.heap.size w ((((w'.setCell ⟨w.heap.size, 0, none⟩ a).setCell ⟨w.heap.size, 1, none⟩ b).setCell ⟨w.heap.size, 2, none⟩ c).setCell ⟨w.heap.size, 3, none⟩ d) := by
  have hb2 : Below w.heap.size w w' := ((Below.refl _ _).alloc (Nat.le_refl _) _).trans (hb.mono (by simp))
  go_grown

set_option maxHeartbeats 2000000 in
theorem plain_any (s : ByteArray) (w : World) (hs : s.size ≤ 2048) :
    Calls Try.prog 85 #[.string s] w fun e w' => LeafOut s e ∧ Below w.heap.size w w' := by
  have ht := tail1_size s
  by_cases h0 : 0 < s.size
  · have hE := size_pos h0
    have hN : (s.toList = []) = False := by simpa using hE
    have HH := hide (head_at s h0)
    have h01 : (1 : Int) ≤ s.size := by omega
    by_cases c1 : s[0] = 95
    · have HL : Hid (leafB s = (s.toList == [95]) ∧ ((s.toList == [95]) = true → leafV s = (6, 0, ⟨#[]⟩))) := by
        simp only [Hid, leafB, leafV, HH.out, c1, digs_head s h0 (by simp [digB, c1]) 13, lows_head s h0 (by simp [lowB, c1])]
        cases h : (s.toList == [95]) <;> simp
      go_enter Try.func85, Try.ntmps85
      go_wp2_with fail
      exact bodyPost_ret (v := .tuple #[agg4 6 0 ⟨#[]⟩, .bool (s.toList == [95])]) (by simp [results, Try.results85, go_sem, agg4]) rfl ⟨⟨6, 0, ⟨#[]⟩, _, rfl, HL.out.1.symm, fun h => (HL.out.2 h).symm, Nat.zero_le _, i64_small (by omega) (by omega), i64_small (by omega) (by omega)⟩, by go_grown⟩
    · have d1 := byte_ne (k := 95) (d := 95) rfl c1
      by_cases c2 : s[0] = 35
      · have HL : Hid (leafB s = isNum (tail1 s) 2 ∧ leafV s = (3, numV (tail1 s).data.toList, ⟨#[]⟩)) := by
          simp [Hid, leafB, leafV, HH.out, c2]
        go_enter Try.func85, Try.ntmps85
        go_wp2_with (go_at_call 108; refine (numbered_any 3 (tail1 s) _ (by omega)).mono ?_; rintro e w' ⟨⟨v, b, rfl, HV⟩, hb⟩; obtain ⟨⟨x0, x1, x2, x3⟩, f0, f1, f2, f3⟩ := box_of hb; have HB := hide (grown4 hb); clear hb)
        exact bodyPost_ret (v := .tuple #[agg4 3 v ⟨#[]⟩, .bool b]) (by simp [results, Try.results85, go_sem, agg4, x0, x1, x2, x3]) rfl ⟨⟨3, v, ⟨#[]⟩, _, rfl, by rw [HL.out.1, HV.out.1], fun h => by rw [HL.out.2, HV.out.2.2.2 h], Nat.zero_le _, i64_small (by omega) (by omega), i64_small (by have := HV.out.2.1; omega) (by have := HV.out.2.2.1; omega)⟩, HB.out _ _ _ _⟩
      · have d2 := byte_ne (k := 35) (d := 35) rfl c2
        by_cases c3 : s[0] = 36
        · have HL : Hid (leafB s = isNum (tail1 s) 2 ∧ leafV s = (5, numV (tail1 s).data.toList, ⟨#[]⟩)) := by
            simp [Hid, leafB, leafV, HH.out, c3]
          go_enter Try.func85, Try.ntmps85
          go_wp2_with (go_at_call 108; refine (numbered_any 5 (tail1 s) _ (by omega)).mono ?_; rintro e w' ⟨⟨v, b, rfl, HV⟩, hb⟩; obtain ⟨⟨x0, x1, x2, x3⟩, f0, f1, f2, f3⟩ := box_of hb; have HB := hide (grown4 hb); clear hb)
          exact bodyPost_ret (v := .tuple #[agg4 5 v ⟨#[]⟩, .bool b]) (by simp [results, Try.results85, go_sem, agg4, x0, x1, x2, x3]) rfl ⟨⟨5, v, ⟨#[]⟩, _, rfl, by rw [HL.out.1, HV.out.1], fun h => by rw [HL.out.2, HV.out.2.2.2 h], Nat.zero_le _, i64_small (by omega) (by omega), i64_small (by have := HV.out.2.1; omega) (by have := HV.out.2.2.1; omega)⟩, HB.out _ _ _ _⟩
        · have d3 := byte_ne (k := 36) (d := 36) rfl c3
          by_cases c4 : s[0] = 45
          · have HL : Hid (leafB s = (isNum (tail1 s) 13 && !(numV (tail1 s).data.toList == 0)) ∧ leafV s = (1, - numV (tail1 s).data.toList, ⟨#[]⟩)) := by
              simp [Hid, leafB, leafV, HH.out, c4]
            go_enter Try.func85, Try.ntmps85
            go_wp2_with (go_at_call 109; refine (number_any (tail1 s) 13 _ (by omega) (by omega)).mono ?_; rintro e w' ⟨⟨v, b, rfl, HV⟩, rfl⟩; obtain ⟨v1, v2⟩ := (⟨HV.out.2.1, HV.out.2.2.1⟩ : 0 ≤ v ∧ v < 100000000000000); cases b)
            · exact bodyPost_ret (v := .tuple #[agg4 1 (-v) ⟨#[]⟩, .bool false]) (by simp [results, Try.results85, go_sem, agg4]) rfl ⟨⟨1, -v, ⟨#[]⟩, _, rfl, by rw [HL.out.1, ← HV.out.1]; rfl, by simp, Nat.zero_le _, i64_small (by omega) (by omega), i64_small (by omega) (by omega)⟩, by go_grown⟩
            · exact bodyPost_ret (v := .tuple #[agg4 1 (-v) ⟨#[]⟩, .bool (v != 0)]) (by simp [results, Try.results85, go_sem, agg4]) rfl ⟨⟨1, -v, ⟨#[]⟩, _, rfl, by rw [HL.out.1, ← HV.out.1, ← HV.out.2.2.2 (by trivial)]; simp [bne], fun _ => by rw [HL.out.2, HV.out.2.2.2 (by trivial)], Nat.zero_le _, i64_small (by omega) (by omega), i64_small (by omega) (by omega)⟩, by go_grown⟩
          · have d4 := byte_ne (k := 45) (d := 45) rfl c4
            have HL : Hid (leafB s = (isNum s 13 || lowsB s.data.toList) ∧ (leafV s = if isNum s 13 = true then (1, numV s.data.toList, ⟨#[]⟩) else (2, 0, s))) := by
              simp only [Hid, leafB, leafV, HH.out, bar_of s h0 c1]
              simp [c2, c3, c4]
              cases isNum s 13 <;> simp [h0]
            go_enter Try.func85, Try.ntmps85
            go_wp2_with (first
              | (go_at_call 109; refine (number_any s 13 _ (by omega) (by omega)).mono ?_; rintro e w' ⟨⟨v, b, rfl, HV⟩, rfl⟩; obtain ⟨v1, v2⟩ := (⟨HV.out.2.1, HV.out.2.2.1⟩ : 0 ≤ v ∧ v < 100000000000000); cases b)
              | (go_at_call 107; refine (clone_any s _ hs).mono ?_; rintro e w2 ⟨rfl, hb⟩; obtain ⟨⟨x0, x1, x2, x3⟩, f0, f1, f2, f3⟩ := box_of hb; have HB := hide (grown4 hb); clear hb)
              | (go_at_call 110; refine (letters_any s _ (by omega)).mono ?_; rintro e w3 ⟨rfl, rfl⟩))
            · exact bodyPost_ret (v := .tuple #[agg4 2 0 s, .bool (lowsB s.data.toList)]) (by simp [results, Try.results85, go_sem, agg4, x0, x1, x2, x3]) rfl ⟨⟨2, 0, s, _, rfl, by rw [HL.out.1, ← HV.out.1]; rfl, fun _ => by rw [HL.out.2, ← HV.out.1]; rfl, Nat.le_refl _, i64_small (by omega) (by omega), i64_small (by omega) (by omega)⟩, HB.out _ _ _ _⟩
            · exact bodyPost_ret (v := .tuple #[agg4 1 v ⟨#[]⟩, .bool true]) (by simp [results, Try.results85, go_sem, agg4]) rfl ⟨⟨1, v, ⟨#[]⟩, _, rfl, by rw [HL.out.1, ← HV.out.1]; rfl, fun _ => by rw [HL.out.2, ← HV.out.1, HV.out.2.2.2 (by trivial)]; rfl, Nat.zero_le _, i64_small (by omega) (by omega), i64_small (by omega) (by omega)⟩, by go_grown⟩
  · have hE := size_nil h0
    have hN : (s.toList = []) = True := by simpa using hE
    have HL : Hid (leafB s = false) := by
      have hz : s.size = 0 := by omega
      have hl : s.data.toList = [] := by rw [← ByteArray.toList_eq]; simpa using hE
      simp [Hid, leafB, ByteArray.toList_eq, isNum, hl, hz]
    go_enter Try.func85, Try.ntmps85
    go_wp2_with fail
    exact bodyPost_ret (v := .tuple #[agg4 0 0 ⟨#[]⟩, .bool false]) (by simp [results, Try.results85, go_sem, agg4]) rfl ⟨⟨0, 0, ⟨#[]⟩, _, rfl, HL.out.symm, by simp, Nat.zero_le _, i64_small (by omega) (by omega), i64_small (by omega) (by omega)⟩, by go_grown⟩
end Go.Proofs.Ytpehdgbdinjbaaa
namespace Go.Proofs.Ytpehdgbdinjbaaa
open Go.RowKit

def blB (c : UInt8) : Bool := c == 32
def enB (c : UInt8) : Bool := c == 32 || c == 40 || c == 41
/-- The first place from i on whose sign is none of these; or the end. -/
def skipTo (p : UInt8 → Bool) (s : ByteArray) (i : Nat) : Nat := i + ((s.data.toList.drop i).takeWhile p).length

theorem drop_at (s : ByteArray) (k : Nat) (h : k < s.size) : s.data.toList.drop k = s[k] :: s.data.toList.drop (k + 1) := by
  rw [List.drop_eq_getElem_cons (by simpa using h)]; rfl
theorem skip_step {p : UInt8 → Bool} {s : ByteArray} {k : Nat} (h : k < s.size) (hp : p s[k] = true) : skipTo p s (k + 1) = skipTo p s k := by
  unfold skipTo
  rw [drop_at s k h, List.takeWhile_cons, if_pos hp, List.length_cons]
  omega
theorem skip_stop {p : UInt8 → Bool} {s : ByteArray} {k : Nat} (h : k < s.size) (hp : p s[k] = false) : skipTo p s k = k := by
  unfold skipTo
  rw [drop_at s k h, List.takeWhile_cons, if_neg (by simp [hp])]
  rfl
theorem skip_end {p : UInt8 → Bool} {s : ByteArray} {k : Nat} (h : ¬ k < s.size) : skipTo p s k = k := by
  unfold skipTo
  rw [List.drop_of_length_le (by simp; omega)]
  rfl
theorem skip_ge (p : UInt8 → Bool) (s : ByteArray) (k : Nat) : k ≤ skipTo p s k := Nat.le_add_right _ _
theorem skip_le (p : UInt8 → Bool) (s : ByteArray) (k : Nat) (h : k ≤ s.size) : skipTo p s k ≤ s.size := by
  unfold skipTo
  have h1 := (List.takeWhile_sublist (l := s.data.toList.drop k) p).length_le
  have h2 : (s.data.toList.drop k).length = s.size - k := by simp
  omega

/-- Where the word behind place i begins, and where it ends. -/
def wordB (s : ByteArray) (i : Nat) : Nat := skipTo blB s i
def wordE (s : ByteArray) (i : Nat) : Nat := if skipTo (fun c => !enB c) s (wordB s i) = wordB s i ∧ wordB s i < s.size then wordB s i + 1 else skipTo (fun c => !enB c) s (wordB s i)
theorem wordB_ge (s : ByteArray) (i : Nat) : i ≤ wordB s i := skip_ge _ _ _
theorem wordB_le (s : ByteArray) (i : Nat) (h : i ≤ s.size) : wordB s i ≤ s.size := skip_le _ _ _ h
theorem wordE_ge (s : ByteArray) (i : Nat) : wordB s i ≤ wordE s i := by
  unfold wordE
  have := skip_ge (fun c => !enB c) s (wordB s i)
  split <;> omega
theorem wordE_le (s : ByteArray) (i : Nat) (h : i ≤ s.size) : wordE s i ≤ s.size := by
  unfold wordE
  have := skip_le (fun c => !enB c) s (wordB s i) (wordB_le s i h)
  split <;> omega
/-- It is a word of no signs just at the end. -/
theorem wordE_gt (s : ByteArray) (i : Nat) (h : wordB s i < s.size) : wordB s i < wordE s i := by
  unfold wordE
  have := skip_ge (fun c => !enB c) s (wordB s i)
  split <;> omega
theorem wordE_end (s : ByteArray) (i : Nat) (hi : i ≤ s.size) (h : ¬ wordB s i < s.size) : wordB s i = s.size ∧ wordE s i = s.size := by
  have h1 := wordB_le s i hi
  have h2 := wordE_le s i hi
  have h3 := wordE_ge s i
  omega
end Go.Proofs.Ytpehdgbdinjbaaa
namespace Go.Proofs.Ytpehdgbdinjbaaa
open Go.RowKit

/-- A reader of text s, at the word from b to e, lies in block r. -/
def Rd (r : Nat) (s : ByteArray) (b e : Nat) (w : World) : Prop := w.heap[r]? = some (.cells #[.string s, .int .i64 b, .int .i64 e] 87)

theorem Rd.cells {r : Nat} {s : ByteArray} {b e : Nat} {w : World} (h : Rd r s b e w) :
    (w.cell? ⟨r, 0, none⟩ = some (.string s) ∧ w.cell? ⟨r, 1, none⟩ = some (.int .i64 b) ∧ w.cell? ⟨r, 2, none⟩ = some (.int .i64 e)) ∧ w.frozen? ⟨r, 1, none⟩ = false ∧ w.frozen? ⟨r, 2, none⟩ = false := by
  unfold Rd at h
  exact ⟨⟨by simp [World.cell?, h], by simp [World.cell?, h], by simp [World.cell?, h]⟩, by simp [World.frozen?, h], by simp [World.frozen?, h]⟩
theorem Rd.set1 {r : Nat} {s : ByteArray} {b e : Nat} {w : World} (h : Rd r s b e w) (k : Nat) : Rd r s k e (w.setCell ⟨r, 1, none⟩ (.int .i64 k)) := by
  unfold Rd at *
  simp [World.setCell, Array.getElem?_modify, h]
theorem Rd.set2 {r : Nat} {s : ByteArray} {b e : Nat} {w : World} (h : Rd r s b e w) (k : Nat) : Rd r s b k (w.setCell ⟨r, 2, none⟩ (.int .i64 k)) := by
  unfold Rd at *
  simp [World.setCell, Array.getElem?_modify, h]
theorem Rd.drew {r : Nat} {s : ByteArray} {b e : Nat} {w : World} (h : Rd r s b e w) (n : Nat) : Rd r s b e (w.drewN n) := h
theorem Rd.lt {r : Nat} {s : ByteArray} {b e : Nat} {w : World} (h : Rd r s b e w) : r < w.heap.size := (Array.getElem?_eq_some_iff.1 h).1

theorem moved_set (w : World) (r o : Nat) (v : Value) : w.grownBy (w.setCell ⟨r, o, none⟩ v) (some r) :=
  ⟨rfl, rfl, rfl, by simp [World.setCell], fun k _ hk => Below.heap_setCell w _ v k (fun e => hk (by rw [e]))⟩
theorem moved_drew (w : World) (n : Nat) (q : Option Nat) : w.grownBy (w.drewN n) q := ⟨rfl, rfl, rfl, Nat.le_refl _, fun _ _ _ => rfl⟩
theorem moved_trans {w w1 w2 : World} {q : Option Nat} (h : w.grownBy w1 q) (k : w1.grownBy w2 q) : w.grownBy w2 q :=
  ⟨k.os.trans h.os, k.tape.trans h.tape, k.output.trans h.output, Nat.le_trans h.size k.size, fun i hi hne => (k.block i (Nat.lt_of_lt_of_le hi h.size) hne).trans (h.block i hi hne)⟩

theorem ends_any (c : UInt8) (w : World) : Calls Try.prog 83 #[.int .u8 c.toNat] w fun e w' => e = .returned (.bool (enB c)) ∧ w' = w := by
  by_cases h1 : c = 32
  · subst h1
    go_enter Try.func83, Try.ntmps83
    go_wp2_with fail
    all_goals go_ret
    all_goals exact ⟨rfl, rfl⟩
  · have d1 := byte_ne (k := 32) (d := 32) rfl h1
    by_cases h2 : c = 40
    · subst h2
      go_enter Try.func83, Try.ntmps83
      go_wp2_with fail
      all_goals go_ret
      all_goals exact ⟨rfl, rfl⟩
    · have d2 := byte_ne (k := 40) (d := 40) rfl h2
      by_cases h3 : c = 41
      · subst h3
        go_enter Try.func83, Try.ntmps83
        go_wp2_with fail
        all_goals go_ret
        all_goals exact ⟨rfl, rfl⟩
      · have d3 := byte_ne (k := 41) (d := 41) rfl h3
        go_enter Try.func83, Try.ntmps83
        go_wp2_with fail
        all_goals go_ret
        all_goals exact ⟨ret_bool (by rw [show enB c = false by simp [enB, h1, h2, h3]]; simp; omega), rfl⟩

theorem word_any (r : Nat) (s : ByteArray) (b e : Nat) (w : World) (h : Rd r s b e w) (hb : b ≤ e) (he : e ≤ s.size) :
    Calls Try.prog 49 #[.pointer (some ⟨r, 0, none⟩)] w fun e' w' => e' = .returned (.string (s.extract b e)) ∧ ∃ n, w' = w.drewN n := by
  obtain ⟨⟨c0, c1, c2⟩, f1, f2⟩ := h.cells
  clear h
  have hb' : (b : Int) ≤ e := by omega
  have he' : (e : Int) ≤ s.size := by omega
  go_enter Try.func49, Try.ntmps49
  go_wp2_with fail
  go_quiet (fail)
  go_wp2_with fail
  go_ret
  exact ⟨by simp, _, rfl⟩
end Go.Proofs.Ytpehdgbdinjbaaa
namespace Go.Proofs.Ytpehdgbdinjbaaa
open Go.RowKit

theorem moved_heap {w w1 w2 : World} {q : Option Nat} (h : w.grownBy w1 q) (h1 : w2.os = w1.os) (h2 : w2.tape = w1.tape) (h3 : w2.output = w1.output) (h4 : w2.heap = w1.heap) : w.grownBy w2 q :=
  ⟨h1.trans h.os, h2.trans h.tape, h3.trans h.output, by rw [h4]; exact h.size, fun k hk hne => by rw [h4]; exact h.block k hk hne⟩
theorem ends_is (c : UInt8) (w : World) (b : Bool) (h : enB c = b) : Calls Try.prog 83 #[.int .u8 c.toNat] w fun e w' => e = .returned (.bool b) ∧ w' = w := by
  rw [← h]; exact ends_any c w

set_option maxHeartbeats 8000000 in
theorem next_any (r : Nat) (s : ByteArray) (b0 e0 : Nat) (w : World) (h : Rd r s b0 e0 w) (he : e0 ≤ s.size) (hs : s.size ≤ 2048) :
    Calls Try.prog 47 #[.pointer (some ⟨r, 0, none⟩)] w fun e' w' => e' = .returned (.tuple #[]) ∧ Hid (Rd r s (wordB s e0) (wordE s e0) w' ∧ w.grownBy w' (some r)) := by
  obtain ⟨⟨c0, c1, c2⟩, f1, f2⟩ := h.cells
  have H0 := hide (⟨h.set1 e0, moved_set w r 1 (.int .i64 e0)⟩ : _ ∧ _)
  clear h
  go_enter Try.func47, Try.ntmps47
  go_wp2_with fail
  go_loopw [] (fun wr => ∃ k : Nat, k ≤ s.size ∧ Hid (Rd r s k e0 wr ∧ w.grownBy wr (some r) ∧ skipTo blB s k = wordB s e0) ∧ True) (fun wr => s.size - (intOf ((wr.cell? ⟨r, 1, none⟩).getD undef)).toNat)
  case atStart => exact ⟨e0, he, ⟨H0.out.1, H0.out.2, rfl⟩, trivial⟩
  case round =>
    obtain ⟨k, hk, HR, _⟩ := hrel
    obtain ⟨⟨c0, c1, c2⟩, f1, f2⟩ := HR.out.1.cells
    by_cases hst : ∃ h : k < s.size, s[k] = 32
    · obtain ⟨hlt, hb⟩ := hst
      have hlt' : (k : Int) < s.size := by omega
      have hg : decide ((k : Int) < s.size) = true := by simp; omega
      have HS := hide (skip_step (p := blB) hlt (by simp [blB, hb]))
      go_wp2_with fail
      go_quiet (fail)
      go_wp2_with fail
      go_roundw
      case rel => exact ⟨k + 1, by omega, ⟨(HR.out.1.drew nq).set1 (k + 1), moved_trans HR.out.2.1 (moved_trans (moved_drew wr nq _) (moved_set _ _ _ _)), by rw [HS.out]; exact HR.out.2.2⟩, trivial⟩
      case measure => simp [go_sem, c1, intOf]; omega
    · have HK : Hid (wordB s e0 = k) := by
        rw [← HR.out.2.2]
        by_cases hlt : k < s.size
        · exact skip_stop (p := blB) hlt (by simp [blB]; exact fun h => hst ⟨hlt, h⟩)
        · exact skip_end (p := blB) hlt
      have hcase : ((¬ k < s.size) ∧ decide ((k : Int) < s.size) = false) ∨ ((k : Int) < s.size ∧ decide ((k : Int) < s.size) = true ∧ ∃ h : k < s.size, ((s[k].toNat : Int) == 32) = false) := by
        by_cases hlt : k < s.size
        · have hb' := byte_ne (k := 32) (d := 32) rfl (fun h => hst ⟨hlt, h⟩)
          exact Or.inr ⟨by omega, by simp; omega, hlt, by simp; omega⟩
        · exact Or.inl ⟨hlt, by simp; omega⟩
      clear hst
      rcases hcase with ⟨hlt, hg⟩ | ⟨hlt', hg, hlt, hbb⟩
      all_goals
        go_wp2_with fail
        go_quiet (fail)
        have HR2 := hide (show Rd r s k k ((wr.drewN nq).setCell ⟨r, 2, none⟩ (.int .i64 k)) ∧ w.grownBy ((wr.drewN nq).setCell ⟨r, 2, none⟩ (.int .i64 k)) (some r) from ⟨(HR.out.1.drew nq).set2 k, moved_trans HR.out.2.1 (moved_trans (moved_drew wr nq _) (moved_set _ _ _ _))⟩)
        go_wp2_with fail
        go_loopw [] (fun wq => ∃ q : Nat, q ≤ s.size ∧ k ≤ q ∧ Hid (Rd r s k q wq ∧ w.grownBy wq (some r) ∧ skipTo (fun c => !enB c) s q = skipTo (fun c => !enB c) s k) ∧ True) (fun wq => s.size - (intOf ((wq.cell? ⟨r, 2, none⟩).getD undef)).toNat)
        case atStart => exact ⟨k, hk, Nat.le_refl _, ⟨HR2.out.1, HR2.out.2, rfl⟩, trivial⟩
        case round =>
          obtain ⟨q, hq, hkq, HQ, _⟩ := hrel
          obtain ⟨⟨c0, c1, c2⟩, f1, f2⟩ := HQ.out.1.cells
          by_cases hst : ∃ h : q < s.size, enB s[q] = false
          · obtain ⟨qlt, qb⟩ := hst
            have hno : k < s.size := Nat.lt_of_le_of_lt hkq qlt
            first | exact absurd hno hlt | skip
            all_goals
              have qlt' : (q : Int) < s.size := by omega
              have qg : decide ((q : Int) < s.size) = true := by simp; omega
              have HS := hide (skip_step (p := fun c => !enB c) qlt (by simp [qb]))
              go_wp2_with fail
              go_quiet ((go_at_call 83; exact Calls.quiet_of_same (ends_is s[q] _ _ qb)))
              go_wp2_with fail
              go_roundw
              case rel => exact ⟨q + 1, by omega, by omega, ⟨(HQ.out.1.drew _).set2 (q + 1), moved_trans HQ.out.2.1 (moved_trans (moved_drew _ _ _) (moved_set _ _ _ _)), by rw [HS.out]; exact HQ.out.2.2⟩, trivial⟩
              case measure => simp [go_sem, c2, intOf]; omega
          · have HK2 : Hid (skipTo (fun c => !enB c) s k = q) := by
              rw [← HQ.out.2.2]
              by_cases hlt : q < s.size
              · exact skip_stop (p := fun c => !enB c) hlt (by simp; cases h : enB s[q]; exact absurd ⟨hlt, h⟩ hst; rfl)
              · exact skip_end (p := fun c => !enB c) hlt
            have qcase : ((¬ q < s.size) ∧ decide ((q : Int) < s.size) = false) ∨ ((q : Int) < s.size ∧ decide ((q : Int) < s.size) = true ∧ ∃ h : q < s.size, enB s[q] = true) := by
              by_cases hlt : q < s.size
              · exact Or.inr ⟨by omega, by simp; omega, hlt, by cases h : enB s[q]; exact absurd ⟨hlt, h⟩ hst; rfl⟩
              · exact Or.inl ⟨hlt, by simp; omega⟩
            clear hst
            rcases qcase with ⟨qlt, qg⟩ | ⟨qlt', qg, qlt, qb⟩
            · have HE : Hid (wordE s e0 = q) := by
                simp only [Hid, wordE, HK.out, HK2.out]
                rw [if_neg (by omega)]
              go_wp2_with fail
              go_quiet (fail)
              go_wp2_with fail
              by_cases hqk : q = k
              · first | exact absurd (show q < s.size by omega) qlt | skip
                all_goals
                  subst hqk
                  go_quiet (fail)
                  go_wp2_with fail
                  go_end0
                  refine ⟨rfl, ?_, moved_heap HQ.out.2.1 rfl rfl rfl rfl⟩
                  rw [HK.out, HE.out]
                  exact HQ.out.1
              · first | exact absurd (show q = k by omega) hqk | skip
                all_goals
                  have hq1 : ((q : Int) == k) = false := by simp; omega
                  have hq2 : (q == k) = false := by simp; omega
                  have hq3 : decide (q = k) = false := by simp; omega
                  have hq4 : decide ((q : Int) = k) = false := by simp; omega
                  clear hqk
                  go_quiet (fail)
                  go_wp2_with fail
                  go_end0
                  refine ⟨rfl, ?_, moved_heap HQ.out.2.1 rfl rfl rfl rfl⟩
                  rw [HK.out, HE.out]
                  exact HQ.out.1
            · have hno : k < s.size := Nat.lt_of_le_of_lt hkq qlt
              first | exact absurd hno hlt | skip
              all_goals
                go_wp2_with fail
                go_quiet ((go_at_call 83; exact Calls.quiet_of_same (ends_is s[q] _ _ qb)))
                go_wp2_with fail
                by_cases hqk : q = k
                · have HE : Hid (wordE s e0 = q + 1) := by
                    simp only [Hid, wordE, HK.out, HK2.out]
                    rw [if_pos ⟨hqk, by omega⟩]
                    omega
                  subst hqk
                  go_quiet (fail)
                  go_wp2_with fail
                  go_end0
                  refine ⟨rfl, ?_, moved_trans HQ.out.2.1 (moved_trans (moved_drew _ _ _) (moved_set _ _ _ _))⟩
                  rw [HK.out, HE.out]
                  exact Rd.set2 HQ.out.1 (q + 1)
                · have HE : Hid (wordE s e0 = q) := by
                    simp only [Hid, wordE, HK.out, HK2.out]
                    rw [if_neg (by omega)]
                  have hq1 : ((q : Int) == k) = false := by simp; omega
                  have hq2 : (q == k) = false := by simp; omega
                  have hq3 : decide (q = k) = false := by simp; omega
                  have hq4 : decide ((q : Int) = k) = false := by simp; omega
                  clear hqk
                  go_quiet (fail)
                  go_wp2_with fail
                  go_end0
                  refine ⟨rfl, ?_, moved_heap HQ.out.2.1 rfl rfl rfl rfl⟩
                  rw [HK.out, HE.out]
                  exact HQ.out.1
end Go.Proofs.Ytpehdgbdinjbaaa
namespace Go.Proofs.Ytpehdgbdinjbaaa
open Go.RowKit

def sameL {α β : Type} (f : α → β → Bool) : List α → List β → Bool
  | [], [] => true
  | a :: p, b :: q => f a b && sameL f p q
  | _, _ => false
def same : (n : Nat) → Tm n → (m : Nat) → Tm m → Bool
  | n + 1, x, m + 1, y => x.1.1 == y.1.1 && x.1.2.1 == y.1.2.1 && x.1.2.2.toList == y.1.2.2.toList && sameL (fun a b => same n a m b) x.2.2 y.2.2
  | _, _, _, _ => false

theorem ret_same {a b : Bool} (h : a = b) : Ending.returned (.bool a) = .returned (.bool b) := by rw [h]
theorem sameL_drop {α β : Type} (f : α → β → Bool) (p : List α) (q : List β) (k : Nat) (a : α) (b : β) (ha : p[k]? = some a) (hb : q[k]? = some b) :
    sameL f (p.drop k) (q.drop k) = (f a b && sameL f (p.drop (k + 1)) (q.drop (k + 1))) := by
  obtain ⟨h1, e1⟩ := List.getElem?_eq_some_iff.1 ha
  obtain ⟨h2, e2⟩ := List.getElem?_eq_some_iff.1 hb
  rw [List.drop_eq_getElem_cons h1, List.drop_eq_getElem_cons h2, e1, e2]
  rfl
theorem sameL_ne {α β : Type} (f : α → β → Bool) : (p : List α) → (q : List β) → ¬ p.length = q.length → sameL f p q = false
  | [], [], h => by simp at h
  | [], _ :: _, _ => rfl
  | _ :: _, [], _ => rfl
  | a :: p, b :: q, h => by
    simp only [sameL]
    rw [sameL_ne f p q (by simpa using h)]
    simp

def FSame (n : Nat) : Prop := ∀ (x : Tm n) (m : Nat) (y : Tm m) (B : Nat) (w : World), In B w n x → In B w m y → B ≤ w.heap.size →
  Calls Try.prog 14 #[val n x, val m y] w fun e w' => e = .returned (.bool (same n x m y)) ∧ Below w.heap.size w w'

theorem equal_ne (p q : Nat) (a c : Option Addr) (pc qc : Nat) (w : World) (_hpc : p ≤ 9223372036854775807) (_hqc : q ≤ 9223372036854775807) (hl : ((p : Int) == (q : Int)) = false) :
    Calls Try.prog 69 #[.slice a p pc, .slice c q qc, .func (Fn.func 14) #[] #[]] w fun e w' => e = .returned (.bool false) ∧ w' = w := by
  have hl' : ((p : Int) != (q : Int)) = true := by simpa using hl
  go_enter Try.func69, Try.ntmps69
  go_wp2_with fail
  go_ret
  exact ⟨rfl, rfl⟩

theorem equal_nil (a c : Option Addr) (pc qc : Nat) (w : World) :
    Calls Try.prog 69 #[.slice a 0 pc, .slice c 0 qc, .func (Fn.func 14) #[] #[]] w fun e w' => e = .returned (.bool true) ∧ w' = w := by
  go_enter Try.func69, Try.ntmps69
  go_wp2_with fail
  go_loop [17] (fun i => i = .int .i64 0) (fun _ => 0)
  case atStart => rfl
  case round =>
    obtain rfl := hrel
    go_wp2_with fail
    go_ret
    exact ⟨rfl, rfl⟩

set_option maxHeartbeats 400000 in
theorem equal_eq (n m : Nat) (ih : FSame n) (p : List (Tm n)) (q : List (Tm m)) (len : Nat) (hpl : Hid (p.length = len)) (hql : Hid (q.length = len)) (pb po qb qo pc qc : Nat) (B : Nat) (w : World)
    (hlen : len ≤ 9223372036854775807) (hpb : pb < B) (hqb : qb < B)
    (hp : ∀ (i : Nat) (y : Tm n), p[i]? = some y → Held w pb (po + i * 4) n y ∧ In B w n y)
    (hq : ∀ (i : Nat) (y : Tm m), q[i]? = some y → Held w qb (qo + i * 4) m y ∧ In B w m y)
    (hB : B ≤ w.heap.size) :
    Calls Try.prog 69 #[.slice (some ⟨pb, po, none⟩) len pc, .slice (some ⟨qb, qo, none⟩) len qc, .func (Fn.func 14) #[] #[]] w fun e w' =>
      e = .returned (.bool (sameL (fun a b => same n a m b) p q)) ∧ Below w.heap.size w w' := by
  go_enter Try.func69, Try.ntmps69
  go_wp2_with fail
  go_loopw [17] (fun i wr => ∃ k : Nat, k ≤ len ∧ i = .int .i64 k ∧ Below w.heap.size w wr ∧ Hid (sameL (fun a b => same n a m b) (p.drop k) (q.drop k) = sameL (fun a b => same n a m b) p q)) (fun i _ => len - (intOf i).toNat)
  case atStart => exact ⟨0, by omega, rfl, Below.refl _ _, rfl⟩
  case round =>
    obtain ⟨k, hk, rfl, hb, hd⟩ := hrel
    by_cases hlt : k < len
    · obtain ⟨x, hx⟩ : ∃ x, p[k]? = some x := ⟨p[k]'(by rw [hpl.out]; exact hlt), List.getElem?_eq_getElem _⟩
      obtain ⟨y, hy⟩ : ∃ y, q[k]? = some y := ⟨q[k]'(by rw [hql.out]; exact hlt), List.getElem?_eq_getElem _⟩
      obtain ⟨hx1, hx2⟩ := hp k x hx
      obtain ⟨hy1, hy2⟩ := hq k y hy
      have HS := hide (sameL_drop (fun a b => same n a m b) p q k x y hx hy)
      replace hx1 := hx1.below (hb.mono hB) hpb
      replace hy1 := hy1.below (hb.mono hB) hqb
      replace hx2 := hx2.below (hb.mono hB)
      replace hy2 := hy2.below (hb.mono hB)
      clear hp hq hx hy
      cases n with
      | zero => exact hx1.elim
      | succ n =>
      cases m with
      | zero => exact hy1.elim
      | succ m =>
      obtain ⟨x0, x1, x2, x3⟩ := hx1
      obtain ⟨y0, y1, y2, y3⟩ := hy1
      have hB' : B ≤ wr.heap.size := Nat.le_trans hB hb.size
      have HC : Hid (∀ (w1 : World), Below wr.heap.size wr w1 → Calls Try.prog 14 #[.agg #[.int .i64 x.1.1, .int .i64 x.1.2.1, .string x.1.2.2, .slice x.2.1.1 x.2.2.length x.2.1.2], .agg #[.int .i64 y.1.1, .int .i64 y.1.2.1, .string y.1.2.2, .slice y.2.1.1 y.2.2.length y.2.1.2]] w1 fun e w' => e = .returned (.bool (same (n + 1) x (m + 1) y)) ∧ Below w1.heap.size w1 w') :=
        fun w1 h1 => ih x (m + 1) y B w1 (hx2.below (h1.mono hB')) (hy2.below (h1.mono hB')) (Nat.le_trans hB' h1.size)
      clear ih hx2 hy2
      replace HS : Hid (sameL (fun a b => same (n + 1) a (m + 1) b) (p.drop k) (q.drop k) = (same (n + 1) x (m + 1) y && sameL (fun a b => same (n + 1) a (m + 1) b) (p.drop (k + 1)) (q.drop (k + 1)))) := HS
      generalize same (n + 1) x (m + 1) y = r at *
      generalize x.2.2.length = xl at *
      generalize y.2.2.length = yl at *
      have hk1 : (0 : Int) ≤ (k : Int) := by omega
      have hk2 : (k : Int) < (len : Int) := by omega
      have hpw : pb < wr.heap.size := by omega
      have hqw : qb < wr.heap.size := by omega
      go_wp2_with fail
      refine (HC.out _ (((Below.refl _ _).alloc (Nat.le_refl _) _).alloc (by simp) _)).mono ?_
      rintro e w1 ⟨rfl, hb1⟩
      have hb2 : Below w.heap.size w w1 := (hb.trans ((((Below.refl _ _).alloc (Nat.le_refl _) _).alloc (by simp) _).mono hb.size)).trans (hb1.mono (by have := hb.size; simp; omega))
      clear hb1
      cases r with
      | true =>
        go_wp2_with fail
        go_roundw
        case rel => exact ⟨k + 1, by omega, by go_num, hb2, by rw [← hd.out, HS.out]; rfl⟩
        case measure => simp [intOf]; omega
      | false =>
        go_wp2_with fail
        go_ret
        exact ⟨ret_same (by rw [← hd.out, HS.out]; rfl), hb2⟩
    · go_wp2_with fail
      go_ret
      refine ⟨ret_same ?_, hb⟩
      rw [← hd.out, List.drop_eq_nil_of_le (by rw [hpl.out]; omega), List.drop_eq_nil_of_le (by rw [hql.out]; omega)]
      rfl

theorem sameTerms_any (n m : Nat) (ih : FSame n) (p : List (Tm n)) (q : List (Tm m)) (a c : Option Addr) (pc qc : Nat) (B : Nat) (w : World)
    (hp : p = [] ∨ ∃ b o, a = some ⟨b, o, none⟩ ∧ b < B ∧ ∀ (i : Nat) (y : Tm n), p[i]? = some y → Held w b (o + i * 4) n y ∧ In B w n y)
    (hq : q = [] ∨ ∃ b o, c = some ⟨b, o, none⟩ ∧ b < B ∧ ∀ (i : Nat) (y : Tm m), q[i]? = some y → Held w b (o + i * 4) m y ∧ In B w m y)
    (hpl : p.length ≤ 9223372036854775807) (hql : q.length ≤ 9223372036854775807) (hB : B ≤ w.heap.size) :
    Calls Try.prog 33 #[.slice a p.length pc, .slice c q.length qc] w fun e w' => e = .returned (.bool (sameL (fun a b => same n a m b) p q)) ∧ Below w.heap.size w w' := by
  have HE : Hid (Calls Try.prog 69 #[.slice a p.length pc, .slice c q.length qc, .func (Fn.func 14) #[] #[]] w fun e w' =>
      e = .returned (.bool (sameL (fun a b => same n a m b) p q)) ∧ Below w.heap.size w w') := by
    by_cases hl : p.length = q.length
    · rcases hp with hp | ⟨pb, po, rfl, hpb, hp⟩
      · subst hp
        have hq0 : q = [] := List.eq_nil_of_length_eq_zero hl.symm
        subst hq0
        refine (equal_nil a c pc qc w).mono ?_
        rintro e w' ⟨rfl, rfl⟩
        exact ⟨rfl, Below.refl _ _⟩
      · rcases hq with hq | ⟨qb, qo, rfl, hqb, hq⟩
        · subst hq
          have hp0 : p = [] := List.eq_nil_of_length_eq_zero hl
          subst hp0
          refine (equal_nil _ c pc qc w).mono ?_
          rintro e w' ⟨rfl, rfl⟩
          exact ⟨rfl, Below.refl _ _⟩
        · have h := equal_eq n m ih p q p.length rfl hl.symm pb po qb qo pc qc B w (by omega) hpb hqb hp hq hB
          rw [hl] at h
          rw [hl]
          exact h
    · rw [sameL_ne _ _ _ hl]
      refine (equal_ne p.length q.length a c pc qc w hpl hql (by simp; omega)).mono ?_
      rintro e w' ⟨rfl, rfl⟩
      exact ⟨rfl, Below.refl _ _⟩
  clear hp hq ih hpl hql hB
  generalize p.length = pl at *
  generalize q.length = ql at *
  generalize sameL (fun a b => same n a m b) p q = r at *
  go_enter Try.func33, Try.ntmps33
  go_wp2_with fail
  refine HE.out.mono ?_
  rintro e w1 ⟨rfl, hb1⟩
  go_wp2_with fail
  go_ret
  exact ⟨rfl, hb1⟩

set_option maxHeartbeats 400000 in
theorem same_walk (w : World) (k k' u u' : Int) (s s' : ByteArray) (a a' : Option Addr) (l l' c c' : Nat) (r : Bool)
    (H : Hid (∀ w1 : World, Below w.heap.size w w1 → Calls Try.prog 33 #[.slice a l c, .slice a' l' c'] w1 fun e w' => e = .returned (.bool r) ∧ Below w1.heap.size w1 w')) :
    Calls Try.prog 14 #[.agg #[.int .i64 k, .int .i64 u, .string s, .slice a l c], .agg #[.int .i64 k', .int .i64 u', .string s', .slice a' l' c']] w fun e w' => e = .returned (.bool (k == k' && u == u' && s.toList == s'.toList && r)) ∧ Below w.heap.size w w' := by
  cases h1 : k == k'
  · go_enter Try.func14, Try.ntmps14
    go_wp2_with fail
    go_ret
    exact ⟨rfl, ((Below.refl _ _).alloc (Nat.le_refl _) _).alloc (by simp) _⟩
  cases h2 : u == u'
  · go_enter Try.func14, Try.ntmps14
    go_wp2_with fail
    go_ret
    exact ⟨rfl, ((Below.refl _ _).alloc (Nat.le_refl _) _).alloc (by simp) _⟩
  cases h3 : s.toList == s'.toList
  · go_enter Try.func14, Try.ntmps14
    go_wp2_with fail
    go_ret
    exact ⟨rfl, ((Below.refl _ _).alloc (Nat.le_refl _) _).alloc (by simp) _⟩
  go_enter Try.func14, Try.ntmps14
  go_wp2_with fail
  refine (H.out _ (((Below.refl _ _).alloc (Nat.le_refl _) _).alloc (by simp) _)).mono ?_
  rintro e w1 ⟨rfl, hb1⟩
  go_wp2_with fail
  all_goals go_ret
  all_goals exact ⟨rfl, (((Below.refl _ _).alloc (Nat.le_refl _) _).alloc (by simp) _).trans (hb1.mono (by simp; omega))⟩

theorem same_any (n : Nat) : FSame n := by
  induction n with
  | zero => intro x m y B w hx; exact hx.elim
  | succ n ih =>
    intro x m y B w hx hy hB
    cases m with
    | zero => exact hy.elim
    | succ m =>
    obtain ⟨⟨k, u, s⟩, ⟨a, pc⟩, p⟩ := x
    obtain ⟨⟨k', u', s'⟩, ⟨a', qc⟩, q⟩ := y
    obtain ⟨⟨_, _, _, hpl, hpc⟩, hp⟩ := hx
    obtain ⟨⟨_, _, _, hql, hqc⟩, hq⟩ := hy
    simp only at hpl hpc hp hql hqc hq
    unfold maxLen at hpc hqc
    refine same_walk w k k' u u' s s' a a' p.length q.length pc qc _ (fun w1 hw => sameTerms_any n m ih p q a a' pc qc B w1 ?_ ?_ (by omega) (by omega) (Nat.le_trans hB hw.size))
    · rcases hp with hp | ⟨b, o, e, hb, hp⟩
      · exact Or.inl hp
      · exact Or.inr ⟨b, o, e, hb, fun i y hy => ⟨(hp i y hy).1.below (hw.mono hB) hb, (hp i y hy).2.below (hw.mono hB)⟩⟩
    · rcases hq with hq | ⟨b, o, e, hb, hq⟩
      · exact Or.inl hq
      · exact Or.inr ⟨b, o, e, hb, fun i y hy => ⟨(hq i y hy).1.below (hw.mono hB) hb, (hq i y hy).2.below (hw.mono hB)⟩⟩
end Go.Proofs.Ytpehdgbdinjbaaa
