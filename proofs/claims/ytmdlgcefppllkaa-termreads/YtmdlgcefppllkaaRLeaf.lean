/- What is proved here: the document's leaf: which word is a term, and which. No memory that was there turns. Condition: the word is none of no signs. -/
import Derived.Test.YtmdlgcefppllkaaLeaf
namespace Go.Proofs.Ytmdlgcefppllkaa
open Go.RowKit

set_option maxHeartbeats 2000000 in
theorem leaf_any (s : ByteArray) (w : World) (hs : s.size ≤ 2048) (h0 : 0 < s.size) :
    Calls Try.prog 37 #[.string s] w fun e w' => LeafOut s e ∧ Below w.heap.size w w' := by
  have ht := tail1_size s
  have HH := hide (head_at s h0)
  have h01 : (1 : Int) ≤ s.size := by omega
  by_cases c2 : s[0] = 35
  · have HL : Hid (leafB s = isNum (tail1 s) 2 ∧ leafV s = (3, numV (tail1 s).data.toList, ⟨#[]⟩)) := by
      simp [Hid, leafB, leafV, HH.out, c2]
    go_enter Try.func37, Try.ntmps37
    go_wp2_with (go_at_call 59; refine (digits_any (tail1 s) 2 _ (by omega) (by omega)).mono ?_; rintro e w' ⟨⟨v, rfl, HV⟩, rfl⟩; obtain ⟨v1, v2⟩ := (⟨HV.out.2.1, HV.out.2.2.1⟩ : -1 ≤ v ∧ v < 100000000000000))
    exact bodyPost_ret (v := .tuple #[agg4 3 v ⟨#[]⟩, .bool (decide (0 ≤ v))]) (by simp [results, Try.results37, go_sem, agg4]) rfl ⟨⟨3, v, ⟨#[]⟩, _, rfl, by rw [HL.out.1, HV.out.1], fun h => by rw [HL.out.2, HV.out.2.2.2 (by rw [← HV.out.1, h])], Nat.zero_le _, i64_small (by omega) (by omega), i64_small (by omega) (by omega)⟩, by go_grown⟩
  · have d2 := byte_ne (k := 35) (d := 35) rfl c2
    by_cases c3 : s[0] = 36
    · have HL : Hid (leafB s = isNum (tail1 s) 2 ∧ leafV s = (5, numV (tail1 s).data.toList, ⟨#[]⟩)) := by
        simp [Hid, leafB, leafV, HH.out, c3]
      go_enter Try.func37, Try.ntmps37
      go_wp2_with (go_at_call 59; refine (digits_any (tail1 s) 2 _ (by omega) (by omega)).mono ?_; rintro e w' ⟨⟨v, rfl, HV⟩, rfl⟩; obtain ⟨v1, v2⟩ := (⟨HV.out.2.1, HV.out.2.2.1⟩ : -1 ≤ v ∧ v < 100000000000000))
      exact bodyPost_ret (v := .tuple #[agg4 5 v ⟨#[]⟩, .bool (decide (0 ≤ v))]) (by simp [results, Try.results37, go_sem, agg4]) rfl ⟨⟨5, v, ⟨#[]⟩, _, rfl, by rw [HL.out.1, HV.out.1], fun h => by rw [HL.out.2, HV.out.2.2.2 (by rw [← HV.out.1, h])], Nat.zero_le _, i64_small (by omega) (by omega), i64_small (by omega) (by omega)⟩, by go_grown⟩
    · have d3 := byte_ne (k := 36) (d := 36) rfl c3
      by_cases c4 : s[0] = 45
      · have HL : Hid (leafB s = (isNum (tail1 s) 13 && !(numV (tail1 s).data.toList == 0)) ∧ leafV s = (1, - numV (tail1 s).data.toList, ⟨#[]⟩)) := by
          simp [Hid, leafB, leafV, HH.out, c4]
        go_enter Try.func37, Try.ntmps37
        go_wp2_with (go_at_call 59; refine (digits_any (tail1 s) 13 _ (by omega) (by omega)).mono ?_; rintro e w' ⟨⟨v, rfl, HV⟩, rfl⟩; obtain ⟨v1, v2⟩ := (⟨HV.out.2.1, HV.out.2.2.1⟩ : -1 ≤ v ∧ v < 100000000000000))
        have HP : Hid (decide (0 < v) = leafB s ∧ (decide (0 < v) = true → v = numV (tail1 s).data.toList)) := by
          have h1 := HV.out.1
          have h2 := HV.out.2.2.2
          cases hn : isNum (tail1 s) 13
          · rw [hn] at h1
            simp at h1
            exact ⟨by rw [HL.out.1, hn]; simp; omega, by simp; omega⟩
          · rw [hn] at h1
            simp at h1
            refine ⟨?_, fun _ => h2 hn⟩
            rw [HL.out.1, hn, ← h2 hn]
            by_cases hv : v = 0
            · subst hv; rfl
            · have h3 : 0 < v := by omega
              simp [hv, h3]
        exact bodyPost_ret (v := .tuple #[agg4 1 (-v) ⟨#[]⟩, .bool (decide (0 < v))]) (by simp [results, Try.results37, go_sem, agg4]) rfl ⟨⟨1, -v, ⟨#[]⟩, _, rfl, HP.out.1, fun h => by rw [HL.out.2, ← HP.out.2 h], Nat.zero_le _, i64_small (by omega) (by omega), i64_small (by omega) (by omega)⟩, by go_grown⟩
      · have d4 := byte_ne (k := 45) (d := 45) rfl c4
        by_cases c5 : (s.toList == [95]) = true
        · have HL : Hid (leafB s = true ∧ leafV s = (6, 0, ⟨#[]⟩)) := by
            simp only [Hid, leafB, leafV, HH.out, c5]
            simp [c2, c3, c4]
          go_enter Try.func37, Try.ntmps37
          go_wp2_with fail
          exact bodyPost_ret (v := .tuple #[agg4 6 0 ⟨#[]⟩, .bool true]) (by simp [results, Try.results37, go_sem, agg4]) rfl ⟨⟨6, 0, ⟨#[]⟩, _, rfl, HL.out.1.symm, fun _ => HL.out.2.symm, Nat.zero_le _, i64_small (by omega) (by omega), i64_small (by omega) (by omega)⟩, by go_grown⟩
        · have c6 : (s.toList == [95]) = false := by simpa using c5
          have HL : Hid (leafB s = (isNum s 13 || lowsB s.data.toList) ∧ (leafV s = if isNum s 13 = true then (1, numV s.data.toList, ⟨#[]⟩) else (2, 0, s))) := by
            simp only [Hid, leafB, leafV, HH.out, c6]
            simp [c2, c3, c4]
            cases isNum s 13 <;> simp [h0]
          clear c5
          go_enter Try.func37, Try.ntmps37
          go_wp2_with fail
          refine (digits_any s 13 _ (by omega) (by omega)).mono ?_
          rintro e w' ⟨⟨v, rfl, HV⟩, rfl⟩
          by_cases hv : 0 ≤ v
          · have HN : Hid (isNum s 13 = true) := hide (by have := HV.out.1; simpa [hv] using this.symm)
            have HR : Hid (v = numV s.data.toList ∧ v < 100000000000000) := ⟨HV.out.2.2.2 HN.out, HV.out.2.2.1⟩
            go_wp2_with fail
            exact bodyPost_ret (v := .tuple #[agg4 1 v ⟨#[]⟩, .bool true]) (by simp [results, Try.results37, go_sem, agg4]) rfl ⟨⟨1, v, ⟨#[]⟩, _, rfl, by rw [HL.out.1, HN.out]; rfl, fun _ => by rw [HL.out.2, HN.out, HR.out.1]; rfl, Nat.zero_le _, i64_small (by omega) (by omega), i64_small (by omega) (by have := HR.out.2; omega)⟩, by go_grown⟩
          · have HN : Hid (isNum s 13 = false) := hide (by have := HV.out.1; simpa [hv] using this.symm)
            replace hv : v < 0 := by omega
            go_wp2_with fail
            go_loopw [5] (fun i wr => ∃ k : Nat, k ≤ s.size ∧ i = .int .i64 k ∧ wr = w.alloc (.cells #[.int .i64 0, .int .i64 0, .string ⟨#[]⟩, .slice none 0 0] 24) ∧ Hid (lowsB (s.data.toList.take k) = true)) (fun i _ => s.size - (intOf i).toNat)
            case atStart => exact ⟨0, Nat.zero_le _, rfl, rfl, by simp [Hid, lowsB]⟩
            case round =>
              obtain ⟨k, hk, rfl, rfl, hb⟩ := hrel
              by_cases hlt : k < s.size
              · have HS := hide (lowsB_snoc s k hlt)
                have HX : Hid (lowB s[k] = false → leafB s = false) := fun h => by
                  have h2 : lowsB s.data.toList = (lowsB (s.data.toList.take (k + 1)) && lowsB (s.data.toList.drop (k + 1))) := by
                    conv => lhs; rw [← List.take_append_drop (k + 1) s.data.toList]
                    simp only [lowsB, List.all_append]
                  rw [HL.out.1, HN.out, h2, HS.out, h]
                  simp
                by_cases h1 : 97 ≤ (s[k].toNat : Int)
                · by_cases h2 : (s[k].toNat : Int) ≤ 122
                  · go_wp2_with fail
                    go_roundw
                    case rel => exact ⟨k + 1, by omega, by go_num, trivial, by simp only [Hid]; rw [HS.out, hb.out]; simp [lowB, h1, h2]⟩
                    case measure => simp [intOf]; omega
                  · have HY := hide (HX.out (by simp [lowB, h2]))
                    go_wp2_with fail
                    exact bodyPost_ret (v := .tuple #[agg4 0 0 ⟨#[]⟩, .bool false]) (by simp [results, Try.results37, go_sem, agg4]) rfl ⟨⟨0, 0, ⟨#[]⟩, _, rfl, HY.out.symm, by simp, Nat.zero_le _, i64_small (by omega) (by omega), i64_small (by omega) (by omega)⟩, by go_grown⟩
                · have HY := hide (HX.out (by simp [lowB]; omega))
                  go_wp2_with fail
                  exact bodyPost_ret (v := .tuple #[agg4 0 0 ⟨#[]⟩, .bool false]) (by simp [results, Try.results37, go_sem, agg4]) rfl ⟨⟨0, 0, ⟨#[]⟩, _, rfl, HY.out.symm, by simp, Nat.zero_le _, i64_small (by omega) (by omega), i64_small (by omega) (by omega)⟩, by go_grown⟩
              · have HY : Hid (lowsB s.data.toList = true) := by
                  have := hb.out
                  rw [List.take_of_length_le (by simp; omega)] at this
                  exact this
                go_wp2_with fail
                exact bodyPost_ret (v := .tuple #[agg4 2 0 s, .bool true]) (by simp [results, Try.results37, go_sem, agg4]) rfl ⟨⟨2, 0, s, _, rfl, by rw [HL.out.1, HY.out]; simp, fun _ => by rw [HL.out.2, HN.out]; rfl, Nat.le_refl _, i64_small (by omega) (by omega), i64_small (by omega) (by omega)⟩, by go_grown⟩
end Go.Proofs.Ytmdlgcefppllkaa
