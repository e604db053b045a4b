/- What is proved here: the document's words of a text: for every text of at most 2048 signs: its words, and where they begin, in two new slices. Only new memory turns. -/
import Derived.Test.YtmdlgcefppllkaaWds0
namespace Go.Proofs.Ytmdlgcefppllkaa
open Go.RowKit

theorem one_new (w : World) (v : Value) (e : TypeId) : ∀ (j : Nat) (u : Value), [v][j]? = some u → (w.alloc (.cells #[v] e)).cell? ((⟨w.heap.size, 0, none⟩ : Addr).add j) = some u := by
  intro j u h
  rw [add_none]
  rw [World.cell?_alloc_at _ _ _ _ rfl]
  simpa using h
theorem one_str (t : ByteArray) : ∀ v ∈ [Value.string t], v.oneCell' = true := by simp [Value.oneCell']
theorem one_int (k : Int) : ∀ v ∈ [Value.int .i64 k], v.oneCell' = true := by simp [Value.oneCell']

/-- What a round begins with. -/
def WdsQ (s : ByteArray) (w : World) (k : Nat) (o : Bool) (dn : List Tok) (L : Nat) (v1 v2 : Value) (wr : World) : Prop := dn.length = L ∧ WdsP s w k o dn v1 v2 wr
theorem WdsQ.shut {s : ByteArray} {w : World} {k : Nat} {o : Bool} {dn : List Tok} {L : Nat} {v1 v2 : Value} {wr : World} (h : WdsQ s w k o dn L v1 v2 wr) (he : ∀ h : k < s.size, enB s[k] = true) : WdsQ s w k false dn L v1 v2 wr :=
  ⟨h.1, wp_shut h.2.1 he, h.2.2⟩

theorem WdsQ.own1 {s : ByteArray} {w : World} {k : Nat} {o : Bool} {dn : List Tok} {L : Nat} {v1 v2 : Value} {wr : World} (h : WdsQ s w k o dn L v1 v2 wr) (o1 : Obj) : (wr.alloc o1).ownsRow w.heap.size 9 1 v1 L (strs dn) := by
  obtain ⟨rfl, h⟩ := h
  exact h.2.2.2.1.alloc o1
theorem WdsQ.own2 {s : ByteArray} {w w2 : World} {k : Nat} {o : Bool} {dn : List Tok} {L : Nat} {v1 v2 : Value} {wr : World} (h : WdsQ s w k o dn L v1 v2 wr) {o1 : Obj} (g2 : (wr.alloc o1).grownBy w2 v1.ownBlock) (o2 : Obj) : (w2.alloc o2).ownsRow w.heap.size 3 1 v2 L (poss dn) := by
  obtain ⟨rfl, h⟩ := h
  exact wds_mid h g2
theorem WdsQ.fin {s : ByteArray} {w wr w2 w4 : World} {k : Nat} {o o' : Bool} {dn : List Tok} {L : Nat} {v1 v2 : Value} (h : WdsQ s w k o dn L v1 v2 wr) {o1 o2 : Obj} (g2 : (wr.alloc o1).grownBy w2 v1.ownBlock) (t : Tok) (hw : WP s (k + 1) o' (dn ++ [t]))
    {g c g' c' : Nat} (h1 : w2.ownsRow w.heap.size 9 1 (.slice (some ⟨g, 0, none⟩) (L + 1) c) (L + 1) (strs dn ++ [.string t.2])) (a1 : v1.ownBlock = some g ∨ g = wr.heap.size + 1)
    (g4 : (w2.alloc o2).grownBy w4 v2.ownBlock) (h2 : w4.ownsRow w.heap.size 3 1 (.slice (some ⟨g', 0, none⟩) (L + 1) c') (L + 1) (poss dn ++ [.int .i64 t.1])) (a2 : v2.ownBlock = some g' ∨ g' = w2.heap.size + 1) :
    WdsQ s w (k + 1) o' (dn ++ [t]) (L + 1) (.slice (some ⟨g, 0, none⟩) (L + 1) c) (.slice (some ⟨g', 0, none⟩) (L + 1) c') w4 := by
  obtain ⟨rfl, h⟩ := h
  exact wds_end h g2 t hw h1 a1 g4 h2 a2
theorem WdsQ.len {s : ByteArray} {w : World} {k : Nat} {o : Bool} {dn : List Tok} {L : Nat} {v1 v2 : Value} {wr : World} (h : WdsQ s w k o dn L v1 v2 wr) : L ≤ k := by
  obtain ⟨rfl, h⟩ := h
  exact h.2.1
theorem WdsQ.size {s : ByteArray} {w : World} {k : Nat} {o : Bool} {dn : List Tok} {L : Nat} {v1 v2 : Value} {wr : World} (h : WdsQ s w k o dn L v1 v2 wr) : w.heap.size ≤ wr.heap.size := h.2.2.2.1.size

theorem byte_bool {c : UInt8} {k : Int} (h : ¬ (c.toNat : Int) = k) : ((c.toNat : Int) == k) = false := by simpa using h
set_option maxHeartbeats 2000000 in
theorem words_any (s : ByteArray) (w : World) (hs : s.size ≤ 2048) :
    Calls Try.prog 36 #[.string s] w fun e w' => ∃ a1 a2 L c1 c2, e = .returned (.tuple #[.slice a1 L c1, .slice a2 L c2]) ∧
      Hid (L = (toks s 0).length ∧ Below w.heap.size w w' ∧ w'.ownsRow w.heap.size 9 1 (.slice a1 L c1) L (strs (toks s 0)) ∧ w'.ownsRow w.heap.size 3 1 (.slice a2 L c2) L (poss (toks s 0))) := by
  obtain ⟨it, hit, htz0, htz1, htz2⟩ := info_parts infoStr
  obtain ⟨ii, hii, hiz0, hiz1, hiz2⟩ := info_parts infoInt
  have HT := hide (⟨hit, htz0, htz1, htz2⟩ : _ ∧ _ ∧ _ ∧ _)
  have HI := hide (⟨hii, hiz0, hiz1, hiz2⟩ : _ ∧ _ ∧ _ ∧ _)
  clear hit htz0 htz1 htz2 hii hiz0 hiz1 hiz2
  go_enter Try.func36, Try.ntmps36
  go_wp2_with fail
  go_loopw [4, 5, 6, 7] (fun v4 v5 op i wr => ∃ (k : Nat) (o : Bool) (dn : List Tok) (a1 a2 : Option Addr) (L c1 c2 : Nat), k ≤ s.size ∧ i = .int .i64 k ∧ op = .bool o ∧ v4 = .slice a1 L c1 ∧ v5 = .slice a2 L c2 ∧ L ≤ 2048 ∧ Hid (WdsQ s w k o dn L (.slice a1 L c1) (.slice a2 L c2) wr)) (fun _ _ _ i _ => s.size - (intOf i).toNat)
  case atStart => exact ⟨0, false, [], none, none, 0, 0, 0, Nat.zero_le _, rfl, rfl, rfl, rfl, Nat.zero_le _, rfl, wp_start s, Nat.zero_le _, Below.refl _ _, World.ownsRow_nil _ _ _ _, World.ownsRow_nil _ _ _ _, by simp [Value.ownBlock]⟩
  case round =>
    obtain ⟨k, o, dn, a1, a2, L, c1, c2, hk, rfl, rfl, rfl, rfl, hL, HQ⟩ := hrel
    by_cases hlt : k < s.size
    · have hk0 : (0 : Int) ≤ (k : Int) := by omega
      have hk1 : (k : Int) < (s.size : Int) := by omega
      have hk2 : (k : Int) ≤ (k : Int) + 1 := by omega
      have hk3 : (k : Int) + 1 ≤ (s.size : Int) := by omega
      by_cases h1 : s[k] = 32
      · have HE := hide (HQ.out.shut fun _ => by simp [enB, h1])
        go_wp2_with fail
        go_roundw
        case rel => exact ⟨k + 1, false, dn, a1, a2, L, c1, c2, by omega, by go_num, rfl, rfl, rfl, hL, HE.out.1, wp_blank HE.out.2.1 hlt h1, Nat.le_succ_of_le HE.out.2.2.1, HE.out.2.2.2⟩
        case measure => simp [intOf]; omega
      · have d1 := byte_ne (k := 32) (d := 32) rfl h1
        by_cases h2 : s[k] = 40
        · have HE := hide (HQ.out.shut fun _ => by simp [enB, h2])
          go_wp2_with (first
            | (at_builtin; refine wpList_append_lies _ rfl _ _ 73 rfl w.heap.size 9 it _ 1 16 Try.underlying73 HT.out.1 HT.out.2.1 HT.out.2.2.1 HT.out.2.2.2 rfl (by decide) _ L _ rfl (HE.out.own1 _) ⟨wr.heap.size, 0, none⟩ 1 1 [.string (s.extract k (k + 1))] rfl rfl (one_new _ _ _) (one_str _) (by decide) (by unfold maxLen; omega) (by omega) (by have := HE.out.size; simp; omega) (wr.heap.size + 1) (by simp) ?_; intro g1 e1 w2 hown1 hgrow1 hat1 hlt1; have H1 := hide (⟨hown1, hgrow1, hat1⟩ : _ ∧ _ ∧ _); clear hown1 hgrow1 hat1 hlt1)
            | (at_builtin; refine wpList_append_lies _ rfl _ _ 39 rfl w.heap.size 3 ii _ 1 8 Try.underlying39 HI.out.1 HI.out.2.1 HI.out.2.2.1 HI.out.2.2.2 rfl (by decide) _ L _ rfl (HE.out.own2 H1.out.2.1 _) ⟨w2.heap.size, 0, none⟩ 1 1 [.int .i64 k] rfl rfl (one_new _ _ _) (one_int _) (by decide) (by unfold maxLen; omega) (by omega) (by have := HE.out.size; have := H1.out.2.1.size; simp at this ⊢; omega) (w2.heap.size + 1) (by simp) ?_; intro g2 e2 w4 hown2 hgrow2 hat2 hlt2; have H2 := hide (⟨hown2, hgrow2, hat2⟩ : _ ∧ _ ∧ _); clear hown2 hgrow2 hat2 hlt2))
          have HF := hide (HE.out.fin H1.out.2.1 (k, s.extract k (k + 1)) (wp_bracket HE.out.2.1 hlt (Or.inl h2)) H1.out.1 H1.out.2.2 H2.out.2.1 H2.out.1 H2.out.2.2)
          go_roundw
          case rel => exact ⟨k + 1, false, _, _, _, L + 1, _, _, by omega, by go_num, rfl, rfl, rfl, by have := HF.out.len; omega, HF.out⟩
          case measure => simp [intOf]; omega
        · have d2 := byte_ne (k := 40) (d := 40) rfl h2
          by_cases h3 : s[k] = 41
          · have HE := hide (HQ.out.shut fun _ => by simp [enB, h3])
            go_wp2_with (first
              | (at_builtin; refine wpList_append_lies _ rfl _ _ 73 rfl w.heap.size 9 it _ 1 16 Try.underlying73 HT.out.1 HT.out.2.1 HT.out.2.2.1 HT.out.2.2.2 rfl (by decide) _ L _ rfl (HE.out.own1 _) ⟨wr.heap.size, 0, none⟩ 1 1 [.string (s.extract k (k + 1))] rfl rfl (one_new _ _ _) (one_str _) (by decide) (by unfold maxLen; omega) (by omega) (by have := HE.out.size; simp; omega) (wr.heap.size + 1) (by simp) ?_; intro g1 e1 w2 hown1 hgrow1 hat1 hlt1; have H1 := hide (⟨hown1, hgrow1, hat1⟩ : _ ∧ _ ∧ _); clear hown1 hgrow1 hat1 hlt1)
              | (at_builtin; refine wpList_append_lies _ rfl _ _ 39 rfl w.heap.size 3 ii _ 1 8 Try.underlying39 HI.out.1 HI.out.2.1 HI.out.2.2.1 HI.out.2.2.2 rfl (by decide) _ L _ rfl (HE.out.own2 H1.out.2.1 _) ⟨w2.heap.size, 0, none⟩ 1 1 [.int .i64 k] rfl rfl (one_new _ _ _) (one_int _) (by decide) (by unfold maxLen; omega) (by omega) (by have := HE.out.size; have := H1.out.2.1.size; simp at this ⊢; omega) (w2.heap.size + 1) (by simp) ?_; intro g2 e2 w4 hown2 hgrow2 hat2 hlt2; have H2 := hide (⟨hown2, hgrow2, hat2⟩ : _ ∧ _ ∧ _); clear hown2 hgrow2 hat2 hlt2))
            have HF := hide (HE.out.fin H1.out.2.1 (k, s.extract k (k + 1)) (wp_bracket HE.out.2.1 hlt (Or.inr h3)) H1.out.1 H1.out.2.2 H2.out.2.1 H2.out.1 H2.out.2.2)
            go_roundw
            case rel => exact ⟨k + 1, false, _, _, _, L + 1, _, _, by omega, by go_num, rfl, rfl, rfl, by have := HF.out.len; omega, HF.out⟩
            case measure => simp [intOf]; omega
          · have d3 := byte_ne (k := 41) (d := 41) rfl h3
            have b1 : ((s[k].toNat : Int) == 32) = false := byte_bool (by omega)
            have b2 : ((s[k].toNat : Int) == 40) = false := byte_bool (by omega)
            have b3 : ((s[k].toNat : Int) == 41) = false := byte_bool (by omega)
            have HB : Hid (enB s[k] = false) := by simp [Hid, enB, h1, h2, h3]
            cases o with
            | false =>
              have HE := hide HQ.out
              go_wp2_with (first
                | (at_builtin; refine wpList_append_lies _ rfl _ _ 73 rfl w.heap.size 9 it _ 1 16 Try.underlying73 HT.out.1 HT.out.2.1 HT.out.2.2.1 HT.out.2.2.2 rfl (by decide) _ L _ rfl (HE.out.own1 _) ⟨wr.heap.size, 0, none⟩ 1 1 [.string (s.extract k (k + 1))] rfl rfl (one_new _ _ _) (one_str _) (by decide) (by unfold maxLen; omega) (by omega) (by have := HE.out.size; simp; omega) (wr.heap.size + 1) (by simp) ?_; intro g1 e1 w2 hown1 hgrow1 hat1 hlt1; have H1 := hide (⟨hown1, hgrow1, hat1⟩ : _ ∧ _ ∧ _); clear hown1 hgrow1 hat1 hlt1)
                | (at_builtin; refine wpList_append_lies _ rfl _ _ 39 rfl w.heap.size 3 ii _ 1 8 Try.underlying39 HI.out.1 HI.out.2.1 HI.out.2.2.1 HI.out.2.2.2 rfl (by decide) _ L _ rfl (HE.out.own2 H1.out.2.1 _) ⟨w2.heap.size, 0, none⟩ 1 1 [.int .i64 k] rfl rfl (one_new _ _ _) (one_int _) (by decide) (by unfold maxLen; omega) (by omega) (by have := HE.out.size; have := H1.out.2.1.size; simp at this ⊢; omega) (w2.heap.size + 1) (by simp) ?_; intro g2 e2 w4 hown2 hgrow2 hat2 hlt2; have H2 := hide (⟨hown2, hgrow2, hat2⟩ : _ ∧ _ ∧ _); clear hown2 hgrow2 hat2 hlt2))
              have HF := hide (HE.out.fin H1.out.2.1 (k, s.extract k (k + 1)) (wp_new HE.out.2.1 hlt HB.out) H1.out.1 H1.out.2.2 H2.out.2.1 H2.out.1 H2.out.2.2)
              go_roundw
              case rel => exact ⟨k + 1, true, _, _, _, L + 1, _, _, by omega, by go_num, rfl, rfl, rfl, by have := HF.out.len; omega, HF.out⟩
              case measure => simp [intOf]; omega
            | true =>
              obtain ⟨b, d, x, rfl, hx0, hw⟩ := wp_more HQ.out.2.1 hlt HB.out
              have hxs : x.size ≤ 2048 := by omega
              have hys : (s.extract k (k + 1)).size ≤ 2048 := by simp; omega
              replace hw := hide hw
              have hLd : L = d.length + 1 := by have := HQ.out.1; simp at this; omega
              subst hLd
              obtain ⟨g, rfl⟩ : ∃ g, a1 = some ⟨g, 0, none⟩ := by
                rcases HQ.out.2.2.2.2.1.2 with ⟨_, h⟩ | ⟨g, cap, cur, h, _⟩
                · simp at h
                · injection h with h; exact ⟨g, h⟩
              obtain ⟨c0, f0⟩ := wds_cell HQ.out.2 HQ.out.1
              go_wp2_with fail
              go_region
              have HF : Hid (WdsQ s w (k + 1) true (d ++ [(b, x ++ s.extract k (k + 1))]) (d.length + 1) (.slice (some ⟨g, 0, none⟩) (d.length + 1) c1) (.slice a2 (d.length + 1) c2) (wr.setCell ⟨g, d.length, none⟩ (.string (x ++ s.extract k (k + 1)))).drew) := wds_more HQ.out.2 HQ.out.1 hw.out 1
              go_wp2_with fail
              go_roundw
              case rel => exact ⟨k + 1, true, _, _, _, d.length + 1, _, _, by omega, by go_num, rfl, rfl, rfl, by omega, HF.out⟩
              case measure => simp [intOf]; omega
    · have HE := hide (HQ.out.shut fun h => absurd h hlt)
      go_wp2_with fail
      go_ret2
      have e1 := wp_end HE.out.2.1 hlt
      obtain ⟨e2, e3⟩ := HE.out
      refine ⟨a1, a2, L, c1, c2, rfl, by rw [← e1, e2], e3.2.2.1, ?_, ?_⟩
      · have := e3.2.2.2.1
        rw [e1, ← e1, e2] at this
        rw [← e1]
        exact this
      · have := e3.2.2.2.2.1
        rw [e2] at this
        rw [← e1]
        exact this
end Go.Proofs.Ytmdlgcefppllkaa
