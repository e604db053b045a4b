/- What is proved here: plain facts and contracts that the claimed theorem stands on, several texts in one: plain facts for the document's term out of words (built): what holds at its loop, and that a round keeps it. No condition. the document's leaf: which word is a term, and which. No memory that was there turns. Condition: the word is none of no signs. the document's term out of words (built): for every row of at most 2048 words that can go on: the term that it begins with, and where it ends. Only new memory turns. plain facts for the document's Read: where the words can't go on, word by word (St), and that no word of a text is empty. No condition. -/
import Derived.Test.YtpehdgbdinjbaaaG08
import Derived.Test.YtpehdgbdinjbaaaG06
namespace Go.Proofs.Ytpehdgbdinjbaaa
open Go.RowKit

/-- The words lie in a block. -/
def Ws (T : List Tok) (g : Nat) (w : World) : Prop := ∀ (j : Nat) (t : Tok), T[j]? = some t → w.cell? ⟨g, j, none⟩ = some (.string t.2)
theorem Ws.below {T : List Tok} {g B : Nat} {w w' : World} (h : Ws T g w) (b : Below B w w') (hg : g < B) : Ws T g w' := fun j t ht => (b.cell (p := ⟨g, j, none⟩) hg).trans (h j t ht)

def zeroO : Obj := .cells #[.int .i64 0, .int .i64 0, .string ⟨#[]⟩, .slice none 0 0] 24
/-- What holds at the loop: the terms l are told by the words from k + 1 to q. -/
def BuiQ (n : Nat) (T : List Tok) (L0 d k : Nat) (w : World) (q : Nat) (v : Value) (wr : World) (l : List (Tm (n + 1))) : Prop :=
  Below w.heap.size w wr ∧ RowOf (w.heap.size + 2) (n + 1) l v wr ∧ Bx w.heap.size (.int .i64 0) (.int .i64 0) (.string ⟨#[]⟩) (.slice none 0 0) wr ∧ Bx (w.heap.size + 1) (.int .i64 4) (.int .i64 0) (.string ⟨#[]⟩) v wr ∧
    IsL (Is (n + 1)) l (T.drop (k + 1)) (T.drop q) ∧ scanD L0 (T.drop q) (d + 1) = none ∧ k + 1 ≤ q ∧ q ≤ T.length

theorem drop_cons {T : List Tok} {k : Nat} {t : Tok} (h : T[k]? = some t) : T.drop k = t :: T.drop (k + 1) := by
  obtain ⟨h1, e⟩ := List.getElem?_eq_some_iff.1 h
  rw [List.drop_eq_getElem_cons h1, e]

theorem below_any {w w' : World} {q : Option Nat} (h : Below w.heap.size w w') : w.grownBy w' q := ⟨h.os, h.tape, h.output, h.size, fun k hk _ => h.block k hk⟩

theorem bui_start {n : Nat} {T : List Tok} {L0 d k : Nat} {w : World} (hk : k < T.length) (hs : scanD L0 (T.drop (k + 1)) (d + 1) = none) :
    BuiQ n T L0 d k w (k + 1) (.slice none 0 0) ((w.alloc (.cells #[.int .i64 0, .int .i64 0, .string ⟨#[]⟩, .slice none 0 0] 24)).alloc (.cells #[.int .i64 4, .int .i64 0, .string ⟨#[]⟩, .slice none 0 0] 24)) [] := by
  refine ⟨((Below.refl _ _).alloc (Nat.le_refl _) _).alloc (by simp) _, ⟨⟨rfl, Or.inl ⟨rfl, rfl⟩⟩, by simp⟩, (Bx.new w _ _ _ _).block (alloc_block _ _ (by simp)), ?_, rfl, hs, Nat.le_refl _, by omega⟩
  have := Bx.new (w.alloc (.cells #[.int .i64 0, .int .i64 0, .string ⟨#[]⟩, .slice none 0 0] 24)) (.int .i64 4) (.int .i64 0) (.string ⟨#[]⟩) (.slice none 0 0)
  have e2 : (w.alloc (.cells #[.int .i64 0, .int .i64 0, .string ⟨#[]⟩, .slice none 0 0] 24)).heap.size = w.heap.size + 1 := by simp
  rw [e2] at this
  exact this

/-- The loop's word. -/
theorem bui_word {n : Nat} {T : List Tok} {L0 d k q : Nat} {w wr : World} {v : Value} {l : List (Tm (n + 1))} (h : BuiQ n T L0 d k w q v wr l) : ∃ t, T[q]? = some t := by
  obtain ⟨h1, h2, h3, h4, h5, h6, h7, h8⟩ := h
  by_cases hq : q < T.length
  · exact ⟨_, List.getElem?_eq_getElem hq⟩
  · rw [List.drop_of_length_le (by omega)] at h6
    simp [scanD] at h6

/-- The boxes behind a call of itself. -/
theorem bui_boxes {n : Nat} {T : List Tok} {L0 d k q : Nat} {w wr w2 : World} {v : Value} {l : List (Tm (n + 1))} (h : BuiQ n T L0 d k w q v wr l)
    (b : Below (wr.alloc (.cells #[.int .i64 0, .int .i64 0, .string ⟨#[]⟩, .slice none 0 0] 24)).heap.size (wr.alloc (.cells #[.int .i64 0, .int .i64 0, .string ⟨#[]⟩, .slice none 0 0] 24)) w2) :
    Bx w.heap.size (.int .i64 0) (.int .i64 0) (.string ⟨#[]⟩) (.slice none 0 0) w2 ∧ Bx (w.heap.size + 1) (.int .i64 4) (.int .i64 0) (.string ⟨#[]⟩) v w2 ∧ Bx wr.heap.size (.int .i64 0) (.int .i64 0) (.string ⟨#[]⟩) (.slice none 0 0) w2 ∧ w.heap.size + 1 < wr.heap.size ∧ wr.heap.size < w2.heap.size := by
  obtain ⟨h1, h2, h3, h4, h5, h6, h7, h8⟩ := h
  have z3 := h3.lt
  have z4 := h4.lt
  have z := b.size
  simp at z
  exact ⟨(h3.block (alloc_block _ _ z3)).block (b.block _ (by simp; omega)), (h4.block (alloc_block _ _ z4)).block (b.block _ (by simp; omega)), (Bx.new wr _ _ _ _).block (b.block _ (by simp)), by omega, by omega⟩

theorem bui_grown {wr w2 : World} {o : Obj} (b : Below (wr.alloc o).heap.size (wr.alloc o) w2) (v0 v1 v2 v3 : Value) (q : Option Nat) :
    wr.grownBy ((((w2.setCell ⟨wr.heap.size, 0, none⟩ v0).setCell ⟨wr.heap.size, 1, none⟩ v1).setCell ⟨wr.heap.size, 2, none⟩ v2).setCell ⟨wr.heap.size, 3, none⟩ v3) q :=
  moved_new (moved_new (moved_new (moved_new (moved_trans (World.grownBy_alloc _ _ _) (below_any b)) (Nat.le_refl _) _ _) (Nat.le_refl _) _ _) (Nat.le_refl _) _ _) (Nat.le_refl _) _ _

/-- What the append of a round needs. -/
theorem bui_own {n : Nat} {T : List Tok} {L0 d k q : Nat} {w wr w2 : World} {a : Option Addr} {L c : Nat} {l : List (Tm (n + 1))} {o : Obj} (h : BuiQ n T L0 d k w q (.slice a L c) wr l) (b : Below (wr.alloc o).heap.size (wr.alloc o) w2) (v0 v1 v2 v3 : Value) (hT : T.length ≤ 2048) :
    l.length = L ∧ L ≤ 2048 ∧ ∀ o2, (((((w2.setCell ⟨wr.heap.size, 0, none⟩ v0).setCell ⟨wr.heap.size, 1, none⟩ v1).setCell ⟨wr.heap.size, 2, none⟩ v2).setCell ⟨wr.heap.size, 3, none⟩ v3).alloc o2).ownsRow (w.heap.size + 2) 24 4 (.slice a L c) L (ndCells (l.map (hdT (n + 1)))) := by
  obtain ⟨h1, h2, h3, h4, h5, h6, h7, h8⟩ := h
  obtain ⟨a', c', ev, _⟩ := h2.tup
  injection ev with _ e2 _
  have := isl_len l _ _ h5
  have h10 := (h2.kept (r := 0) (bui_grown b v0 v1 v2 v3 _) (by omega)).1
  rw [← e2] at h10
  exact ⟨e2.symm, by simp at this; omega, fun o2 => h10.alloc o2⟩

/-- A round's end: one more term stands. -/
theorem bui_round {n : Nat} {T : List Tok} {L0 d k q q' : Nat} {w wr w2 w3 : World} {a : Option Addr} {L c : Nat} {l : List (Tm (n + 1))} (h : BuiQ n T L0 d k w q (.slice a L c) wr l)
    (b : Below (wr.alloc (.cells #[.int .i64 0, .int .i64 0, .string ⟨#[]⟩, .slice none 0 0] 24)).heap.size (wr.alloc (.cells #[.int .i64 0, .int .i64 0, .string ⟨#[]⟩, .slice none 0 0] 24)) w2)
    {k1 u : Int} {t : ByteArray} {a1 : Option Addr} {l1 c1 : Nat} {x : Tm (n + 1)} (x1 : val (n + 1) x = (.agg #[.int .i64 k1, .int .i64 u, .string t, .slice a1 l1 c1])) (x2 : Is (n + 1) x (T.drop q) (T.drop q')) (x3 : In w2.heap.size w2 (n + 1) x)
    (x4 : Off (fun p => (wr.alloc (.cells #[.int .i64 0, .int .i64 0, .string ⟨#[]⟩, .slice none 0 0] 24)).heap.size ≤ p) (n + 1) x) (x5 : scanD L0 (T.drop q') (d + 1) = none) (x6 : q' ≤ T.length) (x7 : q < q') {o2 : Obj} {g c2 : Nat} (hL : l.length = L)
    (hown : w3.ownsRow (w.heap.size + 2) 24 4 (.slice (some ⟨g, 0, none⟩) (L + 1) c2) (L + 1) (ndCells (l.map (hdT (n + 1))) ++ [.int .i64 k1, .int .i64 u, .string t, .slice a1 l1 c1])) {v0 v1 v2 v3 : Value}
    (g2 : (((((w2.setCell ⟨wr.heap.size, 0, none⟩ v0).setCell ⟨wr.heap.size, 1, none⟩ v1).setCell ⟨wr.heap.size, 2, none⟩ v2).setCell ⟨wr.heap.size, 3, none⟩ v3).alloc o2).grownBy w3 (Value.slice a L c).ownBlock) (hg : (Value.slice a L c).ownBlock = some g ∨ g = w2.heap.size + 1) :
    Bx (w.heap.size + 1) (.int .i64 4) (.int .i64 0) (.string ⟨#[]⟩) (.slice a L c) w3 ∧
      BuiQ n T L0 d k w q' (.slice (some ⟨g, 0, none⟩) (L + 1) c2) (w3.setCell ⟨w.heap.size + 1, 3, none⟩ (.slice (some ⟨g, 0, none⟩) (L + 1) c2)) (l ++ [x]) := by
  subst hL
  obtain ⟨q1, q2, q3, q4, q5⟩ := bui_boxes h b
  obtain ⟨h1, h2, h3, h4, h5, h6, h7, h8⟩ := h
  have hob : ∀ b, (Value.slice a l.length c).ownBlock = some b → w.heap.size + 2 ≤ b := fun b e => (h2.1.lt b e).1
  have hnd : nd4 (hdT (n + 1) x) = [.int .i64 k1, .int .i64 u, .string t, .slice a1 l1 c1] := by
    have e1 : val (n + 1) x = .agg (nd4 (hdT (n + 1) x)).toArray := rfl
    rw [e1] at x1
    injection x1 with x1
    exact Array.toList_inj.2 x1
  rw [← hnd] at hown
  have g0 := bui_grown b v0 v1 v2 v3 (some 0)
  have x3' : In ((((w2.setCell ⟨wr.heap.size, 0, none⟩ v0).setCell ⟨wr.heap.size, 1, none⟩ v1).setCell ⟨wr.heap.size, 2, none⟩ v2).setCell ⟨wr.heap.size, 3, none⟩ v3).heap.size ((((w2.setCell ⟨wr.heap.size, 0, none⟩ v0).setCell ⟨wr.heap.size, 1, none⟩ v1).setCell ⟨wr.heap.size, 2, none⟩ v2).setCell ⟨wr.heap.size, 3, none⟩ v3) (n + 1) x := by
    rw [set4_size]
    exact In.off (fun p hp => set4_block (by simp at hp; omega) _ _ _ _) x4 x3
  have hrow := h2.snoc g0 (by omega) x3' (x4.mono fun p hp => by simp at hp; omega) (by omega) (moved_alloc (World.grownBy.refl _ _) o2) hown g2 (by simpa using hg)
  have hne : ∀ p, p < w.heap.size + 2 → some p ≠ (Value.slice a l.length c).ownBlock := fun p hp e => by have := hob p e.symm; omega
  have z : ∀ p, p < w.heap.size + 2 → w3.heap[p]? = w2.heap[p]? := fun p hp => (g2.block p (by simp; omega) (hne p hp)).trans ((alloc_block _ _ (by rw [set4_size]; omega)).trans (set4_block (by omega) _ _ _ _))
  have q2' := q2.block (z (w.heap.size + 1) (by omega))
  have z2 : w3.heap.size = (w3.setCell ⟨w.heap.size + 1, 3, none⟩ (.slice (some ⟨g, 0, none⟩) (l.length + 1) c2)).heap.size := by simp [World.setCell]
  refine ⟨q2', ?_, ?_, ?_, q2'.set3 _, h5.snoc x2, x5, by omega, x6⟩
  · have b2 : w.grownBy w3 none := moved_far (moved_alloc (moved_trans (below_any h1) (bui_grown b v0 v1 v2 v3 none)) o2) g2 fun p e => by have := hob p e; omega
    have b3 := moved_new b2 (b := w.heap.size + 1) (by omega) 3 (.slice (some ⟨g, 0, none⟩) (l.length + 1) c2)
    exact ⟨b3.os, b3.tape, b3.output, b3.size, fun p hp => b3.block p hp (by simp)⟩
  · refine ⟨ownsRow_setCell_below (by simpa using hrow.1) (by simp) _, fun y hy => ?_⟩
    obtain ⟨y1, y2⟩ := hrow.2 y hy
    refine ⟨?_, y2⟩
    rw [← z2]
    exact In.off (fun p hp => Below.heap_setCell _ _ _ _ (by simp; omega)) y2 y1
  · exact (q1.block (z w.heap.size (by omega))).block (Below.heap_setCell _ _ _ _ (by simp))

/-- What built tells: a term, and where it goes on. -/
def BRes (n : Nat) (T : List Tok) (L0 d k : Nat) (w w' : World) (v : Value) (q : Nat) : Prop :=
  Below w.heap.size w w' ∧ q ≤ T.length ∧ k < q ∧ scanD L0 (T.drop q) d = none ∧ ∃ x : Tm n, val n x = v ∧ Is n x (T.drop k) (T.drop q) ∧ In w'.heap.size w' n x ∧ Off (fun p => w.heap.size ≤ p) n x
def BOut (n : Nat) (T : List Tok) (L0 d k : Nat) (w w' : World) (e : Ending) : Prop :=
  ∃ (k1 u : Int) (t : ByteArray) (a : Option Addr) (l c q : Nat), e = .returned (.tuple #[.agg #[.int .i64 k1, .int .i64 u, .string t, .slice a l c], .int .i64 q]) ∧ Hid (BRes n T L0 d k w w' (.agg #[.int .i64 k1, .int .i64 u, .string t, .slice a l c]) q)
def FBuilt (n : Nat) : Prop := ∀ (T : List Tok) (L0 d k g c : Nat) (w : World), Ws T g w → g < w.heap.size → T.length ≤ 2048 → (∀ t ∈ T, t.2.size ≤ 2048) → T.length ≤ n + k → exp L0 (T.drop k) d = none →
  Calls Try.prog 53 #[.slice (some ⟨g, 0, none⟩) T.length c, .int .i64 k] w fun e w' => BOut (n + 1) T L0 d k w w' e

theorem bui_close {n : Nat} {T : List Tok} {L0 d k q : Nat} {w wr : World} {a : Option Addr} {L c : Nat} {l : List (Tm (n + 1))} {t t0 : Tok} (h : BuiQ n T L0 d k w q (.slice a L c) wr l) (hk : T[k]? = some t0) (ho : isO t0.2 = true) (ht : T[q]? = some t) (hc : isC t.2 = true) (v0 v1 v2 v3 : Value) :
    BRes (n + 2) T L0 d k w ((((wr.setCell ⟨w.heap.size, 0, none⟩ v0).setCell ⟨w.heap.size, 1, none⟩ v1).setCell ⟨w.heap.size, 2, none⟩ v2).setCell ⟨w.heap.size, 3, none⟩ v3) (.agg #[.int .i64 4, .int .i64 0, .string ⟨#[]⟩, .slice a L c]) (q + 1) := by
  obtain ⟨h1, h2, h3, h4, h5, h6, h7, h8⟩ := h
  obtain ⟨a', c', ev, hoff, hin⟩ := h2.tup
  injection ev with e1 e2 e3
  subst e1 e2 e3
  obtain ⟨hq, _⟩ := List.getElem?_eq_some_iff.1 ht
  rw [drop_cons ht] at h5 h6
  rw [scan_close _ _ _ _ hc] at h6
  refine ⟨below_set4 h1 _ _ _ _, by omega, by omega, h6, _, rfl, ?_, ?_, hoff.mono fun p hp => by omega⟩
  · rw [drop_cons hk]
    exact ⟨t0, _, rfl, Or.inr ⟨ho, rfl, t, h5, hc⟩⟩
  · rw [set4_size]
    exact In.off (fun p hp => set4_block (by omega) _ _ _ _) hoff hin
end Go.Proofs.Ytpehdgbdinjbaaa
namespace Go.Proofs.Ytpehdgbdinjbaaa
open Go.RowKit

set_option maxHeartbeats 2000000 in
theorem leaf_any (s : ByteArray) (w : World) (hs : s.size ≤ 2048) (h0 : 0 < s.size) :
    Calls Try.prog 52 #[.string s] w fun e w' => LeafOut s e ∧ Below w.heap.size w w' := by
  have ht := tail1_size s
  have HH := hide (head_at s h0)
  have h01 : (1 : Int) ≤ s.size := by omega
  by_cases c2 : s[0] = 35
  · have HL : Hid (leafB s = isNum (tail1 s) 2 ∧ leafV s = (3, numV (tail1 s).data.toList, ⟨#[]⟩)) := by
      simp [Hid, leafB, leafV, HH.out, c2]
    go_enter Try.func52, Try.ntmps52
    go_wp2_with (go_at_call 88; refine (digits_any (tail1 s) 2 _ (by omega) (by omega)).mono ?_; rintro e w' ⟨⟨v, rfl, HV⟩, rfl⟩; obtain ⟨v1, v2⟩ := (⟨HV.out.2.1, HV.out.2.2.1⟩ : -1 ≤ v ∧ v < 100000000000000))
    exact bodyPost_ret (v := .tuple #[agg4 3 v ⟨#[]⟩, .bool (decide (0 ≤ v))]) (by simp [results, Try.results52, go_sem, agg4]) rfl ⟨⟨3, v, ⟨#[]⟩, _, rfl, by rw [HL.out.1, HV.out.1], fun h => by rw [HL.out.2, HV.out.2.2.2 (by rw [← HV.out.1, h])], Nat.zero_le _, i64_small (by omega) (by omega), i64_small (by omega) (by omega)⟩, by go_grown⟩
  · have d2 := byte_ne (k := 35) (d := 35) rfl c2
    by_cases c3 : s[0] = 36
    · have HL : Hid (leafB s = isNum (tail1 s) 2 ∧ leafV s = (5, numV (tail1 s).data.toList, ⟨#[]⟩)) := by
        simp [Hid, leafB, leafV, HH.out, c3]
      go_enter Try.func52, Try.ntmps52
      go_wp2_with (go_at_call 88; refine (digits_any (tail1 s) 2 _ (by omega) (by omega)).mono ?_; rintro e w' ⟨⟨v, rfl, HV⟩, rfl⟩; obtain ⟨v1, v2⟩ := (⟨HV.out.2.1, HV.out.2.2.1⟩ : -1 ≤ v ∧ v < 100000000000000))
      exact bodyPost_ret (v := .tuple #[agg4 5 v ⟨#[]⟩, .bool (decide (0 ≤ v))]) (by simp [results, Try.results52, go_sem, agg4]) rfl ⟨⟨5, v, ⟨#[]⟩, _, rfl, by rw [HL.out.1, HV.out.1], fun h => by rw [HL.out.2, HV.out.2.2.2 (by rw [← HV.out.1, h])], Nat.zero_le _, i64_small (by omega) (by omega), i64_small (by omega) (by omega)⟩, by go_grown⟩
    · have d3 := byte_ne (k := 36) (d := 36) rfl c3
      by_cases c4 : s[0] = 45
      · have HL : Hid (leafB s = (isNum (tail1 s) 13 && !(numV (tail1 s).data.toList == 0)) ∧ leafV s = (1, - numV (tail1 s).data.toList, ⟨#[]⟩)) := by
          simp [Hid, leafB, leafV, HH.out, c4]
        go_enter Try.func52, Try.ntmps52
        go_wp2_with (go_at_call 88; refine (digits_any (tail1 s) 13 _ (by omega) (by omega)).mono ?_; rintro e w' ⟨⟨v, rfl, HV⟩, rfl⟩; obtain ⟨v1, v2⟩ := (⟨HV.out.2.1, HV.out.2.2.1⟩ : -1 ≤ v ∧ v < 100000000000000))
        have HP : Hid (decide (0 < v) = leafB s ∧ (decide (0 < v) = true → v = numV (tail1 s).data.toList)) := by
          have h1 := HV.out.1
          have h2 := HV.out.2.2.2
          cases hn : isNum (tail1 s) 13
          · rw [hn] at h1
            simp at h1
            exact ⟨by rw [HL.out.1, hn]; simp; omega, by simp; omega⟩
          · rw [hn] at h1
            simp at h1
            refine ⟨?_, fun _ => h2 hn⟩
            rw [HL.out.1, hn, ← h2 hn]
            by_cases hv : v = 0
            · subst hv; rfl
            · have h3 : 0 < v := by omega
              simp [hv, h3]
        exact bodyPost_ret (v := .tuple #[agg4 1 (-v) ⟨#[]⟩, .bool (decide (0 < v))]) (by simp [results, Try.results52, go_sem, agg4]) rfl ⟨⟨1, -v, ⟨#[]⟩, _, rfl, HP.out.1, fun h => by rw [HL.out.2, ← HP.out.2 h], Nat.zero_le _, i64_small (by omega) (by omega), i64_small (by omega) (by omega)⟩, by go_grown⟩
      · have d4 := byte_ne (k := 45) (d := 45) rfl c4
        by_cases c5 : (s.toList == [95]) = true
        · have HL : Hid (leafB s = true ∧ leafV s = (6, 0, ⟨#[]⟩)) := by
            simp only [Hid, leafB, leafV, HH.out, c5]
            simp [c2, c3, c4]
          go_enter Try.func52, Try.ntmps52
          go_wp2_with fail
          exact bodyPost_ret (v := .tuple #[agg4 6 0 ⟨#[]⟩, .bool true]) (by simp [results, Try.results52, go_sem, agg4]) rfl ⟨⟨6, 0, ⟨#[]⟩, _, rfl, HL.out.1.symm, fun _ => HL.out.2.symm, Nat.zero_le _, i64_small (by omega) (by omega), i64_small (by omega) (by omega)⟩, by go_grown⟩
        · have c6 : (s.toList == [95]) = false := by simpa using c5
          have HL : Hid (leafB s = (isNum s 13 || lowsB s.data.toList) ∧ (leafV s = if isNum s 13 = true then (1, numV s.data.toList, ⟨#[]⟩) else (2, 0, s))) := by
            simp only [Hid, leafB, leafV, HH.out, c6]
            simp [c2, c3, c4]
            cases isNum s 13 <;> simp [h0]
          clear c5
          go_enter Try.func52, Try.ntmps52
          go_wp2_with fail
          refine (digits_any s 13 _ (by omega) (by omega)).mono ?_
          rintro e w' ⟨⟨v, rfl, HV⟩, rfl⟩
          by_cases hv : 0 ≤ v
          · have HN : Hid (isNum s 13 = true) := hide (by have := HV.out.1; simpa [hv] using this.symm)
            have HR : Hid (v = numV s.data.toList ∧ v < 100000000000000) := ⟨HV.out.2.2.2 HN.out, HV.out.2.2.1⟩
            go_wp2_with fail
            exact bodyPost_ret (v := .tuple #[agg4 1 v ⟨#[]⟩, .bool true]) (by simp [results, Try.results52, go_sem, agg4]) rfl ⟨⟨1, v, ⟨#[]⟩, _, rfl, by rw [HL.out.1, HN.out]; rfl, fun _ => by rw [HL.out.2, HN.out, HR.out.1]; rfl, Nat.zero_le _, i64_small (by omega) (by omega), i64_small (by omega) (by have := HR.out.2; omega)⟩, by go_grown⟩
          · have HN : Hid (isNum s 13 = false) := hide (by have := HV.out.1; simpa [hv] using this.symm)
            replace hv : v < 0 := by omega
            go_wp2_with fail
            go_loopw [5] (fun i wr => ∃ k : Nat, k ≤ s.size ∧ i = .int .i64 k ∧ wr = w.alloc (.cells #[.int .i64 0, .int .i64 0, .string ⟨#[]⟩, .slice none 0 0] 24) ∧ Hid (lowsB (s.data.toList.take k) = true)) (fun i _ => s.size - (intOf i).toNat)
            case atStart => exact ⟨0, Nat.zero_le _, rfl, rfl, by simp [Hid, lowsB]⟩
            case round =>
              obtain ⟨k, hk, rfl, rfl, hb⟩ := hrel
              by_cases hlt : k < s.size
              · have HS := hide (lowsB_snoc s k hlt)
                have HX : Hid (lowB s[k] = false → leafB s = false) := fun h => by
                  have h2 : lowsB s.data.toList = (lowsB (s.data.toList.take (k + 1)) && lowsB (s.data.toList.drop (k + 1))) := by
                    conv => lhs; rw [← List.take_append_drop (k + 1) s.data.toList]
                    simp only [lowsB, List.all_append]
                  rw [HL.out.1, HN.out, h2, HS.out, h]
                  simp
                by_cases h1 : 97 ≤ (s[k].toNat : Int)
                · by_cases h2 : (s[k].toNat : Int) ≤ 122
                  · go_wp2_with fail
                    go_roundw
                    case rel => exact ⟨k + 1, by omega, by go_num, trivial, by simp only [Hid]; rw [HS.out, hb.out]; simp [lowB, h1, h2]⟩
                    case measure => simp [intOf]; omega
                  · have HY := hide (HX.out (by simp [lowB, h2]))
                    go_wp2_with fail
                    exact bodyPost_ret (v := .tuple #[agg4 0 0 ⟨#[]⟩, .bool false]) (by simp [results, Try.results52, go_sem, agg4]) rfl ⟨⟨0, 0, ⟨#[]⟩, _, rfl, HY.out.symm, by simp, Nat.zero_le _, i64_small (by omega) (by omega), i64_small (by omega) (by omega)⟩, by go_grown⟩
                · have HY := hide (HX.out (by simp [lowB]; omega))
                  go_wp2_with fail
                  exact bodyPost_ret (v := .tuple #[agg4 0 0 ⟨#[]⟩, .bool false]) (by simp [results, Try.results52, go_sem, agg4]) rfl ⟨⟨0, 0, ⟨#[]⟩, _, rfl, HY.out.symm, by simp, Nat.zero_le _, i64_small (by omega) (by omega), i64_small (by omega) (by omega)⟩, by go_grown⟩
              · have HY : Hid (lowsB s.data.toList = true) := by
                  have := hb.out
                  rw [List.take_of_length_le (by simp; omega)] at this
                  exact this
                go_wp2_with fail
                exact bodyPost_ret (v := .tuple #[agg4 2 0 s, .bool true]) (by simp [results, Try.results52, go_sem, agg4]) rfl ⟨⟨2, 0, s, _, rfl, by rw [HL.out.1, HY.out]; simp, fun _ => by rw [HL.out.2, HN.out]; rfl, Nat.le_refl _, i64_small (by omega) (by omega), i64_small (by omega) (by omega)⟩, by go_grown⟩
end Go.Proofs.Ytpehdgbdinjbaaa
namespace Go.Proofs.Ytpehdgbdinjbaaa
open Go.RowKit

theorem bui_leaf {n : Nat} {T : List Tok} {L0 d k : Nat} {w w1 : World} {t : Tok} {k1 u : Int} {s : ByteArray} (ht : T[k]? = some t) (ho : isO t.2 = false) (hl : leafB t.2 = true) (he : exp L0 (T.drop k) d = none) (hv : (k1, u, s) = leafV t.2) (hs : s.size ≤ 2048) (hk : I64 k1) (hu : I64 u)
    (b : Below w.heap.size w w1) : BRes (n + 1) T L0 d k w w1 (.agg #[.int .i64 k1, .int .i64 u, .string s, .slice none 0 0]) (k + 1) := by
  obtain ⟨hlt, _⟩ := List.getElem?_eq_some_iff.1 ht
  rw [drop_cons ht] at he
  simp only [exp, ho, hl] at he
  refine ⟨b, by omega, by omega, by simpa using he, ((k1, u, s), (none, 0), []), rfl, ?_, ⟨⟨hk, hu, by unfold maxLen; simp only; omega, Nat.zero_le _, Nat.zero_le _⟩, Or.inl rfl⟩, Or.inl rfl⟩
  rw [drop_cons ht]
  exact ⟨t, _, rfl, Or.inl ⟨ho, hl, hv, rfl, rfl⟩⟩

theorem leaf_pos {x : ByteArray} (h : leafB x = true) : 0 < x.size := by
  by_cases hz : 0 < x.size
  · exact hz
  · have h2 := size_nil hz
    rw [leaf_nil (by simpa using h2)] at h
    exact absurd h (by simp)

theorem built_leaf (n : Nat) (T : List Tok) (L0 d k g c L : Nat) (hL : T.length = L) (t : Tok) (ht : T[k]? = some t) (w : World) (hw : Ws T g w) (hg : g < w.heap.size) (hT : L ≤ 2048) (hts : t.2.size ≤ 2048) (ho : isO t.2 = false) (hl : leafB t.2 = true) (he : exp L0 (T.drop k) d = none) :
    Calls Try.prog 53 #[.slice (some ⟨g, 0, none⟩) L c, .int .i64 k] w fun e w' => BOut (n + 1) T L0 d k w w' e := by
  obtain ⟨hlt, _⟩ := List.getElem?_eq_some_iff.1 ht
  rw [hL] at hlt
  have hx := hw k t ht
  have HA := hide (⟨ht, ho, hl, he⟩ : _ ∧ _ ∧ _ ∧ _)
  clear hw ht ho hl he
  have h0 := leaf_pos HA.out.2.2.1
  obtain ⟨p, x⟩ := t
  simp only at hx hts h0
  have hc : (x.toList == [40]) = false := HA.out.2.1
  have hc1 : (x.toList = [40]) = False := by simpa using hc
  have hc2 : (x.toList != [40]) = true := by simpa using hc
  have hk0 : (0 : Int) ≤ (k : Int) := by omega
  have hk1 : (k : Int) < (L : Int) := by omega
  go_enter Try.func53, Try.ntmps53
  go_wp2_with (go_at_call 52; refine (leaf_any x _ hts h0).mono ?_; rintro e w2 ⟨⟨k1, u, s, ok, rfl, HV⟩, hb⟩; obtain ⟨⟨x0, x1, x2, x3⟩, f0, f1, f2, f3⟩ := box_of hb; have hl2 : w.heap.size < w2.heap.size := (by have := hb.size; simp at this; omega); have HB := hide hb; clear hb)
  have HBB : Hid (Below w.heap.size w w2) := (below_new (Below.refl _ _) _).trans (HB.out.mono (by simp))
  obtain ⟨v1, v2, v3, v4, v5⟩ := HV.out
  exact bodyPost_ret (v := .tuple #[.agg #[.int .i64 k1, .int .i64 u, .string s, .slice none 0 0], .int .i64 ((k + 1 : Nat) : Int)]) (by simp [results, Try.results53, go_sem, x0, x1, x2, x3, hl2]) rfl ⟨k1, u, s, none, 0, 0, k + 1, rfl, bui_leaf HA.out.1 HA.out.2.1 HA.out.2.2.1 HA.out.2.2.2 (v2 (v1.trans HA.out.2.2.1)) (by omega) v4 v5 (below_new (below_set4 HBB.out _ _ _ _) _)⟩

theorem four_at (w : World) (v0 v1 v2 v3 : Value) (e : TypeId) {H : Nat} (hH : w.heap.size = H) : ∀ (j : Nat) (u : Value), [v0, v1, v2, v3][j]? = some u → (w.alloc (.cells #[v0, v1, v2, v3] e)).cell? ((⟨H, 0, none⟩ : Addr).add j) = some u := by
  intro j u h
  subst hH
  rw [add_none]
  rw [World.cell?_alloc_at _ _ _ _ rfl]
  simpa using h

set_option maxHeartbeats 1000000 in
theorem built_tup (n : Nat) (ih : FBuilt n) (T : List Tok) (L0 d k g c L : Nat) (hL : T.length = L) (t0 : Tok) (ht : T[k]? = some t0) (w : World) (hw : Ws T g w) (hg : g < w.heap.size) (hT : L ≤ 2048) (hts : ∀ t ∈ T, t.2.size ≤ 2048) (hn : T.length ≤ n + 1 + k) (ho : isO t0.2 = true) (he : exp L0 (T.drop k) d = none) :
    Calls Try.prog 53 #[.slice (some ⟨g, 0, none⟩) L c, .int .i64 k] w fun e w' => BOut (n + 2) T L0 d k w w' e := by
  obtain ⟨it, hit, htz0, htz1, htz2⟩ := info_parts infoTerm
  have HT := hide (⟨hit, htz0, htz1, htz2⟩ : _ ∧ _ ∧ _ ∧ _)
  clear hit htz0 htz1 htz2
  obtain ⟨hlt, _⟩ := List.getElem?_eq_some_iff.1 ht
  have hsc : scanD L0 (T.drop (k + 1)) (d + 1) = none := by
    rw [drop_cons ht] at he
    simpa [exp, ho] using he
  have hx := hw k t0 ht
  have H0 := hide (bui_start (n := n) (w := w) hlt hsc)
  rw [hL] at hlt
  have HA := hide (⟨ht, ho, hw, hts, hn⟩ : _ ∧ _ ∧ _ ∧ _ ∧ _)
  have HI := hide ih
  have HL := hide hL
  clear hw ht he hsc hts hn ih hL
  obtain ⟨p0, x⟩ := t0
  have hc0 : (x.toList == [40]) = true := ho
  clear ho
  simp only at hx
  have hk0 : (0 : Int) ≤ (k : Int) := by omega
  have hk1 : (k : Int) < (L : Int) := by omega
  go_enter Try.func53, Try.ntmps53
  go_wp2_with fail
  go_loopw [1] (fun iv wr => ∃ (q : Nat) (a : Option Addr) (M c1 : Nat) (l : List (Tm (n + 1))), k + 1 ≤ q ∧ q ≤ L ∧ iv = .int .i64 q ∧ Hid (BuiQ n T L0 d k w q (.slice a M c1) wr l)) (fun iv _ => L - (intOf iv).toNat)
  case atStart => exact ⟨k + 1, none, 0, 0, [], Nat.le_refl _, by omega, by go_num, H0.out⟩
  case round =>
    obtain ⟨q, a, M, c1, l, hq1, hq2, rfl, HQ⟩ := hrel
    obtain ⟨⟨p, y⟩, hy⟩ := bui_word HQ.out
    have hy1 : wr.cell? ⟨g, q, none⟩ = some (.string y) := (HA.out.2.2.1.below HQ.out.1 hg) q (p, y) hy
    have hq3 : q < L := by have := (List.getElem?_eq_some_iff.1 hy).1; have := HL.out; omega
    have hq4 : (q : Int) < (L : Int) := by omega
    have hq5 : (0 : Int) ≤ (q : Int) := by omega
    have HY := hide hy
    clear hy
    cases hc : (y.toList == [41])
    · have hc1 : (y.toList = [41]) = False := by simpa using hc
      have hc2 : (y.toList != [41]) = true := by simpa using hc
      have HC : Hid (Calls Try.prog 53 #[.slice (some ⟨g, 0, none⟩) L c, .int .i64 q] (wr.alloc (.cells #[.int .i64 0, .int .i64 0, .string ⟨#[]⟩, .slice none 0 0] 24)) fun e w' => BOut (n + 1) T L0 (d + 1) q (wr.alloc (.cells #[.int .i64 0, .int .i64 0, .string ⟨#[]⟩, .slice none 0 0] 24)) w' e) := by
        have hb := below_new HQ.out.1 (.cells #[.int .i64 0, .int .i64 0, .string ⟨#[]⟩, .slice none 0 0] 24)
        have h6 := HQ.out.2.2.2.2.2.1
        rw [scan_exp _ _ _ (fun t ts' e => by rw [drop_cons HY.out] at e; injection e with e _; rw [← e]; exact hc)] at h6
        have := HI.out T L0 (d + 1) q g c (wr.alloc (.cells #[.int .i64 0, .int .i64 0, .string ⟨#[]⟩, .slice none 0 0] 24)) (HA.out.2.2.1.below hb hg) (Nat.lt_of_lt_of_le hg hb.size) (by rw [HL.out]; exact hT) HA.out.2.2.2.1 (by have := HA.out.2.2.2.2; omega) h6
        rw [HL.out] at this
        exact this
      go_wp2_with (first
        | (go_at_call 53; refine HC.out.mono ?_; rintro e w2 ⟨k1, u, t, a1, l1, c3, q', rfl, HR⟩; obtain ⟨r1, r2, r3, hlt2, hlt3⟩ := bui_boxes HQ.out HR.out.1; have hlt4 : w.heap.size < w2.heap.size := (by omega); have hlt5 : w.heap.size + 1 < w2.heap.size := (by omega); have hne1 : ¬ w.heap.size = wr.heap.size := (by omega); have hne2 : ¬ w.heap.size + 1 = wr.heap.size := (by omega); obtain ⟨⟨x0, x1, x2, x3⟩, f0, f1, f2, f3⟩ := r1.cells; obtain ⟨⟨y0, y1, y2, y3⟩, k0, k4, k2, k3⟩ := r2.cells; obtain ⟨⟨z0, z1, z2, z3⟩, p0, p1, p2, p3⟩ := r3.cells; clear r1 r2 r3)
        | (at_builtin; have HO := hide (bui_own HQ.out HR.out.1 (.int .i64 k1) (.int .i64 u) (.string t) (.slice a1 l1 c3) (by rw [HL.out]; exact hT)); refine wpList_append_lies _ rfl _ _ 22 rfl (w.heap.size + 2) 24 it _ 4 56 Try.underlying22 HT.out.1 HT.out.2.1 HT.out.2.2.1 HT.out.2.2.2 rfl (by decide) _ M _ rfl (HO.out.2.2 _) ⟨w2.heap.size, 0, none⟩ 1 1 [.int .i64 k1, .int .i64 u, .string t, .slice a1 l1 c3] rfl rfl (four_at _ _ _ _ _ _ (set4_size _ _ _ _)) (four_one _ _ _ _ _ _) (by decide) (by have := HO.out.2.1; unfold maxLen; omega) (by have := HO.out.2.1; omega) (by simp; omega) (w2.heap.size + 1) (by simp) ?_; intro g2 c2 w3 hown2 hgrow2 hat2 hlt6; obtain ⟨_, j6, j7, j5, X, j1, j2, j3, j4⟩ := HR.out; have HJ := hide (⟨j6, j7⟩ : _ ∧ _); have H2 := hide (bui_round HQ.out HR.out.1 j1 j2 j3 j4 j5 j6 j7 HO.out.1 hown2 hgrow2 hat2); obtain ⟨⟨s0, s1, s2, s3⟩, t0, t1, t2, t3⟩ := H2.out.1.cells; clear j1 j2 j3 j4 j5 j6 j7 hown2 hgrow2 hat2 hlt6))
      have hq8 : q' ≤ L := by have := HJ.out.1; rw [HL.out] at this; exact this
      go_roundw
      case rel => exact ⟨q', _, _, _, _, by have := HJ.out.2; omega, hq8, rfl, H2.out.2⟩
      case measure => have := HJ.out.2; simp [intOf]; omega
    · obtain ⟨⟨x0, x1, x2, x3⟩, f0, f1, f2, f3⟩ := HQ.out.2.2.1.cells
      obtain ⟨⟨y0, y1, y2, y3⟩, k0, k1, k2, k3⟩ := HQ.out.2.2.2.1.cells
      go_wp2_with fail
      exact bodyPost_ret (v := .tuple #[.agg #[.int .i64 4, .int .i64 0, .string ⟨#[]⟩, .slice a M c1], .int .i64 ((q + 1 : Nat) : Int)]) (by simp [results, Try.results53, go_sem, x0, x1, x2, x3]) rfl ⟨4, 0, ⟨#[]⟩, a, M, c1, q + 1, rfl, bui_close HQ.out HA.out.1 HA.out.2.1 HY.out hc _ _ _ _⟩

theorem built_any (n : Nat) : FBuilt n := by
  have key : ∀ (T : List Tok) (L0 d k : Nat), exp L0 (T.drop k) d = none → ∃ t, T[k]? = some t ∧ (isO t.2 = false → leafB t.2 = true) := by
    intro T L0 d k he
    by_cases hk : k < T.length
    · have ht := List.getElem?_eq_getElem hk
      refine ⟨T[k], ht, fun ho => ?_⟩
      rw [drop_cons ht] at he
      cases hl : leafB T[k].2
      · simp [exp, ho, hl] at he
      · rfl
    · rw [List.drop_of_length_le (by omega)] at he
      simp [exp] at he
  induction n with
  | zero =>
    intro T L0 d k g c w hw hg hT hts hn he
    obtain ⟨t, ht, _⟩ := key T L0 d k he
    have := (List.getElem?_eq_some_iff.1 ht).1
    omega
  | succ n ih =>
    intro T L0 d k g c w hw hg hT hts hn he
    obtain ⟨t, ht, hl⟩ := key T L0 d k he
    cases ho : isO t.2 with
    | false => exact built_leaf (n + 1) T L0 d k g c T.length rfl t ht w hw hg hT (hts t (List.mem_of_getElem? ht)) ho (hl ho) he
    | true => exact built_tup n ih T L0 d k g c T.length rfl t ht w hw hg hT hts hn ho he
end Go.Proofs.Ytpehdgbdinjbaaa
namespace Go.Proofs.Ytpehdgbdinjbaaa
open Go.RowKit

/-- Behind i words, in D brackets: where it can't go on (E). -/
def St (L0 : Nat) (T : List Tok) (i D : Nat) (E : Option Nat) : Prop := (i = 0 ∧ D = 0 ∧ E = exp L0 T 0) ∨ (0 < i ∧ E = scanD L0 (T.drop i) D)

theorem st_start (L0 : Nat) (T : List Tok) : St L0 T 0 0 (exp L0 T 0) := Or.inl ⟨rfl, rfl, rfl⟩
theorem exp_at {L0 : Nat} {T : List Tok} {t : Tok} (h : T[0]? = some t) : exp L0 T 0 = if isO t.2 then scanD L0 (T.drop 1) 1 else if leafB t.2 then scanD L0 (T.drop 1) 0 else some t.1 := by
  have := drop_cons h
  simp only [List.drop_zero] at this
  rw [this]
  simp [exp]
theorem st_bad {L0 : Nat} {T : List Tok} {i : Nat} {E : Option Nat} {t : Tok} (h : St L0 T i 0 E) (hi : 0 < i) (ht : T[i]? = some t) : E = some t.1 := by
  rcases h with ⟨h, _⟩ | ⟨_, h⟩
  · omega
  · rw [h, drop_cons ht]; rfl
theorem st_open {L0 : Nat} {T : List Tok} {i D : Nat} {E : Option Nat} {t : Tok} (h : St L0 T i D E) (hi : i = 0 ∨ 0 < D) (ht : T[i]? = some t) (ho : isO t.2 = true) : St L0 T (i + 1) (D + 1) E := by
  refine Or.inr ⟨Nat.succ_pos _, ?_⟩
  rcases h with ⟨rfl, rfl, h⟩ | ⟨h0, h⟩
  · rw [h, exp_at ht]; simp [ho]
  · obtain ⟨D, rfl⟩ : ∃ k, D = k + 1 := ⟨D - 1, by omega⟩
    rw [h, drop_cons ht]
    simp [scanD, ho]
theorem st_close {L0 : Nat} {T : List Tok} {i D : Nat} {E : Option Nat} {t : Tok} (h : St L0 T i (D + 1) E) (ht : T[i]? = some t) (hc : isC t.2 = true) : St L0 T (i + 1) D E := by
  refine Or.inr ⟨Nat.succ_pos _, ?_⟩
  rcases h with ⟨_, h, _⟩ | ⟨h0, h⟩
  · omega
  · rw [h, drop_cons ht, scan_close _ _ _ _ hc]
theorem st_leaf {L0 : Nat} {T : List Tok} {i D : Nat} {E : Option Nat} {t : Tok} (h : St L0 T i D E) (hi : i = 0 ∨ 0 < D) (ht : T[i]? = some t) (ho : isO t.2 = false) (hc : isC t.2 = false) (hl : leafB t.2 = true) : St L0 T (i + 1) D E := by
  refine Or.inr ⟨Nat.succ_pos _, ?_⟩
  rcases h with ⟨rfl, rfl, h⟩ | ⟨h0, h⟩
  · rw [h, exp_at ht]; simp [ho, hl]
  · obtain ⟨D, rfl⟩ : ∃ k, D = k + 1 := ⟨D - 1, by omega⟩
    rw [h, drop_cons ht]
    simp [scanD, ho, hc, hl]
theorem st_no {L0 : Nat} {T : List Tok} {i D : Nat} {E : Option Nat} {t : Tok} (h : St L0 T i D E) (hi : i = 0 ∨ 0 < D) (ht : T[i]? = some t) (ho : isO t.2 = false) (hc : i = 0 ∨ isC t.2 = false) (hl : leafB t.2 = false) : E = some t.1 := by
  rcases h with ⟨rfl, rfl, h⟩ | ⟨h0, h⟩
  · rw [h, exp_at ht]; simp [ho, hl]
  · obtain ⟨D, rfl⟩ : ∃ k, D = k + 1 := ⟨D - 1, by omega⟩
    have hc' : isC t.2 = false := by rcases hc with h | h; omega; exact h
    rw [h, drop_cons ht]
    simp [scanD, ho, hc', hl]
theorem st_end {L0 : Nat} {T : List Tok} {D : Nat} {E : Option Nat} (h : St L0 T T.length D E) : ((0 < D ∨ T.length = 0) → E = some L0) ∧ (D = 0 → 0 < T.length → E = none) := by
  rcases h with ⟨h0, rfl, h⟩ | ⟨h0, h⟩
  · refine ⟨fun _ => ?_, fun _ h => by omega⟩
    rw [h, List.eq_nil_of_length_eq_zero h0]; rfl
  · rw [List.drop_of_length_le (Nat.le_refl _)] at h
    refine ⟨fun hd => ?_, fun hd _ => by rw [h, hd]; rfl⟩
    obtain ⟨D, rfl⟩ : ∃ k, D = k + 1 := ⟨D - 1, by omega⟩
    rw [h]; rfl

theorem toks_size (s : ByteArray) : (f i : Nat) → ∀ t ∈ toksF f s i, 0 < t.2.size ∧ t.2.size ≤ s.size
  | 0, i, t, h => by simp [toksF] at h
  | f + 1, i, t, h => by
    simp only [toksF] at h
    by_cases hw : wordB s i < s.size
    · rw [if_pos hw] at h
      rcases List.mem_cons.1 h with h | h
      · subst h
        have h1 := wordE_gt s i hw
        simp
        by_cases hi : i ≤ s.size
        · have := wordE_le s i hi
          omega
        · have := wordB_ge s i
          omega
      · exact toks_size s f (wordE s i) t h
    · rw [if_neg hw] at h
      simp at h

/-- The place row's cell, and the word row's. -/
theorem rea_cells {w1 wr : World} {a1 a2 : Option Addr} {L c1 c2 base : Nat} {T : List Tok} (o1 : w1.ownsRow base 9 1 (.slice a1 L c1) L (strs T)) (o2 : w1.ownsRow base 3 1 (.slice a2 L c2) L (poss T)) (hpos : 0 < L) (b : Below w1.heap.size w1 wr) :
    ∃ g h, a1 = some ⟨g, 0, none⟩ ∧ a2 = some ⟨h, 0, none⟩ ∧ g < w1.heap.size ∧ base ≤ h ∧ Ws T g wr ∧ ∀ (j : Nat) (t : Tok), T[j]? = some t → wr.cell? ⟨h, j, none⟩ = some (.int .i64 t.1) := by
  obtain ⟨g, cg, e1, hg1, hg2⟩ := o1.form hpos
  obtain ⟨h, ch, e2, hh1, hh2⟩ := o2.form hpos
  injection e1 with e1 _ _
  injection e2 with e2 _ _
  subst e1 e2
  refine ⟨g, h, rfl, rfl, hg2, hh1, fun j t ht => ?_, fun j t ht => ?_⟩
  · have := o1.cells (g := g) rfl j (.string t.2) (by simp [strs, ht])
    rw [add_none] at this
    exact (b.cell (p := ⟨g, j, none⟩) hg2).trans this
  · have := o2.cells (g := h) rfl j (.int .i64 t.1) (by simp [poss, ht])
    rw [add_none] at this
    exact (b.cell (p := ⟨h, j, none⟩) hh2).trans this
theorem rea_in {w w2 w3 : World} {n : Nat} {y : Tm n} {o : Obj} (h : In w2.heap.size w2 n y) (k : Off (fun q => w.heap.size + 1 ≤ q) n y) (b : Below (w2.alloc o).heap.size (w2.alloc o) w3) (v0 v1 v2 v3 : Value) :
    In ((((w3.setCell ⟨w.heap.size, 0, none⟩ v0).setCell ⟨w.heap.size, 1, none⟩ v1).setCell ⟨w.heap.size, 2, none⟩ v2).setCell ⟨w.heap.size, 3, none⟩ v3).heap.size ((((w3.setCell ⟨w.heap.size, 0, none⟩ v0).setCell ⟨w.heap.size, 1, none⟩ v1).setCell ⟨w.heap.size, 2, none⟩ v2).setCell ⟨w.heap.size, 3, none⟩ v3) n y := by
  rw [set4_size]
  have h2 : In (w2.alloc o).heap.size (w2.alloc o) n y := (In.off (fun q hq => alloc_block w2 o hq.2) (In.offB k h) h).mono (by simp)
  exact In.off (fun q hq => set4_block (by omega) _ _ _ _) k ((h2.below b).mono b.size)
theorem in_new {w2 : World} {n : Nat} {y : Tm n} {P : Nat → Prop} (o : Obj) (h : In w2.heap.size w2 n y) (k : Off P n y) : In (w2.alloc o).heap.size (w2.alloc o) n y :=
  (In.off (fun q hq => alloc_block w2 o hq.2) (In.offB k h) h).mono (by simp)
/-- The words tell one term: built's answer. -/
theorem rea_tree {T : List Tok} {L0 : Nat} {w w' : World} {v : Value} {q : Nat} (h : BRes 2049 T L0 0 0 w w' v q) (hT : T.length ≤ 2048) : ∃ y : Tm 2049, v = val 2049 y ∧ Is 2049 y T [] ∧ In w'.heap.size w' 2049 y ∧ Off (fun p => w.heap.size ≤ p) 2049 y ∧ (nodes 2049 y).length ≤ 2097152 := by
  obtain ⟨h1, h2, h3, h4, y, y1, y2, y3, y4⟩ := h
  have e : T.drop q = [] := by
    cases hd : T.drop q with
    | nil => rfl
    | cons t ts => rw [hd] at h4; simp [scanD] at h4
  rw [e] at y2
  simp only [List.drop_zero] at y2
  have k1 := Is.nodes 2049 y T [] y2
  exact ⟨y, y1.symm, y2, y3, y4, by simp at k1; omega⟩
end Go.Proofs.Ytpehdgbdinjbaaa
