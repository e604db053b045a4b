/- What is proved here: Collect as HeapAgain calls it: twice, and of nothing. Condition: at most twenty roots, of right closed terms. -/
import Derived.Test.YtfaoeccnhbcjgabHAg1
namespace Go.Proofs.Ytfaoeccnhbcjgab
open Go.RowKit Go.Maps

theorem Roots.allB {ws : List Wd} {nm : List ByteArray} {n : Nat} {vs : List Wd} {p : List (Tm n)} (h : Roots ws nm n vs p) (hw : ws.length ≤ 50000) (hn : nm.length ≤ 50000) : vs.all (standsB ws nm) = true ∧ ∀ v ∈ vs, I64 v.2 := by
  have key : ∀ v ∈ vs, standsB ws nm v = true ∧ I64 v.2 := fun v hv => by
    obtain ⟨y, hy, hs⟩ := h.1.mem hv
    exact stands_B hs (h.2.1 y hy) (h.2.2.1 y hy) (by omega) (by omega)
  exact ⟨List.all_eq_true.2 fun v hv => (key v hv).1, fun v hv => (key v hv).2⟩
theorem hcollect_big (n : Nat) (p : List (Tm n)) (vs : List Wd) (a : Option Addr) (pc base hp : Nat) (room : Int) (ws : List Wd) (nm : List ByteArray) (M : Nat → Prop) (w : World) (h : HpAt base hp room ws nm M w) (hr : Roots ws nm n vs p) (hin : WordsIn w vs a) (hlt : ∀ b o, a = some ⟨b, o, none⟩ → b < w.heap.size) (hbw : base ≤ w.heap.size) (hw : ws.length ≤ 50000) (hn : nm.length ≤ 50000) :
    Calls Try.prog 21 #[.pointer (some ⟨hp, 0, none⟩), .slice a vs.length pc] w fun e w' => ∃ g, e = .returned (.tuple #[.slice (some ⟨g, 0, none⟩) vs.length vs.length, .int .i64 0]) ∧ Hid (CollOut base hp room (rootsR ws n vs) nm M g w w') := by
  obtain ⟨hall, hi64⟩ := hr.allB hw hn
  obtain ⟨tv, lv, mv, h1, h2, h3, h4, h5, h6, h7⟩ := id h
  obtain ⟨⟨c0, c1, c2, c3⟩, hf⟩ := h1.cells
  obtain ⟨ta, tc, rfl⟩ : ∃ ta tc, tv = .slice ta ws.length tc := by
    rcases h2.2 with ⟨e, e0⟩ | ⟨g, c, cur, e, _⟩
    · exact ⟨none, 0, by rw [e, e0]⟩
    · exact ⟨_, c, e⟩
  refine (collect_walk (rootsR ws n vs) hp ta ws.length tc a vs.length pc w h1.lt c1 (hf 1) ?_ ?_).mono ?_
  · have hk := allStand_any base hp room ws nm M vs a vs.length pc w h (by omega) rfl (by have := hr.2.2.2.2.2; omega) hin hi64
    rw [hall] at hk
    exact hk
  · intro w1 hb
    refine reached_any ws nm n vs p base (.slice ta ws.length tc) a pc w1 (own_below h2 hb) hr.1 hr.2.1 (by omega) (by have := hr.2.2.2.2.2; omega) hr.2.2.2.1 hr.2.2.2.2.1 (words_later hin hb) ?_
    intro b o e
    exact Nat.lt_of_lt_of_le (hlt b o e) hb.size
  · rintro e w' ⟨g, tv, w1, w2, rfl, rfl, H⟩
    exact ⟨g, rfl, coll_out h H.out.1 H.out.2 hbw⟩

/-- A heap, its words us at a that stand for qs, and a row gv of the terms qs, apart from it. -/
def AgC (n : Nat) (w1 : World) (hp : Nat) (ws : List Wd) (nm : List ByteArray) (us : List Wd) (qs : List (Tm n)) (a : Option Addr) (gv : Value) (w : World) : Prop :=
  (∃ M, HpS w1 hp 1000 ws nm M w ∧ ∀ b, gv.ownBlock = some b → ¬ M b) ∧ w.ownsRow w1.heap.size 24 4 gv qs.length (ndCells (qs.map (hdT n))) ∧ WordsIn w us a ∧ (∀ b o, a = some ⟨b, o, none⟩ → b < w.heap.size) ∧
  StandL ws nm n us qs ∧ ws.length ≤ 50000
theorem AgC.later {n : Nat} {w1 : World} {hp : Nat} {ws : List Wd} {nm : List ByteArray} {us : List Wd} {qs : List (Tm n)} {a : Option Addr} {gv : Value} {w w' : World} (h : AgC n w1 hp ws nm us qs a gv w) (hb : Below w.heap.size w w') : AgC n w1 hp ws nm us qs a gv w' := by
  obtain ⟨⟨M, h1, h2⟩, h3, h4, h5, h6⟩ := h
  exact ⟨⟨M, h1.later hb, h2⟩, own_below h3 hb, words_later h4 hb, fun b o e => Nat.lt_of_lt_of_le (h5 b o e) hb.size, h6⟩
theorem AgC.of {n : Nat} {w1 : World} {hp k : Nat} {ws : List Wd} {nm : List ByteArray} {M : Nat → Prop} {vs us : List Wd} {ts qs : List (Tm n)} {wv tv gv : Value} {sa : Option Addr} {L2 sc : Nat} {wq wr : World} (h : AgS n w1 hp k ws nm M vs ts wv tv wq) (hT : AgT n ws nm ts us qs (.slice sa L2 sc) gv wq wr) (hL : us.length = L2) : AgC n w1 hp ws nm us qs sa gv wr := by
  have hs := h.1.1.1.size
  have h1 : wr.ownsRow wq.heap.size 37 2 (.slice sa L2 sc) L2 (wCells us) := by have := hT.2.1; rwa [hL] at this
  obtain ⟨k1, k2⟩ := own_words h1 hL
  exact ⟨⟨M, h.1.1.later hT.1, fun b e hm => by have := (h.1.1.2.2 b hm).2; have := (hT.2.2.1.lt b e).1; omega⟩, own_base hT.2.2.1 hs, k1, k2, hT.2.2.2.1, by have := h.2.2.2.2.1; omega⟩
theorem ag_collect {n : Nat} {w1 : World} {hp : Nat} {ws : List Wd} {nm : List ByteArray} {us : List Wd} {qs : List (Tm n)} {a : Option Addr} {gv : Value} {w : World} (h : AgC n w1 hp ws nm us qs a gv w) (hq : ∀ q ∈ qs, chk n q = 0 ∧ closedT n q = true) (L pc : Nat) (hL : us.length = L) (hl : L ≤ 20) (hn : nm.length ≤ 50000) :
    Calls Try.prog 21 #[.pointer (some ⟨hp, 0, none⟩), .slice a L pc] w fun e w' => ∃ g, e = .returned (.tuple #[.slice (some ⟨g, 0, none⟩) L L, .int .i64 0]) ∧ Hid (AgC n w1 hp (rootsR ws n us).2.1 nm (rootsR ws n us).1 qs (some ⟨g, 0, none⟩) gv w') := by
  subst hL
  obtain ⟨⟨M, h1, h2⟩, h3, h4, h5, h6, h7⟩ := h
  have hr := ag_roots h6 hq hl
  refine (hcollect_big n qs us a pc w1.heap.size hp 1000 ws nm M w h1.2.1 hr h4 h5 h1.1.size h7 hn).mono ?_
  rintro e w' ⟨g, rfl, H⟩
  have hz := (cpL_sizes (fun x v S hh => cpF_sizes n x v S hh) us qs ([], []) h6).1
  have hz2 := sum_le_c (fun y => 1 + sz n y) 201 qs fun y hy => by have := (chk_iff.1 (hq y hy).1).2.2; omega
  have hz3 := h6.1
  refine ⟨g, rfl, ⟨_, h1.coll H.out, fun b e hm => ?_⟩, row_kept h3 H.out.2.1 h2, H.out.2.2.1, fun b o e => ?_, (roots_standL h6).1, ?_⟩
  · rcases hm.1.1 with hm | hm
    · exact h2 b e hm
    · have := (h3.lt b e).2; omega
  · injection e with e
    injection e with e _
    subst e
    exact H.out.2.2.2.2
  · have e : (rootsR ws n us).2.1 = (cpL (cpF ws n) us ([], [])).2.1 := rfl
    rw [e]
    simp only [List.length_nil] at hz
    omega
theorem ag_used {n : Nat} {w1 : World} {hp : Nat} {ws : List Wd} {nm : List ByteArray} {us : List Wd} {qs : List (Tm n)} {a : Option Addr} {gv : Value} {w : World} (h : AgC n w1 hp ws nm us qs a gv w) :
    Calls Try.prog 23 #[.pointer (some ⟨hp, 0, none⟩)] w fun e w' => e = .returned (.int .i64 ws.length) ∧ w' = w := by
  obtain ⟨⟨M, h1, _⟩, _⟩ := h
  exact hused_any h1.2.1
/-- Collect of nothing. -/
theorem ag_none {n : Nat} {w1 : World} {hp : Nat} {ws : List Wd} {nm : List ByteArray} {us : List Wd} {qs : List (Tm n)} {a : Option Addr} {gv : Value} {w : World} (h : AgC n w1 hp ws nm us qs a gv w) (hn : nm.length ≤ 50000) :
    Calls Try.prog 21 #[.pointer (some ⟨hp, 0, none⟩), .slice none 0 0] w fun e w' => ∃ g, e = .returned (.tuple #[.slice (some ⟨g, 0, none⟩) 0 0, .int .i64 0]) ∧ Hid (Below w1.heap.size w1 w' ∧ ∀ wk, Below w'.heap.size w' wk → Calls Try.prog 23 #[.pointer (some ⟨hp, 0, none⟩)] wk fun e w'' => e = .returned (.int .i64 0) ∧ w'' = wk) := by
  obtain ⟨⟨M, h1, _⟩, _, _, _, _, h7⟩ := h
  have hr : Roots ws nm n [] [] := ag_roots ⟨rfl, fun i v y hv => by simp at hv⟩ (fun q hq => by simp at hq) (by simp)
  refine (hcollect_big n [] [] none 0 w1.heap.size hp 1000 ws nm M w h1.2.1 hr (Or.inl rfl) (fun b o e => by cases e) h1.1.size h7 hn).mono ?_
  rintro e w' ⟨g, rfl, H⟩
  have h2 := h1.coll H.out
  exact ⟨g, rfl, h2.1, fun wk hk => hused_any (h2.later hk).2.1⟩
end Go.Proofs.Ytfaoeccnhbcjgab
