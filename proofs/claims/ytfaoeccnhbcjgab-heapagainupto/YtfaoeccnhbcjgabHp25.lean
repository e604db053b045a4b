/- What is proved here: Live and Collect of a heap, of words that stand for right closed terms: how many words the copy has; the copy in the heap's place, and the words' copies in a row apart. No condition but sizes. -/
import Derived.Test.YtfaoeccnhbcjgabHp24
namespace Go.Proofs.Ytfaoeccnhbcjgab
open Go.RowKit Go.Maps

theorem words_later {w w1 : World} {vs : List Wd} {a : Option Addr} (h : WordsIn w vs a) (hb : Below w.heap.size w w1) : WordsIn w1 vs a := by
  rcases h with h | ⟨b, o, e, hl, h⟩
  · exact Or.inl h
  · exact Or.inr ⟨b, o, e, Nat.lt_of_lt_of_le hl hb.size, fun i v hv => ⟨(below_cells hb b _ hl).trans (h i v hv).1, (below_cells hb b _ hl).trans (h i v hv).2⟩⟩
theorem words_lt {w : World} {vs : List Wd} {a : Option Addr} (h : WordsIn w vs a) (hne : vs ≠ []) : ∀ b o, a = some ⟨b, o, none⟩ → b < w.heap.size := by
  rcases h with h | ⟨b, o, e, hl, h⟩
  · exact absurd h hne
  · intro b' o' e'
    rw [e] at e'
    injection e' with e'
    injection e' with e1 _
    omega
/-- What roots must be. -/
def Roots (ws : List Wd) (nm : List ByteArray) (n : Nat) (vs : List Wd) (p : List (Tm n)) : Prop :=
  StandL ws nm n vs p ∧ (∀ y ∈ p, RightA ⟨n, y⟩) ∧ (∀ y ∈ p, closedT n y = true) ∧ (p.map fun y => 1 + sz n y).sum ≤ 90000 ∧ (p.flatMap fun y => nodes n y).length ≤ 90000 ∧ vs.length ≤ 1000
def rootsR (ws : List Wd) (n : Nat) (vs : List Wd) : List Wd × List Wd × Went := cpL (cpF ws n) vs ([], [])
theorem Roots.all {ws : List Wd} {nm : List ByteArray} {n : Nat} {vs : List Wd} {p : List (Tm n)} (h : Roots ws nm n vs p) (hw : ws.length ≤ 1000) (hn : nm.length ≤ 50000) : vs.all (standsB ws nm) = true ∧ ∀ v ∈ vs, I64 v.2 := by
  have key : ∀ v ∈ vs, standsB ws nm v = true ∧ I64 v.2 := fun v hv => by
    obtain ⟨y, hy, hs⟩ := h.1.mem hv
    exact stands_B hs (h.2.1 y hy) (h.2.2.1 y hy) (by omega) (by omega)
  exact ⟨List.all_eq_true.2 fun v hv => (key v hv).1, fun v hv => (key v hv).2⟩

theorem hlive_any (n : Nat) (p : List (Tm n)) (vs : List Wd) (a : Option Addr) (pc base hp : Nat) (room : Int) (ws : List Wd) (nm : List ByteArray) (M : Nat → Prop) (w : World) (h : HpAt base hp room ws nm M w) (hr : Roots ws nm n vs p) (hin : WordsIn w vs a) (hne : vs ≠ []) (hw : ws.length ≤ 1000) (hn : nm.length ≤ 50000) :
    Calls Try.prog 20 #[.pointer (some ⟨hp, 0, none⟩), .slice a vs.length pc] w fun e w' => e = .returned (.tuple #[.int .i64 (rootsR ws n vs).2.1.length, .int .i64 0]) ∧ Below w.heap.size w w' := by
  obtain ⟨hall, hi64⟩ := hr.all hw hn
  obtain ⟨tv, lv, mv, h1, h2, h3, h4, h5, h6, h7⟩ := id h
  obtain ⟨⟨c0, c1, c2, c3⟩, hf⟩ := h1.cells
  obtain ⟨ta, tc, rfl⟩ : ∃ ta tc, tv = .slice ta ws.length tc := by
    rcases h2.2 with ⟨e, e0⟩ | ⟨g, c, cur, e, _⟩
    · exact ⟨none, 0, by rw [e, e0]⟩
    · exact ⟨_, c, e⟩
  refine live_walk (rootsR ws n vs) hp ta ws.length tc a vs.length pc w h1.lt c1 ?_ ?_
  · have hk := allStand_any base hp room ws nm M vs a vs.length pc w h (by omega) rfl (by have := hr.2.2.2.2.2; omega) hin hi64
    rw [hall] at hk
    exact hk
  · intro w1 hb
    refine reached_any ws nm n vs p base (.slice ta ws.length tc) a pc w1 (own_below h2 hb) hr.1 hr.2.1 (by omega) (by have := hr.2.2.2.2.2; omega) hr.2.2.2.1 hr.2.2.2.2.1 (words_later hin hb) ?_
    intro b o e
    exact Nat.lt_of_lt_of_le (words_lt hin hne b o e) hb.size

/-- What Collect leaves: the heap, apart from the row g of the answer. -/
def CollOut (base hp : Nat) (room : Int) (R : List Wd × List Wd × Went) (nm : List ByteArray) (M : Nat → Prop) (g : Nat) (w w' : World) : Prop :=
  HpAt base hp room R.2.1 nm (fun b => (M b ∨ w.heap.size ≤ b) ∧ b ≠ g) w' ∧ Keep M w w' ∧ WordsIn w' R.1 (some ⟨g, 0, none⟩) ∧ w.heap.size ≤ g ∧ g < w'.heap.size
theorem words_row {w : World} {g base len : Nat} {vs : List Wd} (h : w.ownsRow base 37 2 (.slice (some ⟨g, 0, none⟩) len len) len (wCells vs)) : WordsIn w vs (some ⟨g, 0, none⟩) ∧ g < w.heap.size := by
  refine ⟨Or.inr ⟨g, 0, rfl, (h.lt g rfl).2, fun i v hv => ?_⟩, (h.lt g rfl).2⟩
  have := word_cells h i v hv
  rw [Nat.zero_add]
  exact this
theorem coll_out {base hp : Nat} {room : Int} {ws : List Wd} {nm : List ByteArray} {M : Nat → Prop} {R : List Wd × List Wd × Went} {len g : Nat} {tv : Value} {w w1 w2 : World} (h : HpAt base hp room ws nm M w) (hb : Below w.heap.size w w1) (hr : ReachOut R len g tv w1 w2) (hbw : base ≤ w.heap.size) : CollOut base hp room R nm M g w (w2.setCell ⟨hp, 1, none⟩ tv) := by
  have hl := collect_out h hb hr hbw
  obtain ⟨r1, r2, r3, r4, r5⟩ := hr
  have hs := hb.size
  have hb2 := hb.trans (r1.mono hs)
  obtain ⟨tv0, lv, mv, h1, h2, h3, h4, h5, h6, h7⟩ := h.later hb2
  have k := keep_set w2 hp 1 tv
  have r6 : ∀ b, tv.ownBlock = some b → w1.heap.size ≤ b := fun b e => (r2.lt b e).1
  have hhp : hp < w.heap.size := h4.2
  refine ⟨⟨tv, lv, mv, h1.set1 tv, row_kept (own_base r2 (by omega)) k (fun b e e' => ?_), h3.kept k (fun b e e' => ?_) (fun b e e' => ?_), ⟨Or.inl h4.1, by omega⟩, fun b e => ⟨Or.inr (by have := r6 b e; omega), fun e' => r5 (by rw [e, e'])⟩, fun b e => ⟨Or.inl (h6 b e).1, by have := (h6 b e).2; omega⟩, fun b e => ⟨Or.inl (h7 b e).1, by have := (h7 b e).2; omega⟩⟩, hl.2, ?_, by omega, ?_⟩
  · subst e'
    have := r6 b e
    omega
  · subst e'
    exact row_box h3.1 h1 (by decide) e
  · subst e'
    exact map_box h3 h1 e
  · have r3' := row_kept r3 k (fun b e e' => by
      subst e'
      simp only [Value.ownBlock] at e
      have := Option.some.inj e
      omega)
    exact (words_row r3').1
  · have := (words_row r3).2
    simpa [World.setCell] using this

theorem hcollect_any (n : Nat) (p : List (Tm n)) (vs : List Wd) (a : Option Addr) (pc base hp : Nat) (room : Int) (ws : List Wd) (nm : List ByteArray) (M : Nat → Prop) (w : World) (h : HpAt base hp room ws nm M w) (hr : Roots ws nm n vs p) (hin : WordsIn w vs a) (hlt : ∀ b o, a = some ⟨b, o, none⟩ → b < w.heap.size) (hbw : base ≤ w.heap.size) (hw : ws.length ≤ 1000) (hn : nm.length ≤ 50000) :
    Calls Try.prog 21 #[.pointer (some ⟨hp, 0, none⟩), .slice a vs.length pc] w fun e w' => ∃ g, e = .returned (.tuple #[.slice (some ⟨g, 0, none⟩) vs.length vs.length, .int .i64 0]) ∧ Hid (CollOut base hp room (rootsR ws n vs) nm M g w w') := by
  obtain ⟨hall, hi64⟩ := hr.all hw hn
  obtain ⟨tv, lv, mv, h1, h2, h3, h4, h5, h6, h7⟩ := id h
  obtain ⟨⟨c0, c1, c2, c3⟩, hf⟩ := h1.cells
  obtain ⟨ta, tc, rfl⟩ : ∃ ta tc, tv = .slice ta ws.length tc := by
    rcases h2.2 with ⟨e, e0⟩ | ⟨g, c, cur, e, _⟩
    · exact ⟨none, 0, by rw [e, e0]⟩
    · exact ⟨_, c, e⟩
  refine (collect_walk (rootsR ws n vs) hp ta ws.length tc a vs.length pc w h1.lt c1 (hf 1) ?_ ?_).mono ?_
  · have hk := allStand_any base hp room ws nm M vs a vs.length pc w h (by omega) rfl (by have := hr.2.2.2.2.2; omega) hin hi64
    rw [hall] at hk
    exact hk
  · intro w1 hb
    refine reached_any ws nm n vs p base (.slice ta ws.length tc) a pc w1 (own_below h2 hb) hr.1 hr.2.1 (by omega) (by have := hr.2.2.2.2.2; omega) hr.2.2.2.1 hr.2.2.2.2.1 (words_later hin hb) ?_
    intro b o e
    exact Nat.lt_of_lt_of_le (hlt b o e) hb.size
  · rintro e w' ⟨g, tv, w1, w2, rfl, rfl, H⟩
    exact ⟨g, rfl, coll_out h H.out.1 H.out.2 hbw⟩
end Go.Proofs.Ytfaoeccnhbcjgab
