/- What is proved here: plain facts and contracts that the claimed theorem stands on, several texts in one: what HeapAgain holds behind each round of its first loop: the heap, the words that were told and the terms that were put. No condition. Collect as HeapAgain calls it: twice, and of nothing. Condition: at most twenty roots, of right closed terms. -/
import Derived.Test.YtpehdgbdinjbaabG16
import Derived.Test.YtpehdgbdinjbaabG17
namespace Go.Proofs.Ytpehdgbdinjbaab
open Go.RowKit Go.Maps

/-- Behind k rounds: a heap of words ws, names nm in the blocks M; a row of the words vs, one of the terms ts, apart from it; each word stands for its term. -/
def AgS (n : Nat) (w1 : World) (hp k : Nat) (ws : List Wd) (nm : List ByteArray) (M : Nat → Prop) (vs : List Wd) (ts : List (Tm n)) (wv tv : Value) (wr : World) : Prop :=
  (HpS w1 hp 1000 ws nm M wr ∧ wr.ownsRow w1.heap.size 37 2 wv vs.length (wCells vs) ∧ wr.ownsRow w1.heap.size 24 4 tv ts.length (ndCells (ts.map (hdT n))) ∧
    (∀ b, wv.ownBlock = some b → w1.heap.size ≤ b ∧ ¬ M b) ∧ ∀ b, tv.ownBlock = some b → w1.heap.size ≤ b ∧ ¬ M b) ∧
  StandL ws nm n vs ts ∧ (∀ t ∈ ts, chk n t = 0 ∧ closedT n t = true ∧ In w1.heap.size w1 n t) ∧ vs.length ≤ k ∧ ws.length ≤ 1000 ∧ nm.length ≤ 201 * k

theorem AgS.start {n : Nat} {w1 w2 : World} {hp : Nat} {M : Nat → Prop} (h : HpS w1 hp 1000 [] [] M w2) : AgS n w1 hp 0 [] [] M [] [] (.slice none 0 0) (.slice none 0 0) w2 :=
  ⟨⟨h, World.ownsRow_nil _ _ _ _, World.ownsRow_nil _ _ _ _, fun b e => by simp [Value.ownBlock] at e, fun b e => by simp [Value.ownBlock] at e⟩, ⟨rfl, fun i v y hv => by simp at hv⟩, ⟨fun t ht => by simp at ht, Nat.le_refl _, Nat.zero_le _, Nat.zero_le _⟩⟩
theorem AgS.later {n : Nat} {w1 : World} {hp k : Nat} {ws : List Wd} {nm : List ByteArray} {M : Nat → Prop} {vs : List Wd} {ts : List (Tm n)} {wv tv : Value} {wr w' : World} (h : AgS n w1 hp k ws nm M vs ts wv tv wr) (hb : Below wr.heap.size wr w') : AgS n w1 hp k ws nm M vs ts wv tv w' :=
  ⟨⟨h.1.1.later hb, own_below h.1.2.1 hb, own_below h.1.2.2.1 hb, h.1.2.2.2.1, h.1.2.2.2.2⟩, h.2⟩
theorem AgS.more {n : Nat} {w1 : World} {hp k : Nat} {ws : List Wd} {nm : List ByteArray} {M : Nat → Prop} {vs : List Wd} {ts : List (Tm n)} {wv tv : Value} {wr : World} (h : AgS n w1 hp k ws nm M vs ts wv tv wr) : AgS n w1 hp (k + 1) ws nm M vs ts wv tv wr :=
  ⟨h.1, h.2.1, h.2.2.1, by have := h.2.2.2.1; omega, h.2.2.2.2.1, by have := h.2.2.2.2.2; omega⟩
theorem StandL.pre {ws ws' : List Wd} {nm nm' : List ByteArray} {n : Nat} {vs : List Wd} {ts : List (Tm n)} (h : StandL ws nm n vs ts) (h1 : ws <+: ws') (h2 : nm <+: nm') : StandL ws' nm' n vs ts :=
  ⟨h.1, fun i v y hv hy => (h.2 i v y hv hy).mono h1 h2⟩
theorem StandL.snoc {ws : List Wd} {nm : List ByteArray} {n : Nat} {vs : List Wd} {ts : List (Tm n)} (h : StandL ws nm n vs ts) {v : Wd} {x : Tm n} (hx : Stands ws nm n x v) : StandL ws nm n (vs ++ [v]) (ts ++ [x]) := by
  refine ⟨by simp [h.1], fun i u y hu hy => ?_⟩
  by_cases hi : i < vs.length
  · rw [List.getElem?_append_left hi] at hu
    rw [List.getElem?_append_left (by rw [← h.1]; exact hi)] at hy
    exact h.2 i u y hu hy
  · rw [List.getElem?_append_right (by omega)] at hu
    rw [List.getElem?_append_right (by rw [← h.1]; omega), ← h.1] at hy
    match i - vs.length, hu, hy with
    | 0, hu, hy => simp at hu hy; subst hu hy; exact hx
    | j + 1, hu, _ => simp at hu
theorem AgS.put {n : Nat} {w1 : World} {hp k : Nat} {ws : List Wd} {nm : List ByteArray} {M : Nat → Prop} {vs : List Wd} {ts : List (Tm n)} {wv tv : Value} {wr w' : World} {x : Tm n} (h : AgS n w1 hp k ws nm M vs ts wv tv wr)
    (hl : Laid w1.heap.size hp 1000 (layF n x ws nm).2.1 (layF n x ws nm).2.2 M wr w') (hc : chk n x = 0) (hz : sz n x ≤ 1000 - ws.length) :
    AgS n w1 hp (k + 1) (layF n x ws nm).2.1 (layF n x ws nm).2.2 (fun b => (M b ∨ wr.heap.size ≤ b) ∧ b < w'.heap.size) vs ts wv tv w' ∧ Stands (layF n x ws nm).2.1 (layF n x ws nm).2.2 n x (layF n x ws nm).1 := by
  obtain ⟨⟨h1, h2, h3, h4, h5⟩, h6, h7, h8, h9, h10⟩ := h
  have hp := layF_pre n x ws nm
  have hs := layF_sizes n x ws nm
  have hn := chk_nlen hc
  refine ⟨⟨⟨h1.laid hl, row_kept h2 hl.2 fun b e => (h4 b e).2, row_kept h3 hl.2 fun b e => (h5 b e).2, fun b e => ⟨(h4 b e).1, fun hm => ?_⟩, fun b e => ⟨(h5 b e).1, fun hm => ?_⟩⟩, h6.pre hp.1 hp.2, h7, by omega, by omega, by omega⟩, layF_stands n x ws nm (right_formed.2 (chk_iff.1 hc).1)⟩
  · rcases hm.1 with hm | hm
    · exact (h4 b e).2 hm
    · have := (h2.lt b e).2; omega
  · rcases hm.1 with hm | hm
    · exact (h5 b e).2 hm
    · have := (h3.lt b e).2; omega
theorem AgS.app {n : Nat} {w1 : World} {hp k : Nat} {ws : List Wd} {nm : List ByteArray} {M : Nat → Prop} {vs : List Wd} {ts : List (Tm n)} {wv tv wv' tv' : Value} {wr w' : World} {x : Tm n} {v : Wd} (h : AgS n w1 hp (k + 1) ws nm M vs ts wv tv wr) (hk : vs.length ≤ k)
    (ha : App2 w1.heap.size n wv tv wr wv' (vs ++ [v]) tv' (ts ++ [x]) w') (hx : Stands ws nm n x v) (hc : chk n x = 0 ∧ closedT n x = true ∧ In w1.heap.size w1 n x) :
    AgS n w1 hp (k + 1) ws nm M (vs ++ [v]) (ts ++ [x]) wv' tv' w' := by
  obtain ⟨⟨h1, h2, h3, h4, h5⟩, h6, h7, h8, h9, h10⟩ := h
  obtain ⟨k1, k2, k3⟩ := h1.rows ha h4 h5
  refine ⟨⟨k1, ha.2.1, ha.2.2.1, k2, k3⟩, h6.snoc hx, fun t ht => ?_, by simp; omega, h9, h10⟩
  simp at ht
  rcases ht with ht | rfl
  · exact h7 t ht
  · exact hc

/-- Behind the second loop's rounds: the words us and the terms qs that are picked, in rows of their own. -/
def AgT (n : Nat) (ws : List Wd) (nm : List ByteArray) (ts : List (Tm n)) (us : List Wd) (qs : List (Tm n)) (sv gv : Value) (wr w2 : World) : Prop :=
  Below wr.heap.size wr w2 ∧ w2.ownsRow wr.heap.size 37 2 sv us.length (wCells us) ∧ w2.ownsRow wr.heap.size 24 4 gv qs.length (ndCells (qs.map (hdT n))) ∧ StandL ws nm n us qs ∧ ∀ q ∈ qs, q ∈ ts
theorem AgT.start {n : Nat} {ws : List Wd} {nm : List ByteArray} {ts : List (Tm n)} (wr : World) : AgT n ws nm ts [] [] (.slice none 0 0) (.slice none 0 0) wr wr :=
  ⟨Below.refl _ _, World.ownsRow_nil _ _ _ _, World.ownsRow_nil _ _ _ _, ⟨rfl, fun i v y hv => by simp at hv⟩, fun q hq => by simp at hq⟩
theorem App2.below {base n : Nat} {wv0 tv0 : Value} {w0 wr w' : World} {wv : Value} {vs : List Wd} {tv : Value} {ts : List (Tm n)} (h : App2 base n wv0 tv0 wr wv vs tv ts w') (hb : Below base w0 wr) (hs : base ≤ wr.heap.size) (h1 : ∀ b, wv0.ownBlock = some b → base ≤ b) (h2 : ∀ b, tv0.ownBlock = some b → base ≤ b) : Below base w0 w' :=
  ⟨h.1.os.trans hb.os, h.1.tape.trans hb.tape, h.1.output.trans hb.output, Nat.le_trans hb.size h.1.size, fun b hw => (h.1.block b (by omega) (by
    rintro (e | e)
    · have := h1 b e; omega
    · have := h2 b e; omega)).trans (hb.block b hw)⟩
theorem AgT.app {n : Nat} {ws : List Wd} {nm : List ByteArray} {ts : List (Tm n)} {us : List Wd} {qs : List (Tm n)} {sv gv sv' gv' : Value} {wr w2 w' : World} {v : Wd} {x : Tm n} (h : AgT n ws nm ts us qs sv gv wr w2) (ha : App2 wr.heap.size n sv gv w2 sv' (us ++ [v]) gv' (qs ++ [x]) w') (hs : Stands ws nm n x v) (hx : x ∈ ts) : AgT n ws nm ts (us ++ [v]) (qs ++ [x]) sv' gv' wr w' := by
  refine ⟨ha.below h.1 h.1.size (fun b e => (h.2.1.lt b e).1) (fun b e => (h.2.2.1.lt b e).1), ha.2.1, ha.2.2.1, h.2.2.2.1.snoc hs, fun q hq => ?_⟩
  simp at hq
  rcases hq with hq | rfl
  · exact h.2.2.2.2 q hq
  · exact hx
theorem sum_le_c {α : Type} (f : α → Int) (c : Int) : (l : List α) → (∀ y ∈ l, f y ≤ c) → (l.map f).sum ≤ l.length * c
  | [], _ => by simp
  | y :: l, h => by
    have h1 := h y (by simp)
    have h2 := sum_le_c f c l fun z hz => h z (by simp [hz])
    simp only [List.map_cons, List.sum_cons, List.length_cons, Int.natCast_add, Int.add_mul]
    omega
theorem flat_le_c {α β : Type} (f : α → List β) (c : Nat) : (l : List α) → (∀ y ∈ l, (f y).length ≤ c) → (l.flatMap f).length ≤ l.length * c
  | [], _ => by simp
  | y :: l, h => by
    have h1 := h y (by simp)
    have h2 := flat_le_c f c l fun z hz => h z (by simp [hz])
    simp only [List.flatMap_cons, List.length_append, List.length_cons, Nat.add_mul]
    omega
theorem ag_roots {ws : List Wd} {nm : List ByteArray} {n : Nat} {us : List Wd} {qs : List (Tm n)} (hs : StandL ws nm n us qs) (hq : ∀ q ∈ qs, chk n q = 0 ∧ closedT n q = true) (hl : us.length ≤ 20) : Roots ws nm n us qs := by
  have h1 := sum_le_c (fun y => 1 + sz n y) 201 qs fun y hy => by have := (chk_iff.1 (hq y hy).1).2.2; omega
  have h2 := flat_le_c (fun y => nodes n y) 201 qs fun y hy => chk_nlen (hq y hy).1
  have h3 := hs.1
  refine ⟨hs, fun y hy => right_formed.2 (chk_iff.1 (hq y hy).1).1, fun y hy => (hq y hy).2, ?_, ?_, by omega⟩
  · have : ((qs.length : Int)) * 201 ≤ 20 * 201 := by omega
    omega
  · omega
theorem own_words {w : World} {base L c : Nat} {a : Option Addr} {us : List Wd} (h : w.ownsRow base 37 2 (.slice a L c) L (wCells us)) (hL : us.length = L) : WordsIn w us a ∧ ∀ b o, a = some ⟨b, o, none⟩ → b < w.heap.size := by
  rcases h.2 with ⟨e, h0⟩ | ⟨g, cap, cur, e, hb, hh, _⟩
  · injection e with e
    subst e
    exact ⟨Or.inl (List.eq_nil_of_length_eq_zero (by omega)), fun b o e => by cases e⟩
  · injection e with e e2 e3
    subst e e3
    have hg := (Array.getElem?_eq_some_iff.1 hh).1
    refine ⟨Or.inr ⟨g, 0, rfl, hg, fun i v hv => ?_⟩, fun b o e => by injection e with e; injection e with e _; omega⟩
    have := word_cells h i v hv
    rw [Nat.zero_add]
    exact this
theorem again_len {ws : List Wd} {nm : List ByteArray} {n : Nat} {us : List Wd} {qs : List (Tm n)} (h : StandL ws nm n us qs) : (rootsR (rootsR ws n us).2.1 n (rootsR ws n us).1).2.1 = (rootsR ws n us).2.1 := again_all h
theorem roots_standL {ws : List Wd} {nm : List ByteArray} {n : Nat} {us : List Wd} {qs : List (Tm n)} (h : StandL ws nm n us qs) : StandL (rootsR ws n us).2.1 nm n (rootsR ws n us).1 qs ∧ (rootsR ws n us).1.length = us.length := by
  obtain ⟨h1, h2⟩ := roots_copies h
  exact ⟨⟨by rw [h1, h.1], fun i v y hv hy => h2 i y v hy hv⟩, h1⟩
theorem roots_nil (ws : List Wd) (n : Nat) : rootsR ws n [] = ([], [], []) := rfl
end Go.Proofs.Ytpehdgbdinjbaab
namespace Go.Proofs.Ytpehdgbdinjbaab
open Go.RowKit Go.Maps

theorem Roots.allB {ws : List Wd} {nm : List ByteArray} {n : Nat} {vs : List Wd} {p : List (Tm n)} (h : Roots ws nm n vs p) (hw : ws.length ≤ 50000) (hn : nm.length ≤ 50000) : vs.all (standsB ws nm) = true ∧ ∀ v ∈ vs, I64 v.2 := by
  have key : ∀ v ∈ vs, standsB ws nm v = true ∧ I64 v.2 := fun v hv => by
    obtain ⟨y, hy, hs⟩ := h.1.mem hv
    exact stands_B hs (h.2.1 y hy) (h.2.2.1 y hy) (by omega) (by omega)
  exact ⟨List.all_eq_true.2 fun v hv => (key v hv).1, fun v hv => (key v hv).2⟩
theorem hcollect_big (n : Nat) (p : List (Tm n)) (vs : List Wd) (a : Option Addr) (pc base hp : Nat) (room : Int) (ws : List Wd) (nm : List ByteArray) (M : Nat → Prop) (w : World) (h : HpAt base hp room ws nm M w) (hr : Roots ws nm n vs p) (hin : WordsIn w vs a) (hlt : ∀ b o, a = some ⟨b, o, none⟩ → b < w.heap.size) (hbw : base ≤ w.heap.size) (hw : ws.length ≤ 50000) (hn : nm.length ≤ 50000) :
    Calls Try.prog 22 #[.pointer (some ⟨hp, 0, none⟩), .slice a vs.length pc] w fun e w' => ∃ g, e = .returned (.tuple #[.slice (some ⟨g, 0, none⟩) vs.length vs.length, .int .i64 0]) ∧ Hid (CollOut base hp room (rootsR ws n vs) nm M g w w') := by
  obtain ⟨hall, hi64⟩ := hr.allB hw hn
  obtain ⟨tv, lv, mv, h1, h2, h3, h4, h5, h6, h7⟩ := id h
  obtain ⟨⟨c0, c1, c2, c3⟩, hf⟩ := h1.cells
  obtain ⟨ta, tc, rfl⟩ : ∃ ta tc, tv = .slice ta ws.length tc := by
    rcases h2.2 with ⟨e, e0⟩ | ⟨g, c, cur, e, _⟩
    · exact ⟨none, 0, by rw [e, e0]⟩
    · exact ⟨_, c, e⟩
  refine (collect_walk (rootsR ws n vs) hp ta ws.length tc a vs.length pc w h1.lt c1 (hf 1) ?_ ?_).mono ?_
  · have hk := allStand_any base hp room ws nm M vs a vs.length pc w h (by omega) rfl (by have := hr.2.2.2.2.2; omega) hin hi64
    rw [hall] at hk
    exact hk
  · intro w1 hb
    refine reached_any ws nm n vs p base (.slice ta ws.length tc) a pc w1 (own_below h2 hb) hr.1 hr.2.1 (by omega) (by have := hr.2.2.2.2.2; omega) hr.2.2.2.1 hr.2.2.2.2.1 (words_later hin hb) ?_
    intro b o e
    exact Nat.lt_of_lt_of_le (hlt b o e) hb.size
  · rintro e w' ⟨g, tv, w1, w2, rfl, rfl, H⟩
    exact ⟨g, rfl, coll_out h H.out.1 H.out.2 hbw⟩

/-- A heap, its words us at a that stand for qs, and a row gv of the terms qs, apart from it. -/
def AgC (n : Nat) (w1 : World) (hp : Nat) (ws : List Wd) (nm : List ByteArray) (us : List Wd) (qs : List (Tm n)) (a : Option Addr) (gv : Value) (w : World) : Prop :=
  (∃ M, HpS w1 hp 1000 ws nm M w ∧ ∀ b, gv.ownBlock = some b → ¬ M b) ∧ w.ownsRow w1.heap.size 24 4 gv qs.length (ndCells (qs.map (hdT n))) ∧ WordsIn w us a ∧ (∀ b o, a = some ⟨b, o, none⟩ → b < w.heap.size) ∧
  StandL ws nm n us qs ∧ ws.length ≤ 50000
theorem AgC.later {n : Nat} {w1 : World} {hp : Nat} {ws : List Wd} {nm : List ByteArray} {us : List Wd} {qs : List (Tm n)} {a : Option Addr} {gv : Value} {w w' : World} (h : AgC n w1 hp ws nm us qs a gv w) (hb : Below w.heap.size w w') : AgC n w1 hp ws nm us qs a gv w' := by
  obtain ⟨⟨M, h1, h2⟩, h3, h4, h5, h6⟩ := h
  exact ⟨⟨M, h1.later hb, h2⟩, own_below h3 hb, words_later h4 hb, fun b o e => Nat.lt_of_lt_of_le (h5 b o e) hb.size, h6⟩
theorem AgC.of {n : Nat} {w1 : World} {hp k : Nat} {ws : List Wd} {nm : List ByteArray} {M : Nat → Prop} {vs us : List Wd} {ts qs : List (Tm n)} {wv tv gv : Value} {sa : Option Addr} {L2 sc : Nat} {wq wr : World} (h : AgS n w1 hp k ws nm M vs ts wv tv wq) (hT : AgT n ws nm ts us qs (.slice sa L2 sc) gv wq wr) (hL : us.length = L2) : AgC n w1 hp ws nm us qs sa gv wr := by
  have hs := h.1.1.1.size
  have h1 : wr.ownsRow wq.heap.size 37 2 (.slice sa L2 sc) L2 (wCells us) := by have := hT.2.1; rwa [hL] at this
  obtain ⟨k1, k2⟩ := own_words h1 hL
  exact ⟨⟨M, h.1.1.later hT.1, fun b e hm => by have := (h.1.1.2.2 b hm).2; have := (hT.2.2.1.lt b e).1; omega⟩, own_base hT.2.2.1 hs, k1, k2, hT.2.2.2.1, by have := h.2.2.2.2.1; omega⟩
theorem ag_collect {n : Nat} {w1 : World} {hp : Nat} {ws : List Wd} {nm : List ByteArray} {us : List Wd} {qs : List (Tm n)} {a : Option Addr} {gv : Value} {w : World} (h : AgC n w1 hp ws nm us qs a gv w) (hq : ∀ q ∈ qs, chk n q = 0 ∧ closedT n q = true) (L pc : Nat) (hL : us.length = L) (hl : L ≤ 20) (hn : nm.length ≤ 50000) :
    Calls Try.prog 22 #[.pointer (some ⟨hp, 0, none⟩), .slice a L pc] w fun e w' => ∃ g, e = .returned (.tuple #[.slice (some ⟨g, 0, none⟩) L L, .int .i64 0]) ∧ Hid (AgC n w1 hp (rootsR ws n us).2.1 nm (rootsR ws n us).1 qs (some ⟨g, 0, none⟩) gv w') := by
  subst hL
  obtain ⟨⟨M, h1, h2⟩, h3, h4, h5, h6, h7⟩ := h
  have hr := ag_roots h6 hq hl
  refine (hcollect_big n qs us a pc w1.heap.size hp 1000 ws nm M w h1.2.1 hr h4 h5 h1.1.size h7 hn).mono ?_
  rintro e w' ⟨g, rfl, H⟩
  have hz := (cpL_sizes (fun x v S hh => cpF_sizes n x v S hh) us qs ([], []) h6).1
  have hz2 := sum_le_c (fun y => 1 + sz n y) 201 qs fun y hy => by have := (chk_iff.1 (hq y hy).1).2.2; omega
  have hz3 := h6.1
  refine ⟨g, rfl, ⟨_, h1.coll H.out, fun b e hm => ?_⟩, row_kept h3 H.out.2.1 h2, H.out.2.2.1, fun b o e => ?_, (roots_standL h6).1, ?_⟩
  · rcases hm.1.1 with hm | hm
    · exact h2 b e hm
    · have := (h3.lt b e).2; omega
  · injection e with e
    injection e with e _
    subst e
    exact H.out.2.2.2.2
  · have e : (rootsR ws n us).2.1 = (cpL (cpF ws n) us ([], [])).2.1 := rfl
    rw [e]
    simp only [List.length_nil] at hz
    omega
theorem ag_used {n : Nat} {w1 : World} {hp : Nat} {ws : List Wd} {nm : List ByteArray} {us : List Wd} {qs : List (Tm n)} {a : Option Addr} {gv : Value} {w : World} (h : AgC n w1 hp ws nm us qs a gv w) :
    Calls Try.prog 24 #[.pointer (some ⟨hp, 0, none⟩)] w fun e w' => e = .returned (.int .i64 ws.length) ∧ w' = w := by
  obtain ⟨⟨M, h1, _⟩, _⟩ := h
  exact hused_any h1.2.1
/-- Collect of nothing. -/
theorem ag_none {n : Nat} {w1 : World} {hp : Nat} {ws : List Wd} {nm : List ByteArray} {us : List Wd} {qs : List (Tm n)} {a : Option Addr} {gv : Value} {w : World} (h : AgC n w1 hp ws nm us qs a gv w) (hn : nm.length ≤ 50000) :
    Calls Try.prog 22 #[.pointer (some ⟨hp, 0, none⟩), .slice none 0 0] w fun e w' => ∃ g, e = .returned (.tuple #[.slice (some ⟨g, 0, none⟩) 0 0, .int .i64 0]) ∧ Hid (Below w1.heap.size w1 w' ∧ ∀ wk, Below w'.heap.size w' wk → Calls Try.prog 24 #[.pointer (some ⟨hp, 0, none⟩)] wk fun e w'' => e = .returned (.int .i64 0) ∧ w'' = wk) := by
  obtain ⟨⟨M, h1, _⟩, _, _, _, _, h7⟩ := h
  have hr : Roots ws nm n [] [] := ag_roots ⟨rfl, fun i v y hv => by simp at hv⟩ (fun q hq => by simp at hq) (by simp)
  refine (hcollect_big n [] [] none 0 w1.heap.size hp 1000 ws nm M w h1.2.1 hr (Or.inl rfl) (fun b o e => by cases e) h1.1.size h7 hn).mono ?_
  rintro e w' ⟨g, rfl, H⟩
  have h2 := h1.coll H.out
  exact ⟨g, rfl, h2.1, fun wk hk => hused_any (h2.later hk).2.1⟩
end Go.Proofs.Ytpehdgbdinjbaab
