/- What is proved here: plain facts and contracts that the claimed theorem stands on, several texts in one: what HeapAgain holds behind each round of its first loop: the heap, the words that were told and the terms that were put. No condition. the state of HeapPlays behind Collect of some of its words: these, their terms and their nodes are what stands then. No condition but that all lies in memory. one more is picked of the state of HeapPlays. No condition but that all lies in memory. the three kinds of row of HeapPlays, for the law of three rows. No condition. slices.Clone of a row of words. No condition but a bound on the row's length. the document's Rest, for the lengths that HeapPlays has, and its In. No condition but the bound. the state of HeapPlays behind the append of what was put, or joined, to its three rows. No condition but that all lies in memory. the loop of HeapPlays over the numbers of a call: a row of places, each below the number of words. No condition but that all lies in memory. the loop of HeapPlays over its words: each is got, and is its term. No condition but that all lies in memory. -/
import Derived.Test.YtdlckjjfbobmpaaG19
import Derived.Test.YtdlckjjfbobmpaaG20
import Derived.Test.YtdlckjjfbobmpaaG18
import Derived.Great.FillDense
import Derived.Test.YtdlckjjfbobmpaaG09
import Derived.Deep.DeepCutAuto
import Derived.Deep.CutBlock
import Derived.Deep.RegionHeld3
namespace Go.Proofs.Ytdlckjjfbobmpaa
open Go.RowKit Go.Maps

/-- Behind k rounds: a heap of words ws, names nm in the blocks M; a row of the words vs, one of the terms ts, apart from it; each word stands for its term. -/
def AgS (n : Nat) (w1 : World) (hp k : Nat) (ws : List Wd) (nm : List ByteArray) (M : Nat → Prop) (vs : List Wd) (ts : List (Tm n)) (wv tv : Value) (wr : World) : Prop :=
  (HpS w1 hp 1000 ws nm M wr ∧ wr.ownsRow w1.heap.size 38 2 wv vs.length (wCells vs) ∧ wr.ownsRow w1.heap.size 32 4 tv ts.length (ndCells (ts.map (hdT n))) ∧
    (∀ b, wv.ownBlock = some b → w1.heap.size ≤ b ∧ ¬ M b) ∧ ∀ b, tv.ownBlock = some b → w1.heap.size ≤ b ∧ ¬ M b) ∧
  StandL ws nm n vs ts ∧ (∀ t ∈ ts, chk n t = 0 ∧ closedT n t = true ∧ In w1.heap.size w1 n t) ∧ vs.length ≤ k ∧ ws.length ≤ 1000 ∧ nm.length ≤ 201 * k

theorem AgS.start {n : Nat} {w1 w2 : World} {hp : Nat} {M : Nat → Prop} (h : HpS w1 hp 1000 [] [] M w2) : AgS n w1 hp 0 [] [] M [] [] (.slice none 0 0) (.slice none 0 0) w2 :=
  ⟨⟨h, World.ownsRow_nil _ _ _ _, World.ownsRow_nil _ _ _ _, fun b e => by simp [Value.ownBlock] at e, fun b e => by simp [Value.ownBlock] at e⟩, ⟨rfl, fun i v y hv => by simp at hv⟩, ⟨fun t ht => by simp at ht, Nat.le_refl _, Nat.zero_le _, Nat.zero_le _⟩⟩
theorem AgS.later {n : Nat} {w1 : World} {hp k : Nat} {ws : List Wd} {nm : List ByteArray} {M : Nat → Prop} {vs : List Wd} {ts : List (Tm n)} {wv tv : Value} {wr w' : World} (h : AgS n w1 hp k ws nm M vs ts wv tv wr) (hb : Below wr.heap.size wr w') : AgS n w1 hp k ws nm M vs ts wv tv w' :=
  ⟨⟨h.1.1.later hb, own_below h.1.2.1 hb, own_below h.1.2.2.1 hb, h.1.2.2.2.1, h.1.2.2.2.2⟩, h.2⟩
theorem AgS.more {n : Nat} {w1 : World} {hp k : Nat} {ws : List Wd} {nm : List ByteArray} {M : Nat → Prop} {vs : List Wd} {ts : List (Tm n)} {wv tv : Value} {wr : World} (h : AgS n w1 hp k ws nm M vs ts wv tv wr) : AgS n w1 hp (k + 1) ws nm M vs ts wv tv wr :=
  ⟨h.1, h.2.1, h.2.2.1, by have := h.2.2.2.1; omega, h.2.2.2.2.1, by have := h.2.2.2.2.2; omega⟩
theorem StandL.pre {ws ws' : List Wd} {nm nm' : List ByteArray} {n : Nat} {vs : List Wd} {ts : List (Tm n)} (h : StandL ws nm n vs ts) (h1 : ws <+: ws') (h2 : nm <+: nm') : StandL ws' nm' n vs ts :=
  ⟨h.1, fun i v y hv hy => (h.2 i v y hv hy).mono h1 h2⟩
theorem StandL.snoc {ws : List Wd} {nm : List ByteArray} {n : Nat} {vs : List Wd} {ts : List (Tm n)} (h : StandL ws nm n vs ts) {v : Wd} {x : Tm n} (hx : Stands ws nm n x v) : StandL ws nm n (vs ++ [v]) (ts ++ [x]) := by
  refine ⟨by simp [h.1], fun i u y hu hy => ?_⟩
  by_cases hi : i < vs.length
  · rw [List.getElem?_append_left hi] at hu
    rw [List.getElem?_append_left (by rw [← h.1]; exact hi)] at hy
    exact h.2 i u y hu hy
  · rw [List.getElem?_append_right (by omega)] at hu
    rw [List.getElem?_append_right (by rw [← h.1]; omega), ← h.1] at hy
    match i - vs.length, hu, hy with
    | 0, hu, hy => simp at hu hy; subst hu hy; exact hx
    | j + 1, hu, _ => simp at hu
theorem AgS.put {n : Nat} {w1 : World} {hp k : Nat} {ws : List Wd} {nm : List ByteArray} {M : Nat → Prop} {vs : List Wd} {ts : List (Tm n)} {wv tv : Value} {wr w' : World} {x : Tm n} (h : AgS n w1 hp k ws nm M vs ts wv tv wr)
    (hl : Laid w1.heap.size hp 1000 (layF n x ws nm).2.1 (layF n x ws nm).2.2 M wr w') (hc : chk n x = 0) (hz : sz n x ≤ 1000 - ws.length) :
    AgS n w1 hp (k + 1) (layF n x ws nm).2.1 (layF n x ws nm).2.2 (fun b => (M b ∨ wr.heap.size ≤ b) ∧ b < w'.heap.size) vs ts wv tv w' ∧ Stands (layF n x ws nm).2.1 (layF n x ws nm).2.2 n x (layF n x ws nm).1 := by
  obtain ⟨⟨h1, h2, h3, h4, h5⟩, h6, h7, h8, h9, h10⟩ := h
  have hp := layF_pre n x ws nm
  have hs := layF_sizes n x ws nm
  have hn := chk_nlen hc
  refine ⟨⟨⟨h1.laid hl, row_kept h2 hl.2 fun b e => (h4 b e).2, row_kept h3 hl.2 fun b e => (h5 b e).2, fun b e => ⟨(h4 b e).1, fun hm => ?_⟩, fun b e => ⟨(h5 b e).1, fun hm => ?_⟩⟩, h6.pre hp.1 hp.2, h7, by omega, by omega, by omega⟩, layF_stands n x ws nm (right_formed.2 (chk_iff.1 hc).1)⟩
  · rcases hm.1 with hm | hm
    · exact (h4 b e).2 hm
    · have := (h2.lt b e).2; omega
  · rcases hm.1 with hm | hm
    · exact (h5 b e).2 hm
    · have := (h3.lt b e).2; omega
theorem AgS.app {n : Nat} {w1 : World} {hp k : Nat} {ws : List Wd} {nm : List ByteArray} {M : Nat → Prop} {vs : List Wd} {ts : List (Tm n)} {wv tv wv' tv' : Value} {wr w' : World} {x : Tm n} {v : Wd} (h : AgS n w1 hp (k + 1) ws nm M vs ts wv tv wr) (hk : vs.length ≤ k)
    (ha : App2 w1.heap.size n wv tv wr wv' (vs ++ [v]) tv' (ts ++ [x]) w') (hx : Stands ws nm n x v) (hc : chk n x = 0 ∧ closedT n x = true ∧ In w1.heap.size w1 n x) :
    AgS n w1 hp (k + 1) ws nm M (vs ++ [v]) (ts ++ [x]) wv' tv' w' := by
  obtain ⟨⟨h1, h2, h3, h4, h5⟩, h6, h7, h8, h9, h10⟩ := h
  obtain ⟨k1, k2, k3⟩ := h1.rows ha h4 h5
  refine ⟨⟨k1, ha.2.1, ha.2.2.1, k2, k3⟩, h6.snoc hx, fun t ht => ?_, by simp; omega, h9, h10⟩
  simp at ht
  rcases ht with ht | rfl
  · exact h7 t ht
  · exact hc

/-- Behind the second loop's rounds: the words us and the terms qs that are picked, in rows of their own. -/
def AgT (n : Nat) (ws : List Wd) (nm : List ByteArray) (ts : List (Tm n)) (us : List Wd) (qs : List (Tm n)) (sv gv : Value) (wr w2 : World) : Prop :=
  Below wr.heap.size wr w2 ∧ w2.ownsRow wr.heap.size 38 2 sv us.length (wCells us) ∧ w2.ownsRow wr.heap.size 32 4 gv qs.length (ndCells (qs.map (hdT n))) ∧ StandL ws nm n us qs ∧ ∀ q ∈ qs, q ∈ ts
theorem AgT.start {n : Nat} {ws : List Wd} {nm : List ByteArray} {ts : List (Tm n)} (wr : World) : AgT n ws nm ts [] [] (.slice none 0 0) (.slice none 0 0) wr wr :=
  ⟨Below.refl _ _, World.ownsRow_nil _ _ _ _, World.ownsRow_nil _ _ _ _, ⟨rfl, fun i v y hv => by simp at hv⟩, fun q hq => by simp at hq⟩
theorem App2.below {base n : Nat} {wv0 tv0 : Value} {w0 wr w' : World} {wv : Value} {vs : List Wd} {tv : Value} {ts : List (Tm n)} (h : App2 base n wv0 tv0 wr wv vs tv ts w') (hb : Below base w0 wr) (hs : base ≤ wr.heap.size) (h1 : ∀ b, wv0.ownBlock = some b → base ≤ b) (h2 : ∀ b, tv0.ownBlock = some b → base ≤ b) : Below base w0 w' :=
  ⟨h.1.os.trans hb.os, h.1.tape.trans hb.tape, h.1.output.trans hb.output, Nat.le_trans hb.size h.1.size, fun b hw => (h.1.block b (by omega) (by
    rintro (e | e)
    · have := h1 b e; omega
    · have := h2 b e; omega)).trans (hb.block b hw)⟩
theorem AgT.app {n : Nat} {ws : List Wd} {nm : List ByteArray} {ts : List (Tm n)} {us : List Wd} {qs : List (Tm n)} {sv gv sv' gv' : Value} {wr w2 w' : World} {v : Wd} {x : Tm n} (h : AgT n ws nm ts us qs sv gv wr w2) (ha : App2 wr.heap.size n sv gv w2 sv' (us ++ [v]) gv' (qs ++ [x]) w') (hs : Stands ws nm n x v) (hx : x ∈ ts) : AgT n ws nm ts (us ++ [v]) (qs ++ [x]) sv' gv' wr w' := by
  refine ⟨ha.below h.1 h.1.size (fun b e => (h.2.1.lt b e).1) (fun b e => (h.2.2.1.lt b e).1), ha.2.1, ha.2.2.1, h.2.2.2.1.snoc hs, fun q hq => ?_⟩
  simp at hq
  rcases hq with hq | rfl
  · exact h.2.2.2.2 q hq
  · exact hx
theorem sum_le_c {α : Type} (f : α → Int) (c : Int) : (l : List α) → (∀ y ∈ l, f y ≤ c) → (l.map f).sum ≤ l.length * c
  | [], _ => by simp
  | y :: l, h => by
    have h1 := h y (by simp)
    have h2 := sum_le_c f c l fun z hz => h z (by simp [hz])
    simp only [List.map_cons, List.sum_cons, List.length_cons, Int.natCast_add, Int.add_mul]
    omega
theorem flat_le_c {α β : Type} (f : α → List β) (c : Nat) : (l : List α) → (∀ y ∈ l, (f y).length ≤ c) → (l.flatMap f).length ≤ l.length * c
  | [], _ => by simp
  | y :: l, h => by
    have h1 := h y (by simp)
    have h2 := flat_le_c f c l fun z hz => h z (by simp [hz])
    simp only [List.flatMap_cons, List.length_append, List.length_cons, Nat.add_mul]
    omega
theorem ag_roots {ws : List Wd} {nm : List ByteArray} {n : Nat} {us : List Wd} {qs : List (Tm n)} (hs : StandL ws nm n us qs) (hq : ∀ q ∈ qs, chk n q = 0 ∧ closedT n q = true) (hl : us.length ≤ 20) : Roots ws nm n us qs := by
  have h1 := sum_le_c (fun y => 1 + sz n y) 201 qs fun y hy => by have := (chk_iff.1 (hq y hy).1).2.2; omega
  have h2 := flat_le_c (fun y => nodes n y) 201 qs fun y hy => chk_nlen (hq y hy).1
  have h3 := hs.1
  refine ⟨hs, fun y hy => right_formed.2 (chk_iff.1 (hq y hy).1).1, fun y hy => (hq y hy).2, ?_, ?_, by omega⟩
  · have : ((qs.length : Int)) * 201 ≤ 20 * 201 := by omega
    omega
  · omega
theorem own_words {w : World} {base L c : Nat} {a : Option Addr} {us : List Wd} (h : w.ownsRow base 38 2 (.slice a L c) L (wCells us)) (hL : us.length = L) : WordsIn w us a ∧ ∀ b o, a = some ⟨b, o, none⟩ → b < w.heap.size := by
  rcases h.2 with ⟨e, h0⟩ | ⟨g, cap, cur, e, hb, hh, _⟩
  · injection e with e
    subst e
    exact ⟨Or.inl (List.eq_nil_of_length_eq_zero (by omega)), fun b o e => by cases e⟩
  · injection e with e e2 e3
    subst e e3
    have hg := (Array.getElem?_eq_some_iff.1 hh).1
    refine ⟨Or.inr ⟨g, 0, rfl, hg, fun i v hv => ?_⟩, fun b o e => by injection e with e; injection e with e _; omega⟩
    have := word_cells h i v hv
    rw [Nat.zero_add]
    exact this
theorem again_len {ws : List Wd} {nm : List ByteArray} {n : Nat} {us : List Wd} {qs : List (Tm n)} (h : StandL ws nm n us qs) : (rootsR (rootsR ws n us).2.1 n (rootsR ws n us).1).2.1 = (rootsR ws n us).2.1 := again_all h
theorem roots_standL {ws : List Wd} {nm : List ByteArray} {n : Nat} {us : List Wd} {qs : List (Tm n)} (h : StandL ws nm n us qs) : StandL (rootsR ws n us).2.1 nm n (rootsR ws n us).1 qs ∧ (rootsR ws n us).1.length = us.length := by
  obtain ⟨h1, h2⟩ := roots_copies h
  exact ⟨⟨by rw [h1, h.1], fun i v y hv hy => h2 i y v hy hv⟩, h1⟩
theorem roots_nil (ws : List Wd) (n : Nat) : rootsR ws n [] = ([], [], []) := rfl
end Go.Proofs.Ytdlckjjfbobmpaa
namespace Go.Proofs.Ytdlckjjfbobmpaa
open Go.RowKit Go.Maps

/-- What is picked of a state: words, terms and nodes, in rows of their own. -/
structure Sel (w : World) (n : Nat) (ws : List Wd) (nm : List ByteArray) (ts : List (Tm 13)) (C : Went) (us : List Wd) (qs : List (Tm 13)) (ks : List (Option Nat)) (s1 s2 s3 : Value) (X : Nat → Prop) (wr : World) : Prop where
  lens : us.length = n ∧ qs.length = n ∧ ks.length = n
  r1 : wr.ownsRow w.heap.size 38 2 s1 n (wCells us)
  r2 : wr.ownsRow w.heap.size 32 4 s2 n (ndCells (qs.map (hdT 13)))
  r3 : wr.ownsRow w.heap.size 39 1 s3 n (ks.map pv)
  own : ∀ b, Own3 s1 s2 s3 b → X b
  stand : StandL ws nm 13 us qs
  sub : ∀ y ∈ qs, y ∈ ts
  rel : RelR C us ks
section
variable {w : World} {hp : Nat} {room : Int} {j L : Nat} {ws : List Wd} {nm : List ByteArray} {M : Nat → Prop} {vs : List Wd} {ts : List (Tm 13)} {ns : List (Option Nat)} {C : Went} {v7 v8 v9 : Value} {X : Nat → Prop} {wr : World} {n : Nat} {us : List Wd} {qs : List (Tm 13)} {ks : List (Option Nat)} {s1 s2 s3 : Value}
theorem HpR.collect (h : HpR w hp room j L ws nm M vs ts ns C v7 v8 v9 X wr) (hS : Sel w n ws nm ts C us qs ks s1 s2 s3 X wr) (hj : j ≤ 200) (hn : n ≤ 1500000) :
    Calls Try.prog 13 #[.pointer (some ⟨hp, 0, none⟩), s1] wr fun e w' => ∃ g, e = .returned (.tuple #[.slice (some ⟨g, 0, none⟩) n n, .int .i64 0]) ∧ Hid (CollOut w.heap.size hp room (rootsR ws 13 us) nm M g wr w') := by
  obtain ⟨a, c, rfl⟩ := own_slice hS.r1
  obtain ⟨k1, k2⟩ := own_words7 hS.r1 hS.lens.1
  have hnm := h.names
  have k := hcollect_anf 13 qs us a c w.heap.size hp room ws nm M wr h.heap.2.1 ⟨hS.stand, fun y hy => h.right y (hS.sub y hy), fun y hy => (h.good y (hS.sub y hy)).2, by rw [hS.lens.1]; omega⟩ k1 k2 h.heap.1.size h.few (by omega)
  rw [hS.lens.1] at k
  exact k
theorem HpR.collected (h : HpR w hp room j L ws nm M vs ts ns C v7 v8 v9 X wr) (hS : Sel w n ws nm ts C us qs ks s1 s2 s3 X wr) {g : Nat} {w' w2 : World} (k : CollOut w.heap.size hp room (rootsR ws 13 us) nm M g wr w') (hb : Below w'.heap.size w' w2) {y7 : Value} (r7 : w2.ownsRow w.heap.size 38 2 y7 n (wCells (rootsR ws 13 us).1)) (hy7 : ∀ b, y7.ownBlock = some b → w'.heap.size ≤ b) :
    HpR w hp room j n (rootsR ws 13 us).2.1 nm (fun b => ((M b ∨ wr.heap.size ≤ b) ∧ b ≠ g) ∧ b < w'.heap.size) (rootsR ws 13 us).1 qs ks (corT C (rootsR ws 13 us).2.2) y7 s2 s3 (fun _ => False) w2 := by
  have hk := k.2.1
  have hs := hk.size
  have hs2 := hb.size
  have hkk : Kee M wr w2 := Kee.trans ⟨hk.os, hk.tape, hk.output, hk.size, hk.block⟩ (kee_below hb fun _ => False) fun _ _ e => e.elim
  obtain ⟨i1, i2, i3⟩ := cpL_inv (fun x v S hh hi => cpF_inv 13 x v S hh hi) us qs hS.stand ([], []) (CInv.nil ws)
  have hX2 : ∀ b, s2.ownBlock = some b ∨ s3.ownBlock = some b → X b := fun b e => hS.own b (Or.inr e)
  have hF : ∀ b, Fz M v7 v8 v9 X wr b → b < wr.heap.size → Fz (fun b => ((M b ∨ wr.heap.size ≤ b) ∧ b ≠ g) ∧ b < w'.heap.size) y7 s2 s3 (fun _ => False) w2 b := fun b q hl => ⟨by omega, fun e => by
    rcases e.1.1 with e | e
    · exact q.2.1 e
    · omega, fun e => by
    rcases e with e | e
    · have := hy7 b e
      omega
    · exact q.2.2.2 (hX2 b e), fun e => e⟩
  have hB : ∀ b, Fz M v7 v8 v9 X wr b → b < wr.heap.size → w2.heap[b]? = wr.heap[b]? := fun b q hl => hkk.block b hl q.2.1
  have hkeys : ∀ e ∈ (cpL (cpF ws 13) us ([], [])).2.2, e.1 ∈ List.map (fun (c : Nat × Nat) => c.1) C := cpL_least (ws := ws) (n := 13) (P := fun (p : Nat) => p ∈ List.map (fun (c : Nat × Nat) => c.1) C) (fun v S => cpF_least h.cor.shut 13 v S) us ([], []) (fun v hv h4 => by
    obtain ⟨q, _, hq⟩ := hS.rel.part hv
    obtain ⟨b, _, hb⟩ := hq.1 h4
    exact List.mem_map.2 ⟨_, hb, rfl⟩) fun e he => (by cases he)
  have hXM : ∀ b, X b → ¬ M b := fun b e => (h.sep b e).1
  refine ⟨(h.heap.coll k).later hb, ⟨(cpL_length (cpF ws 13) us ([], [])).trans hS.lens.1, hS.lens.2⟩, r7, row_kee hS.r2 hkk fun b e => hXM b (hX2 b (Or.inl e)), row_kee hS.r3 hkk fun b e => hXM b (hX2 b (Or.inr e)), fun b e => ⟨fun q => ?_, fun q => q⟩, fun b e => e.elim, (roots_standL hS.stand).1, fun y hy => h.good y (hS.sub y hy), fun y hy => term_turn (Nat.le_trans hs hs2) hB hF (h.term y (hS.sub y hy)), (h.cor.kept hB hF).collect i1 hkeys, ?_, ⟨?_, h.room.2⟩, h.names⟩
  · rcases e with e | e
    · have := hy7 b e
      have := q.2
      omega
    · have hx := hX2 b e
      rcases q.1.1 with q | q
      · exact hXM b hx q
      · have := (h.sep b hx).2.2
        omega
  · have h1 := hS.rel.collect h.cor i3
    rw [← i2] at h1
    exact h1
  · have h1 := roots_less hS.stand fun y hy => h.right y (hS.sub y hy)
    have h2 := h.room.1
    omega
end
end Go.Proofs.Ytdlckjjfbobmpaa
namespace Go.Proofs.Ytdlckjjfbobmpaa
open Go.RowKit Go.Maps

section
variable {w : World} {hp : Nat} {room : Int} {j L : Nat} {ws : List Wd} {nm : List ByteArray} {M : Nat → Prop} {vs : List Wd} {ts : List (Tm 13)} {ns : List (Option Nat)} {C : Went} {v7 v8 v9 : Value} {X : Nat → Prop} {wr : World} {n : Nat} {us : List Wd} {qs : List (Tm 13)} {ks : List (Option Nat)} {s1 s2 s3 : Value}
theorem Sel.start (w : World) (ws : List Wd) (nm : List ByteArray) (ts : List (Tm 13)) (C : Went) (X : Nat → Prop) (wr : World) : Sel w 0 ws nm ts C [] [] [] (.slice none 0 0) (.slice none 0 0) (.slice none 0 0) X wr :=
  ⟨⟨rfl, rfl, rfl⟩, World.ownsRow_nil _ _ _ _, World.ownsRow_nil _ _ _ _, World.ownsRow_nil _ _ _ _, fun b e => (by rcases e with e | e | e <;> cases e), ⟨rfl, fun i v y hv => (by simp at hv)⟩, fun y hy => (by cases hy), ⟨rfl, fun i v k hv => (by simp at hv)⟩⟩
theorem Sel.later (h : Sel w n ws nm ts C us qs ks s1 s2 s3 X wr) {w' : World} (hb : Below wr.heap.size wr w') : Sel w n ws nm ts C us qs ks s1 s2 s3 X w' :=
  ⟨h.lens, row_kee h.r1 (kee_below hb fun _ => False) fun _ _ e => e, row_kee h.r2 (kee_below hb fun _ => False) fun _ _ e => e, row_kee h.r3 (kee_below hb fun _ => False) fun _ _ e => e, h.own, h.stand, h.sub, h.rel⟩
theorem Sel.more (hS : Sel w n ws nm ts C us qs ks s1 s2 s3 X wr) (h : HpR w hp room j L ws nm M vs ts ns C v7 v8 v9 X wr) {i : Nat} {v : Wd} {x : Tm 13} {k : Option Nat} (hv : vs[i]? = some v) (hx : ts[i]? = some x) (hn : ns[i]? = some k) {y1 y2 y3 : Value} {w' : World} (hk : Kee (Own3 s1 s2 s3) wr w') {Y : Nat → Prop} (hY : ∀ b, Y b → X b) (hy : ∀ b, Own3 y1 y2 y3 b → Own3 s1 s2 s3 b ∨ wr.heap.size ≤ b)
    (r1 : w'.ownsRow w.heap.size 38 2 y1 (n + 1) (wCells us ++ wd2 v)) (r2 : w'.ownsRow w.heap.size 32 4 y2 (n + 1) (ndCells (qs.map (hdT 13)) ++ nd4 (hdT 13 x))) (r3 : w'.ownsRow w.heap.size 39 1 y3 (n + 1) (ks.map pv ++ [pv k])) :
    HpR w hp room j L ws nm M vs ts ns C v7 v8 v9 (fun b => Own3 y1 y2 y3 b ∨ Y b) w' ∧ Sel w (n + 1) ws nm ts C (us ++ [v]) (qs ++ [x]) (ks ++ [k]) y1 y2 y3 (fun b => Own3 y1 y2 y3 b ∨ Y b) w' := by
  obtain ⟨l1, l2, l3⟩ := hS.lens
  refine ⟨h.but hk (fun b _ e => hS.own b e) fun b e => ?_, ⟨by simp [l1], by simp [l2], by simp [l3]⟩, by simpa [wCells] using r1, by simpa [ndCells] using r2, by simpa using r3, fun b e => Or.inl e, standL_snoc hS.stand (h.stand.2 i v x hv hx), fun y hy => ?_, relR_snoc hS.rel (h.rel.2 i v k hv hn)⟩
  · rcases e with e | e
    rotate_left
    · exact Or.inl (hY b e)
    rcases hy b e with q | q
    · exact Or.inl (hS.own b q)
    · refine Or.inr ⟨q, ?_⟩
      rcases e with e | e | e
      · exact (r1.lt b e).2
      · exact (r2.lt b e).2
      · exact (r3.lt b e).2
  · rcases List.mem_append.1 hy with hy | hy
    · exact hS.sub y hy
    · rw [List.mem_singleton.1 hy]
      exact List.mem_of_getElem? hx
end
end Go.Proofs.Ytdlckjjfbobmpaa
namespace Go.Proofs.Ytdlckjjfbobmpaa
open Go.RowKit Go.Maps

theorem fills_of {R : RowC} {v : Value} {new : List Value} (h : v.cells.size = R.k) (hn : v.cells.toList = new) : Fills R v new := by
  have h2 := @Go.Great.fill_whole R.it.size (R.hk ▸ R.pos) [v] ((Array.range (1 * R.it.size)).map (R.z.cells[· % R.z.cells.size]!)) (fun u hu => by rw [List.mem_singleton.1 hu, h, R.hk]) (by simp)
  subst hn
  simpa [Fills] using h2
theorem rowW_ex : ∃ R : RowC, (R.T = 38 ∧ R.st = 28 ∧ R.k = 2) ∧ ∀ v : Wd, Fills R (.agg #[.int .i64 v.1, .int .i64 v.2]) (wd2 v) := by
  obtain ⟨it, hit, h0, h1, h2⟩ := info_parts infoWord
  exact ⟨⟨38, 28, 2, 16, it, _, Try.underlying28, hit, h0, h1, h2, rfl, by decide, by decide⟩, ⟨rfl, rfl, rfl⟩, fun v => fills_of rfl rfl⟩
theorem rowT_ex : ∃ R : RowC, (R.T = 32 ∧ R.st = 29 ∧ R.k = 4) ∧ ∀ x : Nd, Fills R (.agg #[.int .i64 x.1.1, .int .i64 x.1.2.1, .string x.1.2.2, .slice x.2.1 x.2.2.1 x.2.2.2]) (nd4 x) := by
  obtain ⟨it, hit, h0, h1, h2⟩ := info_parts infoTerm
  exact ⟨⟨32, 29, 4, 56, it, _, Try.underlying29, hit, h0, h1, h2, rfl, by decide, by decide⟩, ⟨rfl, rfl, rfl⟩, fun x => fills_of rfl rfl⟩
theorem rowN_ex : ∃ R : RowC, (R.T = 39 ∧ R.st = 30 ∧ R.k = 1) ∧ ∀ a : Option Addr, Fills R (.pointer a) [.pointer a] := by
  obtain ⟨it, hit, h0, h1, h2⟩ := info_parts infoPtr
  exact ⟨⟨39, 30, 1, 8, it, _, Try.underlying30, hit, h0, h1, h2, rfl, by decide, by decide⟩, ⟨rfl, rfl, rfl⟩, fun a => fills_of rfl rfl⟩
end Go.Proofs.Ytdlckjjfbobmpaa
namespace Go.Proofs.Ytdlckjjfbobmpaa
open Go.RowKit Go.Maps

theorem words_row3 {w : World} {us : List Wd} {g : Nat} (h : WordsIn w us (some ⟨g, 0, none⟩)) (hg : g < w.heap.size) : ∀ w1, Below w.heap.size w w1 → ∀ j u, (wCells us)[j]? = some u → w1.cell? ((⟨g, 0, none⟩ : Addr).add j) = some u := by
  intro w1 hb j u hu
  rcases h with rfl | ⟨b, o, e, _, hc⟩
  · simp [wCells] at hu
  · cases e
    rcases words_at hc with rfl | ⟨ad, e, ha⟩
    · simp [wCells] at hu
    · cases e
      exact (hb.cell (p := (⟨g, 0, none⟩ : Addr).add j) (by simp only [Addr.add]; split <;> exact hg)).trans (ha j u hu)
set_option maxRecDepth 100000 in
set_option maxHeartbeats 1000000 in
theorem clonew_any (us : List Wd) (g len c : Nat) (w : World) (HL : Hid (us.length = len)) (h1 : len ≤ 2000000) (HP : Hid (∀ w1, Below w.heap.size w w1 → ∀ j u, (wCells us)[j]? = some u → w1.cell? ((⟨g, 0, none⟩ : Addr).add j) = some u)) :
    Calls Try.prog 14 #[.slice (some ⟨g, 0, none⟩) len c] w fun e w' => ∃ v', e = .returned v' ∧ Hid (Below w.heap.size w w' ∧ w'.ownsRow w.heap.size 38 2 v' len (wCells us) ∧ ∀ b, v'.ownBlock = some b → w.heap.size ≤ b) := by
  obtain ⟨it, hit, htz0, htz1, htz2⟩ := info_parts infoWord
  have HT := hide (⟨hit, htz0, htz1, htz2⟩ : _ ∧ _ ∧ _ ∧ _)
  clear hit htz0 htz1 htz2
  have hq : ∀ (w : World) (a : Option Addr) (n c n' c' : Nat), (binOp .eql 28 (.slice a n c) (.slice none n' c')).run Try.prog w = .ok (.bool a.isNone) w := fun w a n c n' c' => Lib.run_eql_slice_nil w _ _ a n c n' c' Try.underlying28
  have e0 : (some (⟨g, 0, none⟩ : Addr)).isNone = false := rfl
  go_enter Try.func14, Try.ntmps14
  go_wp2_with (at_builtin; refine wpList_append_own _ rfl _ _ 28 rfl w.heap.size 38 it _ 2 16 Try.underlying28 HT.out.1 HT.out.2.1 HT.out.2.2.1 HT.out.2.2.2 rfl (by decide) _ _ _ rfl (World.ownsRow_made w #[] 0 (Nat.le_refl _) (Nat.zero_le _) (by simp)) ⟨g, 0, none⟩ len c (wCells us) rfl ?qc1 ?qc2 ?qc3 ?qc4 ?qc5 ?qc6 ?_)
  case qc1 => rw [wCells_length, HL.out]
  case qc2 => exact HP.out _ ((Below.refl _ _).alloc (Nat.le_refl _) _)
  case qc3 => exact wCells_one _
  case qc4 => unfold maxLen; omega
  case qc5 => omega
  case qc6 => simp
  intro v1 w1 hown hgrow hnil
  have HF : Hid (Below w.heap.size w w1 ∧ w1.ownsRow w.heap.size 38 2 v1 len (wCells us) ∧ ∀ b, v1.ownBlock = some b → w.heap.size ≤ b) := by
    have hb : Below w.heap.size w w1 := Below.grown ((Below.refl _ _).alloc (Nat.le_refl _) _) hgrow (by simp) (by intro k hk; simp [Value.ownBlock] at hk; omega)
    have ho : w1.ownsRow w.heap.size 38 2 v1 len (wCells us) := by simpa using hown
    exact ⟨hb, ho, fun b e => (ho.lt b e).1⟩
  clear hown hgrow hnil
  go_wp2_with fail
  go_ret
  exact ⟨_, rfl, HF.out⟩
end Go.Proofs.Ytdlckjjfbobmpaa
namespace Go.Proofs.Ytdlckjjfbobmpaa
open Go.RowKit Go.Maps

set_option maxHeartbeats 1000000 in
theorem rest_h (n m : Int) (hm : 0 < m) (hm2 : m ≤ 2000000) (w : World) : Calls Try.prog 6 #[.int .i64 n, .int .i64 m] w fun e w' => ∃ r, e = .returned (.int .i64 r) ∧ 0 ≤ r ∧ r < m ∧ w' = w := by
  have hne : ¬ m = 0 := by omega
  have h1 : n.tmod m < m := Int.tmod_lt_of_pos n hm
  have h2 : -m < n.tmod m := by
    have := Int.lt_tmod_of_pos n hm
    omega
  go_enter Try.func6, Try.ntmps6
  by_cases h3 : n.tmod m < 0
  · have b3 : decide (n.tmod m < 0) = true := by simpa using h3
    have e : wrap64 (n.tmod m + m) = n.tmod m + m := by unfold wrap64; omega
    go_wp2_with fail
    go_ret
    exact ⟨_, rfl, by omega, by omega, rfl⟩
  · have b3 : decide (n.tmod m < 0) = false := by simpa using h3
    go_wp2_with fail
    go_ret
    exact ⟨_, rfl, by omega, by omega, rfl⟩
theorem inh_any (a lo hi : Int) (w : World) : Calls Try.prog 5 #[.int .i64 a, .int .i64 lo, .int .i64 hi] w fun e w' => e = .returned (.bool (decide (lo ≤ a) && decide (a ≤ hi))) ∧ w' = w := by
  go_enter Try.func5, Try.ntmps5
  by_cases h1 : lo ≤ a
  · go_wp2_with fail
    go_ret
    exact ⟨ret_bool (by simp [h1]), rfl⟩
  · go_wp2_with fail
    go_ret
    exact ⟨ret_bool (by simp; omega), rfl⟩
end Go.Proofs.Ytdlckjjfbobmpaa
namespace Go.Proofs.Ytdlckjjfbobmpaa
open Go.RowKit Go.Maps

theorem own_box {w : World} {base : Nat} {e : TypeId} {sz : Nat} {v : Value} {n : Nat} {xs : List Value} (h : w.ownsRow base e sz v n xs) {q : Nat} {cs : Array Value} {t : TypeId} {fr : Nat × Nat} (hq : w.heap[q]? = some (.cells cs t fr)) (hne : e ≠ t) : v.ownBlock ≠ some q := fun hb => by
  rcases h.2 with ⟨rfl, _⟩ | ⟨g, c, cur, rfl, _, hg, _⟩
  · simp [Value.ownBlock] at hb
  · simp only [Value.ownBlock, Option.some.injEq] at hb
    subst hb
    rw [hg] at hq
    injection hq with hq
    injection hq with _ hq _
    exact hne hq
theorem cor_join2 {ws ws' : List Wd} {N : Nat → Nat → List (Option Nat) → Prop} {C : Went} {us : List Wd} {ks : List (Option Nat)} {b : Nat} (h0 : ∀ c ∈ C, c.1 < ws.length) (he : ws' = ws ++ (0, (us.length : Int)) :: us) (h : Cor ws' N C) (hr : RelR C us ks) (h8 : us.length ≤ 8) (hb : b ∉ C.map (·.2)) (hN : N b us.length ks) : Cor ws' N ((ws.length, b) :: C) := by
  refine ⟨List.nodup_cons.2 ⟨fun hm => ?_, h.fst⟩, List.nodup_cons.2 ⟨hb, h.snd⟩, fun c hc => ?_⟩
  · obtain ⟨c, hc, e⟩ := List.mem_map.1 hm
    have := h0 c hc
    have e : c.1 = ws.length := e
    omega
  · rcases List.mem_cons.1 hc with rfl | hc
    · subst he
      refine ⟨us.length, ks, by simp, by simp; omega, h8, hN, ?_⟩
      have h1 := parts_pre (us := ws ++ (0, (us.length : Int)) :: us) (A := ws) (C := us) (h := (0, (us.length : Int))) (List.prefix_refl _)
      simp only
      rw [h1]
      exact hr.mono fun e he => List.mem_cons_of_mem _ he
    · obtain ⟨m, q, k1, k2, k3, k4, k5⟩ := h.node c hc
      exact ⟨m, q, k1, k2, k3, k4, k5.mono fun e he => List.mem_cons_of_mem _ he⟩
section
variable {w : World} {hp : Nat} {room : Int} {j L : Nat} {ws : List Wd} {nm : List ByteArray} {M : Nat → Prop} {vs : List Wd} {ts : List (Tm 13)} {ns : List (Option Nat)} {C : Went} {v7 v8 v9 : Value} {X : Nat → Prop} {wr : World}
theorem HpR.seen (h : HpR w hp room j L ws nm M vs ts ns C v7 v8 v9 X wr) : ∀ c ∈ C, c.1 < ws.length := fun c hc => by
  obtain ⟨m, ks, _, k2, _⟩ := h.cor.node c hc
  omega
/-- A block that is new, and none of the three rows', is frozen. -/
theorem HpR.fresh (h : HpR w hp room j L ws nm M vs ts ns C v7 v8 v9 X wr) {y7 y8 y9 : Value} {w' : World} {b : Nat} (h1 : wr.heap.size ≤ b) (h2 : b < w'.heap.size) (h3 : ¬ Own3 y7 y8 y9 b) : Fz M y7 y8 y9 X w' b :=
  ⟨h2, fun e => by have := (h.heap.2.2 b e).2; omega, h3, fun e => by have := (h.sep b e).2.2; omega⟩
theorem HpR.grown (h : HpR w hp room j L ws nm M vs ts ns C v7 v8 v9 X wr) {y7 y8 y9 : Value} {w' : World} {n7 n8 n9 : Nat} {x7 x8 x9 : List Value} (s7 : w'.ownsRow w.heap.size 38 2 y7 n7 x7) (s8 : w'.ownsRow w.heap.size 32 4 y8 n8 x8) (s9 : w'.ownsRow w.heap.size 39 1 y9 n9 x9)
    {hi : Nat} (hy9 : ∀ b, y9.ownBlock = some b → v9.ownBlock = some b ∨ hi ≤ b) {us : List Wd} {D : Went} (hD : Cor us (NodeIn w' fun b => wr.heap.size ≤ b ∧ b < hi) D) : Cor us (NodeIn w' (Fz M y7 y8 y9 X w')) D := by
  refine hD.turn fun c hc m ks hN => ?_
  obtain ⟨h0, ka, kc, h1, h2, h3⟩ := hN
  have hl := (Array.getElem?_eq_some_iff.1 h1).1
  refine ⟨h.fresh h0.1 hl ?_, ka, kc, h1, h2, ?_⟩
  · rintro (e | e | e)
    · exact own_box s7 h1 (by decide) e
    · exact own_box s8 h1 (by decide) e
    · exact own_box s9 h1 (by decide) e
  · rcases h3 with h3 | ⟨g, o, e, hg, ⟨cur, hgc⟩, h4⟩
    · exact Or.inl h3
    · have hgl := (Array.getElem?_eq_some_iff.1 hgc).1
      refine Or.inr ⟨g, o, e, h.fresh hg.1 hgl ?_, ⟨cur, hgc⟩, h4⟩
      rintro (e | e | e)
      · exact own_box s7 hgc (by decide) e
      · exact own_box s8 hgc (by decide) e
      · rcases hy9 g e with q | q
        · have := (h.lt (Or.inr (Or.inr q))).2
          have := hg.1
          omega
        · have := hg.2
          omega
theorem HpR.put_more (h : HpR w hp room j L ws nm M vs ts ns C v7 v8 v9 X wr) {y7 y8 y9 : Value} {w' : World} (hk : Kee (Own3 v7 v8 v9) wr w') (hy : ∀ b, Own3 y7 y8 y9 b → Own3 v7 v8 v9 b ∨ wr.heap.size ≤ b) {q : Nat} {x : Tm (q + 1)} {v : Wd} {k : Option Nat} {D : Went} {hi wl : Nat}
    (s7 : w'.ownsRow w.heap.size 38 2 y7 (L + 1) (wCells vs ++ wd2 v)) (s8 : w'.ownsRow w.heap.size 32 4 y8 (L + 1) (ndCells (ts.map (hdT 13)) ++ nd4 (hdT (q + 1) x))) (s9 : w'.ownsRow w.heap.size 39 1 y9 (L + 1) (ns.map pv ++ [pv k]))
    (hx : In w.heap.size w (q + 1) x) (hc : chk (q + 1) x = 0) (hcl : closedT (q + 1) x = true) (hs : Stands ws nm (q + 1) x v) (hD : Cor ws (NodeIn w' fun b => wr.heap.size ≤ b ∧ b < hi) D) (hr : RelW D v k) (hm : D.map (·.1) = plc ws (q + 1) v) (hp1 : ∀ p ∈ plc ws (q + 1) v, wl ≤ p) (hC : ∀ c ∈ C, c.1 < wl) (hy9 : ∀ b, y9.ownBlock = some b → v9.ownBlock = some b ∨ hi ≤ b) :
    HpR w hp room j (L + 1) ws nm M (vs ++ [v]) (ts ++ [lift 13 (q + 1) x]) (ns ++ [k]) (C ++ D) y7 y8 y9 X w' := by
  obtain ⟨hB, hF⟩ := frozen_rows (M := M) (X := X) hk hy
  have hz := hk.size
  obtain ⟨hr13, hd13⟩ := low13 hc
  have hbw : Below w.heap.size w w' := by
    have h1 := h.heap.1
    have h2 : Below w.heap.size wr w' := hk.below h1.size fun b hb e => by have := (h.lt e).1; omega
    exact h1.trans h2
  refine h.more hk hy s7 ?_ s9 (stands_low 13 (q + 1) x v hr13 hd13 hs) ⟨low_chk hc, (low_closed hc).trans hcl⟩ ⟨low_in 13 (q + 1) x _ _ hr13 hd13 ((hx.below hbw).mono hbw.size), low_off 13 (q + 1) x _ hr13 hd13 ((offlowP hx).mono fun b hb => ?_)⟩ ?_ (fun e he => List.mem_append_left _ he) (hr.mono fun e he => List.mem_append_right _ he)
  · rw [lift_hd]
    exact s8
  · have h1 := h.heap.1.size
    refine ⟨by omega, fun e => by have := (h.heap.2.2 b e).1; omega, fun e => ?_, fun e => by have := (h.sep b e).2.1; omega⟩
    rcases e with e | e | e
    · have := (s7.lt b e).1
      omega
    · have := (s8.lt b e).1
      omega
    · have := (s9.lt b e).1
      omega
  · refine (h.cor.kept hB hF).both (h.grown s7 s8 s9 hy9 hD) (fun p hp' hq => ?_) fun b hb hq => ?_
    · obtain ⟨c, hc', rfl⟩ := List.mem_map.1 hp'
      rw [hm] at hq
      have := hp1 _ hq
      have := hC c hc'
      omega
    · have h1 := (h.cor.lies hb).2
      have h2 := (hD.lies hq).1.1
      omega
theorem HpR.join_more {us : List Wd} {qs : List (Tm 13)} {ks : List (Option Nat)} {s2 s3 : Value} {n : Nat} {ws0 : List Wd} (h : HpR w hp room j L (ws0 ++ (0, (us.length : Int)) :: us) nm M vs ts ns C v7 v8 v9 X wr) (hC : ∀ c ∈ C, c.1 < ws0.length) {y7 y8 y9 : Value} {w' : World} (hk : Kee (Own3 v7 v8 v9) wr w') (hy : ∀ b, Own3 y7 y8 y9 b → Own3 v7 v8 v9 b ∨ wr.heap.size ≤ b)
    {a2 a3 : Option Addr} {c2 c3 b0 : Nat} (e2 : s2 = .slice a2 n c2) (e3 : s3 = .slice a3 n c3) (hn : us.length = n ∧ qs.length = n ∧ ks.length = n) (h8 : n ≤ 8) (hX : ∀ b, s2.ownBlock = some b ∨ s3.ownBlock = some b → X b) (r2 : wr.ownsRow w.heap.size 32 4 s2 n (ndCells (qs.map (hdT 13)))) (r3 : wr.ownsRow w.heap.size 39 1 s3 n (ks.map pv))
    (hst : StandL ws0 nm 13 us qs) (hsub : ∀ y ∈ qs, y ∈ ts) (hrel : RelR C us ks) (hchk : chk 14 (tupT 13 qs) = 0)
    (s7 : w'.ownsRow w.heap.size 38 2 y7 (L + 1) (wCells vs ++ wd2 (4, (ws0.length : Int)))) (s8 : w'.ownsRow w.heap.size 32 4 y8 (L + 1) (ndCells (ts.map (hdT 13)) ++ nd4 (hdT 14 (madeT a2 c2 qs)))) (s9 : w'.ownsRow w.heap.size 39 1 y9 (L + 1) (ns.map pv ++ [pv (some b0)]))
    (hb0 : wr.heap.size ≤ b0 ∧ w'.heap[b0]? = some (.cells #[.int .i64 (1 + (n : Int)), s3] 47)) :
    HpR w hp room j (L + 1) (ws0 ++ (0, (us.length : Int)) :: us) nm M (vs ++ [(4, (ws0.length : Int))]) (ts ++ [lift 13 14 (madeT a2 c2 qs)]) (ns ++ [some b0]) ((ws0.length, b0) :: C) y7 y8 y9 (fun _ => False) w' := by
  obtain ⟨n1, n2, n3⟩ := hn
  have hz := hk.size
  have h' : HpR w hp room j L (ws0 ++ (0, (us.length : Int)) :: us) nm M vs ts ns C v7 v8 v9 (fun _ => False) wr := h.but (S := fun _ => False) (Kee.refl _ _) (fun _ _ e => e.elim) fun _ e => e.elim
  obtain ⟨hB, hF⟩ := frozen_rows (M := M) (X := fun _ => False) hk hy
  have hro : ∀ y ∈ qs, RightA ⟨13, y⟩ := fun y hy => h.right y (hsub y hy)
  have hc : chk 14 (madeT a2 c2 qs) = 0 := (made_chk a2 c2 hro).trans hchk
  obtain ⟨hr13, hd13⟩ := low13 hc
  have hfz : ∀ b, s2.ownBlock = some b ∨ s3.ownBlock = some b → b < wr.heap.size ∧ Fz M v7 v8 v9 (fun _ => False) wr b := fun b e => by
    have hx := hX b e
    exact ⟨(h.sep b hx).2.2, (h.sep b hx).2.2, (h.sep b hx).1, fun q => (h.apart b q).2 hx, fun q => q⟩
  have q2 := row_kee r2 hk fun b e q => (hfz b (Or.inl e)).2.2.2.1 q
  have q3 := row_kee r3 hk fun b e q => (hfz b (Or.inr e)).2.2.2.1 q
  have hterm : ∀ y ∈ qs, In w'.heap.size w' 13 y ∧ Off (Fz M y7 y8 y9 (fun _ => False) w') 13 y := fun y hy => term_turn hz hB hF (h'.term y (hsub y hy))
  have hb0l := (Array.getElem?_eq_some_iff.1 hb0.2).1
  have hin : In w'.heap.size w' 14 (madeT a2 c2 qs) ∧ Off (Fz M y7 y8 y9 (fun _ => False) w') 14 (madeT a2 c2 qs) := by
    subst e2
    rcases q2.2 with ⟨e, e0⟩ | ⟨g, cap, cur, e, _, hg, l1, l2, _⟩
    · injection e with e1 _ e3
      have hq : qs = [] := List.eq_nil_of_length_eq_zero (by omega)
      exact ⟨⟨⟨show I64 4 from ⟨by decide, by decide⟩, show I64 0 from ⟨by decide, by decide⟩, Nat.zero_le _, by show qs.length ≤ c2; rw [hq]; exact Nat.zero_le _, by show c2 ≤ maxLen; rw [e3]; exact Nat.zero_le _⟩, Or.inl hq⟩, Or.inl hq⟩
    · injection e with e1 _ e3
      subst e1 e3
      have hgl := (Array.getElem?_eq_some_iff.1 hg).1
      refine ⟨⟨⟨show I64 4 from ⟨by decide, by decide⟩, show I64 0 from ⟨by decide, by decide⟩, Nat.zero_le _, by show qs.length ≤ c2; omega, l2⟩, Or.inr ⟨g, 0, rfl, hgl, fun i y hy => ⟨hd_held q2 i y hy, (hterm y (List.mem_of_getElem? hy)).1⟩⟩⟩, Or.inr ⟨g, 0, rfl, hF g (hfz g (Or.inl rfl)).2 (hfz g (Or.inl rfl)).1, fun i y hy => (hterm y (List.mem_of_getElem? hy)).2⟩⟩
  have hnode : NodeIn w' (Fz M y7 y8 y9 (fun _ => False) w') b0 us.length ks := by
    have hff : Fz M y7 y8 y9 (fun _ => False) w' b0 := h'.fresh hb0.1 hb0l (by
      rintro (e | e | e)
      · exact own_box s7 hb0.2 (by decide) e
      · exact own_box s8 hb0.2 (by decide) e
      · exact own_box s9 hb0.2 (by decide) e)
    subst e3
    refine ⟨hff, a3, c3, by rw [n1]; exact hb0.2, by omega, ?_⟩
    rcases q3.2 with ⟨e, e0⟩ | ⟨g, cap, cur, e, _, hg, l1, l2, _⟩
    · exact Or.inl (List.eq_nil_of_length_eq_zero (by omega))
    · injection e with e1 _ e3
      subst e1 e3
      refine Or.inr ⟨g, 0, rfl, hF g (hfz g (Or.inr rfl)).2 (hfz g (Or.inr rfl)).1, ⟨cur, hg⟩, fun i k hk => ?_⟩
      have := q3.cells (g := g) rfl i (pv k) (by simp [hk])
      rw [add_none] at this
      rw [Nat.zero_add]
      exact this
  refine h'.more hk hy s7 ?_ s9 (stands_low 13 14 (madeT a2 c2 qs) (4, (ws0.length : Int)) hr13 hd13 (made_stands hst a2 c2)) ⟨low_chk hc, (low_closed hc).trans ?_⟩ ⟨low_in 13 14 _ _ _ hr13 hd13 hin.1, low_off 13 14 _ _ hr13 hd13 hin.2⟩ (cor_join2 hC rfl (h'.cor.kept hB hF) hrel (by omega) (fun hm => ?_) hnode) (fun e he => List.mem_cons_of_mem _ he) ⟨fun _ => ⟨b0, rfl, by simp⟩, fun e => absurd rfl e⟩
  · rw [lift_hd]
    exact s8
  · have hall : (qs.all fun y => closedT 13 y) = true := List.all_eq_true.2 fun y hy => (h.good y (hsub y hy)).2
    show (!((4 : Int) == 5) && !((4 : Int) == 6) && qs.all fun y => closedT 13 y) = true
    rw [hall]
    rfl
  · have := (h'.cor.lies hm).2
    omega
end
end Go.Proofs.Ytdlckjjfbobmpaa
namespace Go.Proofs.Ytdlckjjfbobmpaa
open Go.RowKit Go.Maps

/-- What a code's block holds. -/
def hxBlk (k : Nat) : Code → Option Code
  | .block i c => bif Nat.beq i k then some c else hxBlk k c
  | .seq a b => match hxBlk k a with
    | some c => some c
    | none => hxBlk k b
  | .loop c => hxBlk k c
  | .cond _ a b => match hxBlk k a with
    | some c => some c
    | none => hxBlk k b
  | _ => none
noncomputable def hxB2 : Code := (Try.f3.body.bind (hxBlk 2)).getD .skip
/-- A row of places. -/
def IsR (B L k : Nat) (v : Value) (w1 w' : World) : Prop := Below w1.heap.size w1 w' ∧ ∃ zs : List Int, zs.length = k ∧ (∀ u ∈ zs, 0 ≤ u ∧ u < (L : Int)) ∧ w'.ownsRow B 3 1 v k (zs.map fun u => .int .i64 u)
theorem IsR.more {L k : Nat} {a : Option Addr} {c : Nat} {w1 w2 w4 : World} {r : Int} {g c' : Nat} {o : Obj} {zs : List Int} (h1 : Below w1.heap.size w1 w2) (h2 : zs.length = k ∧ ∀ u ∈ zs, 0 ≤ u ∧ u < (L : Int)) (h4 : w2.ownsRow w1.heap.size 3 1 (.slice a k c) k (zs.map fun u => .int .i64 u)) (hr : 0 ≤ r ∧ r < (L : Int)) (hg : (w2.alloc o).grownBy w4 (Value.slice a k c).ownBlock) (ho : w4.ownsRow w1.heap.size 3 1 (.slice (some ⟨g, 0, none⟩) (k + 1) c') (k + 1) ((zs.map fun u => .int .i64 u) ++ [.int .i64 r])) : IsR w1.heap.size L (k + 1) (.slice (some ⟨g, 0, none⟩) (k + 1) c') w1 w4 := by
  have hb := h1.alloc h1.size o
  refine ⟨Below.grown hb hg hb.size fun b e => (h4.lt b e).1, zs ++ [r], by simp [h2.1], fun u hu => ?_, by simpa using ho⟩
  rcases List.mem_append.1 hu with hu | hu
  · exact h2.2 u hu
  · rw [List.mem_singleton.1 hu]
    exact hr
set_option maxHeartbeats 4000000 in
set_option maxRecDepth 100000 in
theorem lp2 (l : List Int) (aa a7 : Option Addr) (m ac L c7 : Nat) (w w1 : World) (hm : m ≤ 1048576) (hL : L ≤ 1500000) (HL : Hid (l.length = m ∧ LayH w.heap.size w 1 (fun u : Int => [.int .i64 u]) I64 aa l)) (HB : Hid (Below w.heap.size w w1))
    {Q : Exit → Act → World → Prop} {c0 c1 c2 c3 c4 c5 c6 c8 c9 c10 c11 c12 c14 c15 c16 c17 c18 c19 c20 c21 c22 c23 c24 c25 c26 c27 c28 c29 c30 c31 c32 c33 c34 c35 c36 c37 c38 c39 c40 c41 c42 c43 c44 c45 c46 c47 c48 c49 c50 c51 c52 c53 c54 c55 c56 c57 c58 c59 c60 c61 c62 c63 c64 c65 c66 c67 c71 c72 c73 c74 c75 c76 c77 c78 c79 c80 c81 c82 c83 c84 c85 c86 c87 c88 c89 c90 c91 c92 c93 c94 c95 c96 c97 c98 c99 c100 c101 c102 c103 c104 c105 c106 c107 c108 c109 c110 c111 c112 c113 c114 c115 c116 c117 c118 c119 c120 c121 c122 c123 c124 c125 c126 c127 c128 c129 c130 c131 c132 c133 c134 c135 c136 c137 c138 c139 c140 c141 c142 c143 c144 c145 c146 c147 c148 c149 c150 c151 c152 c153 c154 c155 c156 c157 c158 c159 c160 c161 c162 c163 c164 c165 c166 c167 c168 c169 c170 c171 c172 c173 c174 c175 c176 c177 c178 c179 c180 c181 c182 c183 c184 c185 c186 c187 c188 c189 c190 c191 c192 c193 c194 c195 c196 c197 c198 c199 c200 c201 c202 c203 c204 c205 c206 c207 c208 c209 c210 c211 c212 c213 c214 c215 c216 c217 c218 c219 c220 c221 c222 c223 c224 c225 c226 c227 c228 c229 c230 c231 c232 c233 c234 c235 c236 c237 c238 c239 c240 c241 c242 c243 c244 c245 c246 c247 c248 c249 c250 c251 c252 c253 c254 c255 c256 c257 c258 c259 c260 c261 c262 c263 c264 c265 c266 c267 c268 c269 c270 c271 c272 c273 c274 c275 c276 c277 c278 c279 c280 c281 c282 c283 c284 c285 c286 c287 c288 c289 : Value}
    (HK : Hid (∀ (u15 u71 u72 u73 u74 u75 u76 u77 u78 u79 u80 u81 u82 u83 u84 v : Value) (w' : World) (k : Nat), k ≤ m → Hid (IsR w1.heap.size L k v w1 w') → Q .normal ⟨List.toArray (c0 :: c1 :: c2 :: c3 :: c4 :: c5 :: c6 :: Value.slice a7 L c7 :: c8 :: c9 :: c10 :: c11 :: c12 :: v :: c14 :: u15 :: c16 :: c17 :: c18 :: c19 :: c20 :: c21 :: c22 :: c23 :: c24 :: c25 :: c26 :: c27 :: c28 :: c29 :: c30 :: c31 :: c32 :: c33 :: c34 :: c35 :: c36 :: c37 :: c38 :: c39 :: c40 :: c41 :: c42 :: c43 :: c44 :: c45 :: c46 :: c47 :: c48 :: c49 :: c50 :: c51 :: c52 :: c53 :: c54 :: c55 :: c56 :: c57 :: c58 :: c59 :: c60 :: c61 :: c62 :: c63 :: c64 :: c65 :: c66 :: c67 :: Value.slice aa m ac :: Value.int .i64 m :: Value.int .i64 m :: u71 :: u72 :: u73 :: u74 :: u75 :: u76 :: u77 :: u78 :: u79 :: u80 :: u81 :: u82 :: u83 :: u84 :: c85 :: c86 :: c87 :: c88 :: c89 :: c90 :: c91 :: c92 :: c93 :: c94 :: c95 :: c96 :: c97 :: c98 :: c99 :: c100 :: c101 :: c102 :: c103 :: c104 :: c105 :: c106 :: c107 :: c108 :: c109 :: c110 :: c111 :: c112 :: c113 :: c114 :: c115 :: c116 :: c117 :: c118 :: c119 :: c120 :: c121 :: c122 :: c123 :: c124 :: c125 :: c126 :: c127 :: c128 :: c129 :: c130 :: c131 :: c132 :: c133 :: c134 :: c135 :: c136 :: c137 :: c138 :: c139 :: c140 :: c141 :: c142 :: c143 :: c144 :: c145 :: c146 :: c147 :: c148 :: c149 :: c150 :: c151 :: c152 :: c153 :: c154 :: c155 :: c156 :: c157 :: c158 :: c159 :: c160 :: c161 :: c162 :: c163 :: c164 :: c165 :: c166 :: c167 :: c168 :: c169 :: c170 :: c171 :: c172 :: c173 :: c174 :: c175 :: c176 :: c177 :: c178 :: c179 :: c180 :: c181 :: c182 :: c183 :: c184 :: c185 :: c186 :: c187 :: c188 :: c189 :: c190 :: c191 :: c192 :: c193 :: c194 :: c195 :: c196 :: c197 :: c198 :: c199 :: c200 :: c201 :: c202 :: c203 :: c204 :: c205 :: c206 :: c207 :: c208 :: c209 :: c210 :: c211 :: c212 :: c213 :: c214 :: c215 :: c216 :: c217 :: c218 :: c219 :: c220 :: c221 :: c222 :: c223 :: c224 :: c225 :: c226 :: c227 :: c228 :: c229 :: c230 :: c231 :: c232 :: c233 :: c234 :: c235 :: c236 :: c237 :: c238 :: c239 :: c240 :: c241 :: c242 :: c243 :: c244 :: c245 :: c246 :: c247 :: c248 :: c249 :: c250 :: c251 :: c252 :: c253 :: c254 :: c255 :: c256 :: c257 :: c258 :: c259 :: c260 :: c261 :: c262 :: c263 :: c264 :: c265 :: c266 :: c267 :: c268 :: c269 :: c270 :: c271 :: c272 :: c273 :: c274 :: c275 :: c276 :: c277 :: c278 :: c279 :: c280 :: c281 :: c282 :: c283 :: c284 :: c285 :: c286 :: c287 :: c288 :: c289 :: []), []⟩ w')) :
    (Code.block 2 hxB2).wp Try.prog Q ⟨List.toArray (c0 :: c1 :: c2 :: c3 :: c4 :: c5 :: c6 :: Value.slice a7 L c7 :: c8 :: c9 :: c10 :: c11 :: c12 :: Value.slice none 0 0 :: c14 :: c15 :: c16 :: c17 :: c18 :: c19 :: c20 :: c21 :: c22 :: c23 :: c24 :: c25 :: c26 :: c27 :: c28 :: c29 :: c30 :: c31 :: c32 :: c33 :: c34 :: c35 :: c36 :: c37 :: c38 :: c39 :: c40 :: c41 :: c42 :: c43 :: c44 :: c45 :: c46 :: c47 :: c48 :: c49 :: c50 :: c51 :: c52 :: c53 :: c54 :: c55 :: c56 :: c57 :: c58 :: c59 :: c60 :: c61 :: c62 :: c63 :: c64 :: c65 :: c66 :: c67 :: Value.slice aa m ac :: Value.int .i64 m :: Value.int .i64 0 :: c71 :: c72 :: c73 :: c74 :: c75 :: c76 :: c77 :: c78 :: c79 :: c80 :: c81 :: c82 :: c83 :: c84 :: c85 :: c86 :: c87 :: c88 :: c89 :: c90 :: c91 :: c92 :: c93 :: c94 :: c95 :: c96 :: c97 :: c98 :: c99 :: c100 :: c101 :: c102 :: c103 :: c104 :: c105 :: c106 :: c107 :: c108 :: c109 :: c110 :: c111 :: c112 :: c113 :: c114 :: c115 :: c116 :: c117 :: c118 :: c119 :: c120 :: c121 :: c122 :: c123 :: c124 :: c125 :: c126 :: c127 :: c128 :: c129 :: c130 :: c131 :: c132 :: c133 :: c134 :: c135 :: c136 :: c137 :: c138 :: c139 :: c140 :: c141 :: c142 :: c143 :: c144 :: c145 :: c146 :: c147 :: c148 :: c149 :: c150 :: c151 :: c152 :: c153 :: c154 :: c155 :: c156 :: c157 :: c158 :: c159 :: c160 :: c161 :: c162 :: c163 :: c164 :: c165 :: c166 :: c167 :: c168 :: c169 :: c170 :: c171 :: c172 :: c173 :: c174 :: c175 :: c176 :: c177 :: c178 :: c179 :: c180 :: c181 :: c182 :: c183 :: c184 :: c185 :: c186 :: c187 :: c188 :: c189 :: c190 :: c191 :: c192 :: c193 :: c194 :: c195 :: c196 :: c197 :: c198 :: c199 :: c200 :: c201 :: c202 :: c203 :: c204 :: c205 :: c206 :: c207 :: c208 :: c209 :: c210 :: c211 :: c212 :: c213 :: c214 :: c215 :: c216 :: c217 :: c218 :: c219 :: c220 :: c221 :: c222 :: c223 :: c224 :: c225 :: c226 :: c227 :: c228 :: c229 :: c230 :: c231 :: c232 :: c233 :: c234 :: c235 :: c236 :: c237 :: c238 :: c239 :: c240 :: c241 :: c242 :: c243 :: c244 :: c245 :: c246 :: c247 :: c248 :: c249 :: c250 :: c251 :: c252 :: c253 :: c254 :: c255 :: c256 :: c257 :: c258 :: c259 :: c260 :: c261 :: c262 :: c263 :: c264 :: c265 :: c266 :: c267 :: c268 :: c269 :: c270 :: c271 :: c272 :: c273 :: c274 :: c275 :: c276 :: c277 :: c278 :: c279 :: c280 :: c281 :: c282 :: c283 :: c284 :: c285 :: c286 :: c287 :: c288 :: c289 :: []), []⟩ w1 := by
  obtain ⟨it, hit, htz0, htz1, htz2⟩ := info_parts infoInt
  have HIT := hide (⟨hit, htz0, htz1, htz2⟩ : _ ∧ _ ∧ _ ∧ _)
  clear hit htz0 htz1 htz2
  conv => arg 2; arg 2; whnf
  go_wp2_with fail
  go_loopw [13, 70] (fun v i wr => ∃ (j k : Nat) (ia : Option Addr) (kc : Nat), j ≤ m ∧ k ≤ j ∧ i = .int .i64 j ∧ v = .slice ia k kc ∧ Hid (IsR w1.heap.size L k (.slice ia k kc) w1 wr)) (fun _ i _ => m - (intOf i).toNat)
  case atStart => exact ⟨0, 0, none, 0, Nat.zero_le _, Nat.le_refl _, rfl, rfl, Below.refl _ _, [], rfl, fun u hu => (by cases hu), World.ownsRow_nil _ _ _ _⟩
  case round =>
  obtain ⟨j, k, ia, kc, hj, hk, rfl, rfl, HI⟩ := hrel
  by_cases hjm : j < m
  rotate_left
  · obtain rfl : j = m := by omega
    go_wp2_with fail
    refine HK.out _ _ _ _ _ _ _ _ _ _ _ _ _ _ _ _ _ k (by omega) HI
  have j1 : (0 : Int) ≤ (j : Int) := by omega
  have j2 : (j : Int) < (m : Int) := by omega
  obtain ⟨ab, ao, u, rfl, hc⟩ : ∃ b o u, aa = some ⟨b, o, none⟩ ∧ wr.cell? ⟨b, o + j, none⟩ = some (.int .i64 u) := by
    rcases HL.out.2 with e | ⟨b, o, e, hb, h⟩
    · have := HL.out.1
      rw [e] at this
      simp at this
      omega
    · obtain ⟨y, hy⟩ : ∃ y, l[j]? = some y := ⟨l[j]'(by rw [HL.out.1]; exact hjm), List.getElem?_eq_getElem _⟩
      have h1 := (h j y hy).1 0 _ rfl
      refine ⟨b, o, y, e, ?_⟩
      have hbb := HB.out.trans (HI.out.1.mono HB.out.size)
      exact (hbb.cell (p := ⟨b, o + j, none⟩) hb).trans (by simpa using h1)
  by_cases hL0 : 0 < L
  rotate_left
  · have l0 : ¬ (0 : Int) < (L : Int) := by omega
    go_wp2_with fail
    go_roundw
    case rel => exact ⟨j + 1, k, ia, kc, by omega, by omega, by go_num, rfl, HI.out⟩
    case measure => simp [intOf]; omega
  have l0 : (0 : Int) < (L : Int) := by omega
  have HR := hide (rest_h u L l0 (by omega) wr)
  go_wp2_with fail
  refine HR.out.mono ?_
  rintro e w2 ⟨r, rfl, r0, r1, rfl⟩
  have HS := hide HI.out.1.size
  obtain ⟨hI1, zs, hI2, hI3, hI4⟩ := HI.out
  have HO := hide hI4
  have HI1 := hide hI1
  have HI2 := hide (⟨hI2, hI3⟩ : _ ∧ _)
  clear hI1 hI2 hI3 hI4
  go_wp2_with (first
    | (at_builtin; refine wpList_append_lies _ rfl _ _ 33 rfl w1.heap.size 3 it _ 1 8 Try.underlying33 HIT.out.1 HIT.out.2.1 HIT.out.2.2.1 HIT.out.2.2.2 rfl (by decide) (.slice ia k kc) k (zs.map fun u => .int .i64 u) rfl (HO.out.alloc _) ⟨w2.heap.size, 0, none⟩ 1 1 [.int .i64 r] rfl rfl (World.news_of_block (cs := #[.int .i64 r]) (t := 3) (fr := (0, 0)) (heap_alloc_new w2 _)) (by simp [Value.oneCell']) (by decide) (by unfold maxLen; omega) (by omega) (by have := HS.out; simp; omega) _ rfl ?_; intro g5 c5 w5 hown5 hgrow5 hat5 hlt5; have H5 := hide (IsR.more HI1.out HI2.out HO.out ⟨r0, r1⟩ hgrow5 hown5); clear hown5 hgrow5 hat5 hlt5))
  go_roundw
  case rel => exact ⟨j + 1, k + 1, _, _, by omega, by omega, by go_num, rfl, H5.out⟩
  case measure => simp [intOf]; omega
end Go.Proofs.Ytdlckjjfbobmpaa
namespace Go.Proofs.Ytdlckjjfbobmpaa
open Go.RowKit Go.Maps

noncomputable def hxB8 : Code := (Try.f3.body.bind (hxBlk 8)).getD .skip
set_option maxHeartbeats 4000000 in
set_option maxRecDepth 100000 in
theorem lp4 {w : World} {hp : Nat} {room : Int} {j L : Nat} {ws : List Wd} {nm : List ByteArray} {M : Nat → Prop} {vs : List Wd} {ts : List (Tm 13)} {ns : List (Option Nat)} {C : Went} {a7 a8 : Option Addr} {c7 c8 : Nat} {v9 : Value} {X : Nat → Prop} {w1 : World} (HR : Hid (HpR w hp room j L ws nm M vs ts ns C (.slice a7 L c7) (.slice a8 L c8) v9 X w1)) (hj : j ≤ 200) (hL : L ≤ 1500000)
    {Q : Exit → Act → World → Prop} {c0 c1 c2 c3 c4 c6 c9 c10 c11 c12 c13 c14 c15 c16 c17 c18 c19 c20 c21 c22 c23 c24 c25 c26 c27 c28 c29 c30 c31 c32 c33 c34 c35 c36 c37 c38 c39 c40 c41 c42 c43 c44 c45 c46 c47 c48 c49 c50 c51 c52 c53 c54 c55 c56 c57 c58 c59 c60 c61 c62 c63 c64 c65 c66 c67 c68 c69 c70 c71 c72 c73 c74 c75 c76 c77 c78 c79 c80 c81 c82 c83 c84 c85 c86 c87 c88 c89 c90 c91 c92 c93 c94 c95 c96 c97 c98 c99 c100 c101 c102 c103 c104 c105 c106 c107 c108 c109 c110 c111 c112 c113 c114 c115 c116 c117 c118 c119 c120 c121 c122 c123 c124 c125 c126 c127 c128 c129 c130 c131 c132 c133 c134 c135 c136 c137 c138 c139 c140 c141 c142 c143 c144 c145 c146 c147 c148 c149 c150 c151 c152 c153 c154 c155 c156 c157 c158 c159 c160 c161 c162 c163 c164 c165 c166 c167 c168 c169 c170 c171 c172 c173 c174 c175 c176 c177 c178 c179 c180 c181 c182 c183 c184 c185 c186 c187 c188 c189 c190 c191 c192 c193 c194 c195 c196 c197 c198 c199 c200 c201 c202 c203 c204 c205 c206 c207 c208 c209 c210 c211 c212 c213 c214 c215 c216 c217 c218 c219 c220 c221 c222 c223 c224 c225 c226 c227 c228 c229 c230 c231 c232 c233 c234 c235 c236 c237 c238 c239 c240 c241 c242 c243 c244 c245 c246 c247 c248 c249 c250 c251 c252 c253 c254 c255 c256 c257 c258 c259 c260 c261 c262 c266 c267 c268 c269 c270 c271 c272 c273 c274 c275 c276 c277 c278 c279 c280 c281 c282 c283 c284 c285 c286 c287 c288 c289 : Value}
    (HK : Hid (∀ (u4 u32 u33 u34 u266 u267 u268 u269 u270 u271 u272 u273 u274 u275 u276 u277 u278 u279 u280 u281 u282 u283 u284 u285 u286 u287 u288 : Value) (w' : World), Hid (Below w1.heap.size w1 w') → Q .normal ⟨List.toArray (c0 :: c1 :: c2 :: c3 :: u4 :: Value.pointer (some ⟨hp, 0, none⟩) :: c6 :: Value.slice a7 L c7 :: Value.slice a8 L c8 :: c9 :: c10 :: c11 :: c12 :: c13 :: c14 :: c15 :: c16 :: c17 :: c18 :: c19 :: c20 :: c21 :: c22 :: c23 :: c24 :: c25 :: c26 :: c27 :: c28 :: c29 :: c30 :: c31 :: u32 :: u33 :: u34 :: c35 :: c36 :: c37 :: c38 :: c39 :: c40 :: c41 :: c42 :: c43 :: c44 :: c45 :: c46 :: c47 :: c48 :: c49 :: c50 :: c51 :: c52 :: c53 :: c54 :: c55 :: c56 :: c57 :: c58 :: c59 :: c60 :: c61 :: c62 :: c63 :: c64 :: c65 :: c66 :: c67 :: c68 :: c69 :: c70 :: c71 :: c72 :: c73 :: c74 :: c75 :: c76 :: c77 :: c78 :: c79 :: c80 :: c81 :: c82 :: c83 :: c84 :: c85 :: c86 :: c87 :: c88 :: c89 :: c90 :: c91 :: c92 :: c93 :: c94 :: c95 :: c96 :: c97 :: c98 :: c99 :: c100 :: c101 :: c102 :: c103 :: c104 :: c105 :: c106 :: c107 :: c108 :: c109 :: c110 :: c111 :: c112 :: c113 :: c114 :: c115 :: c116 :: c117 :: c118 :: c119 :: c120 :: c121 :: c122 :: c123 :: c124 :: c125 :: c126 :: c127 :: c128 :: c129 :: c130 :: c131 :: c132 :: c133 :: c134 :: c135 :: c136 :: c137 :: c138 :: c139 :: c140 :: c141 :: c142 :: c143 :: c144 :: c145 :: c146 :: c147 :: c148 :: c149 :: c150 :: c151 :: c152 :: c153 :: c154 :: c155 :: c156 :: c157 :: c158 :: c159 :: c160 :: c161 :: c162 :: c163 :: c164 :: c165 :: c166 :: c167 :: c168 :: c169 :: c170 :: c171 :: c172 :: c173 :: c174 :: c175 :: c176 :: c177 :: c178 :: c179 :: c180 :: c181 :: c182 :: c183 :: c184 :: c185 :: c186 :: c187 :: c188 :: c189 :: c190 :: c191 :: c192 :: c193 :: c194 :: c195 :: c196 :: c197 :: c198 :: c199 :: c200 :: c201 :: c202 :: c203 :: c204 :: c205 :: c206 :: c207 :: c208 :: c209 :: c210 :: c211 :: c212 :: c213 :: c214 :: c215 :: c216 :: c217 :: c218 :: c219 :: c220 :: c221 :: c222 :: c223 :: c224 :: c225 :: c226 :: c227 :: c228 :: c229 :: c230 :: c231 :: c232 :: c233 :: c234 :: c235 :: c236 :: c237 :: c238 :: c239 :: c240 :: c241 :: c242 :: c243 :: c244 :: c245 :: c246 :: c247 :: c248 :: c249 :: c250 :: c251 :: c252 :: c253 :: c254 :: c255 :: c256 :: c257 :: c258 :: c259 :: c260 :: c261 :: c262 :: Value.slice a7 L c7 :: Value.int .i64 L :: Value.int .i64 L :: u266 :: u267 :: u268 :: u269 :: u270 :: u271 :: u272 :: u273 :: u274 :: u275 :: u276 :: u277 :: u278 :: u279 :: u280 :: u281 :: u282 :: u283 :: u284 :: u285 :: u286 :: u287 :: u288 :: c289 :: []), []⟩ w')) :
    (Code.block 8 hxB8).wp Try.prog Q ⟨List.toArray (c0 :: c1 :: c2 :: c3 :: c4 :: Value.pointer (some ⟨hp, 0, none⟩) :: c6 :: Value.slice a7 L c7 :: Value.slice a8 L c8 :: c9 :: c10 :: c11 :: c12 :: c13 :: c14 :: c15 :: c16 :: c17 :: c18 :: c19 :: c20 :: c21 :: c22 :: c23 :: c24 :: c25 :: c26 :: c27 :: c28 :: c29 :: c30 :: c31 :: c32 :: c33 :: c34 :: c35 :: c36 :: c37 :: c38 :: c39 :: c40 :: c41 :: c42 :: c43 :: c44 :: c45 :: c46 :: c47 :: c48 :: c49 :: c50 :: c51 :: c52 :: c53 :: c54 :: c55 :: c56 :: c57 :: c58 :: c59 :: c60 :: c61 :: c62 :: c63 :: c64 :: c65 :: c66 :: c67 :: c68 :: c69 :: c70 :: c71 :: c72 :: c73 :: c74 :: c75 :: c76 :: c77 :: c78 :: c79 :: c80 :: c81 :: c82 :: c83 :: c84 :: c85 :: c86 :: c87 :: c88 :: c89 :: c90 :: c91 :: c92 :: c93 :: c94 :: c95 :: c96 :: c97 :: c98 :: c99 :: c100 :: c101 :: c102 :: c103 :: c104 :: c105 :: c106 :: c107 :: c108 :: c109 :: c110 :: c111 :: c112 :: c113 :: c114 :: c115 :: c116 :: c117 :: c118 :: c119 :: c120 :: c121 :: c122 :: c123 :: c124 :: c125 :: c126 :: c127 :: c128 :: c129 :: c130 :: c131 :: c132 :: c133 :: c134 :: c135 :: c136 :: c137 :: c138 :: c139 :: c140 :: c141 :: c142 :: c143 :: c144 :: c145 :: c146 :: c147 :: c148 :: c149 :: c150 :: c151 :: c152 :: c153 :: c154 :: c155 :: c156 :: c157 :: c158 :: c159 :: c160 :: c161 :: c162 :: c163 :: c164 :: c165 :: c166 :: c167 :: c168 :: c169 :: c170 :: c171 :: c172 :: c173 :: c174 :: c175 :: c176 :: c177 :: c178 :: c179 :: c180 :: c181 :: c182 :: c183 :: c184 :: c185 :: c186 :: c187 :: c188 :: c189 :: c190 :: c191 :: c192 :: c193 :: c194 :: c195 :: c196 :: c197 :: c198 :: c199 :: c200 :: c201 :: c202 :: c203 :: c204 :: c205 :: c206 :: c207 :: c208 :: c209 :: c210 :: c211 :: c212 :: c213 :: c214 :: c215 :: c216 :: c217 :: c218 :: c219 :: c220 :: c221 :: c222 :: c223 :: c224 :: c225 :: c226 :: c227 :: c228 :: c229 :: c230 :: c231 :: c232 :: c233 :: c234 :: c235 :: c236 :: c237 :: c238 :: c239 :: c240 :: c241 :: c242 :: c243 :: c244 :: c245 :: c246 :: c247 :: c248 :: c249 :: c250 :: c251 :: c252 :: c253 :: c254 :: c255 :: c256 :: c257 :: c258 :: c259 :: c260 :: c261 :: c262 :: Value.slice a7 L c7 :: Value.int .i64 L :: Value.int .i64 0 :: c266 :: c267 :: c268 :: c269 :: c270 :: c271 :: c272 :: c273 :: c274 :: c275 :: c276 :: c277 :: c278 :: c279 :: c280 :: c281 :: c282 :: c283 :: c284 :: c285 :: c286 :: c287 :: c288 :: c289 :: []), []⟩ w1 := by
  conv => arg 2; arg 2; whnf
  go_wp2_with fail
  go_loopw [265] (fun v wr => ∃ i : Nat, i ≤ L ∧ v = .int .i64 i ∧ Hid (Below w1.heap.size w1 wr)) (fun i _ => L - (intOf i).toNat)
  case atStart => exact ⟨0, Nat.zero_le _, rfl, Below.refl _ _⟩
  case round =>
  obtain ⟨i, hil, rfl, HBR⟩ := hrel
  by_cases hiL : i < L
  rotate_left
  · obtain rfl : i = L := by omega
    go_wp2_with fail
    exact HK.out _ _ _ _ _ _ _ _ _ _ _ _ _ _ _ _ _ _ _ _ _ _ _ _ _ _ _ _ HBR
  have hA := HR.out.later HBR.out
  obtain ⟨l1, l2, l3⟩ := hA.lens
  obtain ⟨v, hv⟩ : ∃ v, vs[i]? = some v := ⟨vs[i]'(by omega), List.getElem?_eq_getElem _⟩
  obtain ⟨q, hq⟩ : ∃ q, ts[i]? = some q := ⟨ts[i]'(by omega), List.getElem?_eq_getElem _⟩
  have hOW := hA.r7
  have hOG := hA.r8
  obtain ⟨wb, c1, e1, _, hwb⟩ := hOW.form (by omega)
  obtain ⟨gb, c2, e2, _, hgb⟩ := hOG.form (by omega)
  injection e1 with e1 _ e3
  injection e2 with e2 _ e4
  subst e1 e2 e3 e4
  obtain ⟨p0, p1⟩ := word_cells hOW i v hv
  have HQC : Hid ((wr.cell? ⟨gb, i * 4, none⟩ = some (.int .i64 q.1.1) ∧ wr.cell? ⟨gb, i * 4 + 1, none⟩ = some (.int .i64 q.1.2.1) ∧ wr.cell? ⟨gb, i * 4 + 2, none⟩ = some (.string q.1.2.2) ∧ wr.cell? ⟨gb, i * 4 + 3, none⟩ = some (.slice q.2.1.1 q.2.2.length q.2.1.2))) := own_nd hOG i (hdT 13 q) (by simp [hq])
  have HGT := hide (hA.get hj hv hq)
  have HQN := hide (hA.term q (List.mem_of_getElem? hq)).1
  have hi1 : (0 : Int) ≤ (i : Int) := by omega
  have hi2 : (i : Int) < (L : Int) := by omega
  clear hA l1 l2 l3 hOW hOG hv hq
  go_wp2_with fail
  refine HGT.out.mono ?_
  rintro e w8 ⟨y, rfl, HY⟩
  have e3 : val 13 y = .agg #[.int .i64 y.1.1, .int .i64 y.1.2.1, .string y.1.2.2, .slice y.2.1.1 y.2.2.length y.2.1.2] := rfl
  rw [e3]
  have HB8 := hide HY.out.1
  have hgb8 : gb < w8.heap.size := Nat.lt_of_lt_of_le hgb HB8.out.size
  obtain ⟨q0, q1, q2, q3⟩ := HQC.out
  have hcc8 := below_cells HB8.out
  replace q0 := (hcc8 _ _ hgb).trans q0
  replace q1 := (hcc8 _ _ hgb).trans q1
  replace q2 := (hcc8 _ _ hgb).trans q2
  replace q3 := (hcc8 _ _ hgb).trans q3
  have HQ8 := hide (show (w8.cell? ⟨gb, i * 4, none⟩ = some (.int .i64 q.1.1) ∧ w8.cell? ⟨gb, i * 4 + 1, none⟩ = some (.int .i64 q.1.2.1) ∧ w8.cell? ⟨gb, i * 4 + 2, none⟩ = some (.string q.1.2.2) ∧ w8.cell? ⟨gb, i * 4 + 3, none⟩ = some (.slice q.2.1.1 q.2.2.length q.2.1.2)) from ⟨q0, q1, q2, q3⟩)
  have HSM : Hid (∀ W, Below w8.heap.size w8 W → Calls Try.prog 19 #[.agg #[.int .i64 y.1.1, .int .i64 y.1.2.1, .string y.1.2.2, .slice y.2.1.1 y.2.2.length y.2.1.2], .agg #[.int .i64 q.1.1, .int .i64 q.1.2.1, .string q.1.2.2, .slice q.2.1.1 q.2.2.length q.2.1.2]] W fun e w' => e = .returned (.bool true) ∧ Below W.heap.size W w') := by
    intro W hW
    have h1 := HB8.out.trans (hW.mono HB8.out.size)
    have h := same_any 13 y 13 q W.heap.size W ((HY.out.2.1.below hW).mono hW.size) ((HQN.out.below h1).mono h1.size) (Nat.le_refl _)
    rw [HY.out.2.2] at h
    exact h
  have HA8 : Hid (∀ o : Obj, Below w8.heap.size w8 (w8.alloc o).drew) := fun o => ((Below.refl _ _).alloc (Nat.le_refl _) o).drew
  have bT : (!true) = false := rfl
  clear HGT HY e3 hcc8 p0 p1 HQC
  go_wp2_with fail
  go_region_held3 (fun w' => (w'.cell? ⟨w8.heap.size, 0, none⟩ = some (.int .i64 y.1.1) ∧ w'.cell? ⟨w8.heap.size, 1, none⟩ = some (.int .i64 y.1.2.1) ∧ w'.cell? ⟨w8.heap.size, 2, none⟩ = some (.string y.1.2.2) ∧ w'.cell? ⟨w8.heap.size, 3, none⟩ = some (.slice y.2.1.1 y.2.2.length y.2.1.2)) ∧ (w'.cell? ⟨gb, i * 4, none⟩ = some (.int .i64 q.1.1) ∧ w'.cell? ⟨gb, i * 4 + 1, none⟩ = some (.int .i64 q.1.2.1) ∧ w'.cell? ⟨gb, i * 4 + 2, none⟩ = some (.string q.1.2.2) ∧ w'.cell? ⟨gb, i * 4 + 3, none⟩ = some (.slice q.2.1.1 q.2.2.length q.2.1.2)))
    (go_keep) ((first
      | (go_at_call 19; refine (HSM.out _ (HA8.out _)).mono ?_; rintro e w9 ⟨rfl, hb9⟩; have HB9 := hide ((HA8.out _).trans (hb9.mono (HA8.out _).size)); obtain ⟨f0, f1, f2, f3⟩ := (boxed (below_undrew hb9)).1; have hc9 := below_cells HB9.out; obtain ⟨h0, h1, h2, h3⟩ := HQ8.out; replace h0 := (hc9 _ _ hgb8).trans h0; replace h1 := (hc9 _ _ hgb8).trans h1; replace h2 := (hc9 _ _ hgb8).trans h2; replace h3 := (hc9 _ _ hgb8).trans h3; clear hc9 hb9)))
  have HE := hide (HBR.out.trans ((HB8.out.trans (HB9.out.mono HB8.out.size)).mono HBR.out.size))
  go_wp2_with fail
  go_roundw
  case rel => exact ⟨i + 1, by omega, by go_num, HE.out⟩
  case measure => simp [intOf]; omega
end Go.Proofs.Ytdlckjjfbobmpaa
