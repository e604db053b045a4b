/- What is proved here: plain facts and contracts that the claimed theorem stands on, several texts in one: plain facts on a heap that a statement makes and plays with: how it stands in memory behind each call. No condition. the statements' own kept() returns true, and turns no memory that was there. No condition. slices.Repeat of one term: so many of it, in new memory. Condition: at most eight. match.bindings' fitAll and fits, of right terms that lie in memory and four right terms that are owned: they return whether the plain functions find something, leave that in the owned row, and turn no other memory that was there. No condition but those. slices.Repeat of one word, at most eight times: so many of it, in new memory. No other condition. -/
import Derived.Test.YtpehdgbdinjbaabG14
import Derived.Deep.RegionHeld3
import Derived.Test.YtpehdgbdinjbaabG05
import Derived.Laws.CopyRow
import Derived.Test.YtpehdgbdinjbaabG11
namespace Go.Proofs.Ytpehdgbdinjbaab
open Go.RowKit Go.Maps

/-- A heap that was made since w, its blocks all among M, which are new since w. -/
def HpS (w : World) (hp : Nat) (room : Int) (ws : List Wd) (nm : List ByteArray) (M : Nat → Prop) (wk : World) : Prop :=
  Below w.heap.size w wk ∧ HpAt w.heap.size hp room ws nm M wk ∧ ∀ b, M b → w.heap.size ≤ b ∧ b < wk.heap.size
theorem HpS.later {w : World} {hp : Nat} {room : Int} {ws : List Wd} {nm : List ByteArray} {M : Nat → Prop} {wk w' : World} (h : HpS w hp room ws nm M wk) (hb : Below wk.heap.size wk w') : HpS w hp room ws nm M w' :=
  ⟨h.1.trans (hb.mono h.1.size), (h.2.1.later hb).mono fun _ hh => hh.1, fun b hh => ⟨(h.2.2 b hh).1, Nat.lt_of_lt_of_le (h.2.2 b hh).2 hb.size⟩⟩
theorem keep_from {w wk w' : World} {M : Nat → Prop} (h : Below w.heap.size w wk) (hM : ∀ b, M b → w.heap.size ≤ b ∧ b < wk.heap.size) (k : Keep M wk w') : Below w.heap.size w w' :=
  ⟨k.os.trans h.os, k.tape.trans h.tape, k.output.trans h.output, Nat.le_trans h.size k.size, fun b hb => (k.block b (Nat.lt_of_lt_of_le hb h.size) fun hm => by have := (hM b hm).1; omega).trans (h.block b hb)⟩
theorem HpS.laid {w : World} {hp : Nat} {room : Int} {ws ws' : List Wd} {nm nm' : List ByteArray} {M : Nat → Prop} {wk w' : World} (h : HpS w hp room ws nm M wk) (k : Laid w.heap.size hp room ws' nm' M wk w') : HpS w hp room ws' nm' (fun b => (M b ∨ wk.heap.size ≤ b) ∧ b < w'.heap.size) w' := by
  have hs := h.1.size
  refine ⟨keep_from h.1 h.2.2 k.2, k.1.inside, fun b hh => ⟨?_, hh.2⟩⟩
  rcases hh.1 with hm | hm
  · exact (h.2.2 b hm).1
  · omega
/-- A new heap. -/
theorem HpS.new {w w0 w1 : World} {room : Int} (h0 : Below w.heap.size w w0) (h : HB w0.heap.size room (.slice none 0 0) (.slice none 0 0) (.map none) w1 ∧ w1.heap.size = w0.heap.size + 1 ∧ Below w0.heap.size w0 w1) : HpS w w0.heap.size room [] [] (fun b => b = w0.heap.size) w1 := by
  obtain ⟨h1, h2, h3⟩ := h
  have hs := h0.size
  refine ⟨h0.trans (h3.mono hs), ⟨.slice none 0 0, .slice none 0 0, .map none, h1, World.ownsRow_nil _ _ _ _, ?_, rfl, fun b e => by simp [Value.ownBlock] at e, fun b e => by simp [Value.ownBlock] at e, fun b e => by simp [mapBlock] at e⟩, fun b hb => by subst hb; omega⟩
  exact ⟨World.ownsRow_nil _ _ _ _, by simp, Or.inl ⟨rfl, rfl, rfl⟩⟩
theorem two_new (w : World) :
    Calls Try.prog 11 #[] w fun e w' => ∃ g, e = .returned (.agg #[.int .i64 4, .int .i64 0, .string ⟨#[]⟩, .slice (some ⟨g, 0, none⟩) 2 2]) ∧ Hid (Below w.heap.size w w' ∧ In w'.heap.size w' 2 (twoT g) ∧ w.heap.size ≤ g) := by
  go_enter Try.func11, Try.ntmps11
  go_wp2_with fail
  refine (kword_any _ _).mono ?_
  rintro e w1 ⟨rfl, hb1⟩
  have HB1 := hide hb1
  clear hb1
  go_wp2_with fail
  refine (num_any _ _).mono ?_
  rintro e w2 ⟨rfl, hb2⟩
  have HB2 := hide (HB1.out.trans (hb2.mono HB1.out.size))
  clear hb2 HB1
  go_wp2_with fail
  refine (tuple_any _ _ _ _).mono ?_
  rintro e w3 ⟨rfl, hb3⟩
  have HB3 := hide ((HB2.out.alloc HB2.out.size _).trans (hb3.mono (Nat.le_trans HB2.out.size (by simp))))
  have HG : Hid (w3.heap[w2.heap.size]? = some (.cells #[.int .i64 2, .int .i64 0, .string ⟨#[97]⟩, .slice none 0 0, .int .i64 1, .int .i64 5, .string ⟨#[]⟩, .slice none 0 0] 24 (0, 0)) ∧ w2.heap.size < w3.heap.size ∧ w.heap.size < w2.heap.size) :=
    ⟨(hb3.block w2.heap.size (by simp)).trans (heap_alloc_new w2 _), by have := hb3.size; simp at this; omega, by have := HB2.out.size; simp at this; omega⟩
  clear hb3 HB2
  have hc := fun o => HB3.out.cell (p := ⟨w.heap.size, o, none⟩) (by simp)
  have hf := fun o => HB3.out.frozen (p := ⟨w.heap.size, o, none⟩) (by simp)
  have c0 := (hc 0).trans (by simp [go_sem] : _ = some (Value.int .i64 0))
  have c1 := (hc 1).trans (by simp [go_sem] : _ = some (Value.int .i64 0))
  have c2 := (hc 2).trans (by simp [go_sem] : _ = some (Value.string ⟨#[]⟩))
  have c3 := (hc 3).trans (by simp [go_sem] : _ = some (Value.slice none 0 0))
  have f0 := (hf 0).trans (by simp [go_sem] : _ = false)
  have f1 := (hf 1).trans (by simp [go_sem] : _ = false)
  have f2 := (hf 2).trans (by simp [go_sem] : _ = false)
  have f3 := (hf 3).trans (by simp [go_sem] : _ = false)
  clear hc hf
  go_wp2_with fail
  refine bodyPost_ret (v := .agg #[.int .i64 4, .int .i64 0, .string ⟨#[]⟩, .slice (some ⟨w2.heap.size, 0, none⟩) 2 2]) (by simp [results, Try.results11, go_sem, c0, c1, c2, c3]) rfl ⟨w2.heap.size, rfl, ?_⟩
  refine hide ⟨?_, ?_, Nat.le_of_lt HG.out.2.2⟩
  · have hb : Below w.heap.size w w3 := ((Below.refl _ _).alloc (Nat.le_refl _) _).trans (HB3.out.mono (by simp))
    go_grown
  · refine two_in _ _ _ (by simp [World.setCell]; exact HG.out.2.1) 24 (0, 0) ?_
    have hne := HG.out.2.2
    rw [Below.heap_setCell _ _ _ _ (by simp; omega), Below.heap_setCell _ _ _ _ (by simp; omega), Below.heap_setCell _ _ _ _ (by simp; omega), Below.heap_setCell _ _ _ _ (by simp; omega)]
    exact HG.out.1

theorem off_parts {P : Nat → Prop} {n : Nat} {x : Tm (n + 1)} {g o : Nat} (he : x.2.1.1 = some ⟨g, o, none⟩) (hg : P g) (h : ∀ y ∈ x.2.2, Off P n y) : Off P (n + 1) x := Or.inr ⟨g, o, he, hg, fun _ y hy => h y (List.mem_of_getElem? hy)⟩
theorem off_num (P : Nat → Prop) (u : Int) : Off P 1 (numT u) := Or.inl rfl
theorem off_word (P : Nat → Prop) (s : ByteArray) : Off P 1 (wordT s) := Or.inl rfl
theorem off_two {P : Nat → Prop} {g : Nat} (hg : P g) : Off P 2 (twoT g) := off_parts (g := g) (o := 0) rfl hg fun y hy => by
  simp only [twoT, List.mem_cons, List.not_mem_nil, or_false] at hy
  rcases hy with rfl | rfl
  · exact off_word _ _
  · exact off_num _ _
def sevT (g : Nat) : Tm 2 := ((4, 0, ⟨#[]⟩), (some ⟨g, 0, none⟩, 1), [numT 7])
theorem sev_in (g B : Nat) (w : World) (hg : g < B) (h : w.heap[g]? = some (.cells #[.int .i64 1, .int .i64 7, .string ⟨#[]⟩, .slice none 0 0] 24)) : In B w 2 (sevT g) := by
  refine ⟨⟨by simp [sevT, I64], by simp [sevT, I64], Nat.zero_le _, by simp [sevT], by simp [sevT, maxLen]⟩, Or.inr ⟨g, 0, rfl, hg, fun i y hy => ?_⟩⟩
  match i, hy with
  | 0, hy =>
    have : numT 7 = y := by simpa [sevT] using hy
    subst this
    exact ⟨⟨by simp [World.cell?, h, numT], by simp [World.cell?, h, numT], by simp [World.cell?, h, numT], by simp [World.cell?, h, numT]⟩, num_in 7 (by simp [I64]) B w⟩
  | _ + 1, hy => simp [sevT] at hy
theorem off_sev {P : Nat → Prop} {g : Nat} (hg : P g) : Off P 2 (sevT g) := off_parts (g := g) (o := 0) rfl hg fun y hy => by
  simp only [sevT, List.mem_cons, List.not_mem_nil, or_false] at hy
  subst hy
  exact off_num _ _
theorem chk_iff0 {n : Nat} {x : Tm n} (h : chk n x = 0) : formedB n x = true := by
  rw [← tchk_chk] at h
  unfold tchk at h
  cases hf : formedB n x
  · simp [hf] at h
  · rfl
theorem two_put (g : Nat) : putE 2 (twoT g) 10 [] = 0 := by kernel_rfl
theorem sev_chk (g : Nat) : chk 2 (sevT g) = 0 := by kernel_rfl
theorem sev_put (g : Nat) (ws : List Wd) (h : ws.length = 3) : putE 2 (sevT g) 10 ws = 0 := by
  have h1 : closedT 2 (sevT g) = true := by kernel_rfl
  have h2 : sz 2 (sevT g) = 2 := by kernel_rfl
  simp [putE, sev_chk, h1, h2, h]
theorem hused_any {base hp : Nat} {room : Int} {ws : List Wd} {nm : List ByteArray} {M : Nat → Prop} {w : World} (h : HpAt base hp room ws nm M w) :
    Calls Try.prog 24 #[.pointer (some ⟨hp, 0, none⟩)] w fun e w' => e = .returned (.int .i64 ws.length) ∧ w' = w := by
  obtain ⟨tv, lv, mv, h1, h2, _⟩ := h
  obtain ⟨ta, tc, rfl⟩ : ∃ ta tc, tv = .slice ta ws.length tc := by
    rcases h2.2 with ⟨e, e0⟩ | ⟨g, c, cur, e, _⟩
    · exact ⟨none, 0, by rw [e, e0]⟩
    · exact ⟨_, c, e⟩
  exact used_any hp room ta ws.length tc lv mv w h1
theorem HpS.coll {w : World} {hp g : Nat} {room : Int} {ws : List Wd} {nm : List ByteArray} {M : Nat → Prop} {R : List Wd × List Wd × Went} {wk w' : World} (h : HpS w hp room ws nm M wk) (k : CollOut w.heap.size hp room R nm M g wk w') : HpS w hp room R.2.1 nm (fun b => ((M b ∨ wk.heap.size ≤ b) ∧ b ≠ g) ∧ b < w'.heap.size) w' := by
  have hs := h.1.size
  refine ⟨keep_from h.1 h.2.2 k.2.1, k.1.inside, fun b hh => ⟨?_, hh.2⟩⟩
  rcases hh.1.1 with hm | hm
  · exact (h.2.2 b hm).1
  · omega
theorem sev_right (g : Nat) : RightA ⟨2, sevT g⟩ := right_formed.2 (chk_iff0 (sev_chk g))
theorem sev_closed (g : Nat) : closedT 2 (sevT g) = true := by kernel_rfl
theorem one_word (w : World) (a b : Int) (t : TypeId) : WordsIn (w.alloc (.cells #[.int .i64 a, .int .i64 b] t)) [(a, b)] (some ⟨w.heap.size, 0, none⟩) := by
  refine Or.inr ⟨w.heap.size, 0, rfl, by simp, fun i v hv => ?_⟩
  match i, hv with
  | 0, hv =>
    have : (a, b) = v := by simpa using hv
    subst this
    exact ⟨by simp [go_sem], by simp [go_sem]⟩
  | _ + 1, hv => simp at hv
/-- One word that was just laid, copied alone: as many words as the term has. -/
theorem roots_one {n : Nat} {x : Tm n} {ws : List Wd} {nm : List ByteArray} (hr : RightA ⟨n, x⟩) :
    ((rootsR (layF n x ws nm).2.1 n [(layF n x ws nm).1]).2.1.length : Int) = sz n x ∧
    ∃ c, (rootsR (layF n x ws nm).2.1 n [(layF n x ws nm).1]).1 = [c] ∧ Stands (rootsR (layF n x ws nm).2.1 n [(layF n x ws nm).1]).2.1 (layF n x ws nm).2.2 n x c := by
  have h1 := (lay_cp (layF n x ws nm).2.1 n x ws nm ([], []) (List.prefix_refl _) (fun p _ _ => by simp [look])).1
  have h2 := (cpF_copies n x (layF n x ws nm).1 ([], []) (inv_nil _ _) (layF_stands n x ws nm hr)).2.2
  refine ⟨by simpa [rootsR, cpL] using h1, _, rfl, ?_⟩
  exact h2 n x (layF_stands n x ws nm hr)
end Go.Proofs.Ytpehdgbdinjbaab
namespace Go.Proofs.Ytpehdgbdinjbaab
open Go.RowKit Go.Maps

theorem cells_two {w1 w2 : World} {o : Obj} {q : Nat} {u0 u1 u2 u3 : Value} (hq : q < w1.heap.size) (h : Below (w1.alloc o).heap.size (w1.alloc o) w2)
    (k : w1.cell? ⟨q, 0, none⟩ = some u0 ∧ w1.cell? ⟨q, 1, none⟩ = some u1 ∧ w1.cell? ⟨q, 2, none⟩ = some u2 ∧ w1.cell? ⟨q, 3, none⟩ = some u3) :
    w2.cell? ⟨q, 0, none⟩ = some u0 ∧ w2.cell? ⟨q, 1, none⟩ = some u1 ∧ w2.cell? ⟨q, 2, none⟩ = some u2 ∧ w2.cell? ⟨q, 3, none⟩ = some u3 :=
  cells_nx hq (((Below.refl w1.heap.size w1).alloc (Nat.le_refl _) o).trans (h.mono (by simp))) k

set_option maxHeartbeats 20000000 in
set_option maxRecDepth 100000 in
theorem kept_any (w : World) : Calls Try.prog 14 #[] w fun e w' => e = .returned (.bool true) ∧ Below w.heap.size w w' := by
  go_enter Try.func14, Try.ntmps14
  go_wp2_with fail
  refine (new_any 10 _).mono ?_
  rintro e w1 ⟨_, h1⟩
  obtain ⟨rfl, hn⟩ := h1 (by decide)
  have HH1 := hide (HpS.new (Below.refl w.heap.size w) hn)
  clear h1 hn
  go_wp2_with fail
  refine (two_new _).mono ?_
  rintro e w2 ⟨g2, rfl, H2⟩
  have HH2 := hide (HH1.out.later H2.out.1)
  have hw1 : w.heap.size < w1.heap.size := (HH1.out.2.2 _ rfl).2
  have HP2 := hide (hput_any 2 (twoT g2) w.heap.size w.heap.size 10 [] [] (fun b => b = w.heap.size) w2 HH2.out.2.1 H2.out.2.1 (off_two (by have := H2.out.2.2; omega)) (by show (3 : Nat) ≤ 2097152; decide) HH2.out.1.size (by decide) (by decide) (by decide) (by decide))
  clear H2 HH1
  go_wp2_with fail
  refine HP2.out.mono ?_
  rintro e w3 ⟨_, h3⟩
  obtain ⟨_, rfl, hl3⟩ := h3 (two_put g2)
  have HH3 := hide (HH2.out.laid hl3)
  have hsz := layF_sizes 2 (twoT g2) [] []
  have e3 : sz 2 (twoT g2) = 3 := by kernel_rfl
  have e4 : (nodes 2 (twoT g2)).length = 3 := rfl
  rw [e3, e4] at hsz
  simp only [List.length_nil] at hsz
  generalize (layF 2 (twoT g2) [] []).2.1 = ws1 at *
  generalize (layF 2 (twoT g2) [] []).2.2 = nm1 at *
  generalize (layF 2 (twoT g2) [] []).1 = v1 at *
  obtain ⟨hsz1, hsz2⟩ := hsz
  have hsz3 : ws1.length = 3 := by omega
  clear h3 hl3 HH2 HP2 e3 e4 hsz1
  obtain ⟨M3, hM3⟩ : ∃ M3 : Nat → Prop, M3 = (fun b => (b = w.heap.size ∨ w2.heap.size ≤ b) ∧ b < w3.heap.size) := ⟨_, rfl⟩
  rw [← hM3] at HH3
  clear hM3
  go_wp2_with fail
  refine (num_any _ _).mono ?_
  rintro e w4 ⟨rfl, hb4⟩
  have HH4 := hide (HH3.out.later hb4)
  have hM4 : ∀ b, M3 b → b < w3.heap.size := fun b hb => (HH3.out.2.2 b hb).2
  have hw34 := hb4.size
  clear hb4 HH3
  go_wp2_with fail
  refine (tuple_any _ _ _ _).mono ?_
  rintro e w5 ⟨rfl, hb5⟩
  have HH5 := hide ((HH4.out.later ((Below.refl _ _).alloc (Nat.le_refl _) _)).later hb5)
  have HG5 : Hid (w5.heap[w4.heap.size]? = some (.cells #[.int .i64 1, .int .i64 7, .string ⟨#[]⟩, .slice none 0 0] 24)) := (hb5.block w4.heap.size (by simp)).trans (heap_alloc_new w4 _)
  have hg5 : w4.heap.size < w5.heap.size := by have := hb5.size; simp at this; omega
  have HP5 := hide (hput_any 2 (sevT w4.heap.size) w.heap.size w.heap.size 10 ws1 nm1 M3 w5 HH5.out.2.1 (sev_in _ _ _ hg5 HG5.out) (off_sev (fun hm => by have := hM4 _ hm; omega)) (by show (2 : Nat) ≤ 2097152; decide) HH5.out.1.size (by decide) (by decide) (by omega) (by omega))
  clear hb5 HH4
  go_wp2_with fail
  refine HP5.out.mono ?_
  rintro e w6 ⟨_, h6⟩
  obtain ⟨_, rfl, hl6⟩ := h6 (sev_put w4.heap.size ws1 hsz3)
  have HH6 := hide (HH5.out.laid hl6)
  have hsz := layF_sizes 2 (sevT w4.heap.size) ws1 nm1
  have e3 : sz 2 (sevT w4.heap.size) = 2 := by kernel_rfl
  have e4 : (nodes 2 (sevT w4.heap.size)).length = 2 := rfl
  have hro := roots_one (n := 2) (x := sevT w4.heap.size) (ws := ws1) (nm := nm1) (sev_right _)
  have hst := layF_stands 2 (sevT w4.heap.size) ws1 nm1 (sev_right _)
  rw [e3] at hro
  rw [e3, e4] at hsz
  generalize (layF 2 (sevT w4.heap.size) ws1 nm1).2.1 = ws2 at *
  generalize (layF 2 (sevT w4.heap.size) ws1 nm1).2.2 = nm2 at *
  generalize (layF 2 (sevT w4.heap.size) ws1 nm1).1 = v7 at *
  obtain ⟨hro1, c7, hro2, hro3⟩ := hro
  have HR1 := hide hro1
  have HR2 := hide hro2
  have HR3 := hide hro3
  have HST := hide hst
  obtain ⟨M6, hM6⟩ : ∃ M6 : Nat → Prop, M6 = (fun b => (M3 b ∨ w5.heap.size ≤ b) ∧ b < w6.heap.size) := ⟨_, rfl⟩
  rw [← hM6] at HH6
  have ews : ws2.length ≤ 1000 := by omega
  have enm : nm2.length ≤ 50000 := by omega
  have HRT : Hid (Roots ws2 nm2 2 [v7] [sevT w4.heap.size]) := by
    refine ⟨⟨rfl, fun i v y hv hy => ?_⟩, fun y hy => ?_, fun y hy => ?_, by simp [e3], by simp [e4], by simp⟩
    · cases i with
      | zero => simp at hv hy; subst hv hy; exact hst
      | succ i => simp at hv
    · simp only [List.mem_singleton] at hy; subst hy; exact sev_right _
    · simp only [List.mem_singleton] at hy; subst hy; exact sev_closed _
  have ev : wdV v7 = .agg #[.int .i64 v7.1, .int .i64 v7.2] := rfl
  rw [ev]
  clear h6 hl6 HH5 HP5 e3 e4 hro1 hro2 hro3 hst hsz hM6 HG5 hM4 ev
  have HC6 : Hid (∀ o t, Calls Try.prog 22 #[.pointer (some ⟨w.heap.size, 0, none⟩), .slice (some ⟨w6.heap.size + 1, 0, none⟩) 1 1] ((w6.alloc o).alloc (.cells #[.int .i64 v7.1, .int .i64 v7.2] t)) fun e w' => ∃ g, e = .returned (.tuple #[.slice (some ⟨g, 0, none⟩) 1 1, .int .i64 0]) ∧ Hid (HpS w w.heap.size 10 (rootsR ws2 2 [v7]).2.1 nm2 (fun b => ((M6 b ∨ ((w6.alloc o).alloc (.cells #[.int .i64 v7.1, .int .i64 v7.2] t)).heap.size ≤ b) ∧ b ≠ g) ∧ b < w'.heap.size) w' ∧ WordsIn w' (rootsR ws2 2 [v7]).1 (some ⟨g, 0, none⟩) ∧ g < w'.heap.size)) := by
    intro o t
    have es : (w6.alloc o).heap.size = w6.heap.size + 1 := by simp
    rw [← es]
    have hh := (HH6.out.later ((Below.refl _ _).alloc (Nat.le_refl _) o)).later ((Below.refl _ _).alloc (Nat.le_refl _) (.cells #[.int .i64 v7.1, .int .i64 v7.2] t))
    refine (hcollect_any 2 [sevT w4.heap.size] [v7] (some ⟨(w6.alloc o).heap.size, 0, none⟩) 1 w.heap.size w.heap.size 10 ws2 nm2 M6 _ hh.2.1 HRT.out (one_word (w6.alloc o) v7.1 v7.2 t) (fun b' o' e => by injection e with e; injection e with e1 _; subst e1; simp) hh.1.size ews enm).mono ?_
    rintro e w' ⟨g, rfl, H⟩
    exact ⟨g, rfl, hh.coll H.out, H.out.2.2.1, H.out.2.2.2.2⟩
  clear HH6 HRT HST
  go_wp2_with fail
  refine (HC6.out _ _).mono ?_
  rintro e w8 ⟨g8, rfl, H8⟩
  obtain ⟨M8, hM8⟩ : ∃ M8 : Nat → Prop, HpS w w.heap.size 10 (rootsR ws2 2 [v7]).2.1 nm2 M8 w8 := ⟨_, H8.out.1⟩
  have HH8 := hide hM8
  have hwi := H8.out.2.1
  rw [HR2.out] at hwi
  obtain ⟨b8, o8, e8, hb8, hc8⟩ : ∃ b o, some (⟨g8, 0, none⟩ : Addr) = some ⟨b, o, none⟩ ∧ b < w8.heap.size ∧ ∀ (i : Nat) (v : Wd), [c7][i]? = some v → w8.cell? ⟨b, o + i * 2, none⟩ = some (.int .i64 v.1) ∧ w8.cell? ⟨b, o + i * 2 + 1, none⟩ = some (.int .i64 v.2) := by
    rcases hwi with h | h
    · cases h
    · exact h
  injection e8 with e8
  injection e8 with e8 e9
  subst e8 e9
  obtain ⟨c0, c1⟩ := hc8 0 c7 rfl
  simp only [Nat.zero_mul, Nat.zero_add, Nat.add_zero] at c0 c1
  have HU8 : Hid (Calls Try.prog 24 #[.pointer (some ⟨w.heap.size, 0, none⟩)] w8 fun e w' => e = .returned (.int .i64 2) ∧ w' = w8) := by
    have h := hused_any HH8.out.2.1
    rw [HR1.out] at h
    exact h
  have HG8 : Hid (∀ w1, Below w8.heap.size w8 w1 → Calls Try.prog 25 #[.pointer (some ⟨w.heap.size, 0, none⟩), .agg #[.int .i64 c7.1, .int .i64 c7.2]] w1 fun e w' => ∃ y : Tm 2, e = .returned (.tuple #[val 2 y, .int .i64 0]) ∧ Hid (Below w1.heap.size w1 w' ∧ In w'.heap.size w' 2 y ∧ Off (fun q => w1.heap.size ≤ q) 2 y ∧ same 2 y 2 (sevT w4.heap.size) = true)) := by
    intro w1 h1
    have hr1 := HR1.out
    exact hget_any 2 (sevT w4.heap.size) c7 w.heap.size w.heap.size 10 _ nm2 M8 w1 (HH8.out.later h1).2.1 HR3.out (sev_right _) (sev_closed _) (by omega) (by omega)
  clear H8 hwi hc8 hM8 HC6 HR1 HR2 HR3
  go_wp2_with fail
  refine HU8.out.mono ?_
  rintro e w9 ⟨rfl, rfl⟩
  go_wp2_with fail
  refine (HG8.out _ (Below.refl _ _)).mono ?_
  rintro e w10 ⟨y, rfl, HY⟩
  have HH10 := hide (HH8.out.later HY.out.1)
  have e3 : val 2 y = .agg #[.int .i64 y.1.1, .int .i64 y.1.2.1, .string y.1.2.2, .slice y.2.1.1 y.2.2.length y.2.1.2] := rfl
  rw [e3]
  clear e3 HU8 HG8 HH8 c0 c1
  have HSM : Hid (∀ (g : Nat) (W1 : World), Below w10.heap.size w10 W1 → W1.heap[g]? = some (.cells #[.int .i64 1, .int .i64 7, .string ⟨#[]⟩, .slice none 0 0] 24) → Calls Try.prog 13 #[.agg #[.int .i64 y.1.1, .int .i64 y.1.2.1, .string y.1.2.2, .slice y.2.1.1 y.2.2.length y.2.1.2], .agg #[.int .i64 4, .int .i64 0, .string ⟨#[]⟩, .slice (some ⟨g, 0, none⟩) 1 1]] W1 fun e w' => e = .returned (.bool true) ∧ Below W1.heap.size W1 w') := by
    intro g W1 h1 hg
    have h := same_any 2 y 2 (sevT g) W1.heap.size W1 ((HY.out.2.1.below h1).mono h1.size) (sev_in g _ _ (Array.getElem?_eq_some_iff.1 hg).1 hg) (Nat.le_refl _)
    have hs : same 2 (sevT w4.heap.size) 2 (sevT g) = true := same_mk rfl (by simp [sevT, sameL, same, numT])
    rw [same_trans _ _ _ _ _ _ HY.out.2.2.2 hs] at h
    exact h
  have HA10 : Hid (∀ o : Obj, Below w10.heap.size w10 (w10.alloc o).drew) := fun o => ((Below.refl _ _).alloc (Nat.le_refl _) o).drew
  clear HY
  go_wp2_with fail
  go_region_held3 (fun w' => w'.cell? ⟨w10.heap.size, 0, none⟩ = some (.int .i64 y.1.1) ∧ w'.cell? ⟨w10.heap.size, 1, none⟩ = some (.int .i64 y.1.2.1) ∧ w'.cell? ⟨w10.heap.size, 2, none⟩ = some (.string y.1.2.2) ∧ w'.cell? ⟨w10.heap.size, 3, none⟩ = some (.slice y.2.1.1 y.2.2.length y.2.1.2))
    (go_keep) ((first
      | (go_at_call 10; refine (num_any _ _).mono ?_; rintro e w11 ⟨rfl, hb11⟩; have HB11 := hide ((HA10.out _).trans (hb11.mono (HA10.out _).size)); obtain ⟨t0, t1, t2, t3⟩ := (boxed (below_undrew hb11)).1; have hw11 : w10.heap.size < w11.heap.size := (by have := (below_undrew hb11).size; simp at this; omega))
      | (go_at_call 28; refine (tuple_any _ _ _ _).mono ?_; rintro e w12 ⟨rfl, hb12⟩; have HB12 := hide ((HB11.out.trans (((Below.refl w11.heap.size w11).alloc (Nat.le_refl _) _).mono HB11.out.size)).trans (hb12.mono (Nat.le_trans HB11.out.size (by simp)))); have HG12 : Hid (w12.heap[w11.heap.size]? = some (.cells #[.int .i64 1, .int .i64 7, .string ⟨#[]⟩, .slice none 0 0] 24)) := (hb12.block w11.heap.size (by simp)).trans (heap_alloc_new w11 _); obtain ⟨s0, s1, s2, s3⟩ := cells_two hw11 hb12 ⟨t0, t1, t2, t3⟩; have hw12 : w10.heap.size < w12.heap.size := (by have := hb12.size; simp at this; omega))
      | (go_at_call 13; refine (HSM.out _ _ HB12.out HG12.out).mono ?_; rintro e w13 ⟨rfl, hb13⟩; have hcc13 := below_cells hb13)))
  have HB13 : Hid (Below w.heap.size w w13) := (HH10.out.1.trans (HB12.out.mono HH10.out.1.size)).trans (hb13.mono (Nat.le_trans HH10.out.1.size HB12.out.size))
  clear hb13 hb12 hb11 hcc13
  go_wp2_with fail
  go_ret
  exact ⟨rfl, HB13.out⟩
end Go.Proofs.Ytpehdgbdinjbaab
namespace Go.Proofs.Ytpehdgbdinjbaab
open Go.RowKit

theorem run_copy_sz {P : Program} (w : World) (dT sT ty elem : TypeId) (size g o dLen dCap : Nat) (a : Addr) (sLen sCap : Nat) (cur : Array Value) (t : TypeId) (cs : List Value) (n : Nat)
    (hu : P.underlying dT = some (.slice elem)) (hs : (P.info? elem).map (·.size) = some size)
    (hg : w.heap[g]? = some (.cells cur t (0, 0))) (hn : Nat.min sLen dLen = n) (hl : cs.length = n * size)
    (hsrc : ∀ j v, cs[j]? = some v → w.cell? (a.add j) = some v) (hfit : o + cs.length ≤ cur.size) (h1 : ∀ v ∈ cs, v.oneCell' = true) :
    (Builtin.copy_ #[dT, sT] ty #[.slice (some ⟨g, o, none⟩) dLen dCap, .slice (some a) sLen sCap]).run P w =
      .ok (goInt n) (w.setRow g (cur.toList.take o ++ cs ++ cur.toList.drop (o + cs.length)).toArray) := by
  have hld := run_loadCells_list (P := P) w a cs hsrc
  have hst := run_storeCells_at P g o t cs 0 cur w hg (by simpa using hfit) h1
  cases hq : P.info? elem with
  | none => simp [hq] at hs
  | some i =>
    have hi : i.size = size := by simpa [hq] using hs
    rw [hl] at hld
    simp [Builtin.copy_, run_underlying hu, Builtin.lenOf, Builtin.firstCells, sizeOf, typeInfo, hq, hi, hn, hld, hst]

theorem Has.row {base g k : Nat} {l : List An} {w : World} (h : Has base g k l w) (hl : l.length = k) : w.heap[g]? = some (.cells (anCells l).toArray 24 (0, 0)) := by
  obtain ⟨h1, h2⟩ := h
  rcases h2 with ⟨h2, _⟩ | ⟨g', cap, cur, hv, hg, hh, hc, hm, hz, he⟩
  · simp at h2
  · injection hv with e1 e2 e3
    injection e1 with e1
    injection e1 with e1 _
    subst e1 e3
    rw [hh, ← he, List.take_of_length_le (by rw [Array.length_toList, hz, hl]; exact Nat.le_refl _)]
theorem Has.of_row {base g k : Nat} {l : List An} {w : World} (h : w.heap[g]? = some (.cells (anCells l).toArray 24 (0, 0))) (hl : l.length = k) (hg : base ≤ g) (hk : k ≤ maxLen) : Has base g k l w := by
  refine ⟨anCells_length l, Or.inr ⟨g, k, (anCells l).toArray, rfl, hg, h, by omega, hk, by simp [anCells_length, hl], ?_⟩⟩
  rw [List.take_of_length_le (by simp [anCells_length])]
theorem ndCells_take : (l : List Nd) → (i : Nat) → (ndCells l).take (i * 4) = ndCells (l.take i)
  | [], i => by simp [ndCells]
  | x :: l, 0 => by simp [ndCells]
  | x :: l, i + 1 => by
    have e : ndCells (x :: l) = nd4 x ++ ndCells l := rfl
    have hx : (nd4 x).length = 4 := rfl
    rw [e, List.take_append, hx, List.take_of_length_le (by rw [hx]; omega), show (i + 1) * 4 - 4 = i * 4 by omega, ndCells_take l i]
    rfl
theorem ndCells_drop : (l : List Nd) → (i : Nat) → (ndCells l).drop (i * 4) = ndCells (l.drop i)
  | [], i => by simp [ndCells]
  | x :: l, 0 => by simp [ndCells]
  | x :: l, i + 1 => by
    have e : ndCells (x :: l) = nd4 x ++ ndCells l := rfl
    have hx : (nd4 x).length = 4 := rfl
    rw [e, List.drop_append, hx, List.drop_eq_nil_of_le (by rw [hx]; omega), List.nil_append, show (i + 1) * 4 - 4 = i * 4 by omega, ndCells_drop l i]
    rfl
theorem sizeTerm : (Try.prog.info? 24).map (·.size) = some 4 := by
  obtain ⟨it, h1, h2, h3, h4⟩ := info_parts infoTerm
  rw [h1]; simp [h3]

/-- A copy into a row that is owned, of terms that lie there. -/
theorem run_copy_has {base g k : Nat} {l : List An} {w : World} (h : Has base g k l w) (hl : l.length = k) (hk : k ≤ maxLen) (ty : TypeId) (i n : Nat) (xs : List An) (ad : Addr) (dLen dCap sLen sCap : Nat) (hn : Nat.min sLen dLen = n) (hx : xs.length = n) (hi : i + n ≤ k)
    (hsrc : ∀ j v, (anCells xs)[j]? = some v → w.cell? (ad.add j) = some v) :
    ∃ w', (Builtin.copy_ #[22, 22] ty #[.slice (some ⟨g, i * 4, none⟩) dLen dCap, .slice (some ad) sLen sCap]).run Try.prog w = .ok (goInt n) w' ∧ Has base g k (l.take i ++ xs ++ l.drop (i + n)) w' ∧ w.grownBy w' (some g) := by
  have hr := h.row hl
  refine ⟨_, run_copy_sz w _ _ ty 24 4 g (i * 4) dLen dCap ad sLen sCap (anCells l).toArray 24 (anCells xs) n Try.underlying22 sizeTerm hr hn (by rw [anCells_length, hx]) hsrc (by simp [anCells_length]; omega) (anCells_one _), ?_, ?_⟩
  · have e : (anCells l).take (i * 4) ++ anCells xs ++ (anCells l).drop (i * 4 + (anCells xs).length) = anCells (l.take i ++ xs ++ l.drop (i + n)) := by
      rw [anCells_append, anCells_append, anCells_length, hx, ← Nat.add_mul]
      unfold anCells
      rw [ndCells_take, ndCells_drop, List.map_take, List.map_drop]
    refine Has.of_row ?_ (by simp; omega) h.lt.1 hk
    rw [← e]
    simp [World.setRow, Array.getElem?_modify, hr]
  · exact ⟨rfl, rfl, rfl, by simp [World.setRow], fun b _ hne => by
      have : g ≠ b := fun e => hne (by rw [e])
      simp [World.setRow, Array.getElem?_modify, this]⟩

theorem wp_copy_has {w : World} {o : Oper} {a : Act} {K : Act → World → Prop} {Q : Exit → Act → World → Prop} (d s : Operand) (ho : o.op = .call { callee := .builtin .copy, args := #[d, s], argTypes := #[22, 22] })
    {base g k : Nat} {l : List An} (h : Has base g k l w) (hl : l.length = k) (hk : k ≤ maxLen) (i n : Nat) (xs : List An) (ad : Addr) (dLen dCap sLen sCap : Nat) (hd : a.eval d = .slice (some ⟨g, i * 4, none⟩) dLen dCap) (hs : a.eval s = .slice (some ad) sLen sCap) (hn : Nat.min sLen dLen = n) (hx : xs.length = n) (hi : i + n ≤ k)
    (hsrc : ∀ j v, (anCells xs)[j]? = some v → w.cell? (ad.add j) = some v)
    (hK : ∀ w', Has base g k (l.take i ++ xs ++ l.drop (i + n)) w' → w.grownBy w' (some g) → K (a.put o.dst (goInt n)) w') : o.wp Try.prog a w K Q := by
  obtain ⟨w', hr, h2, h3⟩ := run_copy_has h hl hk o.type i n xs ad dLen dCap sLen sCap hn hx hi hsrc
  unfold Oper.wp execOp
  simp only [ho, resolve, invoke, builtin, Sem.run_bind, Sem.run_pure, Result.andThen_ok, List.map_toArray, List.map_cons, List.map_nil, hd, hs, hr]
  exact hK w' h2 h3
theorem wpList_copy_has {w : World} {ops : Array Oper} {rest : List Oper} {o : Oper} {a : Act} {Q : Exit → Act → World → Prop} (hgd : o.guard = none) (d s : Operand) (ho : o.op = .call { callee := .builtin .copy, args := #[d, s], argTypes := #[22, 22] })
    {base g k : Nat} {l : List An} (h : Has base g k l w) (hl : l.length = k) (hk : k ≤ maxLen) (i n : Nat) (xs : List An) (ad : Addr) (dLen dCap sLen sCap : Nat) (hd : a.eval d = .slice (some ⟨g, i * 4, none⟩) dLen dCap) (hs : a.eval s = .slice (some ad) sLen sCap) (hn : Nat.min sLen dLen = n) (hx : xs.length = n) (hi : i + n ≤ k)
    (hsrc : ∀ j v, (anCells xs)[j]? = some v → w.cell? (ad.add j) = some v)
    (hK : ∀ w', Has base g k (l.take i ++ xs ++ l.drop (i + n)) w' → w.grownBy w' (some g) → wpList Try.prog ops Q rest (a.put o.dst (goInt n)) w') : wpList Try.prog ops Q (o :: rest) a w :=
  wpList_plain hgd fun _ hK' => wp_copy_has d s ho h hl hk i n xs ad dLen dCap sLen sCap hd hs hn hx hi hsrc fun w' h2 h3 => hK' _ _ (hK w' h2 h3)
theorem step_copy_has {w : World} {ops : Array Oper} {o : Oper} {a : Act} {K : Act → World → Prop} {Q : Exit → Act → World → Prop} {E : Prop} (hgd : o.guard = none) (d s : Operand) (ho : o.op = .call { callee := .builtin .copy, args := #[d, s], argTypes := #[22, 22] })
    {base g k : Nat} {l : List An} (h : Has base g k l w) (hl : l.length = k) (hk : k ≤ maxLen) (i n : Nat) (xs : List An) (ad : Addr) (dLen dCap sLen sCap : Nat) (hd : a.eval d = .slice (some ⟨g, i * 4, none⟩) dLen dCap) (hs : a.eval s = .slice (some ad) sLen sCap) (hn : Nat.min sLen dLen = n) (hx : xs.length = n) (hi : i + n ≤ k)
    (hsrc : ∀ j v, (anCells xs)[j]? = some v → w.cell? (ad.add j) = some v)
    (hK : ∀ w', Has base g k (l.take i ++ xs ++ l.drop (i + n)) w' → w.grownBy w' (some g) → K (a.put o.dst (goInt n)) w') :
    if Region.wanted o (yielded ops a.tmps) = true then Oper.wp Try.prog o a w K Q else E := by
  have hw : Region.wanted o (yielded ops a.tmps) = true := by simp [Region.wanted, hgd]
  rw [if_pos hw]
  exact wp_copy_has d s ho h hl hk i n xs ad dLen dCap sLen sCap hd hs hn hx hi hsrc hK

theorem rep_first (k : Nat) (x : An) : (List.replicate k zA).take 0 ++ [x] ++ (List.replicate k zA).drop (0 + 1) = List.replicate 1 x ++ List.replicate (k - 1) zA := by simp [List.drop_replicate]
theorem rep_more (k n m : Nat) (x : An) : (List.replicate n x ++ List.replicate (k - n) zA).take n ++ List.replicate m x ++ (List.replicate n x ++ List.replicate (k - n) zA).drop (n + m) = List.replicate (n + m) x ++ List.replicate (k - (n + m)) zA := by
  rw [List.take_append, List.drop_append]
  simp [List.drop_replicate]
  rw [show k - n - m = k - (n + m) by omega]
end Go.Proofs.Ytpehdgbdinjbaab
namespace Go.Proofs.Ytpehdgbdinjbaab
open Go.RowKit

theorem grown_cells {w w' : World} {g : Nat} (h : w.grownBy w' (some g)) : ∀ b o, b < w.heap.size → b ≠ g → w'.cell? ⟨b, o, none⟩ = w.cell? ⟨b, o, none⟩ :=
  fun b o hb hne => World.cell?_of_block (a := ⟨b, o, none⟩) (h.block b hb (by simpa using hne))
theorem grown_undrew {w w' : World} {row : Option Nat} (h : w.drew.grownBy w' row) : w.grownBy w' row := ⟨h.os, h.tape, h.output, h.size, h.block⟩
theorem grown_drew {w w' : World} {row : Option Nat} (h : w.grownBy w' row) : w.grownBy w'.drew row := ⟨h.os, h.tape, h.output, h.size, h.block⟩

theorem fitAll_ne (p q : Nat) (a a' : Option Addr) (pc qc : Nat) (g c : Nat) (base : Nat) (w : World) (_hpc : p ≤ 9223372036854775807) (_hqc : q ≤ 9223372036854775807) (hl : ((p : Int) == (q : Int)) = false) :
    Calls Try.prog 94 #[.slice (some ⟨g, 0, none⟩) 4 c, .slice a p pc, .slice a' q qc] w (FitPost base g c none w) := by
  have hl' : ((p : Int) != (q : Int)) = true := by simpa using hl
  go_enter Try.func94, Try.ntmps94
  go_wp2_with fail
  go_ret
  exact ⟨rfl, World.grownBy.refl _ _, fun b e => by cases e⟩

theorem fitAll_nil (a a' : Option Addr) (pc qc : Nat) (g c : Nat) (base : Nat) (b : List An) (w : World) (H : Has base g c b w) :
    Calls Try.prog 94 #[.slice (some ⟨g, 0, none⟩) 4 c, .slice a 0 pc, .slice a' 0 qc] w (FitPost base g c (some b) w) := by
  have HH := hide H
  clear H
  go_enter Try.func94, Try.ntmps94
  go_wp2_with fail
  go_loop [16] (fun i => i = .int .i64 0) (fun _ => 0)
  case atStart => rfl
  case round =>
    obtain rfl := hrel
    go_wp2_with fail
    go_ret
    exact ⟨rfl, World.grownBy.refl _ _, fun b' e => by obtain rfl := Option.some.inj e; exact HH.out⟩

set_option maxHeartbeats 1000000 in
theorem fitAll_eq (n m : Nat) (ih : FFit n) (p : List (Tm n)) (q : List (Tm m)) (len : Nat) (hpl : Hid (p.length = len)) (hql : Hid (q.length = len)) (pb po qb qo pc qc : Nat) (b : List An) (base g c B : Nat) (w : World)
    (hlen : len ≤ 9223372036854775807) (hpb : pb < B) (hqb : qb < B)
    (hp : ∀ (i : Nat) (y : Tm n), p[i]? = some y → Held w pb (po + i * 4) n y ∧ In B w n y)
    (hq : ∀ (i : Nat) (y : Tm m), q[i]? = some y → Held w qb (qo + i * 4) m y ∧ In B w m y)
    (hrp : ∀ y ∈ p, RightA ⟨n, y⟩) (hrq : ∀ y ∈ q, RightA ⟨m, y⟩) (hb : Hid (Bnd B w b)) (hB : B ≤ base) (H : Hid (Has base g c b w)) :
    Calls Try.prog 94 #[.slice (some ⟨g, 0, none⟩) 4 c, .slice (some ⟨pb, po, none⟩) len pc, .slice (some ⟨qb, qo, none⟩) len qc] w (FitPost base g c (fitL (fun x y b => fit n x m y b) p q b) w) := by
  have hg1 : B ≤ g := Nat.le_trans hB H.out.lt.1
  have hg2 : g < w.heap.size := H.out.lt.2
  go_enter Try.func94, Try.ntmps94
  go_wp2_with fail
  go_loopw [16] (fun i wr => ∃ k : Nat, k ≤ len ∧ i = .int .i64 k ∧ Hid (w.grownBy wr (some g) ∧ ∃ b', Has base g c b' wr ∧ Bnd B wr b' ∧ fitL (fun x y b => fit n x m y b) (p.drop k) (q.drop k) b' = fitL (fun x y b => fit n x m y b) p q b)) (fun i _ => len - (intOf i).toNat)
  case atStart => exact ⟨0, by omega, rfl, World.grownBy.refl _ _, b, H.out, hb.out, rfl⟩
  case round =>
    obtain ⟨k, hk, rfl, HR⟩ := hrel
    by_cases hlt : k < len
    · obtain ⟨x, hx⟩ : ∃ x, p[k]? = some x := ⟨p[k]'(by rw [hpl.out]; exact hlt), List.getElem?_eq_getElem _⟩
      obtain ⟨y, hy⟩ : ∃ y, q[k]? = some y := ⟨q[k]'(by rw [hql.out]; exact hlt), List.getElem?_eq_getElem _⟩
      obtain ⟨HG, b', HH, HN, HF⟩ : Hid (w.grownBy wr (some g)) ∧ ∃ b', Hid (Has base g c b' wr) ∧ Hid (Bnd B wr b') ∧ Hid (fitL (fun x y b => fit n x m y b) (p.drop k) (q.drop k) b' = fitL (fun x y b => fit n x m y b) p q b) := HR.out
      clear HR
      obtain ⟨hx1, hx2⟩ := hp k x hx
      obtain ⟨hy1, hy2⟩ := hq k y hy
      have HS := hide (fitL_drop (fun x y b => fit n x m y b) p q k x y hx hy b')
      have HRX := hide (hrp x (List.mem_of_getElem? hx))
      have HRY := hide (hrq y (List.mem_of_getElem? hy))
      have hbw := grown_below HG.out hg1 hg2
      replace hx1 := hx1.below hbw hpb
      replace hy1 := hy1.below hbw hqb
      replace hx2 := hx2.below hbw
      replace hy2 := hy2.below hbw
      have hgr : g < wr.heap.size := Nat.lt_of_lt_of_le hg2 HG.out.size
      have hB' : B ≤ wr.heap.size := by omega
      clear hp hq hx hy hrp hrq hb H hbw
      cases n with
      | zero => exact hx1.elim
      | succ n =>
      cases m with
      | zero => exact hy1.elim
      | succ m =>
      obtain ⟨x0, x1, x2, x3⟩ := hx1
      obtain ⟨y0, y1, y2, y3⟩ := hy1
      have HC : Hid (∀ (w1 : World), Below wr.heap.size wr w1 → Calls Try.prog 65 #[.slice (some ⟨g, 0, none⟩) 4 c, .agg #[.int .i64 x.1.1, .int .i64 x.1.2.1, .string x.1.2.2, .slice x.2.1.1 x.2.2.length x.2.1.2], .agg #[.int .i64 y.1.1, .int .i64 y.1.2.1, .string y.1.2.2, .slice y.2.1.1 y.2.2.length y.2.1.2]] w1 (FitPost base g c (fit (n + 1) x (m + 1) y b') w1)) :=
        fun w1 h1 => ih x (m + 1) y b' base g c B w1 (hx2.below (h1.mono hB')) (hy2.below (h1.mono hB')) HRX.out HRY.out (HN.out.below (h1.mono hB')) hB (HH.out.below h1)
      have HK : Hid (∀ r b2, fit (n + 1) x (m + 1) y b' = r → r = some b2 → Bnd B wr b2) := fun r b2 e1 e2 => HN.out.fit hy2 HRY.out (e1.trans e2)
      clear ih hx2 hy2 HRX HRY HN
      replace HS : Hid (fitL (fun x y b => fit (n + 1) x (m + 1) y b) (p.drop k) (q.drop k) b' = (fit (n + 1) x (m + 1) y b').bind (fitL (fun x y b => fit (n + 1) x (m + 1) y b) (p.drop (k + 1)) (q.drop (k + 1)))) := HS
      generalize fit (n + 1) x (m + 1) y b' = r at *
      generalize x.2.2.length = xl at *
      generalize y.2.2.length = yl at *
      have hk1 : (0 : Int) ≤ (k : Int) := by omega
      have hk2 : (k : Int) < (len : Int) := by omega
      have hpw : pb < wr.heap.size := by omega
      have hqw : qb < wr.heap.size := by omega
      have hqw1 : qb < wr.heap.size + 1 := by omega
      have hqg : qb ≠ g := by omega
      have hwg : wr.heap.size ≠ g := by omega
      have HCD := hide (HC.out (wr.alloc (.cells #[.int .i64 x.1.1, .int .i64 x.1.2.1, .string x.1.2.2, .slice x.2.1.1 xl x.2.1.2] 24)).drew (((Below.refl _ _).alloc (Nat.le_refl _) _).drew))
      clear HC
      go_wp2_with fail
      go_region_held3 (fun w' => w'.cell? ⟨wr.heap.size, 0, none⟩ = some (.int .i64 x.1.1) ∧ w'.cell? ⟨wr.heap.size, 1, none⟩ = some (.int .i64 x.1.2.1) ∧ w'.cell? ⟨wr.heap.size, 2, none⟩ = some (.string x.1.2.2) ∧ w'.cell? ⟨wr.heap.size, 3, none⟩ = some (.slice x.2.1.1 xl x.2.1.2)
          ∧ w'.cell? ⟨qb, qo + k * 4, none⟩ = some (.int .i64 y.1.1) ∧ w'.cell? ⟨qb, qo + k * 4 + 1, none⟩ = some (.int .i64 y.1.2.1) ∧ w'.cell? ⟨qb, qo + k * 4 + 2, none⟩ = some (.string y.1.2.2) ∧ w'.cell? ⟨qb, qo + k * 4 + 3, none⟩ = some (.slice y.2.1.1 yl y.2.1.2))
        (go_keep) ((go_at_call 65; refine HCD.out.mono ?_; rintro e w1 ⟨rfl, hgr1, hhas1⟩; have hcc := grown_cells (grown_undrew hgr1); have HG1 := hide (grown_undrew hgr1); have HH1 := hide hhas1; clear hgr1 hhas1))
      have HG2 : Hid (w.grownBy w1 (some g)) := grown_trans HG.out (grown_trans (World.grownBy_alloc wr _ _) HG1.out)
      clear hcc
      cases r with
      | some b2 =>
        have HN2 : Hid (Bnd B w1 b2) := (HK.out _ b2 rfl rfl).below ((((Below.refl _ _).alloc (Nat.le_refl _) _).mono hB').trans (grown_below HG1.out hg1 (by simp; omega)))
        clear HK
        simp only [Option.isSome_some]
        go_wp2_with fail
        go_roundw
        case rel => exact ⟨k + 1, by omega, by go_num, HG2.out, b2, HH1.out b2 rfl, HN2.out, by rw [← HF.out, HS.out]; rfl⟩
        case measure => simp [intOf]; omega
      | none =>
        clear HK
        simp only [Option.isSome_none]
        go_wp2_with fail
        go_ret
        have ho : fitL (fun x y b => fit (n + 1) x (m + 1) y b) p q b = none := by rw [← HF.out, HS.out]; rfl
        rw [ho]
        exact ⟨rfl, HG2.out, fun b' e => by cases e⟩
    · obtain ⟨HG, b', HH, HN, HF⟩ : Hid (w.grownBy wr (some g)) ∧ ∃ b', Hid (Has base g c b' wr) ∧ Hid (Bnd B wr b') ∧ Hid (fitL (fun x y b => fit n x m y b) (p.drop k) (q.drop k) b' = fitL (fun x y b => fit n x m y b) p q b) := HR.out
      clear HR
      go_wp2_with fail
      go_ret
      have ho : fitL (fun x y b => fit n x m y b) p q b = some b' := by rw [← HF.out, List.drop_eq_nil_of_le (by rw [hpl.out]; omega)]; rfl
      rw [ho]
      exact ⟨rfl, HG.out, fun b2 e => by obtain rfl := Option.some.inj e; exact HH.out⟩
end Go.Proofs.Ytpehdgbdinjbaab
namespace Go.Proofs.Ytpehdgbdinjbaab
open Go.RowKit

def zW : Wd := (0, 0)
/-- A row of words that is owned. -/
def HasW (base : Nat) (g c : Nat) (b : List Wd) (w : World) : Prop := w.ownsRow base 37 2 (.slice (some ⟨g, 0, none⟩) b.length c) b.length (wCells b)
theorem HasW.lt {base g c : Nat} {b : List Wd} {w : World} (h : HasW base g c b w) : base ≤ g ∧ g < w.heap.size := World.ownsRow.lt h g rfl
theorem HasW.row {base g k : Nat} {l : List Wd} {w : World} (h : HasW base g k l w) (hl : l.length = k) : w.heap[g]? = some (.cells (wCells l).toArray 37 (0, 0)) := by
  obtain ⟨h1, h2⟩ := h
  rcases h2 with ⟨h2, _⟩ | ⟨g', cap, cur, hv, hg, hh, hc, hm, hz, he⟩
  · simp at h2
  · injection hv with e1 e2 e3
    injection e1 with e1
    injection e1 with e1 _
    subst e1 e3
    rw [hh, ← he, List.take_of_length_le (by rw [Array.length_toList, hz, hl]; exact Nat.le_refl _)]
theorem HasW.of_row {base g k : Nat} {l : List Wd} {w : World} (h : w.heap[g]? = some (.cells (wCells l).toArray 37 (0, 0))) (hl : l.length = k) (hg : base ≤ g) (hk : k ≤ maxLen) : HasW base g k l w := by
  refine ⟨wCells_length l, Or.inr ⟨g, k, (wCells l).toArray, rfl, hg, h, by omega, hk, by simp [wCells_length, hl], ?_⟩⟩
  rw [List.take_of_length_le (by simp [wCells_length])]
theorem wCells_take : (l : List Wd) → (i : Nat) → (wCells l).take (i * 2) = wCells (l.take i)
  | [], i => by simp [wCells]
  | x :: l, 0 => by simp [wCells]
  | x :: l, i + 1 => by
    have e : wCells (x :: l) = wd2 x ++ wCells l := rfl
    have hx : (wd2 x).length = 2 := rfl
    rw [e, List.take_append, hx, List.take_of_length_le (by rw [hx]; omega), show (i + 1) * 2 - 2 = i * 2 by omega, wCells_take l i]
    rfl
theorem wCells_drop : (l : List Wd) → (i : Nat) → (wCells l).drop (i * 2) = wCells (l.drop i)
  | [], i => by simp [wCells]
  | x :: l, 0 => by simp [wCells]
  | x :: l, i + 1 => by
    have e : wCells (x :: l) = wd2 x ++ wCells l := rfl
    have hx : (wd2 x).length = 2 := rfl
    rw [e, List.drop_append, hx, List.drop_eq_nil_of_le (by rw [hx]; omega), List.nil_append, show (i + 1) * 2 - 2 = i * 2 by omega, wCells_drop l i]
    rfl
theorem sizeWord : (Try.prog.info? 37).map (·.size) = some 2 := by
  obtain ⟨it, h1, h2, h3, h4⟩ := info_parts infoWord
  rw [h1]; simp [h3]
/-- A copy into a row that is owned, of terms that lie there. -/
theorem run_copy_hasW {base g k : Nat} {l : List Wd} {w : World} (h : HasW base g k l w) (hl : l.length = k) (hk : k ≤ maxLen) (ty : TypeId) (i n : Nat) (xs : List Wd) (ad : Addr) (dLen dCap sLen sCap : Nat) (hn : Nat.min sLen dLen = n) (hx : xs.length = n) (hi : i + n ≤ k)
    (hsrc : ∀ j v, (wCells xs)[j]? = some v → w.cell? (ad.add j) = some v) :
    ∃ w', (Builtin.copy_ #[42, 42] ty #[.slice (some ⟨g, i * 2, none⟩) dLen dCap, .slice (some ad) sLen sCap]).run Try.prog w = .ok (goInt n) w' ∧ HasW base g k (l.take i ++ xs ++ l.drop (i + n)) w' ∧ w.grownBy w' (some g) := by
  have hr := h.row hl
  refine ⟨_, run_copy_sz w _ _ ty 37 2 g (i * 2) dLen dCap ad sLen sCap (wCells l).toArray 37 (wCells xs) n Try.underlying42 sizeWord hr hn (by rw [wCells_length, hx]) hsrc (by simp [wCells_length]; omega) (wCells_one _), ?_, ?_⟩
  · have e : (wCells l).take (i * 2) ++ wCells xs ++ (wCells l).drop (i * 2 + (wCells xs).length) = wCells (l.take i ++ xs ++ l.drop (i + n)) := by
      rw [wCells_append, wCells_append, wCells_length, hx, ← Nat.add_mul]
      rw [wCells_take, wCells_drop]
    refine HasW.of_row ?_ (by simp; omega) h.lt.1 hk
    rw [← e]
    simp [World.setRow, Array.getElem?_modify, hr]
  · exact ⟨rfl, rfl, rfl, by simp [World.setRow], fun b _ hne => by
      have : g ≠ b := fun e => hne (by rw [e])
      simp [World.setRow, Array.getElem?_modify, this]⟩

theorem wp_copy_hasW {w : World} {o : Oper} {a : Act} {K : Act → World → Prop} {Q : Exit → Act → World → Prop} (d s : Operand) (ho : o.op = .call { callee := .builtin .copy, args := #[d, s], argTypes := #[42, 42] })
    {base g k : Nat} {l : List Wd} (h : HasW base g k l w) (hl : l.length = k) (hk : k ≤ maxLen) (i n : Nat) (xs : List Wd) (ad : Addr) (dLen dCap sLen sCap : Nat) (hd : a.eval d = .slice (some ⟨g, i * 2, none⟩) dLen dCap) (hs : a.eval s = .slice (some ad) sLen sCap) (hn : Nat.min sLen dLen = n) (hx : xs.length = n) (hi : i + n ≤ k)
    (hsrc : ∀ j v, (wCells xs)[j]? = some v → w.cell? (ad.add j) = some v)
    (hK : ∀ w', HasW base g k (l.take i ++ xs ++ l.drop (i + n)) w' → w.grownBy w' (some g) → K (a.put o.dst (goInt n)) w') : o.wp Try.prog a w K Q := by
  obtain ⟨w', hr, h2, h3⟩ := run_copy_hasW h hl hk o.type i n xs ad dLen dCap sLen sCap hn hx hi hsrc
  unfold Oper.wp execOp
  simp only [ho, resolve, invoke, builtin, Sem.run_bind, Sem.run_pure, Result.andThen_ok, List.map_toArray, List.map_cons, List.map_nil, hd, hs, hr]
  exact hK w' h2 h3
theorem wpList_copy_hasW {w : World} {ops : Array Oper} {rest : List Oper} {o : Oper} {a : Act} {Q : Exit → Act → World → Prop} (hgd : o.guard = none) (d s : Operand) (ho : o.op = .call { callee := .builtin .copy, args := #[d, s], argTypes := #[42, 42] })
    {base g k : Nat} {l : List Wd} (h : HasW base g k l w) (hl : l.length = k) (hk : k ≤ maxLen) (i n : Nat) (xs : List Wd) (ad : Addr) (dLen dCap sLen sCap : Nat) (hd : a.eval d = .slice (some ⟨g, i * 2, none⟩) dLen dCap) (hs : a.eval s = .slice (some ad) sLen sCap) (hn : Nat.min sLen dLen = n) (hx : xs.length = n) (hi : i + n ≤ k)
    (hsrc : ∀ j v, (wCells xs)[j]? = some v → w.cell? (ad.add j) = some v)
    (hK : ∀ w', HasW base g k (l.take i ++ xs ++ l.drop (i + n)) w' → w.grownBy w' (some g) → wpList Try.prog ops Q rest (a.put o.dst (goInt n)) w') : wpList Try.prog ops Q (o :: rest) a w :=
  wpList_plain hgd fun _ hK' => wp_copy_hasW d s ho h hl hk i n xs ad dLen dCap sLen sCap hd hs hn hx hi hsrc fun w' h2 h3 => hK' _ _ (hK w' h2 h3)
theorem step_copy_hasW {w : World} {ops : Array Oper} {o : Oper} {a : Act} {K : Act → World → Prop} {Q : Exit → Act → World → Prop} {E : Prop} (hgd : o.guard = none) (d s : Operand) (ho : o.op = .call { callee := .builtin .copy, args := #[d, s], argTypes := #[42, 42] })
    {base g k : Nat} {l : List Wd} (h : HasW base g k l w) (hl : l.length = k) (hk : k ≤ maxLen) (i n : Nat) (xs : List Wd) (ad : Addr) (dLen dCap sLen sCap : Nat) (hd : a.eval d = .slice (some ⟨g, i * 2, none⟩) dLen dCap) (hs : a.eval s = .slice (some ad) sLen sCap) (hn : Nat.min sLen dLen = n) (hx : xs.length = n) (hi : i + n ≤ k)
    (hsrc : ∀ j v, (wCells xs)[j]? = some v → w.cell? (ad.add j) = some v)
    (hK : ∀ w', HasW base g k (l.take i ++ xs ++ l.drop (i + n)) w' → w.grownBy w' (some g) → K (a.put o.dst (goInt n)) w') :
    if Region.wanted o (yielded ops a.tmps) = true then Oper.wp Try.prog o a w K Q else E := by
  have hw : Region.wanted o (yielded ops a.tmps) = true := by simp [Region.wanted, hgd]
  rw [if_pos hw]
  exact wp_copy_hasW d s ho h hl hk i n xs ad dLen dCap sLen sCap hd hs hn hx hi hsrc hK

theorem rep_firstW (k : Nat) (x : Wd) : (List.replicate k zW).take 0 ++ [x] ++ (List.replicate k zW).drop (0 + 1) = List.replicate 1 x ++ List.replicate (k - 1) zW := by simp [List.drop_replicate]
theorem rep_moreW (k n m : Nat) (x : Wd) : (List.replicate n x ++ List.replicate (k - n) zW).take n ++ List.replicate m x ++ (List.replicate n x ++ List.replicate (k - n) zW).drop (n + m) = List.replicate (n + m) x ++ List.replicate (k - (n + m)) zW := by
  rw [List.take_append, List.drop_append]
  simp [List.drop_replicate]
  rw [show k - n - m = k - (n + m) by omega]
theorem rep_startW (k : Nat) {w w1 : World} (h : w1.ownsRow w.heap.size 37 2 (.slice (some ⟨w.heap.size, 0, none⟩) k k) k (madeCells (Value.agg #[.int .i64 0, .int .i64 0]).cells (k * 2)).toList) : HasW w.heap.size w.heap.size k (List.replicate k zW) w1 := by
  have e : (madeCells (Value.agg #[.int .i64 0, .int .i64 0]).cells (k * 2)).toList = wCells (List.replicate k zW) := made_zero2 k
  rw [e] at h
  unfold HasW
  simpa using h
theorem rep_srcW {base g k : Nat} {l : List Wd} {w : World} (h : HasW base g k l w) (n : Nat) : ∀ j v, (wCells (l.take n))[j]? = some v → w.cell? ((⟨g, 0, none⟩ : Addr).add j) = some v := by
  intro j v hj
  refine World.ownsRow.cells h rfl j v ?_
  have e : wCells (l.take n) = (wCells l).take (n * 2) := by rw [wCells_take]
  rw [e] at hj
  rw [List.getElem?_take] at hj
  split at hj
  · exact hj
  · cases hj

theorem rep_belowW {w w0 : World} (h : w.grownBy w0 none) : Below w.heap.size w w0 := ⟨h.os, h.tape, h.output, h.size, fun k hk => h.block k hk (by simp)⟩
theorem rep_keptW {w w0 : World} {pb po : Nat} {x : Wd} (h : Below w.heap.size w w0) (hpb : pb < w.heap.size) (hx : ∀ j v, (wCells [x])[j]? = some v → w.cell? ((⟨pb, po, none⟩ : Addr).add j) = some v) : ∀ j v, (wCells [x])[j]? = some v → w0.cell? ((⟨pb, po, none⟩ : Addr).add j) = some v := fun j v hj => by
  have := hx j v hj
  rw [Addr.add_lit] at this ⊢
  exact (below_cells h pb _ hpb).trans this

theorem rep_takeW (n m k : Nat) (x : Wd) (h : m ≤ n) : (List.replicate n x ++ List.replicate k zW).take m = List.replicate m x := by
  rw [List.take_append]
  simp [List.take_replicate, Nat.min_eq_left h]
  omega

set_option maxHeartbeats 1000000 in
set_option maxRecDepth 100000 in
theorem repeat_anyW (x : Wd) (k : Nat) (h0 : 0 < k) (h8 : k ≤ 8) (pb : Nat) (po pc : Nat) (w : World) (hpb : pb < w.heap.size)
    (HX : Hid (∀ j v, (wCells [x])[j]? = some v → w.cell? ((⟨pb, po, none⟩ : Addr).add j) = some v))
    (HM : Hid (∀ w1, Calls Try.prog 59 #[.int .u64 1, .int .u64 k] w1 fun e w' => e = .returned (.tuple #[.int .u64 0, .int .u64 k]) ∧ w' = w1)) :
    Calls Try.prog 20 #[.slice (some ⟨pb, po, none⟩) 1 pc, .int .i64 k] w fun e w' => e = .returned (.slice (some ⟨w.heap.size, 0, none⟩) k k) ∧ Hid (Below w.heap.size w w' ∧ HasW w.heap.size w.heap.size k (List.replicate k x) w') := by
  obtain ⟨it, hit, htz0, htz1, htz2⟩ := info_parts infoWord
  have e1 : IntKind.u64.wrap (k : Int) = (k : Int) := by rw [IntKind.wrap]; simp [IntKind.bits, IntKind.signed]; omega
  have e2 : IntKind.i64.wrap (k : Int) = (k : Int) := by rw [IntKind.wrap]; simp [IntKind.bits, IntKind.signed]; omega
  have hk1 : ¬ ((k : Int) < 0) := by omega
  have hk2 : ¬ (9223372036854775807 < (k : Int)) := by omega
  go_enter Try.func20, Try.ntmps20
  go_wp2_with fail
  refine (HM.out w).mono ?_
  rintro e w' ⟨rfl, rfl⟩
  clear HM
  go_wp2_with (at_make; refine wpList_make_full _ rfl _ _ 42 rfl w'.heap.size 37 it _ 2 Try.underlying42 hit htz0 htz1 _ _ _ _ k rfl rfl (by first | rfl | simp [e2]) (by first | rfl | simp [e2]) (by rw [htz2]; omega) (by unfold maxLen; omega) (Nat.le_refl _) ?_; intro w0 hown0 hgrow0; have HS0 := hide (rep_startW k hown0); have HB0 := hide (rep_belowW hgrow0); have HX0 := hide (rep_keptW HB0.out hpb HX.out); clear hown0 hgrow0)
  obtain ⟨w1, hrun, hh1, hg1⟩ := run_copy_hasW HS0.out (by simp) (by unfold maxLen; omega) 3 0 1 [x] ⟨pb, po, none⟩ k k 1 pc (Nat.min_eq_left h0) rfl (by omega) HX0.out
  rw [Nat.zero_mul] at hrun
  rw [hrun]
  have HH1 : Hid (HasW w'.heap.size w'.heap.size k (List.replicate 1 x ++ List.replicate (k - 1) zW) w1) := by rw [rep_firstW] at hh1; exact hh1
  have HB1 : Hid (Below w'.heap.size w' w1) := HB0.out.trans (grown_below hg1 (Nat.le_refl _) HS0.out.lt.2)
  clear hh1 hg1 HS0 HB0 HX0 hit htz0 htz1 htz2 HX
  go_wp2_with fail
  go_loopw [8] (fun i wr => ∃ n : Nat, 1 ≤ n ∧ n ≤ k ∧ i = .int .i64 n ∧ Hid (Below w'.heap.size w' wr ∧ HasW w'.heap.size w'.heap.size k (List.replicate n x ++ List.replicate (k - n) zW) wr)) (fun i _ => k - (intOf i).toNat)
  case atStart => exact ⟨1, by omega, by omega, rfl, HB1.out, HH1.out⟩
  case round =>
    obtain ⟨n, hn1, hnk, rfl, HR⟩ := hrel
    clear HB1 HH1
    by_cases hlt : n < k
    · have hn2 : (0 : Int) ≤ (n : Int) := by omega
      have hn3 : (n : Int) < (k : Int) := by omega
      have hne : ¬ k = n := by omega
      have hle : (n : Int) ≤ (k : Int) := by omega
      obtain ⟨m, hm⟩ : ∃ m, Nat.min n (k - n) = m := ⟨_, rfl⟩
      have hm1 : 1 ≤ m ∧ m ≤ n ∧ n + m ≤ k := by have : m = min n (k - n) := hm.symm; omega
      have HMN := hide hm
      have HSR : Hid (∀ j v, (wCells (List.replicate m x))[j]? = some v → wr.drew.cell? ((⟨w'.heap.size, 0, none⟩ : Addr).add j) = some v) := by
        have := rep_srcW HR.out.2 m
        rw [rep_takeW n m _ x hm1.2.1] at this
        exact this
      have HHD : Hid (HasW w'.heap.size w'.heap.size k (List.replicate n x ++ List.replicate (k - n) zW) wr.drew) := HR.out.2
      have HLN : Hid ((List.replicate n x ++ List.replicate (k - n) zW).length = k) := by simp [Hid]; omega
      clear hm
      go_wp2_with fail
      go_region_held3 (fun _ => True) (trivial) ((refine step_copy_hasW rfl _ _ rfl HHD.out HLN.out (by unfold maxLen; omega) n m (List.replicate m x) ⟨w'.heap.size, 0, none⟩ (k - n) (k - n) n k (by simp [Act.eval]) (by simp [Act.eval]) HMN.out (by simp) (by omega) HSR.out ?_; intro w2 hh2 hg2))
      have HH2 : Hid (HasW w'.heap.size w'.heap.size k (List.replicate (n + m) x ++ List.replicate (k - (n + m)) zW) w2) := by rw [rep_moreW] at hh2; exact hh2
      have HB2 : Hid (Below w'.heap.size w' w2) := HR.out.1.trans (grown_below (grown_undrew hg2) (Nat.le_refl _) HR.out.2.lt.2)
      clear hh2 hg2 HSR HHD HLN HR
      have e3 : IntKind.i64.wrap ((n : Int) + (m : Int)) = ((n + m : Nat) : Int) := by rw [IntKind.wrap]; simp [IntKind.bits, IntKind.signed]; omega
      go_wp2_with fail
      go_roundw
      case rel => exact ⟨n + m, by omega, by omega, by first | rfl | rw [e3] | (simp; omega), HB2.out, HH2.out⟩
      case measure => simp [intOf]; omega
    · obtain rfl : n = k := by omega
      go_wp2_with fail
      go_ret
      have h2 := HR.out.2
      simp at h2
      exact ⟨rfl, HR.out.1, h2⟩

set_option maxRecDepth 100000 in
theorem mul_1k (k : Nat) (h0 : 0 < k) (h8 : k ≤ 8) (w : World) : Calls Try.prog 59 #[.int .u64 1, .int .u64 k] w fun e w' => e = .returned (.tuple #[.int .u64 0, .int .u64 k]) ∧ w' = w := by
  have h : k = 1 ∨ k = 2 ∨ k = 3 ∨ k = 4 ∨ k = 5 ∨ k = 6 ∨ k = 7 ∨ k = 8 := by omega
  rcases h with rfl | rfl | rfl | rfl | rfl | rfl | rfl | rfl
  all_goals
    go_enter Try.func59, Try.ntmps59
    go_wp2
    go_ret2
    exact ⟨rfl, rfl⟩
end Go.Proofs.Ytpehdgbdinjbaab
