/- What is proved here: plain facts on a heap that a statement makes and plays with: how it stands in memory behind each call. No condition. -/
import Derived.Test.YtfaoeccnhbcjgabHp25
import Derived.Test.YtfaoeccnhbcjgabTwo
namespace Go.Proofs.Ytfaoeccnhbcjgab
open Go.RowKit Go.Maps

/-- A heap that was made since w, its blocks all among M, which are new since w. -/
def HpS (w : World) (hp : Nat) (room : Int) (ws : List Wd) (nm : List ByteArray) (M : Nat → Prop) (wk : World) : Prop :=
  Below w.heap.size w wk ∧ HpAt w.heap.size hp room ws nm M wk ∧ ∀ b, M b → w.heap.size ≤ b ∧ b < wk.heap.size
theorem HpS.later {w : World} {hp : Nat} {room : Int} {ws : List Wd} {nm : List ByteArray} {M : Nat → Prop} {wk w' : World} (h : HpS w hp room ws nm M wk) (hb : Below wk.heap.size wk w') : HpS w hp room ws nm M w' :=
  ⟨h.1.trans (hb.mono h.1.size), (h.2.1.later hb).mono fun _ hh => hh.1, fun b hh => ⟨(h.2.2 b hh).1, Nat.lt_of_lt_of_le (h.2.2 b hh).2 hb.size⟩⟩
theorem keep_from {w wk w' : World} {M : Nat → Prop} (h : Below w.heap.size w wk) (hM : ∀ b, M b → w.heap.size ≤ b ∧ b < wk.heap.size) (k : Keep M wk w') : Below w.heap.size w w' :=
  ⟨k.os.trans h.os, k.tape.trans h.tape, k.output.trans h.output, Nat.le_trans h.size k.size, fun b hb => (k.block b (Nat.lt_of_lt_of_le hb h.size) fun hm => by have := (hM b hm).1; omega).trans (h.block b hb)⟩
theorem HpS.laid {w : World} {hp : Nat} {room : Int} {ws ws' : List Wd} {nm nm' : List ByteArray} {M : Nat → Prop} {wk w' : World} (h : HpS w hp room ws nm M wk) (k : Laid w.heap.size hp room ws' nm' M wk w') : HpS w hp room ws' nm' (fun b => (M b ∨ wk.heap.size ≤ b) ∧ b < w'.heap.size) w' := by
  have hs := h.1.size
  refine ⟨keep_from h.1 h.2.2 k.2, k.1.inside, fun b hh => ⟨?_, hh.2⟩⟩
  rcases hh.1 with hm | hm
  · exact (h.2.2 b hm).1
  · omega
/-- A new heap. -/
theorem HpS.new {w w0 w1 : World} {room : Int} (h0 : Below w.heap.size w w0) (h : HB w0.heap.size room (.slice none 0 0) (.slice none 0 0) (.map none) w1 ∧ w1.heap.size = w0.heap.size + 1 ∧ Below w0.heap.size w0 w1) : HpS w w0.heap.size room [] [] (fun b => b = w0.heap.size) w1 := by
  obtain ⟨h1, h2, h3⟩ := h
  have hs := h0.size
  refine ⟨h0.trans (h3.mono hs), ⟨.slice none 0 0, .slice none 0 0, .map none, h1, World.ownsRow_nil _ _ _ _, ?_, rfl, fun b e => by simp [Value.ownBlock] at e, fun b e => by simp [Value.ownBlock] at e, fun b e => by simp [mapBlock] at e⟩, fun b hb => by subst hb; omega⟩
  exact ⟨World.ownsRow_nil _ _ _ _, by simp, Or.inl ⟨rfl, rfl, rfl⟩⟩
theorem two_new (w : World) :
    Calls Try.prog 10 #[] w fun e w' => ∃ g, e = .returned (.agg #[.int .i64 4, .int .i64 0, .string ⟨#[]⟩, .slice (some ⟨g, 0, none⟩) 2 2]) ∧ Hid (Below w.heap.size w w' ∧ In w'.heap.size w' 2 (twoT g) ∧ w.heap.size ≤ g) := by
  go_enter Try.func10, Try.ntmps10
  go_wp2_with fail
  refine (kword_any _ _).mono ?_
  rintro e w1 ⟨rfl, hb1⟩
  have HB1 := hide hb1
  clear hb1
  go_wp2_with fail
  refine (num_any _ _).mono ?_
  rintro e w2 ⟨rfl, hb2⟩
  have HB2 := hide (HB1.out.trans (hb2.mono HB1.out.size))
  clear hb2 HB1
  go_wp2_with fail
  refine (tuple_any _ _ _ _).mono ?_
  rintro e w3 ⟨rfl, hb3⟩
  have HB3 := hide ((HB2.out.alloc HB2.out.size _).trans (hb3.mono (Nat.le_trans HB2.out.size (by simp))))
  have HG : Hid (w3.heap[w2.heap.size]? = some (.cells #[.int .i64 2, .int .i64 0, .string ⟨#[97]⟩, .slice none 0 0, .int .i64 1, .int .i64 5, .string ⟨#[]⟩, .slice none 0 0] 24 (0, 0)) ∧ w2.heap.size < w3.heap.size ∧ w.heap.size < w2.heap.size) :=
    ⟨(hb3.block w2.heap.size (by simp)).trans (heap_alloc_new w2 _), by have := hb3.size; simp at this; omega, by have := HB2.out.size; simp at this; omega⟩
  clear hb3 HB2
  have hc := fun o => HB3.out.cell (p := ⟨w.heap.size, o, none⟩) (by simp)
  have hf := fun o => HB3.out.frozen (p := ⟨w.heap.size, o, none⟩) (by simp)
  have c0 := (hc 0).trans (by simp [go_sem] : _ = some (Value.int .i64 0))
  have c1 := (hc 1).trans (by simp [go_sem] : _ = some (Value.int .i64 0))
  have c2 := (hc 2).trans (by simp [go_sem] : _ = some (Value.string ⟨#[]⟩))
  have c3 := (hc 3).trans (by simp [go_sem] : _ = some (Value.slice none 0 0))
  have f0 := (hf 0).trans (by simp [go_sem] : _ = false)
  have f1 := (hf 1).trans (by simp [go_sem] : _ = false)
  have f2 := (hf 2).trans (by simp [go_sem] : _ = false)
  have f3 := (hf 3).trans (by simp [go_sem] : _ = false)
  clear hc hf
  go_wp2_with fail
  refine bodyPost_ret (v := .agg #[.int .i64 4, .int .i64 0, .string ⟨#[]⟩, .slice (some ⟨w2.heap.size, 0, none⟩) 2 2]) (by simp [results, Try.results10, go_sem, c0, c1, c2, c3]) rfl ⟨w2.heap.size, rfl, ?_⟩
  refine hide ⟨?_, ?_, Nat.le_of_lt HG.out.2.2⟩
  · have hb : Below w.heap.size w w3 := ((Below.refl _ _).alloc (Nat.le_refl _) _).trans (HB3.out.mono (by simp))
    go_grown
  · refine two_in _ _ _ (by simp [World.setCell]; exact HG.out.2.1) 24 (0, 0) ?_
    have hne := HG.out.2.2
    rw [Below.heap_setCell _ _ _ _ (by simp; omega), Below.heap_setCell _ _ _ _ (by simp; omega), Below.heap_setCell _ _ _ _ (by simp; omega), Below.heap_setCell _ _ _ _ (by simp; omega)]
    exact HG.out.1

theorem off_parts {P : Nat → Prop} {n : Nat} {x : Tm (n + 1)} {g o : Nat} (he : x.2.1.1 = some ⟨g, o, none⟩) (hg : P g) (h : ∀ y ∈ x.2.2, Off P n y) : Off P (n + 1) x := Or.inr ⟨g, o, he, hg, fun _ y hy => h y (List.mem_of_getElem? hy)⟩
theorem off_num (P : Nat → Prop) (u : Int) : Off P 1 (numT u) := Or.inl rfl
theorem off_word (P : Nat → Prop) (s : ByteArray) : Off P 1 (wordT s) := Or.inl rfl
theorem off_two {P : Nat → Prop} {g : Nat} (hg : P g) : Off P 2 (twoT g) := off_parts (g := g) (o := 0) rfl hg fun y hy => by
  simp only [twoT, List.mem_cons, List.not_mem_nil, or_false] at hy
  rcases hy with rfl | rfl
  · exact off_word _ _
  · exact off_num _ _
def sevT (g : Nat) : Tm 2 := ((4, 0, ⟨#[]⟩), (some ⟨g, 0, none⟩, 1), [numT 7])
theorem sev_in (g B : Nat) (w : World) (hg : g < B) (h : w.heap[g]? = some (.cells #[.int .i64 1, .int .i64 7, .string ⟨#[]⟩, .slice none 0 0] 24)) : In B w 2 (sevT g) := by
  refine ⟨⟨by simp [sevT, I64], by simp [sevT, I64], Nat.zero_le _, by simp [sevT], by simp [sevT, maxLen]⟩, Or.inr ⟨g, 0, rfl, hg, fun i y hy => ?_⟩⟩
  match i, hy with
  | 0, hy =>
    have : numT 7 = y := by simpa [sevT] using hy
    subst this
    exact ⟨⟨by simp [World.cell?, h, numT], by simp [World.cell?, h, numT], by simp [World.cell?, h, numT], by simp [World.cell?, h, numT]⟩, num_in 7 (by simp [I64]) B w⟩
  | _ + 1, hy => simp [sevT] at hy
theorem off_sev {P : Nat → Prop} {g : Nat} (hg : P g) : Off P 2 (sevT g) := off_parts (g := g) (o := 0) rfl hg fun y hy => by
  simp only [sevT, List.mem_cons, List.not_mem_nil, or_false] at hy
  subst hy
  exact off_num _ _
theorem chk_iff0 {n : Nat} {x : Tm n} (h : chk n x = 0) : formedB n x = true := by
  rw [← tchk_chk] at h
  unfold tchk at h
  cases hf : formedB n x
  · simp [hf] at h
  · rfl
theorem two_put (g : Nat) : putE 2 (twoT g) 10 [] = 0 := by kernel_rfl
theorem sev_chk (g : Nat) : chk 2 (sevT g) = 0 := by kernel_rfl
theorem sev_put (g : Nat) (ws : List Wd) (h : ws.length = 3) : putE 2 (sevT g) 10 ws = 0 := by
  have h1 : closedT 2 (sevT g) = true := by kernel_rfl
  have h2 : sz 2 (sevT g) = 2 := by kernel_rfl
  simp [putE, sev_chk, h1, h2, h]
theorem hused_any {base hp : Nat} {room : Int} {ws : List Wd} {nm : List ByteArray} {M : Nat → Prop} {w : World} (h : HpAt base hp room ws nm M w) :
    Calls Try.prog 23 #[.pointer (some ⟨hp, 0, none⟩)] w fun e w' => e = .returned (.int .i64 ws.length) ∧ w' = w := by
  obtain ⟨tv, lv, mv, h1, h2, _⟩ := h
  obtain ⟨ta, tc, rfl⟩ : ∃ ta tc, tv = .slice ta ws.length tc := by
    rcases h2.2 with ⟨e, e0⟩ | ⟨g, c, cur, e, _⟩
    · exact ⟨none, 0, by rw [e, e0]⟩
    · exact ⟨_, c, e⟩
  exact used_any hp room ta ws.length tc lv mv w h1
theorem HpS.coll {w : World} {hp g : Nat} {room : Int} {ws : List Wd} {nm : List ByteArray} {M : Nat → Prop} {R : List Wd × List Wd × Went} {wk w' : World} (h : HpS w hp room ws nm M wk) (k : CollOut w.heap.size hp room R nm M g wk w') : HpS w hp room R.2.1 nm (fun b => ((M b ∨ wk.heap.size ≤ b) ∧ b ≠ g) ∧ b < w'.heap.size) w' := by
  have hs := h.1.size
  refine ⟨keep_from h.1 h.2.2 k.2.1, k.1.inside, fun b hh => ⟨?_, hh.2⟩⟩
  rcases hh.1.1 with hm | hm
  · exact (h.2.2 b hm).1
  · omega
theorem sev_right (g : Nat) : RightA ⟨2, sevT g⟩ := right_formed.2 (chk_iff0 (sev_chk g))
theorem sev_closed (g : Nat) : closedT 2 (sevT g) = true := by kernel_rfl
theorem one_word (w : World) (a b : Int) (t : TypeId) : WordsIn (w.alloc (.cells #[.int .i64 a, .int .i64 b] t)) [(a, b)] (some ⟨w.heap.size, 0, none⟩) := by
  refine Or.inr ⟨w.heap.size, 0, rfl, by simp, fun i v hv => ?_⟩
  match i, hv with
  | 0, hv =>
    have : (a, b) = v := by simpa using hv
    subst this
    exact ⟨by simp [go_sem], by simp [go_sem]⟩
  | _ + 1, hv => simp at hv
/-- One word that was just laid, copied alone: as many words as the term has. -/
theorem roots_one {n : Nat} {x : Tm n} {ws : List Wd} {nm : List ByteArray} (hr : RightA ⟨n, x⟩) :
    ((rootsR (layF n x ws nm).2.1 n [(layF n x ws nm).1]).2.1.length : Int) = sz n x ∧
    ∃ c, (rootsR (layF n x ws nm).2.1 n [(layF n x ws nm).1]).1 = [c] ∧ Stands (rootsR (layF n x ws nm).2.1 n [(layF n x ws nm).1]).2.1 (layF n x ws nm).2.2 n x c := by
  have h1 := (lay_cp (layF n x ws nm).2.1 n x ws nm ([], []) (List.prefix_refl _) (fun p _ _ => by simp [look])).1
  have h2 := (cpF_copies n x (layF n x ws nm).1 ([], []) (inv_nil _ _) (layF_stands n x ws nm hr)).2.2
  refine ⟨by simpa [rootsR, cpL] using h1, _, rfl, ?_⟩
  exact h2 n x (layF_stands n x ws nm hr)
end Go.Proofs.Ytfaoeccnhbcjgab
