/- What is proved here: Put and Get of a heap, of terms and words: which error they tell, and what they lay or tell. No condition but sizes, and that the term lies outside of the heap's own blocks. -/
import Derived.Test.YtfaoeccnhbcjgabHp9
import Derived.Test.YtfaoeccnhbcjgabSameP
namespace Go.Proofs.Ytfaoeccnhbcjgab
open Go.RowKit

theorem nodes_le : (n : Nat) → (x : Tm n) → RightA ⟨n, x⟩ → ((nodes n x).length : Int) ≤ sz n x + 1
  | 0, _, _ => by simp [nodes, sz]
  | n + 1, x, h => by
    have gx := good_parts (hdOf n x) (h (hdOf n x) (by simp [nodes, hdOf]))
    by_cases h4 : x.1.1 = 4
    · have key : ∀ l : List (Tm n), (∀ y ∈ l, RightA ⟨n, y⟩) → ((l.flatMap fun y => nodes n y).length : Int) ≤ (l.map fun y => 1 + sz n y).sum := by
        intro l
        induction l with
        | nil => intro _; simp
        | cons y l ih =>
          intro hl
          have h1 := nodes_le n y (hl y (by simp))
          have h2 := ih (fun z hz => hl z (by simp [hz]))
          simp only [List.flatMap_cons, List.length_append, List.map_cons, List.sum_cons]
          omega
      have k := key x.2.2 (fun y hy => parts_right n x y h hy)
      simp only [nodes, List.length_cons, sz, if_pos h4]
      omega
    · have : x.2.2 = [] := List.eq_nil_of_length_eq_zero (gx.2.2.2.2 h4)
      simp [nodes, this, sz, h4]

theorem chk_form {n : Nat} {x : Tm n} (h : chk n x = 0) : formedB n x = true := by
  rw [← tchk_chk] at h
  unfold tchk at h
  cases hf : formedB n x
  · simp [hf] at h
  · rfl

/-- What Put says. -/
def putE (n : Nat) (x : Tm n) (room : Int) (ws : List Wd) : Int := if chk n x ≠ 0 then chk n x else if closedT n x = false then 5 else if decide (sz n x ≤ room - ws.length) = false then 6 else 0
def PutOut (n : Nat) (x : Tm n) (base hp : Nat) (room : Int) (ws : List Wd) (nm : List ByteArray) (M : Nat → Prop) (w : World) (e : Ending) (w' : World) : Prop :=
  (putE n x room ws ≠ 0 → e = .returned (.tuple #[wdV (0, 0), .int .i64 (putE n x room ws)]) ∧ Below w.heap.size w w') ∧
  (putE n x room ws = 0 → (chk n x = 0 ∧ closedT n x = true ∧ sz n x ≤ room - ws.length) ∧ e = .returned (.tuple #[wdV (layF n x ws nm).1, .int .i64 0]) ∧ Laid base hp room (layF n x ws nm).2.1 (layF n x ws nm).2.2 M w w')

theorem hput_any (n : Nat) (x : Tm n) (base hp : Nat) (room : Int) (ws : List Wd) (nm : List ByteArray) (M : Nat → Prop) (w : World) (h : HpAt base hp room ws nm M w) (hx : In w.heap.size w n x) (ho : Off (fun b => ¬ M b) n x) (hN : (nodes n x).length ≤ 2097152) (hbw : base ≤ w.heap.size) (hr0 : 0 ≤ room) (hr : room ≤ 1000) (hw : ws.length ≤ 1000) (hn : nm.length ≤ 50000) :
    Calls Try.prog 15 #[.pointer (some ⟨hp, 0, none⟩), val n x] w (PutOut n x base hp room ws nm M w) := by
  cases n with
  | zero => exact hx.elim
  | succ n =>
  have HC : ∀ w1, Below w.heap.size w w1 → Calls Try.prog 41 #[val (n + 1) x] w1 fun e w' => e = .returned (.int .i64 (chk (n + 1) x)) ∧ Below w1.heap.size w1 w' := fun w1 h1 => tcheck_any (n + 1) x w.heap.size w1 (hx.below h1) h1.size hN
  have HL : ∀ w1, Below w.heap.size w w1 → Calls Try.prog 42 #[val (n + 1) x] w1 fun e w' => e = .returned (.bool (closedT (n + 1) x)) ∧ Below w1.heap.size w1 w' := fun w1 h1 => closed_any (n + 1) x w.heap.size w1 (hx.below h1) h1.size
  have HS : ∀ w1, Below w.heap.size w w1 → Calls Try.prog 44 #[val (n + 1) x] w1 fun e w' => e = .returned (.int .i64 (sz (n + 1) x)) ∧ Below w1.heap.size w1 w' := fun w1 h1 => tsize_any (n + 1) x w.heap.size w1 (hx.below h1) h1.size hN
  have HF : ∀ w1, Below w.heap.size w w1 → Calls Try.prog 43 #[.pointer (some ⟨hp, 0, none⟩), .int .i64 (sz (n + 1) x)] w1 fun e w' => e = .returned (.bool (decide (sz (n + 1) x ≤ room - ws.length))) ∧ Below w1.heap.size w1 w' := by
    intro w1 h1
    obtain ⟨tv, lv, mv, k1, k2, k3, _⟩ := h.later h1
    obtain ⟨ta, tc, rfl⟩ : ∃ ta tc, tv = .slice ta ws.length tc := by
      rcases k2.2 with ⟨e, e0⟩ | ⟨g, c, cur, e, _⟩
      · exact ⟨none, 0, by rw [e, e0]⟩
      · exact ⟨_, c, e⟩
    exact hasFree_any hp room (sz (n + 1) x) ta ws.length tc lv mv w1 (by omega) hr0 hr k1
  by_cases hc : chk (n + 1) x = 0
  · rw [hc] at HC
    by_cases hl : closedT (n + 1) x = false
    · rw [hl] at HL
      have e : putE (n + 1) x room ws = 5 := by simp [putE, hc, hl]
      refine (put_e2 hp x.1.1 x.1.2.1 x.1.2.2 x.2.1.1 x.2.2.length x.2.1.2 w HC HL).mono ?_
      rintro e' w' ⟨rfl, hb⟩
      exact ⟨fun _ => ⟨by rw [e]; rfl, hb⟩, fun h0 => absurd (e.symm.trans h0) (by decide)⟩
    · have hl' : closedT (n + 1) x = true := by simpa using hl
      rw [hl'] at HL
      by_cases hz : sz (n + 1) x ≤ room - ws.length
      · have hd : decide (sz (n + 1) x ≤ room - ws.length) = true := by simpa using hz
        rw [hd] at HF
        have e : putE (n + 1) x room ws = 0 := by simp [putE, hc, hl', hz]
        have hrx : RightA ⟨n + 1, x⟩ := right_formed.2 (chk_form hc)
        have hnl := nodes_le (n + 1) x hrx
        have HY : ∀ w1, Below w.heap.size w w1 → Calls Try.prog 45 #[.pointer (some ⟨hp, 0, none⟩), val (n + 1) x] w1 fun e w' => e = .returned (wdV (layF (n + 1) x ws nm).1) ∧ Hid (Laid base hp room (layF (n + 1) x ws nm).2.1 (layF (n + 1) x ws nm).2.2 (fun b => M b ∧ b < w.heap.size) w1 w') := by
          intro w1 h1
          have hs := h1.size
          exact lay_any (n + 1) x base hp room ws nm _ w1 (h.later h1) ((hx.below h1).mono hs) (ho.mono fun b hb hm => hb hm.1) (by omega) hrx (by omega) (by omega)
        refine (put_ok hp x.1.1 x.1.2.1 x.1.2.2 x.2.1.1 x.2.2.length x.2.1.2 w (sz (n + 1) x) (layF (n + 1) x ws nm).1 base room (layF (n + 1) x ws nm).2.1 (layF (n + 1) x ws nm).2.2 M HC HL HS HF HY).mono ?_
        rintro e' w' ⟨rfl, hb⟩
        exact ⟨fun h0 => absurd e h0, fun _ => ⟨⟨hc, hl', hz⟩, rfl, hb.out⟩⟩
      · have hd : decide (sz (n + 1) x ≤ room - ws.length) = false := by simpa using hz
        rw [hd] at HF
        have e : putE (n + 1) x room ws = 6 := by simp [putE, hc, hl', hz]
        refine (put_e3 hp x.1.1 x.1.2.1 x.1.2.2 x.2.1.1 x.2.2.length x.2.1.2 w (sz (n + 1) x) HC HL HS HF).mono ?_
        rintro e' w' ⟨rfl, hb⟩
        exact ⟨fun _ => ⟨by rw [e]; rfl, hb⟩, fun h0 => absurd (e.symm.trans h0) (by decide)⟩
  · have e : putE (n + 1) x room ws = chk (n + 1) x := by simp [putE, hc]
    refine (put_e1 hp x.1.1 x.1.2.1 x.1.2.2 x.2.1.1 x.2.2.length x.2.1.2 w (chk (n + 1) x) (by simpa using hc) HC).mono ?_
    rintro e' w' ⟨rfl, hb⟩
    exact ⟨fun _ => ⟨by rw [e]; rfl, hb⟩, fun h0 => absurd (e.symm.trans h0) hc⟩

/-- The boxes of a call of Get: the word, and the term that is told. -/
def GetBox (q : Nat) (k u : Int) (w : World) : Prop := w.heap[q]? = some (.cells #[.int .i64 k, .int .i64 u] 37) ∧ Box4 (q + 1) w
theorem get_box (w : World) (k u : Int) : GetBox w.heap.size k u ((w.alloc (Obj.cells #[.int .i64 k, .int .i64 u] 37)).alloc (Obj.cells #[.int .i64 0, .int .i64 0, .string ⟨#[]⟩, .slice none 0 0] 24)) := by
  refine ⟨((World.grownBy_alloc (w.alloc (Obj.cells #[.int .i64 k, .int .i64 u] 37)) (Obj.cells #[.int .i64 0, .int .i64 0, .string ⟨#[]⟩, .slice none 0 0] 24) none).block _ (by simp) (by simp)).trans (heap_alloc_new w _), ?_⟩
  have := heap_alloc_new (w.alloc (Obj.cells #[.int .i64 k, .int .i64 u] 37)) (Obj.cells #[.int .i64 0, .int .i64 0, .string ⟨#[]⟩, .slice none 0 0] 24)
  have es : ∀ o, (w.alloc o).heap.size = w.heap.size + 1 := fun o => by simp
  rw [es] at this
  exact this
theorem get_next {k u : Int} {w w1 w2 : World} (h : Below w.heap.size w w1 ∧ w.heap.size + 2 ≤ w1.heap.size ∧ GetBox w.heap.size k u w1) (hb : Below w1.heap.size w1 w2) : Below w.heap.size w w2 ∧ w.heap.size + 2 ≤ w2.heap.size ∧ GetBox w.heap.size k u w2 := by
  obtain ⟨h1, h2, h3⟩ := h
  have := hb.size
  exact ⟨h1.trans (hb.mono h1.size), by omega, (hb.block _ (by omega)).trans h3.1, (hb.block _ (by omega)).trans h3.2⟩
theorem GetBox.cells {q : Nat} {k u : Int} {w : World} (h : GetBox q k u w) : w.cell? ⟨q, 0, none⟩ = some (.int .i64 k) ∧ w.cell? ⟨q, 1, none⟩ = some (.int .i64 u) := by
  obtain ⟨h1, _⟩ := h
  refine ⟨?_, ?_⟩
  all_goals simp [World.cell?, h1]

set_option maxHeartbeats 1000000 in
set_option maxRecDepth 100000 in
theorem get_bad (hp : Nat) (k u : Int) (w : World) (HC : Hid (∀ w1, Below w.heap.size w w1 → Calls Try.prog 51 #[.pointer (some ⟨hp, 0, none⟩), .agg #[.int .i64 k, .int .i64 u]] w1 fun e w' => e = .returned (.bool false) ∧ Below w1.heap.size w1 w')) :
    Calls Try.prog 24 #[.pointer (some ⟨hp, 0, none⟩), .agg #[.int .i64 k, .int .i64 u]] w fun e w' => e = .returned (.tuple #[.agg #[.int .i64 0, .int .i64 0, .string .empty, .slice none 0 0], .int .i64 1]) ∧ Below w.heap.size w w' := by
  go_enter Try.func24, Try.ntmps24
  go_wp2_with fail
  generalize hw0 : (w.alloc (Obj.cells #[.int .i64 k, .int .i64 u] 37)).alloc (Obj.cells #[.int .i64 0, .int .i64 0, .string ⟨#[]⟩, .slice none 0 0] 24) = w0
  have H0 : Hid (Below w.heap.size w w0 ∧ w.heap.size + 2 ≤ w0.heap.size ∧ GetBox w.heap.size k u w0) := by
    subst hw0
    exact ⟨((Below.refl _ _).alloc (Nat.le_refl _) _).alloc (by simp) _, by simp, get_box _ _ _⟩
  clear hw0
  refine (HC.out _ H0.out.1).mono ?_
  rintro e w1 ⟨rfl, hb⟩
  have H1 := hide (get_next H0.out hb)
  obtain ⟨⟨q0, q1, q2, q3⟩, f0⟩ := H1.out.2.2.2.cells
  have HE := hide (fun v0 v1 v2 v3 => box_put H0.out.1 hb v0 v1 v2 v3)
  clear hb H0
  go_wp2_with fail
  exact bodyPost_ret (v := .tuple #[.agg #[.int .i64 0, .int .i64 0, .string .empty, .slice none 0 0], .int .i64 1]) (by simp [results, Try.results24, go_sem, q0, q1, q2, q3]; rfl) rfl ⟨rfl, HE.out _ _ _ _⟩

set_option maxHeartbeats 1000000 in
set_option maxRecDepth 100000 in
theorem get_ok (n : Nat) (x : Tm (n + 1)) (hp : Nat) (k u : Int) (w : World) (HC : Hid (∀ w1, Below w.heap.size w w1 → Calls Try.prog 51 #[.pointer (some ⟨hp, 0, none⟩), .agg #[.int .i64 k, .int .i64 u]] w1 fun e w' => e = .returned (.bool true) ∧ Below w1.heap.size w1 w'))
    (HT : Hid (∀ w1, Below w.heap.size w w1 → Calls Try.prog 52 #[.pointer (some ⟨hp, 0, none⟩), .agg #[.int .i64 k, .int .i64 u]] w1 fun e w' => ∃ y : Tm (n + 1), e = .returned (val (n + 1) y) ∧ Hid (Below w1.heap.size w1 w' ∧ In w'.heap.size w' (n + 1) y ∧ Off (fun q => w1.heap.size ≤ q) (n + 1) y ∧ same (n + 1) y (n + 1) x = true))) :
    Calls Try.prog 24 #[.pointer (some ⟨hp, 0, none⟩), .agg #[.int .i64 k, .int .i64 u]] w fun e w' => ∃ y : Tm (n + 1), e = .returned (.tuple #[val (n + 1) y, .int .i64 0]) ∧ Hid (Below w.heap.size w w' ∧ In w'.heap.size w' (n + 1) y ∧ Off (fun q => w.heap.size ≤ q) (n + 1) y ∧ same (n + 1) y (n + 1) x = true) := by
  go_enter Try.func24, Try.ntmps24
  go_wp2_with fail
  generalize hw0 : (w.alloc (Obj.cells #[.int .i64 k, .int .i64 u] 37)).alloc (Obj.cells #[.int .i64 0, .int .i64 0, .string ⟨#[]⟩, .slice none 0 0] 24) = w0
  have H0 : Hid (Below w.heap.size w w0 ∧ w.heap.size + 2 ≤ w0.heap.size ∧ GetBox w.heap.size k u w0) := by
    subst hw0
    exact ⟨((Below.refl _ _).alloc (Nat.le_refl _) _).alloc (by simp) _, by simp, get_box _ _ _⟩
  clear hw0
  refine (HC.out _ H0.out.1).mono ?_
  rintro e w1 ⟨rfl, hb⟩
  have H1 := hide (get_next H0.out hb)
  obtain ⟨t0, t1⟩ := H1.out.2.2.cells
  clear hb H0
  go_wp2_with fail
  refine (HT.out _ H1.out.1).mono ?_
  rintro e w2 ⟨y, rfl, HY⟩
  have H2 := hide (get_next H1.out HY.out.1)
  obtain ⟨⟨q0, q1, q2, q3⟩, f0⟩ := H2.out.2.2.2.cells
  have HE : Hid (∀ v0 v1 v2 v3, Below w.heap.size w (put4 w2 (w.heap.size + 1) 0 v0 v1 v2 v3) ∧ In (put4 w2 (w.heap.size + 1) 0 v0 v1 v2 v3).heap.size (put4 w2 (w.heap.size + 1) 0 v0 v1 v2 v3) (n + 1) y ∧ Off (fun q => w.heap.size ≤ q) (n + 1) y ∧ same (n + 1) y (n + 1) x = true) := by
    intro v0 v1 v2 v3
    obtain ⟨k1, k2, k3, k4⟩ := HY.out
    have hs := H1.out.2.1
    refine ⟨box_put H1.out.1 k1 v0 v1 v2 v3, ?_, k3.mono fun q hq => by omega, k4⟩
    rw [put4_size]
    exact In.off (fun q hq => put4_block (by omega) _ _ _ _) k3 k2
  have e3 : val (n + 1) y = .agg #[.int .i64 y.1.1, .int .i64 y.1.2.1, .string y.1.2.2, .slice y.2.1.1 y.2.2.length y.2.1.2] := rfl
  rw [e3]
  clear t0 t1 HY H1 e3
  go_wp2_with fail
  exact bodyPost_ret (v := .tuple #[val (n + 1) y, .int .i64 0]) (by simp [results, Try.results24, go_sem, q0, q1, q2, q3, val]) rfl ⟨y, rfl, HE.out _ _ _ _⟩
end Go.Proofs.Ytfaoeccnhbcjgab
