/- What is proved here: Get and Join of words that stand for right closed terms. No condition but sizes, and that the words lie outside of the heap's own blocks. -/
import Derived.Test.YtfaoeccnhbcjgabHp12
namespace Go.Proofs.Ytfaoeccnhbcjgab
open Go.RowKit

theorem stands_B {ws : List Wd} {nm : List ByteArray} {n : Nat} {x : Tm n} {v : Wd} (h : Stands ws nm n x v) (hr : RightA ⟨n, x⟩) (hc : closedT n x = true) (hw : ws.length ≤ 100000) (hn : nm.length ≤ 100000) : standsB ws nm v = true ∧ I64 v.2 := by
  cases n with
  | zero => exact h.elim
  | succ n =>
  have hg := hr (hdOf n x) (by simp [nodes, hdOf])
  have hk := good_kind (hdOf n x) hg
  simp only [hdOf] at hk
  simp only [closedT, Bool.and_eq_true, Bool.not_eq_true', beq_eq_false_iff_ne] at hc
  obtain ⟨a, b, c⟩ := h
  by_cases h2 : x.1.1 = 2
  · obtain ⟨i, rfl, hi⟩ := a h2
    have hl := (List.getElem?_eq_some_iff.1 hi).1
    refine ⟨?_, ?_⟩
    · simp [standsB, hasB, hl]
    · unfold I64; show (-9223372036854775808 : Int) ≤ (i : Int) ∧ (i : Int) ≤ 9223372036854775807; omega
  · by_cases h4 : x.1.1 = 4
    · obtain ⟨p, rfl, hp, hl, _⟩ := b h4
      refine ⟨?_, ?_⟩
      · simp [standsB, beginsB, hp]
      · unfold I64; show (-9223372036854775808 : Int) ≤ (p : Int) ∧ (p : Int) ≤ 9223372036854775807; omega
    · obtain rfl := c h2 h4
      refine ⟨?_, (good_i64 _ hg).2⟩
      have h13 : x.1.1 = 1 ∨ x.1.1 = 3 := by
        rcases hk with g | g | g | g | g | g
        · exact Or.inl g
        · exact absurd g h2
        · exact Or.inr g
        · exact absurd g h4
        · exact absurd g hc.1.1
        · exact absurd g.1 hc.1.2
      unfold good at hg
      simp only [hdOf] at hg
      rcases h13 with g | g
      · simp [standsB, g] at hg ⊢
        exact hg.1.2
      · simp [standsB, g] at hg ⊢
        exact hg.1.2

/-- Get, of a word that stands. -/
theorem hget_any (n : Nat) (x : Tm n) (v : Wd) (base hp : Nat) (room : Int) (ws : List Wd) (nm : List ByteArray) (M : Nat → Prop) (w : World) (h : HpAt base hp room ws nm M w) (hs : Stands ws nm n x v) (hr : RightA ⟨n, x⟩) (hc : closedT n x = true) (hw : ws.length ≤ 100000) (hn : nm.length ≤ 100000) :
    Calls Try.prog 24 #[.pointer (some ⟨hp, 0, none⟩), wdV v] w fun e w' => ∃ y : Tm n, e = .returned (.tuple #[val n y, .int .i64 0]) ∧ Hid (Below w.heap.size w w' ∧ In w'.heap.size w' n y ∧ Off (fun q => w.heap.size ≤ q) n y ∧ same n y n x = true) := by
  cases n with
  | zero => exact hs.elim
  | succ n =>
  obtain ⟨hb, hi⟩ := stands_B hs hr hc hw hn
  refine get_ok n x hp v.1 v.2 w ?_ ?_
  · intro w1 h1
    have k := stands_any base hp room ws nm _ v w1 (h.later h1) hw hi
    rw [hb] at k
    exact k
  · exact fun w1 h1 => term_any (n + 1) x v base hp room ws nm _ w1 (h.later h1) hw hn hs hr

def tupT (n : Nat) (p : List (Tm n)) : Tm (n + 1) := ((4, 0, .empty), (none, p.length), p)
theorem tupT_right {n : Nat} {p : List (Tm n)} (hr : ∀ y ∈ p, RightA ⟨n, y⟩) (hl : p.length ≤ 8) : RightA ⟨n + 1, tupT n p⟩ := by
  intro z hz
  simp only [nodes, tupT, List.mem_cons, List.mem_flatMap] at hz
  rcases hz with rfl | ⟨y, hy, hz⟩
  · simp [good]
    omega
  · exact hr y hy z hz
theorem words_at {w : World} {vs : List Wd} {b o : Nat} (h : ∀ (i : Nat) (v : Wd), vs[i]? = some v → w.cell? ⟨b, o + i * 2, none⟩ = some (.int .i64 v.1) ∧ w.cell? ⟨b, o + i * 2 + 1, none⟩ = some (.int .i64 v.2)) : WordsAt w vs (some ⟨b, o, none⟩) := by
  refine Or.inr ⟨_, rfl, fun j u hj => ?_⟩
  have hl := (List.getElem?_eq_some_iff.1 hj).1
  rw [wCells_length] at hl
  obtain ⟨v, hv⟩ : ∃ v, vs[j / 2]? = some v := ⟨vs[j / 2]'(by omega), List.getElem?_eq_getElem _⟩
  rw [add_off]
  rcases Nat.mod_two_eq_zero_or_one j with e | e
  · have e1 : j = j / 2 * 2 + 0 := by omega
    rw [e1, wCells_at vs (j / 2) v hv 0 (by omega)] at hj
    simp [wd2] at hj
    subst hj
    have := (h (j / 2) v hv).1
    rw [show o + j = o + j / 2 * 2 by omega]
    exact this
  · have e1 : j = j / 2 * 2 + 1 := by omega
    rw [e1, wCells_at vs (j / 2) v hv 1 (by omega)] at hj
    simp [wd2] at hj
    subst hj
    have := (h (j / 2) v hv).2
    rw [show o + j = o + j / 2 * 2 + 1 by omega]
    exact this

/-- What Join says. -/
def joinE (n : Nat) (p : List (Tm n)) (room : Int) (ws : List Wd) : Int := if decide (1 + (p.length : Int) ≤ room - ws.length) = false then 6 else chk (n + 1) (tupT n p)
def JoinOut (n : Nat) (p : List (Tm n)) (vs : List Wd) (base hp : Nat) (room : Int) (ws : List Wd) (nm : List ByteArray) (M : Nat → Prop) (w : World) (e : Ending) (w' : World) : Prop :=
  (joinE n p room ws ≠ 0 → e = .returned (.tuple #[wdV (0, 0), .int .i64 (joinE n p room ws)]) ∧ Below w.heap.size w w') ∧
  (joinE n p room ws = 0 → 1 + (p.length : Int) ≤ room - ws.length ∧ e = .returned (.tuple #[wdV (4, (ws.length : Int)), .int .i64 0]) ∧ Laid base hp room (ws ++ (0, (vs.length : Int)) :: vs) nm M w w')

theorem hjoin_any (n : Nat) (p : List (Tm n)) (vs : List Wd) (a : Option Addr) (pc base hp : Nat) (room : Int) (ws : List Wd) (nm : List ByteArray) (M : Nat → Prop) (w : World) (h : HpAt base hp room ws nm M w) (hvl : vs.length = p.length) (hlen : p.length ≤ 8) (hbw : base ≤ w.heap.size) (hr0 : 0 ≤ room) (hrm : room ≤ 1000) (hw : ws.length ≤ 1000) (hn : nm.length ≤ 100000)
    (hin : WordsIn w vs a) (hoff : ∀ b o, a = some ⟨b, o, none⟩ → ¬ M b) (hst : ∀ (i : Nat) (y : Tm n) (v : Wd), p[i]? = some y → vs[i]? = some v → Stands ws nm n y v) (hr : ∀ y ∈ p, RightA ⟨n, y⟩) (hc : ∀ y ∈ p, closedT n y = true) (hN : (nodes (n + 1) (tupT n p)).length ≤ 1000000) :
    Calls Try.prog 18 #[.pointer (some ⟨hp, 0, none⟩), .slice a p.length pc] w (JoinOut n p vs base hp room ws nm M w) := by
  have hin1 : ∀ w1, Below w.heap.size w w1 → WordsIn w1 vs a := by
    intro w1 h1
    rcases hin with hin | ⟨b, o, e, hb, hin⟩
    · exact Or.inl hin
    · refine Or.inr ⟨b, o, e, Nat.lt_of_lt_of_le hb h1.size, fun i v hv => ⟨(below_cells h1 b _ hb).trans (hin i v hv).1, (below_cells h1 b _ hb).trans (hin i v hv).2⟩⟩
  have hpv : ∀ v ∈ vs, standsB ws nm v = true ∧ I64 v.2 := by
    intro v hv
    obtain ⟨i, hi⟩ := List.getElem?_of_mem hv
    have hl := (List.getElem?_eq_some_iff.1 hi).1
    have hy : p[i]? = some (p[i]'(by omega)) := List.getElem?_eq_getElem _
    exact stands_B (hst i _ v hy hi) (hr _ (List.mem_of_getElem? hy)) (hc _ (List.mem_of_getElem? hy)) (by omega) hn
  have hall : vs.all (standsB ws nm) = true := by
    rw [List.all_eq_true]
    exact fun v hv => (hpv v hv).1
  have HA : ∀ w1, Below w.heap.size w w1 → Calls Try.prog 46 #[.pointer (some ⟨hp, 0, none⟩), .slice a p.length pc] w1 fun e w' => e = .returned (.bool true) ∧ Below w1.heap.size w1 w' := by
    intro w1 h1
    have k := allStand_any base hp room ws nm _ vs a p.length pc w1 (h.later h1) (by omega) hvl (by omega) (hin1 w1 h1) (fun v hv => (hpv v hv).2)
    rw [hall] at k
    exact k
  have HF : ∀ w1, Below w.heap.size w w1 → Calls Try.prog 43 #[.pointer (some ⟨hp, 0, none⟩), .int .i64 (1 + (p.length : Int))] w1 fun e w' => e = .returned (.bool (decide (1 + (p.length : Int) ≤ room - ws.length))) ∧ Below w1.heap.size w1 w' := by
    intro w1 h1
    obtain ⟨tv, lv, mv, k1, k2, k3, _⟩ := h.later h1
    obtain ⟨ta, tc, rfl⟩ : ∃ ta tc, tv = .slice ta ws.length tc := by
      rcases k2.2 with ⟨e, e0⟩ | ⟨g, c, cur, e, _⟩
      · exact ⟨none, 0, by rw [e, e0]⟩
      · exact ⟨_, c, e⟩
    exact hasFree_any hp room _ ta ws.length tc lv mv w1 (by omega) hr0 hrm k1
  have HT : ∀ w1, Below w.heap.size w w1 → Calls Try.prog 47 #[.pointer (some ⟨hp, 0, none⟩), .slice a p.length pc] w1 fun e w' => ∃ a' c', e = .returned (.agg #[.int .i64 4, .int .i64 0, .string .empty, .slice a' p.length c']) ∧ Hid (Below w1.heap.size w1 w' ∧ Calls Try.prog 41 #[.agg #[.int .i64 4, .int .i64 0, .string .empty, .slice a' p.length c']] w' fun e w2 => e = .returned (.int .i64 (chk (n + 1) (tupT n p))) ∧ Below w'.heap.size w' w2) := by
    intro w1 h1
    refine (tupleOf_loop n (term_any n) base hp room ws nm _ a p.length pc p vs rfl hvl w1 (h.later h1) hlen (by unfold Hid; omega) hn (hin1 w1 h1) hst hr).mono ?_
    rintro e w' ⟨a', c', l, rfl, H⟩
    obtain ⟨k1, k2, k3, k4, k5, k6⟩ := H.out
    refine ⟨a', c', rfl, k1, ?_⟩
    have hsame : same (n + 1) ((4, 0, .empty), (a', c'), l) (n + 1) (tupT n p) = true := same_mk rfl k5
    have hy : In w'.heap.size w' (n + 1) ((4, 0, .empty), (a', c'), l) := by
      refine ⟨⟨by unfold I64; show (-9223372036854775808 : Int) ≤ 4 ∧ (4 : Int) ≤ 9223372036854775807; omega, by unfold I64; show (-9223372036854775808 : Int) ≤ 0 ∧ (0 : Int) ≤ 9223372036854775807; omega, by unfold maxLen; show (0 : Nat) ≤ _; omega, k3, k4⟩, ?_⟩
      rcases k6 with k6 | ⟨b, o, e, hb1, hb2, k6⟩
      · exact Or.inl k6
      · exact Or.inr ⟨b, o, e, hb2, fun i y hy => ⟨(k6 i y hy).1, (k6 i y hy).2.1⟩⟩
    have hry : RightA ⟨n + 1, ((4, 0, .empty), (a', c'), l)⟩ := right_formed.2 (by rw [same_formed _ _ _ _ hsame]; exact right_formed.1 (tupT_right hr hlen))
    have k7 := nodes_le (n + 1) _ hry
    rw [same_sz _ _ _ _ hsame] at k7
    have k8 := (sz_bound (n + 1) (tupT n p)).2
    have hk := tcheck_any (n + 1) ((4, 0, .empty), (a', c'), l) w'.heap.size w' hy (Nat.le_refl _) (by omega)
    rw [same_chk hsame] at hk
    have ev : val (n + 1) ((4, 0, .empty), (a', c'), l) = .agg #[.int .i64 4, .int .i64 0, .string .empty, .slice a' p.length c'] := by rw [← k2]; rfl
    rw [ev] at hk
    exact hk
  have HY : ∀ w1, Below w.heap.size w w1 → Calls Try.prog 48 #[.pointer (some ⟨hp, 1, none⟩), .slice a p.length pc] w1 fun e w' => e = .returned (.agg #[.int .i64 4, .int .i64 ws.length]) ∧ Hid (Laid base hp room (ws ++ (0, (p.length : Int)) :: vs) nm (fun b => M b ∧ b < w.heap.size) w1 w') := by
    intro w1 h1
    have hs := h1.size
    refine addH base hp room ws nm _ vs p.length pc a w1 (h.later h1) (by omega) (by omega) hvl (by omega) fun w2 hk => ?_
    rcases hin1 w1 h1 with e | ⟨b, o, rfl, hb, hcs⟩
    · exact Or.inl e
    · have hblk := hk.block b hb (fun hm => hoff b o rfl hm.1)
      exact words_at fun i v hv => ⟨(block_cell hblk _).trans (hcs i v hv).1, (block_cell hblk _).trans (hcs i v hv).2⟩
  have h8 : decide ((8 : Int) < (p.length : Int)) = false := by simp; omega
  by_cases hz : 1 + (p.length : Int) ≤ room - ws.length
  · have hd : decide (1 + (p.length : Int) ≤ room - ws.length) = true := by simpa using hz
    rw [hd] at HF
    have e : joinE n p room ws = chk (n + 1) (tupT n p) := by simp [joinE, hz]
    by_cases hck : chk (n + 1) (tupT n p) = 0
    · rw [hck] at HT
      refine (join_ok hp a p.length pc w h8 hlen (4, (ws.length : Int)) base room _ nm M HA HF HT HY).mono ?_
      rintro e' w' ⟨rfl, hb⟩
      refine ⟨fun h0 => absurd (e.trans hck) h0, fun _ => ⟨hz, rfl, ?_⟩⟩
      rw [hvl]
      exact hb.out
    · refine (join_e3 hp a p.length pc w h8 hlen (chk (n + 1) (tupT n p)) (by simpa using hck) HA HF HT).mono ?_
      rintro e' w' ⟨rfl, hb⟩
      exact ⟨fun _ => ⟨by rw [e]; rfl, hb⟩, fun h0 => absurd (e.symm.trans h0) hck⟩
  · have hd : decide (1 + (p.length : Int) ≤ room - ws.length) = false := by simpa using hz
    rw [hd] at HF
    have e : joinE n p room ws = 6 := by simp [joinE, hz]
    refine (join_e2 hp a p.length pc w h8 hlen HA HF).mono ?_
    rintro e' w' ⟨rfl, hb⟩
    exact ⟨fun _ => ⟨by rw [e]; rfl, hb⟩, fun h0 => absurd (e.symm.trans h0) (by decide)⟩
end Go.Proofs.Ytfaoeccnhbcjgab
