/- What is proved here: plain facts and contracts that the claimed theorem stands on, several texts in one: Get and Join of words that stand for right closed terms. No condition but sizes, and that the words lie outside of the heap's own blocks. plain facts on copying what words stand for (cpF), and how a copying lies in memory: its box, the words it copies from and to, the map of where each tuple went. No condition. heap.copying's one: of a word that is no tuple, and of a tuple that went already. No condition but sizes. heap.copying's all, from what one does at each word: the copies' row, in new memory. No condition but sizes, and that the words lie outside of the copying's own blocks. add, at a copying; a copying's map that has one more. No condition but sizes. heap.copying's one, of a tuple that didn't go yet, from what all does at its parts. No condition but sizes. heap.copying's one and all of words that stand for right terms: what cpF and cpL say. No condition but sizes. -/
import Derived.Test.YtdlckjjfbobmpaaG12
namespace Go.Proofs.Ytdlckjjfbobmpaa
open Go.RowKit

theorem stands_B {ws : List Wd} {nm : List ByteArray} {n : Nat} {x : Tm n} {v : Wd} (h : Stands ws nm n x v) (hr : RightA ⟨n, x⟩) (hc : closedT n x = true) (hw : ws.length ≤ 100000) (hn : nm.length ≤ 100000) : standsB ws nm v = true ∧ I64 v.2 := by
  cases n with
  | zero => exact h.elim
  | succ n =>
  have hg := hr (hdOf n x) (by simp [nodes, hdOf])
  have hk := good_kind (hdOf n x) hg
  simp only [hdOf] at hk
  simp only [closedT, Bool.and_eq_true, Bool.not_eq_true', beq_eq_false_iff_ne] at hc
  obtain ⟨a, b, c⟩ := h
  by_cases h2 : x.1.1 = 2
  · obtain ⟨i, rfl, hi⟩ := a h2
    have hl := (List.getElem?_eq_some_iff.1 hi).1
    refine ⟨?_, ?_⟩
    · simp [standsB, hasB, hl]
    · unfold I64; show (-9223372036854775808 : Int) ≤ (i : Int) ∧ (i : Int) ≤ 9223372036854775807; omega
  · by_cases h4 : x.1.1 = 4
    · obtain ⟨p, rfl, hp, hl, _⟩ := b h4
      refine ⟨?_, ?_⟩
      · simp [standsB, beginsB, hp]
      · unfold I64; show (-9223372036854775808 : Int) ≤ (p : Int) ∧ (p : Int) ≤ 9223372036854775807; omega
    · obtain rfl := c h2 h4
      refine ⟨?_, (good_i64 _ hg).2⟩
      have h13 : x.1.1 = 1 ∨ x.1.1 = 3 := by
        rcases hk with g | g | g | g | g | g
        · exact Or.inl g
        · exact absurd g h2
        · exact Or.inr g
        · exact absurd g h4
        · exact absurd g hc.1.1
        · exact absurd g.1 hc.1.2
      unfold good at hg
      simp only [hdOf] at hg
      rcases h13 with g | g
      · simp [standsB, g] at hg ⊢
        exact hg.1.2
      · simp [standsB, g] at hg ⊢
        exact hg.1.2

/-- Get, of a word that stands. -/
theorem hget_any (n : Nat) (x : Tm n) (v : Wd) (base hp : Nat) (room : Int) (ws : List Wd) (nm : List ByteArray) (M : Nat → Prop) (w : World) (h : HpAt base hp room ws nm M w) (hs : Stands ws nm n x v) (hr : RightA ⟨n, x⟩) (hc : closedT n x = true) (hw : ws.length ≤ 100000) (hn : nm.length ≤ 100000) :
    Calls Try.prog 18 #[.pointer (some ⟨hp, 0, none⟩), wdV v] w fun e w' => ∃ y : Tm n, e = .returned (.tuple #[val n y, .int .i64 0]) ∧ Hid (Below w.heap.size w w' ∧ In w'.heap.size w' n y ∧ Off (fun q => w.heap.size ≤ q) n y ∧ same n y n x = true) := by
  cases n with
  | zero => exact hs.elim
  | succ n =>
  obtain ⟨hb, hi⟩ := stands_B hs hr hc hw hn
  refine get_ok n x hp v.1 v.2 w ?_ ?_
  · intro w1 h1
    have k := stands_any base hp room ws nm _ v w1 (h.later h1) hw hi
    rw [hb] at k
    exact k
  · exact fun w1 h1 => term_any (n + 1) x v base hp room ws nm _ w1 (h.later h1) hw hn hs hr

def tupT (n : Nat) (p : List (Tm n)) : Tm (n + 1) := ((4, 0, .empty), (none, p.length), p)
theorem tupT_right {n : Nat} {p : List (Tm n)} (hr : ∀ y ∈ p, RightA ⟨n, y⟩) (hl : p.length ≤ 8) : RightA ⟨n + 1, tupT n p⟩ := by
  intro z hz
  simp only [nodes, tupT, List.mem_cons, List.mem_flatMap] at hz
  rcases hz with rfl | ⟨y, hy, hz⟩
  · simp [good]
    omega
  · exact hr y hy z hz
theorem words_at {w : World} {vs : List Wd} {b o : Nat} (h : ∀ (i : Nat) (v : Wd), vs[i]? = some v → w.cell? ⟨b, o + i * 2, none⟩ = some (.int .i64 v.1) ∧ w.cell? ⟨b, o + i * 2 + 1, none⟩ = some (.int .i64 v.2)) : WordsAt w vs (some ⟨b, o, none⟩) := by
  refine Or.inr ⟨_, rfl, fun j u hj => ?_⟩
  have hl := (List.getElem?_eq_some_iff.1 hj).1
  rw [wCells_length] at hl
  obtain ⟨v, hv⟩ : ∃ v, vs[j / 2]? = some v := ⟨vs[j / 2]'(by omega), List.getElem?_eq_getElem _⟩
  rw [add_off]
  rcases Nat.mod_two_eq_zero_or_one j with e | e
  · have e1 : j = j / 2 * 2 + 0 := by omega
    rw [e1, wCells_at vs (j / 2) v hv 0 (by omega)] at hj
    simp [wd2] at hj
    subst hj
    have := (h (j / 2) v hv).1
    rw [show o + j = o + j / 2 * 2 by omega]
    exact this
  · have e1 : j = j / 2 * 2 + 1 := by omega
    rw [e1, wCells_at vs (j / 2) v hv 1 (by omega)] at hj
    simp [wd2] at hj
    subst hj
    have := (h (j / 2) v hv).2
    rw [show o + j = o + j / 2 * 2 + 1 by omega]
    exact this

/-- What Join says. -/
def joinE (n : Nat) (p : List (Tm n)) (room : Int) (ws : List Wd) : Int := if decide (1 + (p.length : Int) ≤ room - ws.length) = false then 6 else chk (n + 1) (tupT n p)
def JoinOut (n : Nat) (p : List (Tm n)) (vs : List Wd) (base hp : Nat) (room : Int) (ws : List Wd) (nm : List ByteArray) (M : Nat → Prop) (w : World) (e : Ending) (w' : World) : Prop :=
  (joinE n p room ws ≠ 0 → e = .returned (.tuple #[wdV (0, 0), .int .i64 (joinE n p room ws)]) ∧ Below w.heap.size w w') ∧
  (joinE n p room ws = 0 → 1 + (p.length : Int) ≤ room - ws.length ∧ e = .returned (.tuple #[wdV (4, (ws.length : Int)), .int .i64 0]) ∧ Laid base hp room (ws ++ (0, (vs.length : Int)) :: vs) nm M w w')

theorem hjoin_any (n : Nat) (p : List (Tm n)) (vs : List Wd) (a : Option Addr) (pc base hp : Nat) (room : Int) (ws : List Wd) (nm : List ByteArray) (M : Nat → Prop) (w : World) (h : HpAt base hp room ws nm M w) (hvl : vs.length = p.length) (hlen : p.length ≤ 8) (hbw : base ≤ w.heap.size) (hr0 : 0 ≤ room) (hrm : room ≤ 1000) (hw : ws.length ≤ 1000) (hn : nm.length ≤ 100000)
    (hin : WordsIn w vs a) (hoff : ∀ b o, a = some ⟨b, o, none⟩ → ¬ M b) (hst : ∀ (i : Nat) (y : Tm n) (v : Wd), p[i]? = some y → vs[i]? = some v → Stands ws nm n y v) (hr : ∀ y ∈ p, RightA ⟨n, y⟩) (hc : ∀ y ∈ p, closedT n y = true) (hN : (nodes (n + 1) (tupT n p)).length ≤ 1000000) :
    Calls Try.prog 12 #[.pointer (some ⟨hp, 0, none⟩), .slice a p.length pc] w (JoinOut n p vs base hp room ws nm M w) := by
  have hin1 : ∀ w1, Below w.heap.size w w1 → WordsIn w1 vs a := by
    intro w1 h1
    rcases hin with hin | ⟨b, o, e, hb, hin⟩
    · exact Or.inl hin
    · refine Or.inr ⟨b, o, e, Nat.lt_of_lt_of_le hb h1.size, fun i v hv => ⟨(below_cells h1 b _ hb).trans (hin i v hv).1, (below_cells h1 b _ hb).trans (hin i v hv).2⟩⟩
  have hpv : ∀ v ∈ vs, standsB ws nm v = true ∧ I64 v.2 := by
    intro v hv
    obtain ⟨i, hi⟩ := List.getElem?_of_mem hv
    have hl := (List.getElem?_eq_some_iff.1 hi).1
    have hy : p[i]? = some (p[i]'(by omega)) := List.getElem?_eq_getElem _
    exact stands_B (hst i _ v hy hi) (hr _ (List.mem_of_getElem? hy)) (hc _ (List.mem_of_getElem? hy)) (by omega) hn
  have hall : vs.all (standsB ws nm) = true := by
    rw [List.all_eq_true]
    exact fun v hv => (hpv v hv).1
  have HA : ∀ w1, Below w.heap.size w w1 → Calls Try.prog 28 #[.pointer (some ⟨hp, 0, none⟩), .slice a p.length pc] w1 fun e w' => e = .returned (.bool true) ∧ Below w1.heap.size w1 w' := by
    intro w1 h1
    have k := allStand_any base hp room ws nm _ vs a p.length pc w1 (h.later h1) (by omega) hvl (by omega) (hin1 w1 h1) (fun v hv => (hpv v hv).2)
    rw [hall] at k
    exact k
  have HF : ∀ w1, Below w.heap.size w w1 → Calls Try.prog 23 #[.pointer (some ⟨hp, 0, none⟩), .int .i64 (1 + (p.length : Int))] w1 fun e w' => e = .returned (.bool (decide (1 + (p.length : Int) ≤ room - ws.length))) ∧ Below w1.heap.size w1 w' := by
    intro w1 h1
    obtain ⟨tv, lv, mv, k1, k2, k3, _⟩ := h.later h1
    obtain ⟨ta, tc, rfl⟩ : ∃ ta tc, tv = .slice ta ws.length tc := by
      rcases k2.2 with ⟨e, e0⟩ | ⟨g, c, cur, e, _⟩
      · exact ⟨none, 0, by rw [e, e0]⟩
      · exact ⟨_, c, e⟩
    exact hasFree_any hp room _ ta ws.length tc lv mv w1 (by omega) hr0 hrm k1
  have HT : ∀ w1, Below w.heap.size w w1 → Calls Try.prog 29 #[.pointer (some ⟨hp, 0, none⟩), .slice a p.length pc] w1 fun e w' => ∃ a' c', e = .returned (.agg #[.int .i64 4, .int .i64 0, .string .empty, .slice a' p.length c']) ∧ Hid (Below w1.heap.size w1 w' ∧ Calls Try.prog 21 #[.agg #[.int .i64 4, .int .i64 0, .string .empty, .slice a' p.length c']] w' fun e w2 => e = .returned (.int .i64 (chk (n + 1) (tupT n p))) ∧ Below w'.heap.size w' w2) := by
    intro w1 h1
    refine (tupleOf_loop n (term_any n) base hp room ws nm _ a p.length pc p vs rfl hvl w1 (h.later h1) hlen (by unfold Hid; omega) hn (hin1 w1 h1) hst hr).mono ?_
    rintro e w' ⟨a', c', l, rfl, H⟩
    obtain ⟨k1, k2, k3, k4, k5, k6⟩ := H.out
    refine ⟨a', c', rfl, k1, ?_⟩
    have hsame : same (n + 1) ((4, 0, .empty), (a', c'), l) (n + 1) (tupT n p) = true := same_mk rfl k5
    have hy : In w'.heap.size w' (n + 1) ((4, 0, .empty), (a', c'), l) := by
      refine ⟨⟨by unfold I64; show (-9223372036854775808 : Int) ≤ 4 ∧ (4 : Int) ≤ 9223372036854775807; omega, by unfold I64; show (-9223372036854775808 : Int) ≤ 0 ∧ (0 : Int) ≤ 9223372036854775807; omega, by unfold maxLen; show (0 : Nat) ≤ _; omega, k3, k4⟩, ?_⟩
      rcases k6 with k6 | ⟨b, o, e, hb1, hb2, k6⟩
      · exact Or.inl k6
      · exact Or.inr ⟨b, o, e, hb2, fun i y hy => ⟨(k6 i y hy).1, (k6 i y hy).2.1⟩⟩
    have hry : RightA ⟨n + 1, ((4, 0, .empty), (a', c'), l)⟩ := right_formed.2 (by rw [same_formed _ _ _ _ hsame]; exact right_formed.1 (tupT_right hr hlen))
    have k7 := nodes_le (n + 1) _ hry
    rw [same_sz _ _ _ _ hsame] at k7
    have k8 := (sz_bound (n + 1) (tupT n p)).2
    have hk := tcheck_any (n + 1) ((4, 0, .empty), (a', c'), l) w'.heap.size w' hy (Nat.le_refl _) (by omega)
    rw [same_chk hsame] at hk
    have ev : val (n + 1) ((4, 0, .empty), (a', c'), l) = .agg #[.int .i64 4, .int .i64 0, .string .empty, .slice a' p.length c'] := by rw [← k2]; rfl
    rw [ev] at hk
    exact hk
  have HY : ∀ w1, Below w.heap.size w w1 → Calls Try.prog 30 #[.pointer (some ⟨hp, 1, none⟩), .slice a p.length pc] w1 fun e w' => e = .returned (.agg #[.int .i64 4, .int .i64 ws.length]) ∧ Hid (Laid base hp room (ws ++ (0, (p.length : Int)) :: vs) nm (fun b => M b ∧ b < w.heap.size) w1 w') := by
    intro w1 h1
    have hs := h1.size
    refine addH base hp room ws nm _ vs p.length pc a w1 (h.later h1) (by omega) (by omega) hvl (by omega) fun w2 hk => ?_
    rcases hin1 w1 h1 with e | ⟨b, o, rfl, hb, hcs⟩
    · exact Or.inl e
    · have hblk := hk.block b hb (fun hm => hoff b o rfl hm.1)
      exact words_at fun i v hv => ⟨(block_cell hblk _).trans (hcs i v hv).1, (block_cell hblk _).trans (hcs i v hv).2⟩
  have h8 : decide ((8 : Int) < (p.length : Int)) = false := by simp; omega
  by_cases hz : 1 + (p.length : Int) ≤ room - ws.length
  · have hd : decide (1 + (p.length : Int) ≤ room - ws.length) = true := by simpa using hz
    rw [hd] at HF
    have e : joinE n p room ws = chk (n + 1) (tupT n p) := by simp [joinE, hz]
    by_cases hck : chk (n + 1) (tupT n p) = 0
    · rw [hck] at HT
      refine (join_ok hp a p.length pc w h8 hlen (4, (ws.length : Int)) base room _ nm M HA HF HT HY).mono ?_
      rintro e' w' ⟨rfl, hb⟩
      refine ⟨fun h0 => absurd (e.trans hck) h0, fun _ => ⟨hz, rfl, ?_⟩⟩
      rw [hvl]
      exact hb.out
    · refine (join_e3 hp a p.length pc w h8 hlen (chk (n + 1) (tupT n p)) (by simpa using hck) HA HF HT).mono ?_
      rintro e' w' ⟨rfl, hb⟩
      exact ⟨fun _ => ⟨by rw [e]; rfl, hb⟩, fun h0 => absurd (e.symm.trans h0) hck⟩
  · have hd : decide (1 + (p.length : Int) ≤ room - ws.length) = false := by simpa using hz
    rw [hd] at HF
    have e : joinE n p room ws = 6 := by simp [joinE, hz]
    refine (join_e2 hp a p.length pc w h8 hlen HA HF).mono ?_
    rintro e' w' ⟨rfl, hb⟩
    exact ⟨fun _ => ⟨by rw [e]; rfl, hb⟩, fun h0 => absurd (e.symm.trans h0) (by decide)⟩
end Go.Proofs.Ytdlckjjfbobmpaa
namespace Go.Proofs.Ytdlckjjfbobmpaa
open Go.RowKit Go.Maps

/-- Where tuples went. -/
abbrev Went := List (Nat × Nat)
def look (g : Went) (p : Nat) : Option Nat := (g.find? fun e => e.1 == p).map fun e => e.2
theorem look_same (g : Went) (p q : Nat) : look ((p, q) :: g) p = some q := by simp [look]
theorem look_other (g : Went) {p r : Nat} (q : Nat) (h : r ≠ p) : look ((p, q) :: g) r = look g r := by
  have : (p == r) = false := by simp; omega
  simp [look, this]
def cpL (f : Wd → List Wd × Went → Wd × List Wd × Went) : List Wd → List Wd × Went → List Wd × List Wd × Went
  | [], S => ([], S)
  | v :: l, S => ((f v S).1 :: (cpL f l (f v S).2).1, (cpL f l (f v S).2).2)
/-- A word's copy, and the words copied and where each went; so deep. -/
def cpF (ws : List Wd) : Nat → Wd → List Wd × Went → Wd × List Wd × Went
  | 0, v, S => (v, S)
  | n + 1, v, S =>
    if v.1 = 4 then
      match look S.2 v.2.toNat with
      | some q => ((4, (q : Int)), S)
      | none =>
        match ws[v.2.toNat]? with
        | some h => ((4, ((cpL (cpF ws n) ((ws.drop (v.2.toNat + 1)).take h.2.toNat) S).2.1.length : Int)), (cpL (cpF ws n) ((ws.drop (v.2.toNat + 1)).take h.2.toNat) S).2.1 ++ (0, h.2) :: (cpL (cpF ws n) ((ws.drop (v.2.toNat + 1)).take h.2.toNat) S).1, (v.2.toNat, (cpL (cpF ws n) ((ws.drop (v.2.toNat + 1)).take h.2.toNat) S).2.1.length) :: (cpL (cpF ws n) ((ws.drop (v.2.toNat + 1)).take h.2.toNat) S).2.2)
        | none => (v, S)
    else (v, S)
theorem cpL_snoc (f : Wd → List Wd × Went → Wd × List Wd × Went) (l : List Wd) (v : Wd) (S : List Wd × Went) : cpL f (l ++ [v]) S = ((cpL f l S).1 ++ [(f v (cpL f l S).2).1], (f v (cpL f l S).2).2) := by
  induction l generalizing S with
  | nil => simp [cpL]
  | cons a l ih => simp [cpL, ih]
theorem cpL_length (f : Wd → List Wd × Went → Wd × List Wd × Went) (l : List Wd) (S : List Wd × Went) : (cpL f l S).1.length = l.length := by
  induction l generalizing S with
  | nil => simp [cpL]
  | cons a l ih => simp [cpL, ih]

/-- D tells where each tuple went. -/
def WentOf (D : DataW Unit) (g : Went) : Prop := ∀ p : Nat, (Maps.has D (.int .i64 p) = true ↔ (look g p).isSome = true) ∧ ∀ q : Nat, look g p = some q → D.atKey (.int .i64 p) (.lit (.int .i64 0)) = .lit (.int .i64 q)
theorem went_nil : WentOf (.map []) [] := fun p => ⟨by simp [Maps.has, look], fun q h => by simp [look] at h⟩
theorem key_int (k : Int) : WideAt.IsKeyLit (.int .i64 k) := by first | trivial | simp [WideAt.IsKeyLit] | decide
theorem went_put {w : World} {mb L : Nat} {D : DataW Unit} {g : Went} (hm : w.ownsMap Try.prog 3 (plainElem Try.prog 3) mb L D) (h : WentOf D g) (p q : Nat) : WentOf (D.put (.int .i64 p) (.lit (.int .i64 q))) ((p, q) :: g) := by
  intro r
  by_cases hr : r = p
  · subst hr
    refine ⟨?_, fun q' hq => ?_⟩
    · rw [has_put_same hm.isMap (key_int _), look_same]
      simp
    · rw [look_same] at hq
      rw [atKey_put_same hm.isMap (key_int _), Option.some.inj hq]
  · have hne : (Lit.int .i64 (r : Int)) ≠ (Lit.int .i64 (p : Int)) := fun e => hr (by injection e with _ e; omega)
    refine ⟨?_, fun q' hq => ?_⟩
    · rw [has_put_other hne, look_other g q hr]
      exact (h r).1
    · rw [look_other g q hr] at hq
      rw [atKey_put_other hne]
      exact (h r).2 q' hq
theorem intLaw : Keyed Try.prog 3 := int_keyed Try.underlying3
end Go.Proofs.Ytdlckjjfbobmpaa
namespace Go.Proofs.Ytdlckjjfbobmpaa
open Go.RowKit Go.Maps

/-- A copying's box: what it copies from, what it copies to, where tuples went. -/
def CB (cb : Nat) (fv tv mv : Value) (w : World) : Prop := w.heap[cb]? = some (.cells #[fv, tv, mv] 86)
theorem CB.lt {cb : Nat} {fv tv mv : Value} {w : World} (h : CB cb fv tv mv w) : cb < w.heap.size := (Array.getElem?_eq_some_iff.1 h).1
theorem CB.cells {cb : Nat} {fv tv mv : Value} {w : World} (h : CB cb fv tv mv w) : (w.cell? ⟨cb, 0, none⟩ = some fv ∧ w.cell? ⟨cb, 1, none⟩ = some tv ∧ w.cell? ⟨cb, 2, none⟩ = some mv) ∧ ∀ j, w.frozen? ⟨cb, j, none⟩ = false := by
  unfold CB at h
  refine ⟨⟨?_, ?_, ?_⟩, fun j => ?_⟩
  all_goals simp [World.cell?, World.frozen?, h]
theorem CB.set1 {cb : Nat} {fv tv mv : Value} {w : World} (h : CB cb fv tv mv w) (v : Value) : CB cb fv v mv (w.setCell ⟨cb, 1, none⟩ v) := by
  unfold CB at *
  simp [World.setCell, Array.getElem?_modify, h]
theorem CB.kept {cb : Nat} {fv tv mv : Value} {w w' : World} (h : CB cb fv tv mv w) (k : w'.heap[cb]? = w.heap[cb]?) : CB cb fv tv mv w' := k.trans h

/-- A copying in memory, whose blocks are among those of which M holds. -/
def CpAt (base cb : Nat) (fv : Value) (S : List Wd × Went) (M : Nat → Prop) (w : World) : Prop :=
  ∃ tv mb D, CB cb fv tv (.map (some mb)) w ∧ w.ownsRow base 38 2 tv S.1.length (wCells S.1) ∧ w.ownsMap Try.prog 3 (plainElem Try.prog 3) mb S.2.length D ∧ WentOf D S.2 ∧ M cb ∧ (∀ b, tv.ownBlock = some b → M b) ∧ M mb
theorem CpAt.kept {base cb : Nat} {fv : Value} {S : List Wd × Went} {M T : Nat → Prop} {w w' : World} (h : CpAt base cb fv S M w) (k : Keep T w w') (hd : ∀ b, M b → b < w.heap.size → ¬ T b) : CpAt base cb fv S M w' := by
  obtain ⟨tv, mb, D, h1, h2, h3, h4, h5, h6, h7⟩ := h
  refine ⟨tv, mb, D, h1.kept (k.block cb h1.lt (hd cb h5 h1.lt)), row_kept h2 k fun b e => hd b (h6 b e) (h2.lt b e).2, ?_, h4, h5, h6, h7⟩
  have hl := h3.lt
  obtain ⟨es, clock, hh, hr⟩ := h3
  exact ⟨es, clock, (k.block mb hl (hd mb h7 hl)).trans hh, hr⟩
theorem CpAt.inside {base cb : Nat} {fv : Value} {S : List Wd × Went} {M : Nat → Prop} {w : World} (h : CpAt base cb fv S M w) : CpAt base cb fv S (fun b => M b ∧ b < w.heap.size) w := by
  obtain ⟨tv, mb, D, h1, h2, h3, h4, h5, h6, h7⟩ := h
  exact ⟨tv, mb, D, h1, h2, h3, h4, ⟨h5, h1.lt⟩, fun b e => ⟨h6 b e, (h2.lt b e).2⟩, h7, h3.lt⟩
theorem CpAt.later {base cb : Nat} {fv : Value} {S : List Wd × Went} {M : Nat → Prop} {w wA : World} (h : CpAt base cb fv S M w) (hb : Below w.heap.size w wA) : CpAt base cb fv S (fun b => M b ∧ b < w.heap.size) wA :=
  h.inside.kept (keep_below hb (fun _ => False)) fun _ _ _ h => h
theorem CpAt.mono {base cb : Nat} {fv : Value} {S : List Wd × Went} {M T : Nat → Prop} {w : World} (h : CpAt base cb fv S M w) (k : ∀ b, M b → T b) : CpAt base cb fv S T w := by
  obtain ⟨tv, mb, D, h1, h2, h3, h4, h5, h6, h7⟩ := h
  exact ⟨tv, mb, D, h1, h2, h3, h4, k _ h5, fun b e => k b (h6 b e), k _ h7⟩

set_option maxHeartbeats 1000000 in
set_option maxRecDepth 100000 in
theorem one_else (cb : Nat) (k u : Int) (w : World) (h4 : ¬ k = 4) :
    Calls Try.prog 49 #[.pointer (some ⟨cb, 0, none⟩), .agg #[.int .i64 k, .int .i64 u]] w fun e w' => e = .returned (.agg #[.int .i64 k, .int .i64 u]) ∧ Below w.heap.size w w' := by
  have b4 : (k != 4) = true := by simpa using h4
  go_enter Try.func49, Try.ntmps49
  go_wp2_with fail
  exact bodyPost_ret (v := .agg #[.int .i64 k, .int .i64 u]) (by simp [results, Try.results49, go_sem]) rfl ⟨rfl, by go_grown⟩

theorem went_at {D : DataW Unit} {g : Went} (h : WentOf D g) {p q : Nat} {c : Int} (hl : look g p = some q) (hc : D.atKey (.int .i64 p) (.lit (.int .i64 0)) = .lit (.int .i64 c)) : c = q := by
  have := (h p).2 q hl
  rw [this] at hc
  simp at hc
  exact hc.symm

set_option maxHeartbeats 1000000 in
set_option maxRecDepth 100000 in
theorem one_old (base cb : Nat) (fv : Value) (S : List Wd × Went) (M : Nat → Prop) (p q : Nat) (w : World) (h : Hid (CpAt base cb fv S M w)) (hl : Hid (look S.2 p = some q)) (hp : p ≤ 100000) :
    Calls Try.prog 49 #[.pointer (some ⟨cb, 0, none⟩), .agg #[.int .i64 4, .int .i64 p]] w fun e w' => e = .returned (.agg #[.int .i64 4, .int .i64 q]) ∧ Below w.heap.size w w' := by
  go_enter Try.func49, Try.ntmps49
  go_wp2_with fail
  generalize hwA : (w.alloc (Obj.cells #[Value.int IntKind.i64 4, Value.int IntKind.i64 p] 38)).alloc (Obj.cells #[.int .i64 0, .int .i64 0] 38) = wA
  have HA : Hid (Below w.heap.size w wA.drew ∧ wA.drew.heap.size = w.heap.size + 2) := by
    subst hwA
    exact ⟨(((Below.refl _ _).alloc (Nat.le_refl _) _).alloc (by simp) _).drew, by simp [World.drew]⟩
  have e1 : wA.cell? ⟨w.heap.size, 1, none⟩ = some (.int .i64 p) := by subst hwA; simp [go_sem]
  have HR : Hid (JBox (w.heap.size + 1) wA.drew) := by
    subst hwA
    have := heap_alloc_new (w.alloc (Obj.cells #[Value.int IntKind.i64 4, Value.int IntKind.i64 p] 38)) (Obj.cells #[.int .i64 0, .int .i64 0] 38)
    have es : ∀ o, (w.alloc o).heap.size = w.heap.size + 1 := fun o => by simp
    rw [es] at this
    exact this
  obtain ⟨mb, c2, hlk⟩ : ∃ mb, wA.cell? ⟨cb, 2, none⟩ = some (.map (some mb)) ∧ (Instr.lookup 84 (.map (some mb)) (.int .i64 p) true).run Try.prog wA.drew = .ok (.tuple #[.int .i64 q, .bool true]) wA.drew := by
    obtain ⟨tv, mb, D, h1, h2, h3, h4, _⟩ := h.out.later HA.out.1
    obtain ⟨v, ps, hrun, hv⟩ := h3.look_ok intLaw Try.underlying84 (zeroInt _) (plainElem_int Try.underlying3 (WalkArith.wf_i64 (by omega))) (keyOf_int_mk Try.underlying3 (WalkArith.wf_i64 (n := (p : Int)) (by omega)))
    obtain ⟨c, rfl, hc, _⟩ := plainElem_int_inv Try.underlying3 hv
    have e := went_at h4 hl.out (congrArg Prod.fst hc)
    have hh : Maps.has D (.int .i64 p) = true := (h4 p).1.2 (by rw [hl.out]; rfl)
    rw [hh, e] at hrun
    exact ⟨mb, h1.cells.1.2.2, hrun⟩
  clear hwA h
  go_region_held3 (fun w' => w'.cell? ⟨w.heap.size, 1, none⟩ = some (.int .i64 p) ∧ w'.cell? ⟨cb, 2, none⟩ = some (.map (some mb))) (go_keep) (fail)
  obtain ⟨⟨r0, r1⟩, f0, f1⟩ := HR.out.facts
  have HF : Hid (∀ v0 v1, Below w.heap.size w ((wA.drew.setCell ⟨w.heap.size + 1, 0, none⟩ v0).setCell ⟨w.heap.size + 1, 1, none⟩ v1)) := by
    intro v0 v1
    have k1 := keep_set wA.drew (w.heap.size + 1) 0 v0
    have k2 := keep_set (wA.drew.setCell ⟨w.heap.size + 1, 0, none⟩ v0) (w.heap.size + 1) 1 v1
    have k3 := (keep_below HA.out.1 (fun b => b = w.heap.size + 1)).trans (k1.trans k2 (fun b _ h => h)) (fun b _ h => h)
    exact ⟨k3.os, k3.tape, k3.output, k3.size, fun b hb => k3.block b hb (by omega)⟩
  clear hlk HR HA
  generalize wA.drew = wD at *
  go_wp2_with fail
  exact bodyPost_ret (v := .agg #[.int .i64 4, .int .i64 q]) (by simp [results, Try.results49, go_sem, r0, r1]) rfl ⟨rfl, HF.out _ _⟩
end Go.Proofs.Ytdlckjjfbobmpaa
namespace Go.Proofs.Ytdlckjjfbobmpaa
open Go.RowKit Go.Maps

/-- What a call that copied something leaves. -/
def CLaid (base cb : Nat) (fv : Value) (S : List Wd × Went) (M : Nat → Prop) (w w' : World) : Prop := CpAt base cb fv S (fun b => M b ∨ w.heap.size ≤ b) w' ∧ Keep M w w'
/-- The words of a row, k of which are copied. -/
def AllC (f : Wd → List Wd × Went → Wd × List Wd × Went) (vs : List Wd) (len base cb : Nat) (fv : Value) (S : List Wd × Went) (M : Nat → Prop) (g : Nat) (w wB : World) (k : Nat) (wr : World) : Prop :=
  wr.ownsRow g 38 2 (.slice (some ⟨g, 0, none⟩) len len) len (wCells ((cpL f (vs.take k) S).1 ++ List.replicate (len - k) (0, 0))) ∧
  CpAt base cb fv (cpL f (vs.take k) S).2 (fun b => (M b ∧ b < w.heap.size) ∨ wB.heap.size ≤ b) wr ∧
  Keep (fun b => (M b ∧ b < w.heap.size) ∨ b = g) wB wr
theorem all_made {f : Wd → List Wd × Went → Wd × List Wd × Went} {vs : List Wd} {len base cb : Nat} {fv : Value} {S : List Wd × Went} {M : Nat → Prop} {w w0 : World} (h : CpAt base cb fv S M w)
    (ho : w0.ownsRow w.heap.size 38 2 (.slice (some ⟨w.heap.size, 0, none⟩) len len) len (madeCells (Value.agg #[.int .i64 0, .int .i64 0]).cells (len * 2)).toList) (hg : w.grownBy w0 none) :
    AllC f vs len base cb fv S M w.heap.size w w0 0 w0 ∧ Below w.heap.size w w0 ∧ w.heap.size < w0.heap.size := by
  have hb : Below w.heap.size w w0 := ⟨hg.os, hg.tape, hg.output, hg.size, fun b hb => hg.block b hb (by simp)⟩
  refine ⟨⟨?_, ?_, Keep.refl _ _⟩, hb, (ho.lt _ rfl).2⟩
  · simp only [List.take_zero, cpL, List.nil_append, Nat.sub_zero]
    have e2 := made_zero2 len
    have e3 : (Value.agg #[.int .i64 0, .int .i64 0]).cells = #[.int .i64 0, .int .i64 0] := rfl
    rw [e3, e2] at ho
    exact ho
  · simp only [List.take_zero, cpL]
    exact (h.later hb).mono fun b h => Or.inl h
theorem AllC.step {f : Wd → List Wd × Went → Wd × List Wd × Went} {vs : List Wd} {len base cb : Nat} {fv : Value} {S : List Wd × Went} {M : Nat → Prop} {g : Nat} {w wB : World} {k : Nat} {wr w1 w2 : World} (H : AllC f vs len base cb fv S M g w wB k wr) (hg : w.heap.size ≤ g) (hgB : g < wB.heap.size) (hk : k < len) (hpl : vs.length = len) {v : Wd} (hv : vs[k]? = some v) (hb : Below wr.heap.size wr w1)
    (hL : CLaid base cb fv (f v (cpL f (vs.take k) S).2).2 (fun b => ((M b ∧ b < w.heap.size) ∨ wB.heap.size ≤ b) ∧ b < wr.heap.size) w1 w2) :
    AllC f vs len base cb fv S M g w wB (k + 1) ((w2.setCell ⟨g, k * 2, none⟩ (.int .i64 (f v (cpL f (vs.take k) S).2).1.1)).setCell ⟨g, k * 2 + 1, none⟩ (.int .i64 (f v (cpL f (vs.take k) S).2).1.2)) ∧
    (w2.cell? ⟨g, k * 2, none⟩ = some (.int .i64 0) ∧ w2.cell? ⟨g, k * 2 + 1, none⟩ = some (.int .i64 0)) ∧ w2.frozen? ⟨g, k * 2, none⟩ = false ∧ w2.frozen? ⟨g, k * 2 + 1, none⟩ = false := by
  obtain ⟨H1, H2, H3⟩ := H
  obtain ⟨L1, L2⟩ := hL
  have hgr : g < wr.heap.size := (H1.lt g rfl).2
  have hs1 := hb.size
  have hs3 := H3.size
  have e0 : cpL f (vs.take (k + 1)) S = ((cpL f (vs.take k) S).1 ++ [(f v (cpL f (vs.take k) S).2).1], (f v (cpL f (vs.take k) S).2).2) := by
    rw [List.take_add_one, hv]
    exact cpL_snoc _ _ _ _
  have hl : (cpL f (vs.take k) S).1.length = k := by rw [cpL_length, List.length_take]; omega
  have r2 : w2.ownsRow g 38 2 (.slice (some ⟨g, 0, none⟩) len len) len (wCells ((cpL f (vs.take k) S).1 ++ List.replicate (len - k) (0, 0))) := by
    refine row_kept (own_below H1 hb) L2 fun b e => ?_
    simp only [Value.ownBlock] at e
    obtain rfl := Option.some.inj e
    omega
  generalize cpL f (vs.take k) S = R at *
  generalize f v R.2 = Y at *
  have hz : (R.1 ++ List.replicate (len - k) (0, 0))[k]? = some ((0, 0) : Wd) := by
    rw [List.getElem?_append_right (by omega), hl, Nat.sub_self, List.getElem?_replicate]
    simp; omega
  have k1 := keep_set w2 g (k * 2) (.int .i64 Y.1.1)
  have k2 := keep_set (w2.setCell ⟨g, k * 2, none⟩ (.int .i64 Y.1.1)) g (k * 2 + 1) (.int .i64 Y.1.2)
  have k3 := k1.trans k2 (fun b _ h => h)
  refine ⟨⟨?_, ?_, ?_⟩, word_cells r2 k (0, 0) hz, own_cell2 r2 _, own_cell2 r2 _⟩
  · rw [e0]
    have hh := cell_set (cell_set r2 (k * 2) (.int .i64 Y.1.1)) (k * 2 + 1) (.int .i64 Y.1.2)
    rw [wCells_set _ k Y.1 (by simp; omega)] at hh
    have es : (R.1 ++ List.replicate (len - k) ((0, 0) : Wd)).set k Y.1 = (R.1 ++ [Y.1]) ++ List.replicate (len - (k + 1)) (0, 0) := by
      rw [List.set_append_right _ _ (by omega)]
      have : len - k = (len - (k + 1)) + 1 := by omega
      rw [this, List.replicate_succ]
      simp [hl]
    rw [es] at hh
    exact hh
  · rw [e0]
    refine (L1.kept k3 ?_).mono ?_
    · rintro b (⟨h, _⟩ | h) _ e <;> omega
    · rintro b (⟨h, _⟩ | h)
      · exact h
      · exact Or.inr (by omega)
  · have h1 : Keep (fun b => (M b ∧ b < w.heap.size) ∨ b = g) wB w1 := H3.trans (keep_below hb (fun _ => False)) (fun _ _ h => h.elim)
    have h2 : Keep (fun b => (M b ∧ b < w.heap.size) ∨ b = g) wB w2 := h1.trans L2 (fun b hb' h => by
      rcases h.1 with h | h
      · exact Or.inl h
      · omega)
    exact h2.trans k3 (fun b _ h => Or.inr h)

/-- What all leaves. -/
def AllOut (f : Wd → List Wd × Went → Wd × List Wd × Went) (vs : List Wd) (base cb : Nat) (fv : Value) (S : List Wd × Went) (M : Nat → Prop) (g : Nat) (w w' : World) : Prop :=
  ∃ M', CpAt base cb fv (cpL f vs S).2 M' w' ∧ Keep M w w' ∧ (∀ b, M' b → M b ∨ w.heap.size ≤ b) ∧ ¬ M' g ∧ w.heap.size ≤ g ∧ w'.ownsRow g 38 2 (.slice (some ⟨g, 0, none⟩) vs.length vs.length) vs.length (wCells (cpL f vs S).1)
theorem AllC.done {f : Wd → List Wd × Went → Wd × List Wd × Went} {vs : List Wd} {len base cb : Nat} {fv : Value} {S : List Wd × Went} {M : Nat → Prop} {g : Nat} {w wB wr : World} (H : AllC f vs len base cb fv S M g w wB len wr) (hpl : vs.length = len) (hg : w.heap.size ≤ g) (hgB : g < wB.heap.size) (hB : Below w.heap.size w wB) : AllOut f vs base cb fv S M g w wr := by
  obtain ⟨H1, H2, H3⟩ := H
  rw [List.take_of_length_le (by omega)] at H1 H2
  rw [Nat.sub_self, List.replicate_zero, List.append_nil] at H1
  subst hpl
  refine ⟨_, H2, (keep_below hB M).trans H3 ?_, ?_, ?_, hg, H1⟩
  · rintro b hb (h | h)
    · exact h.1
    · omega
  · rintro b (h | h)
    · exact Or.inl h.1
    · exact Or.inr (by have := hB.size; omega)
  · rintro (h | h) <;> omega

set_option maxHeartbeats 1000000 in
set_option maxRecDepth 100000 in
theorem copyall_loop (f : Wd → List Wd × Went → Wd × List Wd × Went) (vs : List Wd) (base cb : Nat) (fv : Value) (S : List Wd × Went) (M : Nat → Prop) (a : Option Addr) (len pc : Nat) (w : World) (hvl : Hid (vs.length = len)) (hlen : len ≤ 2000000) (h : Hid (CpAt base cb fv S M w)) (hin : Hid (WordsIn w vs a)) (hoff : Hid (∀ b o, a = some ⟨b, o, none⟩ → ¬ M b))
    (ih : Hid (∀ (k : Nat) (v : Wd), vs[k]? = some v → ∀ (M' : Nat → Prop) (w1 : World), CpAt base cb fv (cpL f (vs.take k) S).2 M' w1 → Keep M w w1 → (∀ b, M' b → M b ∨ w.heap.size ≤ b) →
      Calls Try.prog 49 #[.pointer (some ⟨cb, 0, none⟩), .agg #[.int .i64 v.1, .int .i64 v.2]] w1 fun e w2 => e = .returned (.agg #[.int .i64 (f v (cpL f (vs.take k) S).2).1.1, .int .i64 (f v (cpL f (vs.take k) S).2).1.2]) ∧ Hid (CLaid base cb fv (f v (cpL f (vs.take k) S).2).2 M' w1 w2))) :
    Calls Try.prog 39 #[.pointer (some ⟨cb, 0, none⟩), .slice a len pc] w fun e w' => ∃ g, e = .returned (.slice (some ⟨g, 0, none⟩) len len) ∧ Hid (AllOut f vs base cb fv S M g w w') := by
  obtain ⟨it, hit, htz0, htz1, htz2⟩ := info_parts infoWord
  go_enter Try.func39, Try.ntmps39
  go_wp2_with (at_make; refine wpList_make_full _ rfl _ _ 28 rfl w.heap.size 38 it _ 2 Try.underlying28 hit htz0 htz1 _ _ _ _ len rfl rfl rfl rfl (by rw [htz2]; omega) (by unfold maxLen; omega) (Nat.le_refl _) ?_; intro w0 hown0 hgrow0; have HM := hide (all_made (f := f) (vs := vs) h.out hown0 hgrow0); clear hown0 hgrow0)
  clear hit htz0 htz1 htz2
  have HLP : Hid (AllC f vs len base cb fv S M w.heap.size w w0 0 w0) := HM.out.1
  have hgB : w.heap.size < w0.heap.size := HM.out.2.2
  go_loopw [13] (fun i wr => ∃ k : Nat, k ≤ len ∧ i = .int .i64 k ∧ Hid (AllC f vs len base cb fv S M w.heap.size w w0 k wr)) (fun i _ => len - (intOf i).toNat)
  case atStart => exact ⟨0, by omega, rfl, HLP.out⟩
  case round =>
    clear HLP
    obtain ⟨k, hk, rfl, HL⟩ := hrel
    by_cases hlt : k < len
    · obtain ⟨v, hv⟩ : ∃ v, vs[k]? = some v := ⟨vs[k]'(by rw [hvl.out]; exact hlt), List.getElem?_eq_getElem _⟩
      obtain ⟨b, o, rfl, hb, hvs⟩ : ∃ b o, a = some ⟨b, o, none⟩ ∧ b < w.heap.size ∧ ∀ (i : Nat) (v : Wd), vs[i]? = some v → w.cell? ⟨b, o + i * 2, none⟩ = some (.int .i64 v.1) ∧ w.cell? ⟨b, o + i * 2 + 1, none⟩ = some (.int .i64 v.2) := by
        rcases hin.out with e | e
        · rw [e] at hv; simp at hv
        · exact e
      obtain ⟨v0, v1⟩ := hvs k v hv
      have hblk : wr.heap[b]? = w.heap[b]? := (HL.out.2.2.block b (by omega) (by rintro (h | h); exact hoff.out b o rfl h.1; omega)).trans (HM.out.2.1.block b hb)
      replace v0 := (block_cell hblk (o + k * 2)).trans v0
      replace v1 := (block_cell hblk (o + k * 2 + 1)).trans v1
      have hgr : w.heap.size < wr.heap.size := (HL.out.1.lt _ rfl).2
      have hw0 := HL.out.2.2.size
      have hkw : Keep M w wr := (keep_below HM.out.2.1 M).trans HL.out.2.2 (by rintro b hb (h | h); exact h.1; omega)
      obtain ⟨V, HC⟩ : ∃ V : Wd, Hid (∀ w1, Below wr.heap.size wr w1 → Calls Try.prog 49 #[.pointer (some ⟨cb, 0, none⟩), .agg #[.int .i64 v.1, .int .i64 v.2]] w1 fun e w2 => e = .returned (.agg #[.int .i64 V.1, .int .i64 V.2]) ∧
          Hid (AllC f vs len base cb fv S M w.heap.size w w0 (k + 1) ((w2.setCell ⟨w.heap.size, k * 2, none⟩ (.int .i64 V.1)).setCell ⟨w.heap.size, k * 2 + 1, none⟩ (.int .i64 V.2)) ∧
            (w2.cell? ⟨w.heap.size, k * 2, none⟩ = some (.int .i64 0) ∧ w2.cell? ⟨w.heap.size, k * 2 + 1, none⟩ = some (.int .i64 0)) ∧ w2.frozen? ⟨w.heap.size, k * 2, none⟩ = false ∧ w2.frozen? ⟨w.heap.size, k * 2 + 1, none⟩ = false)) := by
        refine ⟨(f v (cpL f (vs.take k) S).2).1, fun w1 h1 => ?_⟩
        refine (ih.out k v hv _ w1 (HL.out.2.1.later h1) (hkw.trans (keep_below h1 M) (fun _ _ h => h)) ?_).mono ?_
        · rintro b ⟨h | h, _⟩
          · exact Or.inl h.1
          · exact Or.inr (by omega)
        · rintro e w2 ⟨rfl, HLD⟩
          exact ⟨rfl, HL.out.step (Nat.le_refl _) hgB hlt hvl.out hv h1 HLD.out⟩
      clear ih HL hin hvs hv hoff hblk hkw
      have hk1 : (0 : Int) ≤ (k : Int) := by omega
      have hk2 : (k : Int) < (len : Int) := by omega
      have hbr : b < wr.heap.size := by omega
      go_wp2_with fail
      refine (HC.out _ ((Below.refl _ _).alloc (Nat.le_refl _) _)).mono ?_
      rintro e w2 ⟨rfl, HS⟩
      obtain ⟨⟨d0, d1⟩, f0, f1⟩ := HS.out.2
      clear HC v0 v1
      go_wp2_with fail
      go_roundw
      case rel => exact ⟨k + 1, by omega, by go_num, HS.out.1⟩
      case measure => simp [intOf]; omega
    · obtain rfl : k = len := by omega
      have HE := hide (HL.out.done hvl.out (Nat.le_refl _) hgB HM.out.2.1)
      clear HL ih
      go_wp2_with fail
      go_ret
      exact ⟨_, rfl, HE.out⟩
end Go.Proofs.Ytdlckjjfbobmpaa
namespace Go.Proofs.Ytdlckjjfbobmpaa
open Go.RowKit Go.Maps

theorem row_boxC {w : World} {base : Nat} {e : TypeId} {s n : Nat} {v : Value} {xs : List Value} {cb : Nat} {fv tv mv : Value} (h : w.ownsRow base e s v n xs) (hB : CB cb fv tv mv w) (hne : e ≠ 86) : v.ownBlock ≠ some cb := fun e => by
  rcases h.2 with ⟨rfl, _⟩ | ⟨g', cap, cur, rfl, _, hh, _⟩
  · simp [Value.ownBlock] at e
  · simp [Value.ownBlock] at e
    subst e
    have h2 : w.heap[g']? = _ := hB
    rw [hh] at h2
    injection h2 with h2
    injection h2 with h2 h3
    exact hne h3
theorem row_mapC {w : World} {base : Nat} {e : TypeId} {s n L mb : Nat} {v : Value} {xs : List Value} {D : DataW Unit} (h : w.ownsRow base e s v n xs) (hM : w.ownsMap Try.prog 3 (plainElem Try.prog 3) mb L D) : v.ownBlock ≠ some mb := fun e1 => by
  rcases h.2 with ⟨rfl, _⟩ | ⟨g, cap, cur, rfl, _, hh, _⟩
  · simp [Value.ownBlock] at e1
  · simp only [Value.ownBlock] at e1
    obtain rfl := Option.some.inj e1
    obtain ⟨es, clock, hh', _⟩ := hM
    rw [hh] at hh'
    cases hh'
theorem map_boxC {w : World} {L mb cb : Nat} {D : DataW Unit} {fv tv mv : Value} (hM : w.ownsMap Try.prog 3 (plainElem Try.prog 3) mb L D) (hB : CB cb fv tv mv w) : mb ≠ cb := by
  rintro rfl
  obtain ⟨es, clock, hh', _⟩ := hM
  have h2 : w.heap[mb]? = _ := hB
  rw [hh'] at h2
  cases h2

/-- add, at a copying. -/
theorem addC (base cb : Nat) (fv : Value) (S : List Wd × Went) (M : Nat → Prop) (ps : List Wd) (m pc : Nat) (pa : Option Addr) (w : World) (h : CpAt base cb fv S M w) (hbw : base ≤ w.heap.size) (hL : S.1.length ≤ 100000) (hm : ps.length = m) (hM : m ≤ 1000)
    (HS : ∀ w1, Keep M w w1 → WordsAt w1 ps pa) :
    Calls Try.prog 30 #[.pointer (some ⟨cb, 1, none⟩), .slice pa m pc] w fun e w' => e = .returned (.agg #[.int .i64 4, .int .i64 S.1.length]) ∧ Hid (CLaid base cb fv (S.1 ++ (0, (m : Int)) :: ps, S.2) M w w') := by
  obtain ⟨tv, mb, D, h1, h2, h3, h4, h5, h6, h7⟩ := h
  obtain ⟨⟨c0, c1, c2⟩, hf⟩ := h1.cells
  obtain ⟨ta, tc, htv⟩ : ∃ ta tc, tv = .slice ta S.1.length tc := by
    rcases h2.2 with ⟨e, e0⟩ | ⟨g, c, cur, e, _⟩
    · exact ⟨none, 0, by rw [e, e0]⟩
    · exact ⟨_, c, e⟩
  subst hm
  refine (add_walk base cb 1 tv ta tc S.1.length S.1 ps ps.length pc pa w htv rfl rfl hL hM hbw c1 (hf 1) h1.lt (row_boxC h2 h1 (by decide)) h2 ?_).mono ?_
  · intro w1 k
    refine HS w1 (k.mono ?_)
    rintro b (rfl | e)
    · exact h5
    · exact h6 b e
  · rintro e w' ⟨rfl, tv', H⟩
    obtain ⟨k1, k2, k3, k4⟩ := H.out
    refine ⟨rfl, ⟨tv', mb, D, (h1.set1 tv').kept k2, ?_, ?_, h4, Or.inl h5, ?_, Or.inl h7⟩, k3.mono ?_⟩
    · have e : (S.1 ++ (0, (ps.length : Int)) :: ps).length = S.1.length + 1 + ps.length := by simp; omega
      rw [e]
      exact k1
    · have hl := h3.lt
      have hx1 := map_boxC h3 h1
      have hx2 := row_mapC h2 h3
      obtain ⟨es, clock, hh, hr⟩ := h3
      refine ⟨es, clock, (k3.block mb hl ?_).trans hh, hr⟩
      rintro (e | e)
      · exact hx1 e
      · exact hx2 e
    · intro b e
      rcases k4 b e with e | e
      · exact Or.inl (h6 b e)
      · exact Or.inr e
    · rintro b (rfl | e)
      · exact h5
      · exact h6 b e
end Go.Proofs.Ytdlckjjfbobmpaa
namespace Go.Proofs.Ytdlckjjfbobmpaa
open Go.RowKit Go.Maps

theorem one_put {base cb : Nat} {fv : Value} {S : List Wd × Went} {M : Nat → Prop} {w : World} (h : CpAt base cb fv S M w) (p q : Nat) (hp : p ≤ 100000) (hq : q ≤ 100000) (hn : S.2.length ≤ 100000) :
    ∃ mb, w.cell? ⟨cb, 2, none⟩ = some (.map (some mb)) ∧ ∃ w4, (Instr.mapUpdate 84 (.map (some mb)) (.int .i64 p) (.int .i64 q)).run Try.prog w = .ok () w4 ∧ CpAt base cb fv (S.1, (p, q) :: S.2) M w4 ∧ Keep (fun b => b = mb) w w4 ∧ M mb ∧ mb < w.heap.size ∧ w4.cell? ⟨cb, 2, none⟩ = some (.map (some mb)) := by
  obtain ⟨tv, mb, D, h1, h2, h3, h4, h5, h6, h7⟩ := h
  obtain ⟨w4, hrun, hown, hg⟩ := h3.update intLaw Try.underlying84 (by unfold maxLen; omega) (keyOf_int_mk Try.underlying3 (WalkArith.wf_i64 (n := (p : Int)) (by omega))) (plainElem_int Try.underlying3 (WalkArith.wf_i64 (n := (q : Int)) (by omega)))
  have k := keep_grown hg
  have k2 : Keep (fun b => b = mb) w w4 := k.mono fun b e => (Option.some.inj e).symm
  refine ⟨mb, h1.cells.1.2.2, w4, hrun, ⟨tv, mb, _, h1.kept (k2.block cb h1.lt (fun e => map_boxC h3 h1 e.symm)), row_kept h2 k2 ?_, hown, went_put h3 h4 p q, h5, h6, h7⟩, k2, h7, h3.lt, (h1.kept (k2.block cb h1.lt (fun e => map_boxC h3 h1 e.symm))).cells.1.2.2⟩
  intro b e e'
  subst e'
  exact row_mapC h2 h3 e

theorem field_word (w : World) (a b : Int) : (Instr.field 38 (.agg #[.int .i64 a, .int .i64 b]) 1).run Try.prog w = .ok (.int .i64 b) w := by kernel_rfl

set_option maxHeartbeats 1000000 in
set_option maxRecDepth 100000 in
theorem one_new (base cb : Nat) (fv : Value) (S : List Wd × Went) (M : Nat → Prop) (p q fg L fc n : Nat) (w : World) (F : World → Prop) (h : Hid (CpAt base cb fv S M w)) (hfv : fv = .slice (some ⟨fg, 0, none⟩) L fc) (hl : Hid (look S.2 p = none)) (hp : p ≤ 100000)
    (HC : Hid (∀ wD, Below w.heap.size w wD → w.heap.size + 2 ≤ wD.heap.size → Calls Try.prog 43 #[.slice (some ⟨fg, 0, none⟩) L fc, .int .i64 p] wD fun e w' => w' = wD ∧ ∃ o pc, e = .returned (.slice (some ⟨fg, o, none⟩) n pc) ∧
      Hid (Calls Try.prog 39 #[.pointer (some ⟨cb, 0, none⟩), .slice (some ⟨fg, o, none⟩) n pc] wD fun e w2 => ∃ g, e = .returned (.slice (some ⟨g, 0, none⟩) n n) ∧
        Hid ((∀ j, w2.cell? ⟨w.heap.size, j, none⟩ = wD.cell? ⟨w.heap.size, j, none⟩) ∧ w2.cell? ⟨cb, 0, none⟩ = some (.slice (some ⟨fg, 0, none⟩) L fc) ∧
          Calls Try.prog 30 #[.pointer (some ⟨cb, 1, none⟩), .slice (some ⟨g, 0, none⟩) n n] w2 fun e w3 => e = .returned (.agg #[.int .i64 4, .int .i64 q]) ∧
            Hid ((∀ j, w3.cell? ⟨w.heap.size, j, none⟩ = wD.cell? ⟨w.heap.size, j, none⟩) ∧ w3.cell? ⟨cb, 0, none⟩ = some (.slice (some ⟨fg, 0, none⟩) L fc) ∧
              ∃ mb w4, w3.cell? ⟨cb, 2, none⟩ = some (.map (some mb)) ∧ (Instr.mapUpdate 84 (.map (some mb)) (.int .i64 p) (.int .i64 q)).run Try.prog w3.drew = .ok () w4 ∧ (∀ j, w4.cell? ⟨w.heap.size, j, none⟩ = wD.cell? ⟨w.heap.size, j, none⟩) ∧ w4.cell? ⟨cb, 2, none⟩ = some (.map (some mb)) ∧
                (JBox (w.heap.size + 1) wD → JBox (w.heap.size + 1) w4) ∧ ∀ v0 v1, F ((w4.setCell ⟨w.heap.size + 1, 0, none⟩ v0).setCell ⟨w.heap.size + 1, 1, none⟩ v1)))))) :
    Calls Try.prog 49 #[.pointer (some ⟨cb, 0, none⟩), .agg #[.int .i64 4, .int .i64 p]] w fun e w' => e = .returned (.agg #[.int .i64 4, .int .i64 q]) ∧ F w' := by
  subst hfv
  go_enter Try.func49, Try.ntmps49
  go_wp2_with fail
  generalize hwA : (w.alloc (Obj.cells #[Value.int IntKind.i64 4, Value.int IntKind.i64 p] 38)).alloc (Obj.cells #[.int .i64 0, .int .i64 0] 38) = wA
  have HA : Hid (Below w.heap.size w wA.drew ∧ wA.drew.heap.size = w.heap.size + 2) := by
    subst hwA
    exact ⟨(((Below.refl _ _).alloc (Nat.le_refl _) _).alloc (by simp) _).drew, by simp [World.drew]⟩
  have e1 : wA.cell? ⟨w.heap.size, 1, none⟩ = some (.int .i64 p) := by subst hwA; simp [go_sem]
  have HR : Hid (JBox (w.heap.size + 1) wA.drew) := by
    subst hwA
    have := heap_alloc_new (w.alloc (Obj.cells #[Value.int IntKind.i64 4, Value.int IntKind.i64 p] 38)) (Obj.cells #[.int .i64 0, .int .i64 0] 38)
    have es : ∀ o, (w.alloc o).heap.size = w.heap.size + 1 := fun o => by simp
    rw [es] at this
    exact this
  obtain ⟨mb, cz, c0, c2, hlk⟩ : ∃ mb, ∃ cz : Int, wA.cell? ⟨cb, 0, none⟩ = some (.slice (some ⟨fg, 0, none⟩) L fc) ∧ wA.cell? ⟨cb, 2, none⟩ = some (.map (some mb)) ∧ (Instr.lookup 84 (.map (some mb)) (.int .i64 p) true).run Try.prog wA.drew = .ok (.tuple #[.int .i64 cz, .bool false]) wA.drew := by
    obtain ⟨tv, mb, D, h1, h2, h3, h4, _⟩ := h.out.later HA.out.1
    obtain ⟨v, ps, hrun, hv⟩ := h3.look_ok intLaw Try.underlying84 (zeroInt _) (plainElem_int Try.underlying3 (WalkArith.wf_i64 (by omega))) (keyOf_int_mk Try.underlying3 (WalkArith.wf_i64 (n := (p : Int)) (by omega)))
    obtain ⟨c, rfl, hc, _⟩ := plainElem_int_inv Try.underlying3 hv
    have hh : Maps.has D (.int .i64 p) = false := by
      cases hx : Maps.has D (.int .i64 p)
      · rfl
      · have := (h4 p).1.1 hx
        rw [hl.out] at this
        simp at this
    rw [hh] at hrun
    exact ⟨mb, c, h1.cells.1.1, h1.cells.1.2.2, hrun⟩
  clear hwA h
  go_region_held3 (fun w' => w'.cell? ⟨w.heap.size, 1, none⟩ = some (.int .i64 p) ∧ w'.cell? ⟨cb, 2, none⟩ = some (.map (some mb))) (go_keep) (fail)
  have e1' : wA.drew.cell? ⟨w.heap.size, 1, none⟩ = some (.int .i64 p) := e1
  have c0' : wA.drew.cell? ⟨cb, 0, none⟩ = some (.slice (some ⟨fg, 0, none⟩) L fc) := c0
  clear hlk e1 c0 c2
  generalize wA.drew = wD at *
  have HP := hide (HC.out wD.drew HA.out.1.drew (by have := HA.out.2; show w.heap.size + 2 ≤ wD.heap.size; omega))
  clear HC
  have hfld := field_word
  go_wp2_with fail
  go_region_held3 (fun w' => w'.cell? ⟨w.heap.size, 1, none⟩ = some (.int .i64 p) ∧ w'.cell? ⟨cb, 0, none⟩ = some (.slice (some ⟨fg, 0, none⟩) L fc)) (go_keep) ((first
    | (go_at_call 43; refine HP.out.mono ?_; rintro e w2 ⟨rfl, o, pc, rfl, HALL⟩; clear HP)
    | (go_at_call 39; refine HALL.out.mono ?_; rintro e w2 ⟨g, rfl, HADD⟩; have x1 := (HADD.out.1 1).trans e1'; have x2 := HADD.out.2.1; clear HALL)
    | (go_at_call 30; refine HADD.out.2.2.mono ?_; rintro e w3 ⟨rfl, HFIN⟩; have y1 := (HFIN.out.1 1).trans e1'; have y2 := HFIN.out.2.1; clear HADD)))
  obtain ⟨mb2, w4, u2, hup, HV, z2, HJ, HF⟩ : ∃ mb2 w4, w3.cell? ⟨cb, 2, none⟩ = some (.map (some mb2)) ∧ (Instr.mapUpdate 84 (.map (some mb2)) (.int .i64 p) (.int .i64 q)).run Try.prog w3.drew = .ok () w4 ∧ Hid (∀ j, w4.cell? ⟨w.heap.size, j, none⟩ = wD.drew.cell? ⟨w.heap.size, j, none⟩) ∧ w4.cell? ⟨cb, 2, none⟩ = some (.map (some mb2)) ∧ Hid (JBox (w.heap.size + 1) w4) ∧ Hid (∀ v0 v1, F ((w4.setCell ⟨w.heap.size + 1, 0, none⟩ v0).setCell ⟨w.heap.size + 1, 1, none⟩ v1)) := by
    obtain ⟨mb2, w4, k1, k2, k3, k4, k5, k6⟩ := HFIN.out.2.2
    exact ⟨mb2, w4, k1, k2, k3, k4, k5 HR.out, k6⟩
  have z1 := (HV.out 1).trans e1'
  obtain ⟨⟨r0, r1⟩, f0, f1⟩ := HJ.out.facts
  clear HFIN HV HJ HR HA x1 x2 y2 c0' e1' hfld
  go_wp2_with fail
  go_region_held3 (fun w' => w'.cell? ⟨w.heap.size, 1, none⟩ = some (.int .i64 p) ∧ w'.cell? ⟨cb, 2, none⟩ = some (.map (some mb2))) (go_keep) (fail)
  clear hup u2 y1 z1 z2
  go_wp2_with fail
  exact bodyPost_ret (v := .agg #[.int .i64 4, .int .i64 q]) (by simp [results, Try.results49, go_sem, r0, r1]) rfl ⟨rfl, HF.out _ _⟩
end Go.Proofs.Ytdlckjjfbobmpaa
namespace Go.Proofs.Ytdlckjjfbobmpaa
open Go.RowKit Go.Maps

/-- The parts of a tuple that begins at p. -/
def partsOf (ws : List Wd) (p n : Nat) : List Wd := (ws.drop (p + 1)).take n
theorem partsOf_at {ws : List Wd} {p n i : Nat} (hi : i < n) : (partsOf ws p n)[i]? = ws[p + 1 + i]? := by
  unfold partsOf
  rw [List.getElem?_take_of_lt hi, List.getElem?_drop]
theorem partsOf_length {ws : List Wd} {p n : Nat} (h : p + 1 + n ≤ ws.length) : (partsOf ws p n).length = n := by
  unfold partsOf
  rw [List.length_take, List.length_drop]
  omega
/-- Words that stand for terms, one by one. -/
def StandL (ws : List Wd) (nm : List ByteArray) (n : Nat) (l : List Wd) (p : List (Tm n)) : Prop := l.length = p.length ∧ ∀ (i : Nat) (v : Wd) (y : Tm n), l[i]? = some v → p[i]? = some y → Stands ws nm n y v
theorem cpF_leaf {ws : List Wd} {n : Nat} {v : Wd} {S : List Wd × Went} (h : v.1 ≠ 4) : cpF ws n v S = (v, S) := by
  cases n with
  | zero => rfl
  | succ n => simp [cpF, h]
theorem cpF_old {ws : List Wd} {n p q : Nat} {S : List Wd × Went} (h : look S.2 p = some q) : cpF ws (n + 1) (4, (p : Int)) S = ((4, (q : Int)), S) := by
  simp [cpF, h]
theorem cpF_new {ws : List Wd} {n p m : Nat} {S : List Wd × Went} (h : look S.2 p = none) (hp : ws[p]? = some (0, (m : Int))) : cpF ws (n + 1) (4, (p : Int)) S =
    ((4, ((cpL (cpF ws n) (partsOf ws p m) S).2.1.length : Int)), (cpL (cpF ws n) (partsOf ws p m) S).2.1 ++ (0, (m : Int)) :: (cpL (cpF ws n) (partsOf ws p m) S).1, (p, (cpL (cpF ws n) (partsOf ws p m) S).2.1.length) :: (cpL (cpF ws n) (partsOf ws p m) S).2.2) := by
  simp [cpF, h, hp, partsOf]

theorem cpL_sizes {ws : List Wd} {nm : List ByteArray} {n : Nat} (ih : ∀ (x : Tm n) (v : Wd) (S : List Wd × Went), Stands ws nm n x v → ((cpF ws n v S).2.1.length : Int) ≤ S.1.length + sz n x ∧ (cpF ws n v S).2.2.length ≤ S.2.length + (nodes n x).length) :
    (l : List Wd) → (p : List (Tm n)) → (S : List Wd × Went) → StandL ws nm n l p → ((cpL (cpF ws n) l S).2.1.length : Int) + p.length ≤ S.1.length + (p.map fun y => 1 + sz n y).sum ∧ (cpL (cpF ws n) l S).2.2.length ≤ S.2.length + (p.flatMap fun y => nodes n y).length
  | [], [], S, _ => by simp [cpL]
  | [], _ :: _, _, h => by have := h.1; simp at this
  | _ :: _, [], _, h => by have := h.1; simp at this
  | v :: l, y :: p, S, h => by
    obtain ⟨a1, a2⟩ := ih y v S (h.2 0 v y rfl rfl)
    obtain ⟨b1, b2⟩ := cpL_sizes ih l p (cpF ws n v S).2 ⟨by have := h.1; simpa using this, fun i v' y' hv hy => h.2 (i + 1) v' y' (by simpa using hv) (by simpa using hy)⟩
    simp only [cpL, List.map_cons, List.sum_cons, List.flatMap_cons, List.length_append, List.length_cons]
    exact ⟨by omega, by omega⟩
theorem tuple_parts {ws : List Wd} {nm : List ByteArray} {n : Nat} {x : Tm (n + 1)} {v : Wd} (h : Stands ws nm (n + 1) x v) (h4 : x.1.1 = 4) : ∃ p : Nat, v = (4, (p : Int)) ∧ ws[p]? = some (0, (x.2.2.length : Int)) ∧ p + 1 + x.2.2.length ≤ ws.length ∧ StandL ws nm n (partsOf ws p x.2.2.length) x.2.2 := by
  obtain ⟨p, e1, e2, e3, e4⟩ := h.2.1 h4
  refine ⟨p, e1, e2, e3, partsOf_length e3, fun i v' y hv hy => ?_⟩
  obtain ⟨u, e5, e6⟩ := e4 i y hy
  rw [partsOf_at (List.getElem?_eq_some_iff.1 hy).1, e5] at hv
  obtain rfl := Option.some.inj hv
  exact e6
theorem leaf_not4 {ws : List Wd} {nm : List ByteArray} {n : Nat} {x : Tm (n + 1)} {v : Wd} (h : Stands ws nm (n + 1) x v) (h4 : x.1.1 ≠ 4) : v.1 ≠ 4 := by
  by_cases h2 : x.1.1 = 2
  · obtain ⟨i, rfl, _⟩ := h.1 h2
    simp
  · rw [h.2.2 h2 h4]
    exact h4
theorem cpF_sizes {ws : List Wd} {nm : List ByteArray} : (n : Nat) → (x : Tm n) → (v : Wd) → (S : List Wd × Went) → Stands ws nm n x v → ((cpF ws n v S).2.1.length : Int) ≤ S.1.length + sz n x ∧ (cpF ws n v S).2.2.length ≤ S.2.length + (nodes n x).length
  | 0, _, _, _, h => h.elim
  | n + 1, x, v, S, h => by
    have hz := (sz_bound (n + 1) x).1
    by_cases h4 : x.1.1 = 4
    · obtain ⟨p, rfl, hp, hl, hs⟩ := tuple_parts h h4
      cases hk : look S.2 p with
      | some q =>
        rw [cpF_old hk]
        exact ⟨by simp only; omega, by simp only; omega⟩
      | none =>
        rw [cpF_new hk hp]
        obtain ⟨a, b⟩ := cpL_sizes (fun x v S hh => cpF_sizes n x v S hh) (partsOf ws p x.2.2.length) x.2.2 S hs
        have e := cpL_length (cpF ws n) (partsOf ws p x.2.2.length) S
        rw [partsOf_length hl] at e
        have k5 : (nodes (n + 1) x).length = 1 + (x.2.2.flatMap fun y => nodes n y).length := by simp [nodes]; omega
        simp only [List.length_append, List.length_cons, e, sz, if_pos h4, k5]
        exact ⟨by omega, by omega⟩
    · rw [cpF_leaf (leaf_not4 h h4)]
      exact ⟨by simp only; omega, by simp only; omega⟩
end Go.Proofs.Ytdlckjjfbobmpaa
