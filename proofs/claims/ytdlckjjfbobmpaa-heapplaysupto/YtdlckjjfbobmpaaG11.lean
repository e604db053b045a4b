/- What is proved here: plain facts and contracts that the claimed theorem stands on, several texts in one: heap.lay: the word of a term that is right and lies in memory, and what it lays. No condition but sizes, and that the term lies outside of the heap's own blocks. heap.term and heap.tupleOf: the term that a word stands for, in new memory. No condition but that the word stands for a right term. -/
import Derived.Test.YtdlckjjfbobmpaaG10
namespace Go.Proofs.Ytdlckjjfbobmpaa
open Go.RowKit

theorem HpAt.inside {base hp : Nat} {room : Int} {ws : List Wd} {nm : List ByteArray} {M : Nat → Prop} {w : World} (h : HpAt base hp room ws nm M w) : HpAt base hp room ws nm (fun b => M b ∧ b < w.heap.size) w := by
  obtain ⟨tv, lv, mv, h1, h2, h3, h4, h5, h6, h7⟩ := h
  refine ⟨tv, lv, mv, h1, h2, h3, ⟨h4, h1.lt⟩, fun b e => ⟨h5 b e, (h2.lt b e).2⟩, fun b e => ⟨h6 b e, (h3.1.lt b e).2⟩, fun b e => ⟨h7 b e, ?_⟩⟩
  rcases h3.2.2 with ⟨rfl, _⟩ | ⟨mb, D, rfl, _, hm, _⟩
  · simp [mapBlock] at e
  · simp only [mapBlock] at e
    obtain rfl := Option.some.inj e
    exact hm.lt
theorem HpAt.later {base hp : Nat} {room : Int} {ws : List Wd} {nm : List ByteArray} {M : Nat → Prop} {w wA : World} (h : HpAt base hp room ws nm M w) (hb : Below w.heap.size w wA) : HpAt base hp room ws nm (fun b => M b ∧ b < w.heap.size) wA :=
  h.inside.kept (keep_below hb (fun _ => False)) fun _ _ _ h => h
/-- Behind a call that laid something and then wrote its answer into a box of its own. -/
theorem laid_box {base hp : Nat} {room : Int} {ws : List Wd} {nm : List ByteArray} {M : Nat → Prop} {w wA w2 : World} (h : Laid base hp room ws nm (fun b => M b ∧ b < w.heap.size) wA w2) (hA : Below w.heap.size w wA) (hs : w.heap.size + 2 ≤ wA.heap.size) (v0 v1 : Value) :
    Laid base hp room ws nm M w ((w2.setCell ⟨w.heap.size + 1, 0, none⟩ v0).setCell ⟨w.heap.size + 1, 1, none⟩ v1) := by
  obtain ⟨h1, h2⟩ := h
  have k1 := keep_set w2 (w.heap.size + 1) 0 v0
  have k2 := keep_set (w2.setCell ⟨w.heap.size + 1, 0, none⟩ v0) (w.heap.size + 1) 1 v1
  have k3 := k1.trans k2 (fun b _ h => h)
  refine ⟨(h1.kept k3 ?_).mono ?_, ?_⟩
  · rintro b (⟨_, hb⟩ | hb) _ e
    · omega
    · omega
  · rintro b (⟨hm, _⟩ | hb)
    · exact Or.inl hm
    · exact Or.inr (by omega)
  · have h3 : Keep (fun b => (M b ∧ b < w.heap.size) ∨ b = w.heap.size + 1) wA _ := (h2.mono (fun b h => Or.inl h)).trans k3 (fun b _ h => Or.inr h)
    refine (keep_below hA M).trans h3 ?_
    rintro b hb (h | h)
    · exact h.1
    · omega
theorem laid_cells {base hp : Nat} {room : Int} {ws : List Wd} {nm : List ByteArray} {M : Nat → Prop} {w wA w2 : World} (h : Laid base hp room ws nm (fun b => M b ∧ b < w.heap.size) wA w2) : ∀ b, w.heap.size ≤ b → b < wA.heap.size → ∀ o, w2.cell? ⟨b, o, none⟩ = wA.cell? ⟨b, o, none⟩ ∧ w2.frozen? ⟨b, o, none⟩ = wA.frozen? ⟨b, o, none⟩ := by
  intro b h1 h2 o
  have e := h.2.block b h2 (fun h => by omega)
  exact ⟨block_cell e o, World.frozen?_of_block (a := ⟨b, o, none⟩) e⟩

set_option maxHeartbeats 1000000 in
set_option maxRecDepth 100000 in
theorem lay_else (hp : Nat) (k u : Int) (s : ByteArray) (a : Option Addr) (l c : Nat) (w : World) (h2 : ¬ k = 2) (h4 : ¬ k = 4) :
    Calls Try.prog 25 #[.pointer (some ⟨hp, 0, none⟩), .agg #[.int .i64 k, .int .i64 u, .string s, .slice a l c]] w fun e w' => e = .returned (.agg #[.int .i64 k, .int .i64 u]) ∧ Below w.heap.size w w' := by
  have b2 : (k == 2) = false := by simpa using h2
  have b4 : (k == 4) = false := by simpa using h4
  go_enter Try.func25, Try.ntmps25
  go_wp2_with fail
  exact bodyPost_ret (v := .agg #[.int .i64 k, .int .i64 u]) (by simp [results, Try.results25, go_sem]) rfl ⟨rfl, by go_grown⟩

set_option maxHeartbeats 1000000 in
set_option maxRecDepth 100000 in
theorem lay_atom (base hp : Nat) (room : Int) (ws : List Wd) (nm : List ByteArray) (M : Nat → Prop) (u : Int) (s : ByteArray) (a : Option Addr) (l c : Nat) (w : World) (h : Hid (HpAt base hp room ws nm M w)) (hbw : base ≤ w.heap.size) (hL : nm.length ≤ 100000) (hsz : s.size ≤ 2048) :
    Calls Try.prog 25 #[.pointer (some ⟨hp, 0, none⟩), .agg #[.int .i64 2, .int .i64 u, .string s, .slice a l c]] w fun e w' => e = .returned (.agg #[.int .i64 2, .int .i64 (nmIdx (nmPut nm s) s : Int)]) ∧ Hid (Laid base hp room ws (nmPut nm s) M w w') := by
  generalize hix : nmIdx (nmPut nm s) s = ix
  go_enter Try.func25, Try.ntmps25
  go_wp2_with fail
  generalize hwA : (w.alloc (Obj.cells #[Value.int IntKind.i64 2, Value.int IntKind.i64 u, Value.string s, Value.slice a l c] 32)).alloc (Obj.cells #[Value.int IntKind.i64 0, Value.int IntKind.i64 0] 38) = wA
  have HA : Hid (Below w.heap.size w wA.drew ∧ wA.drew.heap.size = w.heap.size + 2) := by
    subst hwA
    exact ⟨(((Below.refl _ _).alloc (Nat.le_refl _) _).alloc (by simp) _).drew, by simp [World.drew]⟩
  have e2 : wA.cell? ⟨w.heap.size, 2, none⟩ = some (.string s) := by subst hwA; simp [go_sem]
  have HR : Hid ((wA.cell? ⟨w.heap.size + 1, 0, none⟩ = some (.int .i64 0) ∧ wA.cell? ⟨w.heap.size + 1, 1, none⟩ = some (.int .i64 0)) ∧ wA.frozen? ⟨w.heap.size + 1, 0, none⟩ = false ∧ wA.frozen? ⟨w.heap.size + 1, 1, none⟩ = false) := by subst hwA; simp [Hid, go_sem]
  have HC : Hid (Calls Try.prog 38 #[.pointer (some ⟨hp, 2, none⟩), .string s] wA.drew fun e w' => e = .returned (.int .i64 ix) ∧ Hid (Laid base hp room ws (nmPut nm s) (fun b => M b ∧ b < w.heap.size) wA.drew w')) := by
    have hc := numberH base hp room ws nm _ s wA.drew (h.out.later HA.out.1) (by have := HA.out.2; omega) hL hsz
    rw [hix] at hc
    exact hc
  clear hwA hix
  go_region_held3 (fun w' => w'.cell? ⟨w.heap.size, 2, none⟩ = some (.string s)) (go_keep) ((go_at_call 38; refine HC.out.mono ?_; rintro e w2 ⟨rfl, HL⟩; have HCC := hide (laid_cells HL.out); have hcc := fun o => (HCC.out w.heap.size (Nat.le_refl _) (by have := HA.out.2; omega) o).1; have d0 := (HCC.out (w.heap.size + 1) (by omega) (by have := HA.out.2; omega) 0).1.trans HR.out.1.1; have d1 := (HCC.out (w.heap.size + 1) (by omega) (by have := HA.out.2; omega) 1).1.trans HR.out.1.2; have f0 := (HCC.out (w.heap.size + 1) (by omega) (by have := HA.out.2; omega) 0).2.trans HR.out.2.1; have f1 := (HCC.out (w.heap.size + 1) (by omega) (by have := HA.out.2; omega) 1).2.trans HR.out.2.2))
  have HF := hide (laid_box HL.out HA.out.1 (Nat.le_of_eq HA.out.2.symm) (.int .i64 2) (.int .i64 ix))
  go_wp2_with fail
  exact bodyPost_ret (v := .agg #[.int .i64 2, .int .i64 ix]) (by simp [results, Try.results25, go_sem, d0, d1]) rfl ⟨rfl, HF.out⟩

def wdV (x : Wd) : Value := .agg #[.int .i64 x.1, .int .i64 x.2]
def FLay (n : Nat) : Prop := ∀ (x : Tm n) (base hp : Nat) (room : Int) (ws : List Wd) (nm : List ByteArray) (M : Nat → Prop) (w : World), HpAt base hp room ws nm M w → In w.heap.size w n x → Off (fun b => ¬ M b) n x → base ≤ w.heap.size → RightA ⟨n, x⟩ → ws.length + 2 * (nodes n x).length ≤ 99000 → nm.length + (nodes n x).length ≤ 99000 →
  Calls Try.prog 25 #[.pointer (some ⟨hp, 0, none⟩), val n x] w fun e w' => e = .returned (wdV (layF n x ws nm).1) ∧ Hid (Laid base hp room (layF n x ws nm).2.1 (layF n x ws nm).2.2 M w w')

/-- The parts of a tuple, k of which are laid. -/
def LayP (n : Nat) (p : List (Tm n)) (len base hp : Nat) (room : Int) (ws : List Wd) (nm : List ByteArray) (M : Nat → Prop) (g : Nat) (w wB : World) (k : Nat) (wr : World) : Prop :=
  wr.ownsRow g 38 2 (.slice (some ⟨g, 0, none⟩) len len) len (wCells ((layL (layF n) (p.take k) ws nm).1 ++ List.replicate (len - k) (0, 0))) ∧
  HpAt base hp room (layL (layF n) (p.take k) ws nm).2.1 (layL (layF n) (p.take k) ws nm).2.2 (fun b => (M b ∧ b < w.heap.size) ∨ wB.heap.size ≤ b) wr ∧
  Keep (fun b => (M b ∧ b < w.heap.size) ∨ b = g) wB wr

theorem made_zero2 (n : Nat) : (madeCells #[.int .i64 0, .int .i64 0] (n * 2)).toList = wCells (List.replicate n (0, 0)) := by
  apply List.ext_getElem?
  intro i
  by_cases h : i < n * 2
  · obtain ⟨k, j, hj, rfl⟩ : ∃ k j, j < 2 ∧ i = k * 2 + j := ⟨i / 2, i % 2, Nat.mod_lt _ (by decide), by omega⟩
    have hk : k < n := by omega
    rw [wCells_at _ k (0, 0) (by simp [hk]) j hj]
    have e2 : (madeCells #[.int .i64 0, .int .i64 0] (n * 2))[k * 2 + j]? = some ((#[.int .i64 0, .int .i64 0] : Array Value)[(k * 2 + j) % 2]!) := by
      simp [madeCells, h]
    rw [Array.getElem?_toList, e2, show (k * 2 + j) % 2 = j by omega]
    have : j = 0 ∨ j = 1 := by omega
    rcases this with rfl | rfl <;> rfl
  · rw [List.getElem?_eq_none (by simp [size_madeCells]; omega), List.getElem?_eq_none (by rw [wCells_length]; simp; omega)]
theorem wCells_set : (l : List Wd) → (i : Nat) → (x : Wd) → i < l.length → ((wCells l).set (i * 2) (.int .i64 x.1)).set (i * 2 + 1) (.int .i64 x.2) = wCells (l.set i x)
  | [], i, x, h => by simp at h
  | y :: l, 0, x, _ => by simp [wCells, wd2]
  | y :: l, i + 1, x, h => by
    have ih := wCells_set l i x (by simpa using h)
    have e : wCells (y :: l) = wd2 y ++ wCells l := rfl
    have e' : wCells ((y :: l).set (i + 1) x) = wd2 y ++ wCells (l.set i x) := rfl
    have hy : (wd2 y).length = 2 := rfl
    rw [e, e', ← ih]
    rw [List.set_append_right _ _ (by rw [hy]; omega), List.set_append_right _ _ (by rw [hy]; omega), hy]
    rw [show (i + 1) * 2 - 2 = i * 2 by omega, show (i + 1) * 2 + 1 - 2 = i * 2 + 1 by omega]

theorem lay_made {n : Nat} {p : List (Tm n)} {len base hp : Nat} {room : Int} {ws : List Wd} {nm : List ByteArray} {M : Nat → Prop} {w w0 : World} {t0 t1 t2 t3 : Value} (h : HpAt base hp room ws nm M w)
    (ho : w0.ownsRow (w.heap.size + 2) 38 2 (.slice (some ⟨((w.alloc (.cells #[t0, t1, t2, t3] 32)).alloc (.cells #[.int .i64 0, .int .i64 0] 38)).heap.size, 0, none⟩) len len) len (madeCells (Value.agg #[.int .i64 0, .int .i64 0]).cells (len * 2)).toList)
    (hg : ((w.alloc (.cells #[t0, t1, t2, t3] 32)).alloc (.cells #[.int .i64 0, .int .i64 0] 38)).grownBy w0 none) :
    (LayP n p len base hp room ws nm M (w.heap.size + 2) w w0 0 w0 ∧ Below w.heap.size w w0 ∧ w.heap.size + 2 < w0.heap.size) ∧ w0.cell? ⟨w.heap.size, 3, none⟩ = some t3 ∧
    (w0.cell? ⟨w.heap.size + 1, 0, none⟩ = some (.int .i64 0) ∧ w0.cell? ⟨w.heap.size + 1, 1, none⟩ = some (.int .i64 0)) ∧ w0.frozen? ⟨w.heap.size + 1, 0, none⟩ = false ∧ w0.frozen? ⟨w.heap.size + 1, 1, none⟩ = false := by
  have e : ((w.alloc (.cells #[t0, t1, t2, t3] 32)).alloc (.cells #[.int .i64 0, .int .i64 0] 38)).heap.size = w.heap.size + 2 := by simp
  rw [e] at ho
  have hb1 : Below w.heap.size w ((w.alloc (.cells #[t0, t1, t2, t3] 32)).alloc (.cells #[.int .i64 0, .int .i64 0] 38)) := ((Below.refl _ _).alloc (Nat.le_refl _) _).alloc (by simp) _
  have hb2 : Below (w.heap.size + 2) ((w.alloc (.cells #[t0, t1, t2, t3] 32)).alloc (.cells #[.int .i64 0, .int .i64 0] 38)) w0 := ⟨hg.os, hg.tape, hg.output, hg.size, fun b hb => hg.block b (by omega) (by simp)⟩
  have hb := hb1.trans (hb2.mono (by omega))
  have hcc := below_cells hb2
  have hff := below_free hb2
  refine ⟨⟨⟨?_, ?_, Keep.refl _ _⟩, hb, (ho.lt _ rfl).2⟩, ?_, ⟨?_, ?_⟩, ?_, ?_⟩
  · simp only [List.take_zero, layL, List.nil_append, Nat.sub_zero]
    have e2 := made_zero2 len
    have e3 : (Value.agg #[.int .i64 0, .int .i64 0]).cells = #[.int .i64 0, .int .i64 0] := rfl
    rw [e3, e2] at ho
    exact ho
  · simp only [List.take_zero, layL]
    exact (h.later hb).mono fun b h => Or.inl h
  · rw [hcc _ _ (by omega)]; simp [go_sem]
  · rw [hcc _ _ (by omega)]; simp [go_sem]
  · rw [hcc _ _ (by omega)]; simp [go_sem]
  · rw [hff _ _ (by omega)]; simp [go_sem]
  · rw [hff _ _ (by omega)]; simp [go_sem]

theorem own_cell2 {w : World} {base g L c : Nat} {ws : List Wd} (h : w.ownsRow base 38 2 (.slice (some ⟨g, 0, none⟩) L c) L (wCells ws)) : ∀ j, w.frozen? ⟨g, j, none⟩ = false := by
  intro j
  rcases h.2 with ⟨h2, _⟩ | ⟨g', cap, cur, hv, hg, hh, _⟩
  · simp at h2
  · injection hv with e1 e2 e3
    injection e1 with e1
    injection e1 with e1 _
    subst e1
    simp [World.frozen?, hh]

theorem LayP.step {n : Nat} {p : List (Tm n)} {len base hp : Nat} {room : Int} {ws : List Wd} {nm : List ByteArray} {M : Nat → Prop} {g : Nat} {w wB : World} {k : Nat} {wr w1 w2 : World} (H : LayP n p len base hp room ws nm M g w wB k wr) (hg : w.heap.size ≤ g) (hgB : g < wB.heap.size) (hk : k < len) (hpl : p.length = len) {x : Tm n} (hx : p[k]? = some x) (hb : Below wr.heap.size wr w1)
    (hL : Laid base hp room (layF n x (layL (layF n) (p.take k) ws nm).2.1 (layL (layF n) (p.take k) ws nm).2.2).2.1 (layF n x (layL (layF n) (p.take k) ws nm).2.1 (layL (layF n) (p.take k) ws nm).2.2).2.2 (fun b => ((M b ∧ b < w.heap.size) ∨ wB.heap.size ≤ b) ∧ b < wr.heap.size) w1 w2) :
    LayP n p len base hp room ws nm M g w wB (k + 1) ((w2.setCell ⟨g, k * 2, none⟩ (.int .i64 (layF n x (layL (layF n) (p.take k) ws nm).2.1 (layL (layF n) (p.take k) ws nm).2.2).1.1)).setCell ⟨g, k * 2 + 1, none⟩ (.int .i64 (layF n x (layL (layF n) (p.take k) ws nm).2.1 (layL (layF n) (p.take k) ws nm).2.2).1.2)) ∧
    (w2.cell? ⟨g, k * 2, none⟩ = some (.int .i64 0) ∧ w2.cell? ⟨g, k * 2 + 1, none⟩ = some (.int .i64 0)) ∧ w2.frozen? ⟨g, k * 2, none⟩ = false ∧ w2.frozen? ⟨g, k * 2 + 1, none⟩ = false := by
  obtain ⟨H1, H2, H3⟩ := H
  obtain ⟨L1, L2⟩ := hL
  have hgr : g < wr.heap.size := (H1.lt g rfl).2
  have hs1 := hb.size
  have hs3 := H3.size
  have e0 : layL (layF n) (p.take (k + 1)) ws nm = ((layL (layF n) (p.take k) ws nm).1 ++ [(layF n x (layL (layF n) (p.take k) ws nm).2.1 (layL (layF n) (p.take k) ws nm).2.2).1], (layF n x (layL (layF n) (p.take k) ws nm).2.1 (layL (layF n) (p.take k) ws nm).2.2).2) := by
    rw [List.take_add_one, hx]
    exact layL_snoc _ _ _ _ _
  have hl : (layL (layF n) (p.take k) ws nm).1.length = k := by rw [layL_length, List.length_take]; omega
  have r2 : w2.ownsRow g 38 2 (.slice (some ⟨g, 0, none⟩) len len) len (wCells ((layL (layF n) (p.take k) ws nm).1 ++ List.replicate (len - k) (0, 0))) := by
    refine row_kept (own_below H1 hb) L2 fun b e => ?_
    simp only [Value.ownBlock] at e
    obtain rfl := Option.some.inj e
    omega
  generalize layL (layF n) (p.take k) ws nm = R at *
  generalize layF n x R.2.1 R.2.2 = Y at *
  have hz : (R.1 ++ List.replicate (len - k) (0, 0))[k]? = some ((0, 0) : Wd) := by
    rw [List.getElem?_append_right (by omega), hl, Nat.sub_self, List.getElem?_replicate]
    simp; omega
  have k1 := keep_set w2 g (k * 2) (.int .i64 Y.1.1)
  have k2 := keep_set (w2.setCell ⟨g, k * 2, none⟩ (.int .i64 Y.1.1)) g (k * 2 + 1) (.int .i64 Y.1.2)
  have k3 := k1.trans k2 (fun b _ h => h)
  refine ⟨⟨?_, ?_, ?_⟩, word_cells r2 k (0, 0) hz, own_cell2 r2 _, own_cell2 r2 _⟩
  · rw [e0]
    have hh := cell_set (cell_set r2 (k * 2) (.int .i64 Y.1.1)) (k * 2 + 1) (.int .i64 Y.1.2)
    rw [wCells_set _ k Y.1 (by simp; omega)] at hh
    have es : (R.1 ++ List.replicate (len - k) ((0, 0) : Wd)).set k Y.1 = (R.1 ++ [Y.1]) ++ List.replicate (len - (k + 1)) (0, 0) := by
      rw [List.set_append_right _ _ (by omega)]
      have : len - k = (len - (k + 1)) + 1 := by omega
      rw [this, List.replicate_succ]
      simp [hl]
    rw [es] at hh
    exact hh
  · rw [e0]
    refine (L1.kept k3 ?_).mono ?_
    · rintro b (⟨h, _⟩ | h) _ e <;> omega
    · rintro b (⟨h, _⟩ | h)
      · exact h
      · exact Or.inr (by omega)
  · have h1 : Keep (fun b => (M b ∧ b < w.heap.size) ∨ b = g) wB w1 := H3.trans (keep_below hb (fun _ => False)) (fun _ _ h => h.elim)
    have h2 : Keep (fun b => (M b ∧ b < w.heap.size) ∨ b = g) wB w2 := h1.trans L2 (fun b hb' h => by
      rcases h.1 with h | h
      · exact Or.inl h
      · omega)
    exact h2.trans k3 (fun b _ h => Or.inr h)

theorem lay_term {n : Nat} {p : List (Tm n)} {len base hp : Nat} {room : Int} {ws : List Wd} {nm : List ByteArray} {M : Nat → Prop} {g : Nat} {w wB : World} {k : Nat} {wr : World} (H : LayP n p len base hp room ws nm M g w wB k wr) (hg : w.heap.size < g) (hgB : g < wB.heap.size) (hB : Below w.heap.size w wB) {b o : Nat} (hb : b < w.heap.size) (hm : ¬ M b) {x : Tm n} (h1 : Held w b o n x) (h2 : In w.heap.size w n x) (h3 : Off (fun b => ¬ M b) n x) :
    Held wr b o n x ∧ In w.heap.size wr n x ∧ Off (fun b => ¬ (((M b ∧ b < w.heap.size) ∨ wB.heap.size ≤ b) ∧ b < wr.heap.size)) n x := by
  have hkeep : ∀ q, ¬ M q ∧ q < w.heap.size → wr.heap[q]? = wB.heap[q]? := fun q hq => H.2.2.block q (by omega) (by rintro (h | h); exact hq.1 h.1; omega)
  refine ⟨(h1.below hB hb).block (hkeep b ⟨hm, hb⟩), In.off hkeep (In.offB h3 h2) (h2.below hB), (In.offB h3 h2).mono ?_⟩
  rintro q ⟨hq1, hq2⟩ ⟨h | h, _⟩
  · exact hq1 h.1
  · omega

theorem lay_last {n : Nat} {p : List (Tm n)} {len base hp : Nat} {room : Int} {ws : List Wd} {nm : List ByteArray} {M : Nat → Prop} {g : Nat} {w wB : World} {wr : World} (H : LayP n p len base hp room ws nm M g w wB len wr) (hpl : p.length = len) (hg : g = w.heap.size + 2) (hgB : g < wB.heap.size) (hB : Below w.heap.size w wB) :
    HpAt base hp room (layL (layF n) p ws nm).2.1 (layL (layF n) p ws nm).2.2 (fun b => ((M b ∧ b < w.heap.size) ∨ wB.heap.size ≤ b)) wr ∧ (∀ w1, Keep (fun b => ((M b ∧ b < w.heap.size) ∨ wB.heap.size ≤ b)) wr w1 → WordsAt w1 (layL (layF n) p ws nm).1 (some ⟨g, 0, none⟩)) ∧
    (∀ o, wr.cell? ⟨w.heap.size + 1, o, none⟩ = wB.cell? ⟨w.heap.size + 1, o, none⟩ ∧ wr.frozen? ⟨w.heap.size + 1, o, none⟩ = wB.frozen? ⟨w.heap.size + 1, o, none⟩) ∧
    ∀ ws' nm' w2, Laid base hp room ws' nm' (fun b => ((M b ∧ b < w.heap.size) ∨ wB.heap.size ≤ b)) wr w2 →
      (∀ o, w2.cell? ⟨w.heap.size + 1, o, none⟩ = wr.cell? ⟨w.heap.size + 1, o, none⟩ ∧ w2.frozen? ⟨w.heap.size + 1, o, none⟩ = wr.frozen? ⟨w.heap.size + 1, o, none⟩) ∧
      ∀ v0 v1, Laid base hp room ws' nm' M w ((w2.setCell ⟨w.heap.size + 1, 0, none⟩ v0).setCell ⟨w.heap.size + 1, 1, none⟩ v1) := by
  obtain ⟨H1, H2, H3⟩ := H
  rw [List.take_of_length_le (by omega)] at H1 H2
  rw [Nat.sub_self, List.replicate_zero, List.append_nil] at H1
  have hs3 := H3.size
  refine ⟨H2, fun w1 hk => Or.inr ⟨_, rfl, fun j u hj => ?_⟩, fun o => ?_, fun ws' nm' w2 hL => ⟨fun o => ?_, fun v0 v1 => ?_⟩⟩
  · have := (row_kept H1 hk (fun b e => by
      simp only [Value.ownBlock] at e
      obtain rfl := Option.some.inj e
      omega)).cells (g := g) rfl j u hj
    exact this
  · have e := H3.block (w.heap.size + 1) (by omega) (by omega)
    exact ⟨block_cell e o, World.frozen?_of_block (a := ⟨w.heap.size + 1, o, none⟩) e⟩
  · have e := hL.2.block (w.heap.size + 1) (by omega) (by omega)
    exact ⟨block_cell e o, World.frozen?_of_block (a := ⟨w.heap.size + 1, o, none⟩) e⟩
  · obtain ⟨L1, L2⟩ := hL
    have k1 := keep_set w2 (w.heap.size + 1) 0 v0
    have k2 := keep_set (w2.setCell ⟨w.heap.size + 1, 0, none⟩ v0) (w.heap.size + 1) 1 v1
    have k3 := k1.trans k2 (fun b _ h => h)
    refine ⟨(L1.kept k3 ?_).mono ?_, ?_⟩
    · rintro b (h | h) _ e <;> omega
    · rintro b ((h | h) | h)
      · exact Or.inl h.1
      · exact Or.inr (by omega)
      · exact Or.inr (by omega)
    · refine (((keep_below hB M).trans H3 ?_).trans L2 ?_).trans k3 ?_
      · rintro b hb (h | h)
        · exact h.1
        · omega
      · rintro b hb (h | h)
        · exact h.1
        · have := hB.size; omega
      · intro b hb h
        omega

theorem layL_sizes (n : Nat) (l : List (Tm n)) (ws : List Wd) (nm : List ByteArray) : (layL (layF n) l ws nm).2.1.length ≤ ws.length + 2 * (l.flatMap fun y => nodes n y).length ∧ (layL (layF n) l ws nm).2.2.length ≤ nm.length + (l.flatMap fun y => nodes n y).length := by
  induction l generalizing ws nm with
  | nil => simp [layL]
  | cons y l ih =>
    obtain ⟨a1, a2⟩ := layF_sizes n y ws nm
    obtain ⟨b1, b2⟩ := ih (layF n y ws nm).2.1 (layF n y ws nm).2.2
    have c := (sz_bound n y).2
    simp only [layL, List.flatMap_cons, List.length_append]
    exact ⟨by omega, by omega⟩
theorem lay_room (n : Nat) (p : List (Tm n)) (k : Nat) (x : Tm n) (hx : p[k]? = some x) : ((p.take k).flatMap fun y => nodes n y).length + (nodes n x).length ≤ (p.flatMap fun y => nodes n y).length := by
  have h := List.getElem?_eq_some_iff.1 hx
  obtain ⟨hl, rfl⟩ := h
  have e : p = p.take k ++ p[k] :: p.drop (k + 1) := by
    rw [← List.drop_eq_getElem_cons hl, List.take_append_drop]
  conv => rhs; rw [e]
  simp only [List.flatMap_append, List.flatMap_cons, List.length_append]
  omega

set_option maxHeartbeats 1000000 in
set_option maxRecDepth 100000 in
theorem lay_tup (n : Nat) (ih : FLay n) (base hp : Nat) (room : Int) (ws : List Wd) (nm : List ByteArray) (M : Nat → Prop) (u : Int) (s : ByteArray) (a : Option Addr) (len pc : Nat) (p : List (Tm n)) (hpl : Hid (p.length = len)) (w : World) (h : Hid (HpAt base hp room ws nm M w)) (hlen : len ≤ 8) (hbw : base ≤ w.heap.size)
    (hpp : Hid (p = [] ∨ ∃ b o, a = some ⟨b, o, none⟩ ∧ b < w.heap.size ∧ ¬ M b ∧ ∀ (i : Nat) (y : Tm n), p[i]? = some y → Held w b (o + i * 4) n y ∧ In w.heap.size w n y ∧ Off (fun b => ¬ M b) n y))
    (hr : Hid (∀ y ∈ p, RightA ⟨n, y⟩)) (hw : Hid (ws.length + 2 * (p.flatMap fun y => nodes n y).length ≤ 99000)) (hn : Hid (nm.length + (p.flatMap fun y => nodes n y).length ≤ 99000)) :
    Calls Try.prog 25 #[.pointer (some ⟨hp, 0, none⟩), .agg #[.int .i64 4, .int .i64 u, .string s, .slice a len pc]] w fun e w' => e = .returned (wdV (4, ((layL (layF n) p ws nm).2.1.length : Int))) ∧ Hid (Laid base hp room ((layL (layF n) p ws nm).2.1 ++ (0, (len : Int)) :: (layL (layF n) p ws nm).1) (layL (layF n) p ws nm).2.2 M w w') := by
  obtain ⟨it, hit, htz0, htz1, htz2⟩ := info_parts infoWord
  go_enter Try.func25, Try.ntmps25
  go_wp2_with (at_make; refine wpList_make_full _ rfl _ _ 28 rfl (w.heap.size + 2) 38 it _ 2 Try.underlying28 hit htz0 htz1 _ _ _ _ len rfl rfl rfl rfl (by rw [htz2]; omega) (by unfold maxLen; omega) (by simp) ?_; intro w0 hown0 hgrow0; have HM := hide (lay_made (p := p) h.out hown0 hgrow0); have c3 := HM.out.2.1; clear hown0 hgrow0)
  clear hit htz0 htz1 htz2
  obtain ⟨g, hg⟩ : ∃ g, w.heap.size + 1 + 1 = g := ⟨_, rfl⟩
  have HLP : Hid (LayP n p len base hp room ws nm M g w w0 0 w0) := by subst hg; exact HM.out.1.1
  have hgB : g < w0.heap.size := by subst hg; exact HM.out.1.2.2
  rw [hg]
  go_loopw [28] (fun i wr => ∃ k : Nat, k ≤ len ∧ i = .int .i64 k ∧ Hid (LayP n p len base hp room ws nm M g w w0 k wr)) (fun i _ => len - (intOf i).toNat)
  case atStart => exact ⟨0, by omega, rfl, HLP.out⟩
  case round =>
    clear HLP
    obtain ⟨k, hk, rfl, HL⟩ := hrel
    by_cases hlt : k < len
    · obtain ⟨x, hx⟩ : ∃ x, p[k]? = some x := ⟨p[k]'(by rw [hpl.out]; exact hlt), List.getElem?_eq_getElem _⟩
      obtain ⟨b, o, rfl, hb, hm, hpp2⟩ : ∃ b o, a = some ⟨b, o, none⟩ ∧ b < w.heap.size ∧ ¬ M b ∧ ∀ (i : Nat) (y : Tm n), p[i]? = some y → Held w b (o + i * 4) n y ∧ In w.heap.size w n y ∧ Off (fun b => ¬ M b) n y := by
        rcases hpp.out with e | e
        · rw [e] at hx; simp at hx
        · exact e
      obtain ⟨hx1, hx2, hx3⟩ := hpp2 k x hx
      obtain ⟨y1, y2, y3⟩ := lay_term HL.out (by omega) hgB HM.out.1.2.1 hb hm hx1 hx2 hx3
      have hgr : g < wr.heap.size := (HL.out.1.lt g rfl).2
      have hw0 := HL.out.2.2.size
      cases n with
      | zero => exact y1.elim
      | succ n =>
      obtain ⟨V, HC⟩ : ∃ V : Wd, Hid (∀ w1, Below wr.heap.size wr w1 → Calls Try.prog 25 #[.pointer (some ⟨hp, 0, none⟩), .agg #[.int .i64 x.1.1, .int .i64 x.1.2.1, .string x.1.2.2, .slice x.2.1.1 x.2.2.length x.2.1.2]] w1 fun e w2 => e = .returned (.agg #[.int .i64 V.1, .int .i64 V.2]) ∧
          Hid (LayP (n + 1) p len base hp room ws nm M g w w0 (k + 1) ((w2.setCell ⟨g, k * 2, none⟩ (.int .i64 V.1)).setCell ⟨g, k * 2 + 1, none⟩ (.int .i64 V.2)) ∧
            (w2.cell? ⟨g, k * 2, none⟩ = some (.int .i64 0) ∧ w2.cell? ⟨g, k * 2 + 1, none⟩ = some (.int .i64 0)) ∧ w2.frozen? ⟨g, k * 2, none⟩ = false ∧ w2.frozen? ⟨g, k * 2 + 1, none⟩ = false)) := by
        refine ⟨(layF (n + 1) x (layL (layF (n + 1)) (p.take k) ws nm).2.1 (layL (layF (n + 1)) (p.take k) ws nm).2.2).1, fun w1 h1 => ?_⟩
        have hz := layL_sizes (n + 1) (p.take k) ws nm
        have hzz := lay_room (n + 1) p k x hx
        have hw' := hw.out
        have hn' := hn.out
        have hs1 := h1.size
        refine (ih x base hp room _ _ _ w1 (HL.out.2.1.later h1) ((y2.below (h1.mono (by omega))).mono (by omega)) y3 (by omega) (hr.out x (List.mem_of_getElem? hx)) (by omega) (by omega)).mono ?_
        rintro e w2 ⟨rfl, HLD⟩
        exact ⟨rfl, HL.out.step (by omega) hgB hlt hpl.out hx h1 HLD.out⟩
      obtain ⟨x0, x1, x2, x3⟩ := y1
      clear ih HL hpp hpp2 hx1 hx2 hx3 y2 y3 hx hm hw hn hr
      generalize x.2.2.length = xl at *
      have hk1 : (0 : Int) ≤ (k : Int) := by omega
      have hk2 : (k : Int) < (len : Int) := by omega
      have hbr : b < wr.heap.size := by omega
      go_wp2_with fail
      refine (HC.out _ ((Below.refl _ _).alloc (Nat.le_refl _) _)).mono ?_
      rintro e w2 ⟨rfl, HS⟩
      obtain ⟨⟨d0, d1⟩, f0, f1⟩ := HS.out.2
      clear HC x0 x1 x2 x3
      go_wp2_with fail
      go_roundw
      case rel => exact ⟨k + 1, by omega, by go_num, HS.out.1⟩
      case measure => simp [intOf]; omega
    · obtain rfl : k = len := by omega
      have HE := hide (lay_last HL.out hpl.out hg.symm hgB HM.out.1.2.1)
      have HC : Hid (Calls Try.prog 30 #[.pointer (some ⟨hp, 1, none⟩), .slice (some ⟨g, 0, none⟩) k k] wr fun e w' => e = .returned (.agg #[.int .i64 4, .int .i64 (layL (layF n) p ws nm).2.1.length]) ∧ Hid (Laid base hp room ((layL (layF n) p ws nm).2.1 ++ (0, (k : Int)) :: (layL (layF n) p ws nm).1) (layL (layF n) p ws nm).2.2 _ wr w')) :=
        addH base hp room (layL (layF n) p ws nm).2.1 (layL (layF n) p ws nm).2.2 _ (layL (layF n) p ws nm).1 k k (some ⟨g, 0, none⟩) wr HE.out.1 (by have := HL.out.2.2.size; omega) (by have := (layL_sizes n p ws nm).1; have := hw.out; omega) (by rw [layL_length]; exact hpl.out) (by omega) HE.out.2.1
      have HR := HM.out.2.2
      clear HL HM ih hpp
      go_wp2_with fail
      refine HC.out.mono ?_
      rintro e w2 ⟨rfl, HLD⟩
      have HF := hide (HE.out.2.2.2 _ _ w2 HLD.out)
      have d0 := ((HF.out.1 0).1.trans (HE.out.2.2.1 0).1).trans HR.1.1
      have d1 := ((HF.out.1 1).1.trans (HE.out.2.2.1 1).1).trans HR.1.2
      have f0 := ((HF.out.1 0).2.trans (HE.out.2.2.1 0).2).trans HR.2.1
      have f1 := ((HF.out.1 1).2.trans (HE.out.2.2.1 1).2).trans HR.2.2
      clear HC HE HLD HR
      go_wp2_with fail
      exact bodyPost_ret (v := .agg #[.int .i64 4, .int .i64 ((layL (layF n) p ws nm).2.1.length : Int)]) (by simp [results, Try.results25, go_sem, d0, d1]) rfl ⟨rfl, HF.out.2 _ _⟩

theorem laid_else {base hp : Nat} {room : Int} {ws : List Wd} {nm : List ByteArray} {M : Nat → Prop} {w w' : World} (h : HpAt base hp room ws nm M w) (hb : Below w.heap.size w w') : Laid base hp room ws nm M w w' :=
  ⟨(h.later hb).mono fun _ h => Or.inl h.1, keep_below hb M⟩

theorem lay_any (n : Nat) : FLay n := by
  induction n with
  | zero => intro x base hp room ws nm M w _ hx; exact hx.elim
  | succ n ih =>
    intro x base hp room ws nm M w h hx ho hbw hr hw hn
    have hx2 := hx
    obtain ⟨⟨x1, x2, hsz, hpl, hpc⟩, hp2⟩ := hx2
    have hg := hr (hdOf n x) (by simp [nodes, hdOf])
    have hlen : x.2.2.length ≤ 8 := good_len (hdOf n x) hg
    have hname : x.1.2.2.size ≤ 2048 := by have := good_name (hdOf n x) hg; simp only [hdOf] at this; omega
    have hnodes : (nodes (n + 1) x).length = 1 + (x.2.2.flatMap fun y => nodes n y).length := by simp [nodes]; omega
    by_cases h2 : x.1.1 = 2
    · have e : layF (n + 1) x ws nm = ((2, (nmIdx (nmPut nm x.1.2.2) x.1.2.2 : Int)), ws, nmPut nm x.1.2.2) := by simp only [layF, if_pos h2]
      rw [e]
      have hc := lay_atom base hp room ws nm M x.1.2.1 x.1.2.2 x.2.1.1 x.2.2.length x.2.1.2 w h hbw (by omega) hname
      rw [← h2] at hc
      refine hc.mono ?_
      rintro e w' ⟨rfl, H⟩
      exact ⟨by rw [h2]; rfl, H⟩
    · by_cases h4 : x.1.1 = 4
      · have e : layF (n + 1) x ws nm = ((4, ((layL (layF n) x.2.2 ws nm).2.1.length : Int)), (layL (layF n) x.2.2 ws nm).2.1 ++ (0, (x.2.2.length : Int)) :: (layL (layF n) x.2.2 ws nm).1, (layL (layF n) x.2.2 ws nm).2.2) := by simp only [layF, if_neg h2, if_pos h4]
        rw [e]
        have hc := lay_tup n ih base hp room ws nm M x.1.2.1 x.1.2.2 x.2.1.1 x.2.2.length x.2.1.2 x.2.2 rfl w h hlen hbw ?_ (fun y hy => parts_right n x y hr hy) (by unfold Hid; omega) (by unfold Hid; omega)
        · rw [← h4] at hc
          refine hc.mono ?_
          rintro e w' ⟨rfl, H⟩
          exact ⟨by rw [h4], H⟩
        · rcases hp2 with hp2 | ⟨b, o, e, hb, hp2⟩
          · exact Or.inl hp2
          · rcases ho with ho | ⟨b', o', e', hb', ho⟩
            · exact Or.inl ho
            · rw [e] at e'
              injection e' with e'
              injection e' with e1 e2
              subst e1 e2
              exact Or.inr ⟨b, o, e, hb, hb', fun i y hy => ⟨(hp2 i y hy).1, (hp2 i y hy).2, ho i y hy⟩⟩
      · have e : layF (n + 1) x ws nm = ((x.1.1, x.1.2.1), ws, nm) := by simp only [layF, if_neg h2, if_neg h4]
        rw [e]
        refine (lay_else hp x.1.1 x.1.2.1 x.1.2.2 x.2.1.1 x.2.2.length x.2.1.2 w h2 h4).mono ?_
        rintro e w' ⟨rfl, hb⟩
        exact ⟨rfl, laid_else h hb⟩
end Go.Proofs.Ytdlckjjfbobmpaa
namespace Go.Proofs.Ytdlckjjfbobmpaa
open Go.RowKit

/-- A word stands for a term. -/
def Stands (ws : List Wd) (nm : List ByteArray) : (n : Nat) → Tm n → Wd → Prop
  | 0, _, _ => False
  | n + 1, x, v => (x.1.1 = 2 → ∃ i : Nat, v = (2, (i : Int)) ∧ nm[i]? = some x.1.2.2) ∧
      (x.1.1 = 4 → ∃ p : Nat, v = (4, (p : Int)) ∧ ws[p]? = some (0, (x.2.2.length : Int)) ∧ p + 1 + x.2.2.length ≤ ws.length ∧ ∀ (i : Nat) (y : Tm n), x.2.2[i]? = some y → ∃ u, ws[p + 1 + i]? = some u ∧ Stands ws nm n y u) ∧
      (x.1.1 ≠ 2 → x.1.1 ≠ 4 → v = (x.1.1, x.1.2.1))

/-- Words, in memory. -/
def WordsIn (w : World) (vs : List Wd) (a : Option Addr) : Prop := vs = [] ∨ ∃ b o, a = some ⟨b, o, none⟩ ∧ b < w.heap.size ∧ ∀ (i : Nat) (v : Wd), vs[i]? = some v → w.cell? ⟨b, o + i * 2, none⟩ = some (.int .i64 v.1) ∧ w.cell? ⟨b, o + i * 2 + 1, none⟩ = some (.int .i64 v.2)

def FTm (n : Nat) : Prop := ∀ (x : Tm n) (v : Wd) (base hp : Nat) (room : Int) (ws : List Wd) (nm : List ByteArray) (M : Nat → Prop) (w : World), HpAt base hp room ws nm M w → ws.length ≤ 100000 → nm.length ≤ 100000 → Stands ws nm n x v → RightA ⟨n, x⟩ →
  Calls Try.prog 34 #[.pointer (some ⟨hp, 0, none⟩), wdV v] w fun e w' => ∃ y : Tm n, e = .returned (val n y) ∧ Hid (Below w.heap.size w w' ∧ In w'.heap.size w' n y ∧ Off (fun q => w.heap.size ≤ q) n y ∧ same n y n x = true)

/-- A box of a term that is all zero. -/
def Box4 (q : Nat) (w : World) : Prop := w.heap[q]? = some (.cells #[.int .i64 0, .int .i64 0, .string .empty, .slice none 0 0] 32)
theorem Box4.kept {q : Nat} {w w' : World} (h : Box4 q w) (k : w'.heap[q]? = w.heap[q]?) : Box4 q w' := k.trans h
theorem Box4.cells {q : Nat} {w : World} (h : Box4 q w) : (w.cell? ⟨q, 0, none⟩ = some (.int .i64 0) ∧ w.cell? ⟨q, 1, none⟩ = some (.int .i64 0) ∧ w.cell? ⟨q, 2, none⟩ = some (.string .empty) ∧ w.cell? ⟨q, 3, none⟩ = some (.slice none 0 0)) ∧ ∀ j, w.frozen? ⟨q, j, none⟩ = false := by
  unfold Box4 at h
  refine ⟨⟨?_, ?_, ?_, ?_⟩, fun j => ?_⟩
  all_goals simp [World.cell?, World.frozen?, h]
theorem tup_made {n : Nat} {p : List (Tm n)} {len : Nat} {w w0 : World}
    (ho : w0.ownsRow (w.heap.size + 1) 32 4 (.slice (some ⟨(w.alloc (.cells #[.int .i64 0, .int .i64 0, .string .empty, .slice none 0 0] 32)).heap.size, 0, none⟩) len len) len (madeCells (Value.agg #[.int .i64 0, .int .i64 0, .string .empty, .slice none 0 0]).cells (len * 4)).toList)
    (hg : (w.alloc (.cells #[.int .i64 0, .int .i64 0, .string .empty, .slice none 0 0] 32)).grownBy w0 none) :
    Below w.heap.size w w0 ∧ CpP n p len (w.heap.size + 1) 0 [] w0 ∧ Box4 w.heap.size w0 := by
  have e : (w.alloc (.cells #[.int .i64 0, .int .i64 0, .string .empty, .slice none 0 0] 32)).heap.size = w.heap.size + 1 := by simp
  have hb1 : Below w.heap.size w (w.alloc (.cells #[.int .i64 0, .int .i64 0, .string .empty, .slice none 0 0] 32)) := (Below.refl _ _).alloc (Nat.le_refl _) _
  have hb2 : Below (w.heap.size + 1) (w.alloc (.cells #[.int .i64 0, .int .i64 0, .string .empty, .slice none 0 0] 32)) w0 := ⟨hg.os, hg.tape, hg.output, hg.size, fun b hb => hg.block b (by omega) (by simp)⟩
  have hcp := cp_start (w := w.alloc (.cells #[.int .i64 0, .int .i64 0, .string .empty, .slice none 0 0] 32)) n p len (by rw [e] at ho ⊢; exact ho)
  rw [e] at hcp
  exact ⟨hb1.trans (hb2.mono (by omega)), hcp, (hb2.block _ (by omega)).trans (heap_alloc_new w _)⟩
theorem CpP.end {n : Nat} {p : List (Tm n)} {len g : Nat} {l : List (Tm n)} {w wr : World} (h : CpP n p len g len l wr) (hl : p.length = len) (hg : g = w.heap.size + 1) (hb : Below w.heap.size w wr) (hm : len ≤ maxLen) :
    ∀ v0 v1 v2 v3, CpRow n p w (put4 wr w.heap.size 0 v0 v1 v2 v3) (some ⟨g, 0, none⟩) len l := by
  intro v0 v1 v2 v3
  obtain ⟨h1, h2, h3, h4⟩ := h
  rw [List.take_of_length_le (by omega)] at h4
  rw [Nat.sub_self, List.replicate_zero, List.append_nil] at h2
  refine ⟨⟨hb.os, hb.tape, hb.output, Nat.le_trans hb.size (Nat.le_of_eq (put4_size _ _ _ _).symm), fun q hq => (put4_block (by omega) _ _ _ _).trans (hb.block q hq)⟩, by omega, by omega, hm, h4, Or.inr ⟨g, 0, rfl, ⟨by omega, rfl, fun j => ?_, fun y hy => (h3 y hy).2.mono fun q hq => by omega⟩, by rw [put4_size]; exact h2.lt.2, fun i y hy => ?_⟩⟩
  · have hf := h2.free j
    unfold World.frozen? at hf ⊢
    rw [put4_block (w := wr) (g := w.heap.size) (b := g) (o := 0) (by omega) v0 v1 v2 v3]
    exact hf
  have hc := h2.cells i ⟨n, y⟩ (by simp [hy])
  have hin := (h3 y (List.mem_of_getElem? hy)).1
  have hoff := (h3 y (List.mem_of_getElem? hy)).2
  refine ⟨?_, ?_, hoff.mono fun q hq => by omega⟩
  · cases n with
    | zero => exact hin.elim
    | succ n =>
      rw [Nat.zero_add]
      exact Held.block (put4_block (by omega) _ _ _ _) (n := n + 1) (x := y) hc
  · rw [put4_size]
    exact In.off (fun q hq => put4_block (by omega) _ _ _ _) hoff hin

set_option maxHeartbeats 1000000 in
set_option maxRecDepth 100000 in
theorem tupleOf_loop (n : Nat) (ih : FTm n) (base hp : Nat) (room : Int) (ws : List Wd) (nm : List ByteArray) (M : Nat → Prop) (a : Option Addr) (len pc : Nat) (p : List (Tm n)) (vs : List Wd) (hpl : Hid (p.length = len)) (hvl : Hid (vs.length = len)) (w : World) (h : Hid (HpAt base hp room ws nm M w)) (hlen : len ≤ 8) (hw : Hid (ws.length ≤ 100000)) (hn : Hid (nm.length ≤ 100000))
    (hin : Hid (WordsIn w vs a)) (hst : Hid (∀ (i : Nat) (y : Tm n) (v : Wd), p[i]? = some y → vs[i]? = some v → Stands ws nm n y v)) (hrp : Hid (∀ y ∈ p, RightA ⟨n, y⟩)) :
    Calls Try.prog 29 #[.pointer (some ⟨hp, 0, none⟩), .slice a len pc] w fun e w' => ∃ a' c' l, e = .returned (.agg #[.int .i64 4, .int .i64 0, .string .empty, .slice a' len c']) ∧ Hid (CpRow n p w w' a' c' l) := by
  obtain ⟨it, hit, htz0, htz1, htz2⟩ := info_parts infoTerm
  go_enter Try.func29, Try.ntmps29
  go_wp2_with (at_make; refine wpList_make_full _ rfl _ _ 29 rfl (w.heap.size + 1) 32 it _ 4 Try.underlying29 hit htz0 htz1 _ _ _ _ len rfl rfl rfl rfl (by rw [htz2]; omega) (by unfold maxLen; omega) (by simp) ?_; intro w0 hown0 hgrow0; have HT := hide (tup_made (p := p) hown0 hgrow0); clear hown0 hgrow0)
  clear hit htz0 htz1 htz2
  obtain ⟨g, hg⟩ : ∃ g, w.heap.size + 1 = g := ⟨_, rfl⟩
  rw [hg] at HT ⊢
  obtain ⟨HB0, HP0, HR0⟩ : Hid (Below w.heap.size w w0) ∧ Hid (CpP n p len g 0 [] w0) ∧ Hid (Box4 w.heap.size w0) := HT.out
  clear HT
  go_loopw [13] (fun i wr => ∃ k : Nat, k ≤ len ∧ i = .int .i64 k ∧ Hid (Below w.heap.size w wr ∧ Box4 w.heap.size wr ∧ ∃ l, CpP n p len g k l wr)) (fun i _ => len - (intOf i).toNat)
  case atStart => exact ⟨0, by omega, rfl, HB0.out, HR0.out, [], HP0.out⟩
  case round =>
    clear HP0 HR0
    obtain ⟨k, hk, rfl, HR⟩ := hrel
    obtain ⟨HBr, HBx, l, HL⟩ : Hid (Below w.heap.size w wr) ∧ Hid (Box4 w.heap.size wr) ∧ ∃ l, Hid (CpP n p len g k l wr) := HR.out
    clear HR
    by_cases hlt : k < len
    · obtain ⟨x, hx⟩ : ∃ x, p[k]? = some x := ⟨p[k]'(by rw [hpl.out]; exact hlt), List.getElem?_eq_getElem _⟩
      obtain ⟨v, hv⟩ : ∃ v, vs[k]? = some v := ⟨vs[k]'(by rw [hvl.out]; exact hlt), List.getElem?_eq_getElem _⟩
      obtain ⟨b, o, rfl, hb, hvs⟩ : ∃ b o, a = some ⟨b, o, none⟩ ∧ b < w.heap.size ∧ ∀ (i : Nat) (v : Wd), vs[i]? = some v → w.cell? ⟨b, o + i * 2, none⟩ = some (.int .i64 v.1) ∧ w.cell? ⟨b, o + i * 2 + 1, none⟩ = some (.int .i64 v.2) := by
        rcases hin.out with e | e
        · rw [e] at hv; simp at hv
        · exact e
      obtain ⟨v0, v1⟩ := hvs k v hv
      replace v0 := (below_cells HBr.out b (o + k * 2) hb).trans v0
      replace v1 := (below_cells HBr.out b (o + k * 2 + 1) hb).trans v1
      have HX := hide hx
      have hgr : g < wr.heap.size := HL.out.2.1.lt.2
      have HC : Hid (∀ (w1 : World), Below wr.heap.size wr w1 → Calls Try.prog 34 #[.pointer (some ⟨hp, 0, none⟩), .agg #[.int .i64 v.1, .int .i64 v.2]] w1 fun e w' => ∃ y : Tm n, e = .returned (val n y) ∧ Hid (Below w1.heap.size w1 w' ∧ In w'.heap.size w' n y ∧ Off (fun q => w1.heap.size ≤ q) n y ∧ same n y n x = true)) :=
        fun w1 h1 => ih x v base hp room ws nm _ w1 (h.out.later (HBr.out.trans (h1.mono HBr.out.size))) hw.out hn.out (hst.out k x v hx hv) (hrp.out x (List.mem_of_getElem? hx))
      clear ih hx hv hvs hin hst hrp h hw hn
      have hk1 : (0 : Int) ≤ (k : Int) := by omega
      have hk2 : (k : Int) < (len : Int) := by omega
      have hpw : b < wr.heap.size := by omega
      go_wp2_with fail
      refine (HC.out _ ((Below.refl _ _).alloc (Nat.le_refl _) _)).mono ?_
      rintro e w1 ⟨y, rfl, HY⟩
      have HB1 : Hid (Below wr.heap.size wr w1) := ((Below.refl _ _).alloc (Nat.le_refl _) _).trans (HY.out.1.mono (by simp))
      have HST := hide (HL.out.step hlt x HX.out HB1.out y HY.out.2.1 (HY.out.2.2.1.mono fun q hq => by simp at hq; omega) HY.out.2.2.2)
      have HH1 := hide (HL.out.2.1.below HB1.out)
      have HIY := HY.out.2.1
      cases n with
      | zero => exact HIY.elim
      | succ n =>
      clear HIY
      have HB2 : Hid (Below w.heap.size w (putNd w1 g (k * 4) (hdT (n + 1) y))) := by
        have h1 := HBr.out.trans (HB1.out.mono HBr.out.size)
        exact ⟨h1.os, h1.tape, h1.output, Nat.le_trans h1.size (Nat.le_of_eq (put4_size _ _ _ _).symm), fun q hq => (put4_block (by omega) _ _ _ _).trans (h1.block q hq)⟩
      have HBx2 : Hid (Box4 w.heap.size (putNd w1 g (k * 4) (hdT (n + 1) y))) := HBx.out.kept ((put4_block (by omega) _ _ _ _).trans (HB1.out.block _ (by omega)))
      obtain ⟨z, hz⟩ : ∃ z, (l.map (fun x => (⟨n + 1, x⟩ : An)) ++ List.replicate (len - k) zA)[k]? = some z := ⟨_, List.getElem?_eq_getElem (by simp [HL.out.1]; omega)⟩
      obtain ⟨c0, c1, c2, c3⟩ := HH1.out.cells k z hz
      have hf := fun j => HH1.out.free j
      have e3 : val (n + 1) y = .agg #[.int .i64 y.1.1, .int .i64 y.1.2.1, .string y.1.2.2, .slice y.2.1.1 y.2.2.length y.2.1.2] := rfl
      rw [e3]
      clear HC HL HBr HY HB1 HH1 HBx v0 v1 hz e3
      go_wp2_with fail
      go_roundw
      case rel => exact ⟨k + 1, by omega, by go_num, HB2.out, HBx2.out, l ++ [y], HST.out⟩
      case measure => simp [intOf]; omega
    · obtain rfl : k = len := by omega
      have HD := hide (HL.out.end hpl.out hg.symm HBr.out (by unfold maxLen; omega))
      obtain ⟨⟨q0, q1, q2, q3⟩, f0⟩ := HBx.out.cells
      clear HL ih HBx
      go_wp2_with fail
      exact bodyPost_ret (v := .agg #[.int .i64 4, .int .i64 0, .string .empty, .slice (some ⟨g, 0, none⟩) k k]) (by simp [results, Try.results29, go_sem, q0, q1, q2, q3]; rfl) rfl ⟨_, _, l, rfl, HD.out _ _ _ _⟩

theorem box_put {w wA w2 : World} (hA : Below w.heap.size w wA) (hb : Below wA.heap.size wA w2) (v0 v1 v2 v3 : Value) : Below w.heap.size w (put4 w2 (w.heap.size + 1) 0 v0 v1 v2 v3) := by
  have h1 := hA.trans (hb.mono hA.size)
  exact ⟨h1.os, h1.tape, h1.output, Nat.le_trans h1.size (Nat.le_of_eq (put4_size _ _ _ _).symm), fun q hq => (put4_block (by omega) _ _ _ _).trans (h1.block q hq)⟩

set_option maxHeartbeats 1000000 in
set_option maxRecDepth 100000 in
theorem term_else (hp : Nat) (k u : Int) (w : World) (h2 : ¬ k = 2) (h4 : ¬ k = 4) :
    Calls Try.prog 34 #[.pointer (some ⟨hp, 0, none⟩), .agg #[.int .i64 k, .int .i64 u]] w fun e w' => e = .returned (.agg #[.int .i64 k, .int .i64 u, .string .empty, .slice none 0 0]) ∧ Below w.heap.size w w' := by
  have b2 : (k == 2) = false := by simpa using h2
  have b4 : (k == 4) = false := by simpa using h4
  go_enter Try.func34, Try.ntmps34
  go_wp2_with fail
  exact bodyPost_ret (v := .agg #[.int .i64 k, .int .i64 u, .string .empty, .slice none 0 0]) (by simp [results, Try.results34, go_sem]; rfl) rfl ⟨rfl, by go_grown⟩

set_option maxHeartbeats 1000000 in
set_option maxRecDepth 100000 in
theorem term_atom (base hp : Nat) (room : Int) (ws : List Wd) (nm : List ByteArray) (M : Nat → Prop) (i : Nat) (s : ByteArray) (w : World) (h : Hid (HpAt base hp room ws nm M w)) (hL : nm.length ≤ 100000) (hi : Hid (nm[i]? = some s)) (hsz : s.size ≤ 2048) :
    Calls Try.prog 34 #[.pointer (some ⟨hp, 0, none⟩), .agg #[.int .i64 2, .int .i64 i]] w fun e w' => e = .returned (.agg #[.int .i64 2, .int .i64 0, .string s, .slice none 0 0]) ∧ Below w.heap.size w w' := by
  go_enter Try.func34, Try.ntmps34
  go_wp2_with fail
  generalize hwA : (w.alloc (Obj.cells #[Value.int IntKind.i64 2, Value.int IntKind.i64 i] 38)).alloc (Obj.cells #[.int .i64 0, .int .i64 0, .string ⟨#[]⟩, .slice none 0 0] 32) = wA
  have HA : Hid (Below w.heap.size w wA.drew ∧ wA.drew.heap.size = w.heap.size + 2) := by
    subst hwA
    exact ⟨(((Below.refl _ _).alloc (Nat.le_refl _) _).alloc (by simp) _).drew, by simp [World.drew]⟩
  have e1 : wA.cell? ⟨w.heap.size, 1, none⟩ = some (.int .i64 i) := by subst hwA; simp [go_sem]
  have HR : Hid (Box4 (w.heap.size + 1) wA.drew) := by
    subst hwA
    have := heap_alloc_new (w.alloc (Obj.cells #[Value.int IntKind.i64 2, Value.int IntKind.i64 i] 38)) (Obj.cells #[.int .i64 0, .int .i64 0, .string ⟨#[]⟩, .slice none 0 0] 32)
    have es : ∀ o, (w.alloc o).heap.size = w.heap.size + 1 := fun o => by simp
    rw [es] at this
    exact this
  have HC : Hid (Calls Try.prog 42 #[.pointer (some ⟨hp, 2, none⟩), .int .i64 i] wA.drew fun e w' => e = .returned (.string s) ∧ Below wA.drew.heap.size wA.drew w') := by
    obtain ⟨tv, lv, mv, h1, h2, h3, _⟩ := h.out.later HA.out.1
    exact nameOf_any base hp room tv lv mv nm i s wA.drew h1 h3.1 hi hL hsz
  clear hwA
  go_region_held3 (fun w' => w'.cell? ⟨w.heap.size, 1, none⟩ = some (.int .i64 i)) (go_keep) ((go_at_call 42; refine HC.out.mono ?_; rintro e w2 ⟨rfl, hb2⟩; have HB2 := hide hb2; have hcc := fun o => below_cells hb2 w.heap.size o (by have := HA.out.2; omega); have HBX := hide (HR.out.kept (hb2.block _ (by have := HA.out.2; omega))); obtain ⟨⟨q0, q1, q2, q3⟩, f0⟩ := HBX.out.cells; clear hb2))
  have HF := hide (box_put HA.out.1 HB2.out (.int .i64 2) (.int .i64 0) (.string s) (.slice none 0 0))
  go_wp2_with fail
  exact bodyPost_ret (v := .agg #[.int .i64 2, .int .i64 0, .string s, .slice none 0 0]) (by simp [results, Try.results34, go_sem, q0, q1, q2, q3]) rfl ⟨rfl, HF.out⟩

theorem add_off (g o j : Nat) : (⟨g, o, none⟩ : Addr).add j = ⟨g, o + j, none⟩ := by
  unfold Addr.add
  by_cases h : j = 0 <;> simp [h]
theorem words_in {w : World} {vs : List Wd} {g o : Nat} (h : WordsAt w vs (some ⟨g, o, none⟩)) (hg : g < w.heap.size) : WordsIn w vs (some ⟨g, o, none⟩) := by
  rcases h with h | ⟨ad, e, hc⟩
  · exact Or.inl h
  · injection e with e
    subst e
    refine Or.inr ⟨g, o, rfl, hg, fun i v hv => ⟨?_, ?_⟩⟩
    · have := hc (i * 2 + 0) (.int .i64 v.1) (by rw [wCells_at vs i v hv 0 (by omega)]; rfl)
      rw [add_off] at this
      exact this
    · have := hc (i * 2 + 1) (.int .i64 v.2) (by rw [wCells_at vs i v hv 1 (by omega)]; rfl)
      rw [add_off] at this
      exact this

set_option maxHeartbeats 1000000 in
set_option maxRecDepth 100000 in
theorem term_tup (n : Nat) (ih : FTm n) (base hp : Nat) (room : Int) (ws : List Wd) (nm : List ByteArray) (M : Nat → Prop) (k len : Nat) (p : List (Tm n)) (hpl : Hid (p.length = len)) (w : World) (h : Hid (HpAt base hp room ws nm M w)) (hlen : len ≤ 8) (hw : Hid (ws.length ≤ 100000)) (hn : Hid (nm.length ≤ 100000))
    (hk : Hid (ws[k]? = some (0, (len : Int)))) (hkl : Hid (k + 1 + len ≤ ws.length)) (hst : Hid (∀ (i : Nat) (y : Tm n), p[i]? = some y → ∃ u, ws[k + 1 + i]? = some u ∧ Stands ws nm n y u)) (hrp : Hid (∀ y ∈ p, RightA ⟨n, y⟩)) :
    Calls Try.prog 34 #[.pointer (some ⟨hp, 0, none⟩), .agg #[.int .i64 4, .int .i64 k]] w fun e w' => ∃ a' c' l, e = .returned (.agg #[.int .i64 4, .int .i64 0, .string .empty, .slice a' len c']) ∧ Hid (CpRow n p w w' a' c' l) := by
  go_enter Try.func34, Try.ntmps34
  go_wp2_with fail
  generalize hwA : (w.alloc (Obj.cells #[Value.int IntKind.i64 4, Value.int IntKind.i64 k] 38)).alloc (Obj.cells #[.int .i64 0, .int .i64 0, .string ⟨#[]⟩, .slice none 0 0] 32) = wA
  have HA : Hid (Below w.heap.size w wA.drew ∧ wA.drew.heap.size = w.heap.size + 2) := by
    subst hwA
    exact ⟨(((Below.refl _ _).alloc (Nat.le_refl _) _).alloc (by simp) _).drew, by simp [World.drew]⟩
  have e1 : wA.cell? ⟨w.heap.size, 1, none⟩ = some (.int .i64 k) := by subst hwA; simp [go_sem]
  have HR : Hid (Box4 (w.heap.size + 1) wA.drew) := by
    subst hwA
    have := heap_alloc_new (w.alloc (Obj.cells #[Value.int IntKind.i64 4, Value.int IntKind.i64 k] 38)) (Obj.cells #[.int .i64 0, .int .i64 0, .string ⟨#[]⟩, .slice none 0 0] 32)
    have es : ∀ o, (w.alloc o).heap.size = w.heap.size + 1 := fun o => by simp
    rw [es] at this
    exact this
  have HH := hide (h.out.later HA.out.1)
  obtain ⟨g, L, tc, c1, HCP⟩ : ∃ g L tc, wA.cell? ⟨hp, 1, none⟩ = some (.slice (some ⟨g, 0, none⟩) L tc) ∧ Hid (hp < w.heap.size ∧ Calls Try.prog 43 #[.slice (some ⟨g, 0, none⟩) L tc, .int .i64 k] wA.drew fun e w' => ∃ o pc, e = .returned (.slice (some ⟨g, o, none⟩) len pc) ∧ w' = wA.drew ∧ Hid (WordsIn wA.drew ((ws.drop (k + 1)).take len) (some ⟨g, o, none⟩))) := by
    obtain ⟨tv, lv, mv, h1, h2, h3, h4, _⟩ := HH.out
    obtain ⟨⟨c0, c1, c2, c3⟩, hf⟩ := h1.cells
    have hkl' := hkl.out
    obtain ⟨g, tc, rfl, _, _⟩ := h2.form (by omega)
    refine ⟨g, _, tc, c1, h4.2, ?_⟩
    refine (parts_any base g ws.length tc k len ws wA.drew hw.out h2 hk hkl').mono ?_
    rintro e w' ⟨rfl, pa, pc, rfl, _, hwd, o, rfl⟩
    exact ⟨o, pc, rfl, rfl, words_in hwd (h2.lt g rfl).2⟩
  have HCT : Hid (∀ o pc, WordsIn wA.drew ((ws.drop (k + 1)).take len) (some ⟨g, o, none⟩) → Calls Try.prog 29 #[.pointer (some ⟨hp, 0, none⟩), .slice (some ⟨g, o, none⟩) len pc] wA.drew fun e w' => ∃ a' c' l, e = .returned (.agg #[.int .i64 4, .int .i64 0, .string .empty, .slice a' len c']) ∧ Hid (CpRow n p wA.drew w' a' c' l)) := by
    intro o pc hin
    refine tupleOf_loop n ih base hp room ws nm _ (some ⟨g, o, none⟩) len pc p ((ws.drop (k + 1)).take len) hpl ?_ wA.drew HH hlen hw hn hin ?_ hrp
    · have := hkl.out
      unfold Hid
      rw [List.length_take, List.length_drop]
      omega
    · intro i y v hy hv
      obtain ⟨u, hu, hs⟩ := hst.out i y hy
      have hi : i < len := by have := (List.getElem?_eq_some_iff.1 hy).1; have := hpl.out; omega
      rw [List.getElem?_take_of_lt hi, List.getElem?_drop, hu] at hv
      obtain rfl := Option.some.inj hv
      exact hs
  clear hwA ih hst hrp h HH hk hkl hw hn
  have hhp : hp < w.heap.size := HCP.out.1
  have hne : w.heap.size + 1 ≠ hp := by omega
  have HK : Hid (∀ (w2 : World) (v0 v1 v2 v3 : Value), (w2.cell? ⟨w.heap.size, 1, none⟩ = some (.int .i64 k) ∧ w2.cell? ⟨hp, 1, none⟩ = some (.slice (some ⟨g, 0, none⟩) L tc)) → ((((w2.setCell ⟨w.heap.size + 1, 0, none⟩ v0).setCell ⟨w.heap.size + 1, 1, none⟩ v1).setCell ⟨w.heap.size + 1, 2, none⟩ v2).setCell ⟨w.heap.size + 1, 3, none⟩ v3).cell? ⟨w.heap.size, 1, none⟩ = some (.int .i64 k) ∧ ((((w2.setCell ⟨w.heap.size + 1, 0, none⟩ v0).setCell ⟨w.heap.size + 1, 1, none⟩ v1).setCell ⟨w.heap.size + 1, 2, none⟩ v2).setCell ⟨w.heap.size + 1, 3, none⟩ v3).cell? ⟨hp, 1, none⟩ = some (.slice (some ⟨g, 0, none⟩) L tc)) := by
    intro w2 v0 v1 v2 v3 hh
    exact ⟨(block_cell (put4_block (o := 0) (w := w2) (show w.heap.size ≠ w.heap.size + 1 by omega) v0 v1 v2 v3) 1).trans hh.1, (block_cell (put4_block (o := 0) (w := w2) (show hp ≠ w.heap.size + 1 by omega) v0 v1 v2 v3) 1).trans hh.2⟩
  go_region_held3 (fun w' => w'.cell? ⟨w.heap.size, 1, none⟩ = some (.int .i64 k) ∧ w'.cell? ⟨hp, 1, none⟩ = some (.slice (some ⟨g, 0, none⟩) L tc)) (first | (go_keep; done) | exact HK.out _ _ _ _ _ hcp) ((first
    | (go_at_call 43; refine HCP.out.2.mono ?_; rintro e w2 ⟨o, pc, rfl, rfl, HW⟩)
    | (go_at_call 29; refine (HCT.out _ _ HW.out).mono ?_; rintro e w2 ⟨a', c', l, rfl, HCR⟩; have hcc := fun b o (hb : b < w.heap.size + 1) => below_cells HCR.out.1 b o (by have := HA.out.2; omega); have hcp : w2.cell? ⟨w.heap.size, 1, none⟩ = some (.int .i64 k) ∧ w2.cell? ⟨hp, 1, none⟩ = some (.slice (some ⟨g, 0, none⟩) L tc) := ⟨(hcc w.heap.size 1 (by omega)).trans e1, (hcc hp 1 (by omega)).trans c1⟩; have HBX := hide (HR.out.kept (HCR.out.1.block _ (by have := HA.out.2; omega))); obtain ⟨⟨q0, q1, q2, q3⟩, f0⟩ := HBX.out.cells)))
  have HF := hide (HCR.out.box HA.out.1 (by have := HA.out.2; omega) (.int .i64 4) (.int .i64 0) (.string .empty) (.slice a' len c'))
  go_wp2_with fail
  exact bodyPost_ret (v := .agg #[.int .i64 4, .int .i64 0, .string .empty, .slice a' len c']) (by simp [results, Try.results34, go_sem, q0, q1, q2, q3]) rfl ⟨a', c', l, rfl, HF.out⟩

theorem good_i64 (x : Nd) (h : good x = true) : I64 x.1.1 ∧ I64 x.1.2.1 := by
  have hk := good_kind x h
  unfold good inB at h
  unfold I64
  rcases hk with g | g | g | g | g | ⟨g, g0⟩
  all_goals (rw [g] at h ⊢; simp at h; refine ⟨by omega, by omega⟩)

theorem term_any (n : Nat) : FTm n := by
  induction n with
  | zero => intro x v base hp room ws nm M w _ _ _ hs; exact hs.elim
  | succ n ih =>
    intro x v base hp room ws nm M w h hw hn hs hr
    have hg := hr (hdOf n x) (by simp [nodes, hdOf])
    have hlen : x.2.2.length ≤ 8 := good_len (hdOf n x) hg
    have hname : x.1.2.2.size ≤ 2048 := by have := good_name (hdOf n x) hg; simp only [hdOf] at this; omega
    obtain ⟨s2, s4, s0⟩ := hs
    have gp := good_parts (hdOf n x) hg
    have in0 : ∀ (w' : World) (k u : Int) (s : ByteArray), I64 k → I64 u → s.size ≤ 2048 → In w'.heap.size w' (n + 1) ((k, u, s), (none, 0), []) := fun w' k u s h1 h2 h3 => ⟨⟨h1, h2, by unfold maxLen; show s.size ≤ _; omega, Nat.le_refl _, Nat.zero_le _⟩, Or.inl rfl⟩
    by_cases h2 : x.1.1 = 2
    · obtain ⟨i, rfl, hi⟩ := s2 h2
      have hx0 : x.2.2 = [] := List.eq_nil_of_length_eq_zero (gp.2.2.2.2 (by show x.1.1 ≠ 4; omega))
      refine (term_atom base hp room ws nm M i x.1.2.2 w h hn hi hname).mono ?_
      rintro e w' ⟨rfl, hb⟩
      refine ⟨((2, 0, x.1.2.2), (none, 0), []), rfl, hb, in0 w' 2 0 _ (by unfold I64; omega) (by unfold I64; omega) hname, Or.inl rfl, ?_⟩
      have h20 : x.1.2.1 = 0 := gp.2.1 h2
      simp [same, h2, h20, hx0, sameL]
    · by_cases h4 : x.1.1 = 4
      · obtain ⟨k, rfl, hk, hkl, hst⟩ := s4 h4
        refine (term_tup n ih base hp room ws nm M k x.2.2.length x.2.2 rfl w h hlen hw hn hk hkl hst (fun y hy => parts_right n x y hr hy)).mono ?_
        rintro e w' ⟨a', c', l, rfl, H⟩
        obtain ⟨k1, k2, k3, k4, k5, k6⟩ := H.out
        have h40 : x.1.2.1 = 0 := gp.2.2.1 h4
        have hnm : x.1.2.2.toList = [] := gp.1 h2
        refine ⟨((4, 0, .empty), (a', c'), l), by rw [← k2]; rfl, k1, ⟨⟨by unfold I64; show (-9223372036854775808 : Int) ≤ 4 ∧ (4 : Int) ≤ 9223372036854775807; omega, by unfold I64; show (-9223372036854775808 : Int) ≤ 0 ∧ (0 : Int) ≤ 9223372036854775807; omega, by unfold maxLen; show (0 : Nat) ≤ _; omega, k3, k4⟩, ?_⟩, ?_, ?_⟩
        · rcases k6 with k6 | ⟨b, o, e, hb1, hb2, k6⟩
          · exact Or.inl k6
          · exact Or.inr ⟨b, o, e, hb2, fun i y hy => ⟨(k6 i y hy).1, (k6 i y hy).2.1⟩⟩
        · rcases k6 with k6 | ⟨b, o, e, hb1, hb2, k6⟩
          · exact Or.inl k6
          · exact Or.inr ⟨b, o, e, hb1.1, fun i y hy => (k6 i y hy).2.2⟩
        · simp only [same]
          rw [h4, h40, hnm, k5]
          simp
      · have hv := s0 h2 h4
        subst hv
        have hx0 : x.2.2 = [] := List.eq_nil_of_length_eq_zero (gp.2.2.2.2 h4)
        have hnm : x.1.2.2.toList = [] := gp.1 h2
        refine (term_else hp x.1.1 x.1.2.1 w h2 h4).mono ?_
        rintro e w' ⟨rfl, hb⟩
        refine ⟨((x.1.1, x.1.2.1, .empty), (none, 0), []), rfl, hb, in0 w' _ _ _ ?_ ?_ (by show (0 : Nat) ≤ _; omega), Or.inl rfl, ?_⟩
        · exact (good_i64 _ hg).1
        · exact (good_i64 _ hg).2
        · simp only [same]
          rw [hnm, hx0]
          simp [sameL]
end Go.Proofs.Ytdlckjjfbobmpaa
