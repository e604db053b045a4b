/- What is proved here: heap.copying's one: of a word that is no tuple, and of a tuple that went already. No condition but sizes. -/
import Derived.Test.YtfaoeccnhbcjgabHp14
namespace Go.Proofs.Ytfaoeccnhbcjgab
open Go.RowKit Go.Maps

/-- A copying's box: what it copies from, what it copies to, where tuples went. -/
def CB (cb : Nat) (fv tv mv : Value) (w : World) : Prop := w.heap[cb]? = some (.cells #[fv, tv, mv] 111)
theorem CB.lt {cb : Nat} {fv tv mv : Value} {w : World} (h : CB cb fv tv mv w) : cb < w.heap.size := (Array.getElem?_eq_some_iff.1 h).1
theorem CB.cells {cb : Nat} {fv tv mv : Value} {w : World} (h : CB cb fv tv mv w) : (w.cell? ⟨cb, 0, none⟩ = some fv ∧ w.cell? ⟨cb, 1, none⟩ = some tv ∧ w.cell? ⟨cb, 2, none⟩ = some mv) ∧ ∀ j, w.frozen? ⟨cb, j, none⟩ = false := by
  unfold CB at h
  refine ⟨⟨?_, ?_, ?_⟩, fun j => ?_⟩
  all_goals simp [World.cell?, World.frozen?, h]
theorem CB.set1 {cb : Nat} {fv tv mv : Value} {w : World} (h : CB cb fv tv mv w) (v : Value) : CB cb fv v mv (w.setCell ⟨cb, 1, none⟩ v) := by
  unfold CB at *
  simp [World.setCell, Array.getElem?_modify, h]
theorem CB.kept {cb : Nat} {fv tv mv : Value} {w w' : World} (h : CB cb fv tv mv w) (k : w'.heap[cb]? = w.heap[cb]?) : CB cb fv tv mv w' := k.trans h

/-- A copying in memory, whose blocks are among those of which M holds. -/
def CpAt (base cb : Nat) (fv : Value) (S : List Wd × Went) (M : Nat → Prop) (w : World) : Prop :=
  ∃ tv mb D, CB cb fv tv (.map (some mb)) w ∧ w.ownsRow base 37 2 tv S.1.length (wCells S.1) ∧ w.ownsMap Try.prog 3 (plainElem Try.prog 3) mb S.2.length D ∧ WentOf D S.2 ∧ M cb ∧ (∀ b, tv.ownBlock = some b → M b) ∧ M mb
theorem CpAt.kept {base cb : Nat} {fv : Value} {S : List Wd × Went} {M T : Nat → Prop} {w w' : World} (h : CpAt base cb fv S M w) (k : Keep T w w') (hd : ∀ b, M b → b < w.heap.size → ¬ T b) : CpAt base cb fv S M w' := by
  obtain ⟨tv, mb, D, h1, h2, h3, h4, h5, h6, h7⟩ := h
  refine ⟨tv, mb, D, h1.kept (k.block cb h1.lt (hd cb h5 h1.lt)), row_kept h2 k fun b e => hd b (h6 b e) (h2.lt b e).2, ?_, h4, h5, h6, h7⟩
  have hl := h3.lt
  obtain ⟨es, clock, hh, hr⟩ := h3
  exact ⟨es, clock, (k.block mb hl (hd mb h7 hl)).trans hh, hr⟩
theorem CpAt.inside {base cb : Nat} {fv : Value} {S : List Wd × Went} {M : Nat → Prop} {w : World} (h : CpAt base cb fv S M w) : CpAt base cb fv S (fun b => M b ∧ b < w.heap.size) w := by
  obtain ⟨tv, mb, D, h1, h2, h3, h4, h5, h6, h7⟩ := h
  exact ⟨tv, mb, D, h1, h2, h3, h4, ⟨h5, h1.lt⟩, fun b e => ⟨h6 b e, (h2.lt b e).2⟩, h7, h3.lt⟩
theorem CpAt.later {base cb : Nat} {fv : Value} {S : List Wd × Went} {M : Nat → Prop} {w wA : World} (h : CpAt base cb fv S M w) (hb : Below w.heap.size w wA) : CpAt base cb fv S (fun b => M b ∧ b < w.heap.size) wA :=
  h.inside.kept (keep_below hb (fun _ => False)) fun _ _ _ h => h
theorem CpAt.mono {base cb : Nat} {fv : Value} {S : List Wd × Went} {M T : Nat → Prop} {w : World} (h : CpAt base cb fv S M w) (k : ∀ b, M b → T b) : CpAt base cb fv S T w := by
  obtain ⟨tv, mb, D, h1, h2, h3, h4, h5, h6, h7⟩ := h
  exact ⟨tv, mb, D, h1, h2, h3, h4, k _ h5, fun b e => k b (h6 b e), k _ h7⟩

set_option maxHeartbeats 1000000 in
set_option maxRecDepth 100000 in
theorem one_else (cb : Nat) (k u : Int) (w : World) (h4 : ¬ k = 4) :
    Calls Try.prog 80 #[.pointer (some ⟨cb, 0, none⟩), .agg #[.int .i64 k, .int .i64 u]] w fun e w' => e = .returned (.agg #[.int .i64 k, .int .i64 u]) ∧ Below w.heap.size w w' := by
  have b4 : (k != 4) = true := by simpa using h4
  go_enter Try.func80, Try.ntmps80
  go_wp2_with fail
  exact bodyPost_ret (v := .agg #[.int .i64 k, .int .i64 u]) (by simp [results, Try.results80, go_sem]) rfl ⟨rfl, by go_grown⟩

theorem went_at {D : DataW Unit} {g : Went} (h : WentOf D g) {p q : Nat} {c : Int} (hl : look g p = some q) (hc : D.atKey (.int .i64 p) (.lit (.int .i64 0)) = .lit (.int .i64 c)) : c = q := by
  have := (h p).2 q hl
  rw [this] at hc
  simp at hc
  exact hc.symm

set_option maxHeartbeats 1000000 in
set_option maxRecDepth 100000 in
theorem one_old (base cb : Nat) (fv : Value) (S : List Wd × Went) (M : Nat → Prop) (p q : Nat) (w : World) (h : Hid (CpAt base cb fv S M w)) (hl : Hid (look S.2 p = some q)) (hp : p ≤ 100000) :
    Calls Try.prog 80 #[.pointer (some ⟨cb, 0, none⟩), .agg #[.int .i64 4, .int .i64 p]] w fun e w' => e = .returned (.agg #[.int .i64 4, .int .i64 q]) ∧ Below w.heap.size w w' := by
  go_enter Try.func80, Try.ntmps80
  go_wp2_with fail
  generalize hwA : (w.alloc (Obj.cells #[Value.int IntKind.i64 4, Value.int IntKind.i64 p] 37)).alloc (Obj.cells #[.int .i64 0, .int .i64 0] 37) = wA
  have HA : Hid (Below w.heap.size w wA.drew ∧ wA.drew.heap.size = w.heap.size + 2) := by
    subst hwA
    exact ⟨(((Below.refl _ _).alloc (Nat.le_refl _) _).alloc (by simp) _).drew, by simp [World.drew]⟩
  have e1 : wA.cell? ⟨w.heap.size, 1, none⟩ = some (.int .i64 p) := by subst hwA; simp [go_sem]
  have HR : Hid (JBox (w.heap.size + 1) wA.drew) := by
    subst hwA
    have := heap_alloc_new (w.alloc (Obj.cells #[Value.int IntKind.i64 4, Value.int IntKind.i64 p] 37)) (Obj.cells #[.int .i64 0, .int .i64 0] 37)
    have es : ∀ o, (w.alloc o).heap.size = w.heap.size + 1 := fun o => by simp
    rw [es] at this
    exact this
  obtain ⟨mb, c2, hlk⟩ : ∃ mb, wA.cell? ⟨cb, 2, none⟩ = some (.map (some mb)) ∧ (Instr.lookup 109 (.map (some mb)) (.int .i64 p) true).run Try.prog wA.drew = .ok (.tuple #[.int .i64 q, .bool true]) wA.drew := by
    obtain ⟨tv, mb, D, h1, h2, h3, h4, _⟩ := h.out.later HA.out.1
    obtain ⟨v, ps, hrun, hv⟩ := h3.look_ok intLaw Try.underlying109 (zeroInt _) (plainElem_int Try.underlying3 (WalkArith.wf_i64 (by omega))) (keyOf_int_mk Try.underlying3 (WalkArith.wf_i64 (n := (p : Int)) (by omega)))
    obtain ⟨c, rfl, hc, _⟩ := plainElem_int_inv Try.underlying3 hv
    have e := went_at h4 hl.out (congrArg Prod.fst hc)
    have hh : Maps.has D (.int .i64 p) = true := (h4 p).1.2 (by rw [hl.out]; rfl)
    rw [hh, e] at hrun
    exact ⟨mb, h1.cells.1.2.2, hrun⟩
  clear hwA h
  go_region_held3 (fun w' => w'.cell? ⟨w.heap.size, 1, none⟩ = some (.int .i64 p) ∧ w'.cell? ⟨cb, 2, none⟩ = some (.map (some mb))) (go_keep) (fail)
  obtain ⟨⟨r0, r1⟩, f0, f1⟩ := HR.out.facts
  have HF : Hid (∀ v0 v1, Below w.heap.size w ((wA.drew.setCell ⟨w.heap.size + 1, 0, none⟩ v0).setCell ⟨w.heap.size + 1, 1, none⟩ v1)) := by
    intro v0 v1
    have k1 := keep_set wA.drew (w.heap.size + 1) 0 v0
    have k2 := keep_set (wA.drew.setCell ⟨w.heap.size + 1, 0, none⟩ v0) (w.heap.size + 1) 1 v1
    have k3 := (keep_below HA.out.1 (fun b => b = w.heap.size + 1)).trans (k1.trans k2 (fun b _ h => h)) (fun b _ h => h)
    exact ⟨k3.os, k3.tape, k3.output, k3.size, fun b hb => k3.block b hb (by omega)⟩
  clear hlk HR HA
  generalize wA.drew = wD at *
  go_wp2_with fail
  exact bodyPost_ret (v := .agg #[.int .i64 4, .int .i64 q]) (by simp [results, Try.results80, go_sem, r0, r1]) rfl ⟨rfl, HF.out _ _⟩
end Go.Proofs.Ytfaoeccnhbcjgab
