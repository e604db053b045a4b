/- What is proved here: heap.copying's one, of a tuple that didn't go yet, from what all does at its parts. No condition but sizes. -/
import Derived.Test.YtfaoeccnhbcjgabHp17
namespace Go.Proofs.Ytfaoeccnhbcjgab
open Go.RowKit Go.Maps

theorem one_put {base cb : Nat} {fv : Value} {S : List Wd × Went} {M : Nat → Prop} {w : World} (h : CpAt base cb fv S M w) (p q : Nat) (hp : p ≤ 100000) (hq : q ≤ 100000) (hn : S.2.length ≤ 100000) :
    ∃ mb, w.cell? ⟨cb, 2, none⟩ = some (.map (some mb)) ∧ ∃ w4, (Instr.mapUpdate 109 (.map (some mb)) (.int .i64 p) (.int .i64 q)).run Try.prog w = .ok () w4 ∧ CpAt base cb fv (S.1, (p, q) :: S.2) M w4 ∧ Keep (fun b => b = mb) w w4 ∧ M mb ∧ mb < w.heap.size ∧ w4.cell? ⟨cb, 2, none⟩ = some (.map (some mb)) := by
  obtain ⟨tv, mb, D, h1, h2, h3, h4, h5, h6, h7⟩ := h
  obtain ⟨w4, hrun, hown, hg⟩ := h3.update intLaw Try.underlying109 (by unfold maxLen; omega) (keyOf_int_mk Try.underlying3 (WalkArith.wf_i64 (n := (p : Int)) (by omega))) (plainElem_int Try.underlying3 (WalkArith.wf_i64 (n := (q : Int)) (by omega)))
  have k := keep_grown hg
  have k2 : Keep (fun b => b = mb) w w4 := k.mono fun b e => (Option.some.inj e).symm
  refine ⟨mb, h1.cells.1.2.2, w4, hrun, ⟨tv, mb, _, h1.kept (k2.block cb h1.lt (fun e => map_boxC h3 h1 e.symm)), row_kept h2 k2 ?_, hown, went_put h3 h4 p q, h5, h6, h7⟩, k2, h7, h3.lt, (h1.kept (k2.block cb h1.lt (fun e => map_boxC h3 h1 e.symm))).cells.1.2.2⟩
  intro b e e'
  subst e'
  exact row_mapC h2 h3 e

theorem field_word (w : World) (a b : Int) : (Instr.field 37 (.agg #[.int .i64 a, .int .i64 b]) 1).run Try.prog w = .ok (.int .i64 b) w := by kernel_rfl

set_option maxHeartbeats 1000000 in
set_option maxRecDepth 100000 in
theorem one_new (base cb : Nat) (fv : Value) (S : List Wd × Went) (M : Nat → Prop) (p q fg L fc n : Nat) (w : World) (F : World → Prop) (h : Hid (CpAt base cb fv S M w)) (hfv : fv = .slice (some ⟨fg, 0, none⟩) L fc) (hl : Hid (look S.2 p = none)) (hp : p ≤ 100000)
    (HC : Hid (∀ wD, Below w.heap.size w wD → w.heap.size + 2 ≤ wD.heap.size → Calls Try.prog 70 #[.slice (some ⟨fg, 0, none⟩) L fc, .int .i64 p] wD fun e w' => w' = wD ∧ ∃ o pc, e = .returned (.slice (some ⟨fg, o, none⟩) n pc) ∧
      Hid (Calls Try.prog 66 #[.pointer (some ⟨cb, 0, none⟩), .slice (some ⟨fg, o, none⟩) n pc] wD fun e w2 => ∃ g, e = .returned (.slice (some ⟨g, 0, none⟩) n n) ∧
        Hid ((∀ j, w2.cell? ⟨w.heap.size, j, none⟩ = wD.cell? ⟨w.heap.size, j, none⟩) ∧ w2.cell? ⟨cb, 0, none⟩ = some (.slice (some ⟨fg, 0, none⟩) L fc) ∧
          Calls Try.prog 48 #[.pointer (some ⟨cb, 1, none⟩), .slice (some ⟨g, 0, none⟩) n n] w2 fun e w3 => e = .returned (.agg #[.int .i64 4, .int .i64 q]) ∧
            Hid ((∀ j, w3.cell? ⟨w.heap.size, j, none⟩ = wD.cell? ⟨w.heap.size, j, none⟩) ∧ w3.cell? ⟨cb, 0, none⟩ = some (.slice (some ⟨fg, 0, none⟩) L fc) ∧
              ∃ mb w4, w3.cell? ⟨cb, 2, none⟩ = some (.map (some mb)) ∧ (Instr.mapUpdate 109 (.map (some mb)) (.int .i64 p) (.int .i64 q)).run Try.prog w3.drew = .ok () w4 ∧ (∀ j, w4.cell? ⟨w.heap.size, j, none⟩ = wD.cell? ⟨w.heap.size, j, none⟩) ∧ w4.cell? ⟨cb, 2, none⟩ = some (.map (some mb)) ∧
                (JBox (w.heap.size + 1) wD → JBox (w.heap.size + 1) w4) ∧ ∀ v0 v1, F ((w4.setCell ⟨w.heap.size + 1, 0, none⟩ v0).setCell ⟨w.heap.size + 1, 1, none⟩ v1)))))) :
    Calls Try.prog 80 #[.pointer (some ⟨cb, 0, none⟩), .agg #[.int .i64 4, .int .i64 p]] w fun e w' => e = .returned (.agg #[.int .i64 4, .int .i64 q]) ∧ F w' := by
  subst hfv
  go_enter Try.func80, Try.ntmps80
  go_wp2_with fail
  generalize hwA : (w.alloc (Obj.cells #[Value.int IntKind.i64 4, Value.int IntKind.i64 p] 37)).alloc (Obj.cells #[.int .i64 0, .int .i64 0] 37) = wA
  have HA : Hid (Below w.heap.size w wA.drew ∧ wA.drew.heap.size = w.heap.size + 2) := by
    subst hwA
    exact ⟨(((Below.refl _ _).alloc (Nat.le_refl _) _).alloc (by simp) _).drew, by simp [World.drew]⟩
  have e1 : wA.cell? ⟨w.heap.size, 1, none⟩ = some (.int .i64 p) := by subst hwA; simp [go_sem]
  have HR : Hid (JBox (w.heap.size + 1) wA.drew) := by
    subst hwA
    have := heap_alloc_new (w.alloc (Obj.cells #[Value.int IntKind.i64 4, Value.int IntKind.i64 p] 37)) (Obj.cells #[.int .i64 0, .int .i64 0] 37)
    have es : ∀ o, (w.alloc o).heap.size = w.heap.size + 1 := fun o => by simp
    rw [es] at this
    exact this
  obtain ⟨mb, cz, c0, c2, hlk⟩ : ∃ mb, ∃ cz : Int, wA.cell? ⟨cb, 0, none⟩ = some (.slice (some ⟨fg, 0, none⟩) L fc) ∧ wA.cell? ⟨cb, 2, none⟩ = some (.map (some mb)) ∧ (Instr.lookup 109 (.map (some mb)) (.int .i64 p) true).run Try.prog wA.drew = .ok (.tuple #[.int .i64 cz, .bool false]) wA.drew := by
    obtain ⟨tv, mb, D, h1, h2, h3, h4, _⟩ := h.out.later HA.out.1
    obtain ⟨v, ps, hrun, hv⟩ := h3.look_ok intLaw Try.underlying109 (zeroInt _) (plainElem_int Try.underlying3 (WalkArith.wf_i64 (by omega))) (keyOf_int_mk Try.underlying3 (WalkArith.wf_i64 (n := (p : Int)) (by omega)))
    obtain ⟨c, rfl, hc, _⟩ := plainElem_int_inv Try.underlying3 hv
    have hh : Maps.has D (.int .i64 p) = false := by
      cases hx : Maps.has D (.int .i64 p)
      · rfl
      · have := (h4 p).1.1 hx
        rw [hl.out] at this
        simp at this
    rw [hh] at hrun
    exact ⟨mb, c, h1.cells.1.1, h1.cells.1.2.2, hrun⟩
  clear hwA h
  go_region_held3 (fun w' => w'.cell? ⟨w.heap.size, 1, none⟩ = some (.int .i64 p) ∧ w'.cell? ⟨cb, 2, none⟩ = some (.map (some mb))) (go_keep) (fail)
  have e1' : wA.drew.cell? ⟨w.heap.size, 1, none⟩ = some (.int .i64 p) := e1
  have c0' : wA.drew.cell? ⟨cb, 0, none⟩ = some (.slice (some ⟨fg, 0, none⟩) L fc) := c0
  clear hlk e1 c0 c2
  generalize wA.drew = wD at *
  have HP := hide (HC.out wD.drew HA.out.1.drew (by have := HA.out.2; show w.heap.size + 2 ≤ wD.heap.size; omega))
  clear HC
  have hfld := field_word
  go_wp2_with fail
  go_region_held3 (fun w' => w'.cell? ⟨w.heap.size, 1, none⟩ = some (.int .i64 p) ∧ w'.cell? ⟨cb, 0, none⟩ = some (.slice (some ⟨fg, 0, none⟩) L fc)) (go_keep) ((first
    | (go_at_call 70; refine HP.out.mono ?_; rintro e w2 ⟨rfl, o, pc, rfl, HALL⟩; clear HP)
    | (go_at_call 66; refine HALL.out.mono ?_; rintro e w2 ⟨g, rfl, HADD⟩; have x1 := (HADD.out.1 1).trans e1'; have x2 := HADD.out.2.1; clear HALL)
    | (go_at_call 48; refine HADD.out.2.2.mono ?_; rintro e w3 ⟨rfl, HFIN⟩; have y1 := (HFIN.out.1 1).trans e1'; have y2 := HFIN.out.2.1; clear HADD)))
  obtain ⟨mb2, w4, u2, hup, HV, z2, HJ, HF⟩ : ∃ mb2 w4, w3.cell? ⟨cb, 2, none⟩ = some (.map (some mb2)) ∧ (Instr.mapUpdate 109 (.map (some mb2)) (.int .i64 p) (.int .i64 q)).run Try.prog w3.drew = .ok () w4 ∧ Hid (∀ j, w4.cell? ⟨w.heap.size, j, none⟩ = wD.drew.cell? ⟨w.heap.size, j, none⟩) ∧ w4.cell? ⟨cb, 2, none⟩ = some (.map (some mb2)) ∧ Hid (JBox (w.heap.size + 1) w4) ∧ Hid (∀ v0 v1, F ((w4.setCell ⟨w.heap.size + 1, 0, none⟩ v0).setCell ⟨w.heap.size + 1, 1, none⟩ v1)) := by
    obtain ⟨mb2, w4, k1, k2, k3, k4, k5, k6⟩ := HFIN.out.2.2
    exact ⟨mb2, w4, k1, k2, k3, k4, k5 HR.out, k6⟩
  have z1 := (HV.out 1).trans e1'
  obtain ⟨⟨r0, r1⟩, f0, f1⟩ := HJ.out.facts
  clear HFIN HV HJ HR HA x1 x2 y2 c0' e1' hfld
  go_wp2_with fail
  go_region_held3 (fun w' => w'.cell? ⟨w.heap.size, 1, none⟩ = some (.int .i64 p) ∧ w'.cell? ⟨cb, 2, none⟩ = some (.map (some mb2))) (go_keep) (fail)
  clear hup u2 y1 z1 z2
  go_wp2_with fail
  exact bodyPost_ret (v := .agg #[.int .i64 4, .int .i64 q]) (by simp [results, Try.results80, go_sem, r0, r1]) rfl ⟨rfl, HF.out _ _⟩
end Go.Proofs.Ytfaoeccnhbcjgab
