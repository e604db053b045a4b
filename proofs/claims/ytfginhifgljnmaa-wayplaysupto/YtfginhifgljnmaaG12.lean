/- What is proved here: what Take does: the first one on its way is told, and gone. No condition but that the ways lie in memory. -/
import Derived.Test.YtfginhifgljnmaaG11
namespace Go.Proofs.Ytfginhifgljnmaa
open Go.RowKit Go.Maps

set_option maxRecDepth 100000 in
set_option maxHeartbeats 2000000 in
theorem take_none (wp : Nat) (mo : Option Nat) (a b : Int) (w : World) (hwp : wp < w.heap.size) (HC : Hid (w.cell? ⟨wp, 0, none⟩ = some (.map mo)))
    (HL : Hid (∀ W, Below w.heap.size w W → (Instr.lookup 90 (.map mo) (.agg #[.int .i64 a, .int .i64 b]) false).run Try.prog W = .ok (.slice none 0 0) W)) :
    Calls Try.prog 45 #[.pointer (some ⟨wp, 0, none⟩), .int .i64 a, .int .i64 b] w fun e w' => e = .returned (.tuple #[.agg #[.int .i64 0, .int .i64 0, .string ⟨#[]⟩, .slice none 0 0], .int .i64 4]) ∧ Below w.heap.size w w' := by
  have c0 := HC.out
  have HW : Hid (∃ wr q0 q1, wr = (w.alloc (.cells #[.int .i64 0, .int .i64 0, .string ⟨#[]⟩, .slice none 0 0] 24)).alloc (.cells #[.int .i64 a, .int .i64 b] 88) ∧ q0 = w.heap.size ∧ q1 = w.heap.size + 1) := ⟨_, _, _, rfl, rfl, rfl⟩
  go_enter Try.func45, Try.ntmps45
  go_wp2_with fail
  obtain ⟨wr, q0, q1, hwr, hq0, hq1⟩ := HW.out
  rw [← hwr, ← hq1, ← hq0]
  have hsr : wr.heap.size = w.heap.size + 2 := by rw [hwr]; simp
  have HB : Hid (Below w.heap.size w wr) := by
    rw [hwr]
    exact ((Below.refl _ _).alloc (Nat.le_refl _) _).alloc (by simp) _
  have HQ0 : Hid (wr.heap[q0]? = some (.cells #[.int .i64 0, .int .i64 0, .string ⟨#[]⟩, .slice none 0 0] 24)) := by
    rw [hwr, hq0]
    exact (((Below.refl _ _).alloc (Nat.le_refl _) _).block w.heap.size (by simp)).trans (heap_alloc_new w _)
  have HQ1 : Hid (wr.heap[q1]? = some (.cells #[.int .i64 a, .int .i64 b] 88)) := by
    rw [hwr, hq1]
    have h := heap_alloc_new (w.alloc (.cells #[.int .i64 0, .int .i64 0, .string ⟨#[]⟩, .slice none 0 0] 24)) (.cells #[.int .i64 a, .int .i64 b] 88)
    have e : (w.alloc (.cells #[.int .i64 0, .int .i64 0, .string ⟨#[]⟩, .slice none 0 0] 24)).heap.size = w.heap.size + 1 := by simp
    rwa [e] at h
  have HN : Hid (q0 < wr.heap.size ∧ q1 < wr.heap.size ∧ wp < wr.heap.size ∧ w.heap.size ≤ q0 ∧ w.heap.size ≤ q1 ∧ wp < w.heap.size) := (show _ ∧ _ by omega)
  have HP : Hid (∀ W, Below wr.heap.size wr W → W.cell? ⟨wp, 0, none⟩ = some (.map mo) ∧ W.cell? ⟨q1, 0, none⟩ = some (.int .i64 a) ∧ W.cell? ⟨q1, 1, none⟩ = some (.int .i64 b)) := by
    intro W hW
    have e1 := (hW.block q1 HN.out.2.1).trans HQ1.out
    exact ⟨((hW.cell (p := ⟨wp, 0, none⟩) HN.out.2.2.1).trans (HB.out.cell (p := ⟨wp, 0, none⟩) hwp)).trans c0, cell_row e1 0, cell_row e1 1⟩
  have HD0 : Hid (Below wr.heap.size wr wr.drew) := (Below.refl _ _).drew
  have HBD : Hid (∀ W, Below wr.heap.size wr W → Below w.heap.size w W) := fun W hW => HB.out.trans (hW.mono HB.out.size)
  have hl := HL.out _ (HBD.out _ HD0.out)
  obtain ⟨p0, p1, p2⟩ := HP.out wr (Below.refl _ _)
  clear hwr hq0 hq1 HW hsr c0
  go_region_held3 (fun W => W.cell? ⟨wp, 0, none⟩ = some (.map mo) ∧ W.cell? ⟨q1, 0, none⟩ = some (.int .i64 a) ∧ W.cell? ⟨q1, 1, none⟩ = some (.int .i64 b)) (first | (go_keep; done) | exact HP.out _ HD0.out) (fail)
  have hz := HQ0.out
  have z0 : wr.cell? ⟨q0, 0, none⟩ = some (.int .i64 0) := cell_row hz 0
  have z1 : wr.cell? ⟨q0, 1, none⟩ = some (.int .i64 0) := cell_row hz 1
  have z2 : wr.cell? ⟨q0, 2, none⟩ = some (.string ⟨#[]⟩) := cell_row hz 2
  have z3 : wr.cell? ⟨q0, 3, none⟩ = some (.slice none 0 0) := cell_row hz 3
  have zf : ∀ j, wr.frozen? ⟨q0, j, none⟩ = false := fun j => by simp [World.frozen?, hz]
  have f0 := zf 0
  have f1 := zf 1
  have f2 := zf 2
  have f3 := zf 3
  clear zf hz
  have HQ := hide HN.out.2.2.2.1
  go_wp2_with fail
  refine bodyPost_ret (v := .tuple #[.agg #[.int .i64 0, .int .i64 0, .string ⟨#[]⟩, .slice none 0 0], .int .i64 4]) (by simp [results, Try.results45, go_sem, z0, z1, z2, z3]) rfl ⟨rfl, ?_⟩
  have hb := HBD.out _ (Below.refl _ _)
  exact ((((hb.setCell HQ.out _).setCell HQ.out _).setCell HQ.out _).setCell HQ.out _).drew
set_option maxRecDepth 100000 in
set_option maxHeartbeats 2000000 in
theorem take_one (wp mb g c : Nat) (y0 y1 : Int) (ys : ByteArray) (ya : Option Addr) (yl yc : Nat) (a b : Int) (w : World) (G : World → Prop) (hwp : wp < w.heap.size) (hg : g < w.heap.size) (hmb : mb < w.heap.size) (hpm : wp ≠ mb) (hpg : wp ≠ g) (HC : Hid (w.cell? ⟨wp, 0, none⟩ = some (.map (some mb))))
    (HL : Hid (∀ W, Below w.heap.size w W → (Instr.lookup 90 (.map (some mb)) (.agg #[.int .i64 a, .int .i64 b]) false).run Try.prog W = .ok (.slice (some ⟨g, 0, none⟩) 1 c) W))
    (HY : Hid (w.cell? ⟨g, 0, none⟩ = some (.int .i64 y0) ∧ w.cell? ⟨g, 1, none⟩ = some (.int .i64 y1) ∧ w.cell? ⟨g, 2, none⟩ = some (.string ys) ∧ w.cell? ⟨g, 3, none⟩ = some (.slice ya yl yc)))
    (HD : Hid (∀ W, Below w.heap.size w W → ∃ w', (∀ ty, (Builtin.delete_ #[90, 88] ty #[.map (some mb), .agg #[.int .i64 a, .int .i64 b]]).run Try.prog W = .ok (.tuple #[]) w') ∧ Kee (fun b => b = mb) W w' ∧ w'.heap.size = W.heap.size ∧ ∀ w2, Below w.heap.size w' w2 → G w2)) :
    Calls Try.prog 45 #[.pointer (some ⟨wp, 0, none⟩), .int .i64 a, .int .i64 b] w fun e w' => e = .returned (.tuple #[.agg #[.int .i64 y0, .int .i64 y1, .string ys, .slice ya yl yc], .int .i64 0]) ∧ G w' := by
  have c0 := HC.out
  have HW : Hid (∃ wr q0 q1, wr = (w.alloc (.cells #[.int .i64 0, .int .i64 0, .string ⟨#[]⟩, .slice none 0 0] 24)).alloc (.cells #[.int .i64 a, .int .i64 b] 88) ∧ q0 = w.heap.size ∧ q1 = w.heap.size + 1) := ⟨_, _, _, rfl, rfl, rfl⟩
  go_enter Try.func45, Try.ntmps45
  go_wp2_with fail
  obtain ⟨wr, q0, q1, hwr, hq0, hq1⟩ := HW.out
  rw [← hwr, ← hq1, ← hq0]
  have hsr : wr.heap.size = w.heap.size + 2 := by rw [hwr]; simp
  have HB : Hid (Below w.heap.size w wr) := by
    rw [hwr]
    exact ((Below.refl _ _).alloc (Nat.le_refl _) _).alloc (by simp) _
  have HQ0 : Hid (wr.heap[q0]? = some (.cells #[.int .i64 0, .int .i64 0, .string ⟨#[]⟩, .slice none 0 0] 24)) := by
    rw [hwr, hq0]
    exact (((Below.refl _ _).alloc (Nat.le_refl _) _).block w.heap.size (by simp)).trans (heap_alloc_new w _)
  have HQ1 : Hid (wr.heap[q1]? = some (.cells #[.int .i64 a, .int .i64 b] 88)) := by
    rw [hwr, hq1]
    have h := heap_alloc_new (w.alloc (.cells #[.int .i64 0, .int .i64 0, .string ⟨#[]⟩, .slice none 0 0] 24)) (.cells #[.int .i64 a, .int .i64 b] 88)
    have e : (w.alloc (.cells #[.int .i64 0, .int .i64 0, .string ⟨#[]⟩, .slice none 0 0] 24)).heap.size = w.heap.size + 1 := by simp
    rwa [e] at h
  have HN : Hid (q0 < wr.heap.size ∧ q1 < wr.heap.size ∧ wp < wr.heap.size ∧ w.heap.size ≤ q0 ∧ w.heap.size ≤ q1 ∧ wp < w.heap.size) := (show _ ∧ _ by omega)
  have HP : Hid (∀ W, Below wr.heap.size wr W → W.cell? ⟨wp, 0, none⟩ = some (.map (some mb)) ∧ W.cell? ⟨q1, 0, none⟩ = some (.int .i64 a) ∧ W.cell? ⟨q1, 1, none⟩ = some (.int .i64 b)) := by
    intro W hW
    have e1 := (hW.block q1 HN.out.2.1).trans HQ1.out
    exact ⟨((hW.cell (p := ⟨wp, 0, none⟩) HN.out.2.2.1).trans (HB.out.cell (p := ⟨wp, 0, none⟩) hwp)).trans c0, cell_row e1 0, cell_row e1 1⟩
  have HD0 : Hid (Below wr.heap.size wr wr.drew) := (Below.refl _ _).drew
  have HBD : Hid (∀ W, Below wr.heap.size wr W → Below w.heap.size w W) := fun W hW => HB.out.trans (hW.mono HB.out.size)
  have hl := HL.out _ (HBD.out _ HD0.out)
  obtain ⟨p0, p1, p2⟩ := HP.out wr (Below.refl _ _)
  clear hwr hq0 hq1 HW hsr c0
  go_region_held3 (fun W => W.cell? ⟨wp, 0, none⟩ = some (.map (some mb)) ∧ W.cell? ⟨q1, 0, none⟩ = some (.int .i64 a) ∧ W.cell? ⟨q1, 1, none⟩ = some (.int .i64 b)) (first | (go_keep; done) | exact HP.out _ HD0.out) (fail)
  obtain ⟨y0', y1', y2', y3'⟩ := HY.out
  have cc := below_cells HB.out
  replace y0' := (cc _ _ hg).trans y0'
  replace y1' := (cc _ _ hg).trans y1'
  replace y2' := (cc _ _ hg).trans y2'
  replace y3' := (cc _ _ hg).trans y3'
  clear cc
  have HW3 : Hid (∃ w3 q2, (w3 = (wr.alloc (.cells #[.int .i64 y0, .int .i64 y1, .string ys, .slice ya yl yc] 24)).drew ∧ q2 = wr.heap.size) ∧ Below wr.heap.size wr w3 ∧ w3.heap[q2]? = some (.cells #[.int .i64 y0, .int .i64 y1, .string ys, .slice ya yl yc] 24) ∧ q2 < w3.heap.size ∧ wr.heap.size ≤ q2) := ⟨_, _, ⟨rfl, rfl⟩, (show Below _ _ _ by go_grown), heap_alloc_new wr _, by simp [World.drew], Nat.le_refl _⟩
  go_wp2_with fail
  obtain ⟨w3, q2, ⟨hw3, hq2⟩, HS3⟩ := HW3.out
  rw [← hw3, ← hq2]
  replace HS3 := hide HS3
  clear hw3 hq2 HW3 p0 p1 p2 hl y0' y1' y2' y3'
  have HB3 := hide (HBD.out _ HS3.out.1)
  have HP3 : Hid (∀ W : World, (∀ b, b < w3.heap.size → b ≠ mb → b ≠ g → W.heap[b]? = w3.heap[b]?) → (W.cell? ⟨wp, 0, none⟩ = some (.map (some mb)) ∧ W.cell? ⟨q1, 0, none⟩ = some (.int .i64 a) ∧ W.cell? ⟨q1, 1, none⟩ = some (.int .i64 b)) ∧ (W.cell? ⟨q2, 0, none⟩ = some (.int .i64 y0) ∧ W.cell? ⟨q2, 1, none⟩ = some (.int .i64 y1) ∧ W.cell? ⟨q2, 2, none⟩ = some (.string ys) ∧ W.cell? ⟨q2, 3, none⟩ = some (.slice ya yl yc)) ∧ (W.heap[q0]? = some (.cells #[.int .i64 0, .int .i64 0, .string ⟨#[]⟩, .slice none 0 0] 24))) := by
    intro W hW
    obtain ⟨n0, n1, n2, n3, n4, n5⟩ := HN.out
    have hs := HS3.out.1.size
    have hq := HS3.out.2.2.2
    have e1 := (hW q1 (by omega) (by omega) (by omega)).trans ((HS3.out.1.block q1 n1).trans HQ1.out)
    have e0 := (hW q0 (by omega) (by omega) (by omega)).trans ((HS3.out.1.block q0 n0).trans HQ0.out)
    have e2 := (hW q2 HS3.out.2.2.1 (by omega) (by omega)).trans HS3.out.2.1
    have ep := hW wp (by omega) hpm hpg
    refine ⟨⟨?_, cell_row e1 0, cell_row e1 1⟩, ⟨cell_row e2 0, cell_row e2 1, cell_row e2 2, cell_row e2 3⟩, e0⟩
    have h := (HP.out w3 HS3.out.1).1
    simp only [World.cell?, ep] at h ⊢
    exact h
  have HD3 : Hid (Below w3.heap.size w3 w3.drew) := (Below.refl _ _).drew
  have HB3D := hide (HB3.out.trans (HD3.out.mono HB3.out.size))
  obtain ⟨⟨p0, p1, p2⟩, _, _⟩ := HP3.out w3 (fun _ _ _ _ => rfl)
  have HPD := hide (HP3.out w3.drew (fun _ _ _ _ => rfl)).1
  obtain ⟨w4, hdel, hk4, hs4, hG4⟩ : ∃ w4, (∀ ty, (Builtin.delete_ #[90, 88] ty #[.map (some mb), .agg #[.int .i64 a, .int .i64 b]]).run Try.prog w3.drew = .ok (.tuple #[]) w4) ∧ Kee (fun b => b = mb) w3.drew w4 ∧ w4.heap.size = w3.drew.heap.size ∧ ∀ w2, Below w.heap.size w4 w2 → G w2 := HD.out _ HB3D.out
  have HP4 := hide (HP3.out w4 (fun b hb h1 h2 => hk4.block b hb h1))
  have HG4 := hide hG4
  clear hk4 hs4 hG4
  go_region_held3 (fun W => W.cell? ⟨wp, 0, none⟩ = some (.map (some mb)) ∧ W.cell? ⟨q1, 0, none⟩ = some (.int .i64 a) ∧ W.cell? ⟨q1, 1, none⟩ = some (.int .i64 b)) (first | (go_keep; done) | exact HPD.out | exact HP4.out.1) (fail)
  obtain ⟨_, ⟨t0, t1, t2, t3⟩, hz⟩ := HP4.out
  have z0 : w4.cell? ⟨q0, 0, none⟩ = some (.int .i64 0) := cell_row hz 0
  have z1 : w4.cell? ⟨q0, 1, none⟩ = some (.int .i64 0) := cell_row hz 1
  have z2 : w4.cell? ⟨q0, 2, none⟩ = some (.string ⟨#[]⟩) := cell_row hz 2
  have z3 : w4.cell? ⟨q0, 3, none⟩ = some (.slice none 0 0) := cell_row hz 3
  have zf : ∀ j, w4.frozen? ⟨q0, j, none⟩ = false := fun j => by simp [World.frozen?, hz]
  have f0 := zf 0
  have f1 := zf 1
  have f2 := zf 2
  have f3 := zf 3
  have HQ := hide HN.out.2.2.2.1
  clear zf hz
  go_wp2_with fail
  refine bodyPost_ret (v := .tuple #[.agg #[.int .i64 y0, .int .i64 y1, .string ys, .slice ya yl yc], .int .i64 0]) (by simp [results, Try.results45, go_sem, z0, z1, z2, z3]) rfl ⟨rfl, ?_⟩
  exact HG4.out _ (((((Below.refl w.heap.size w4).setCell HQ.out _).setCell HQ.out _).setCell HQ.out _).setCell HQ.out _)
set_option maxRecDepth 100000 in
set_option maxHeartbeats 2000000 in
theorem take_more (wp mb g c m : Nat) (y0 y1 : Int) (ys : ByteArray) (ya : Option Addr) (yl yc : Nat) (a b : Int) (w : World) (G : World → Prop) (R : World → World → Prop) (hm : 1 ≤ m) (hm2 : m ≤ 1000) (hwp : wp < w.heap.size) (hg : g < w.heap.size) (hmb : mb < w.heap.size) (hpm : wp ≠ mb) (hpg : wp ≠ g) (HC : Hid (w.cell? ⟨wp, 0, none⟩ = some (.map (some mb))))
    (HL : Hid (∀ W, Below w.heap.size w W → (Instr.lookup 90 (.map (some mb)) (.agg #[.int .i64 a, .int .i64 b]) false).run Try.prog W = .ok (.slice (some ⟨g, 0, none⟩) (m + 1) c) W))
    (HY : Hid (w.cell? ⟨g, 0, none⟩ = some (.int .i64 y0) ∧ w.cell? ⟨g, 1, none⟩ = some (.int .i64 y1) ∧ w.cell? ⟨g, 2, none⟩ = some (.string ys) ∧ w.cell? ⟨g, 3, none⟩ = some (.slice ya yl yc)))
    (HD : Hid (∀ W, Below w.heap.size w W → Calls Try.prog 92 #[.slice (some ⟨g, 0, none⟩) (m + 1) c, .int .i64 0, .int .i64 1] W fun e w' => e = .returned (.slice (some ⟨g, 0, none⟩) m c) ∧ Hid (W.grownBy w' (some g) ∧ R W w')))
    (HU : Hid (∀ W W1, R W W1 → Below w.heap.size w W → W.grownBy W1 (some g) → ∃ w', (Instr.mapUpdate 90 (.map (some mb)) (.agg #[.int .i64 a, .int .i64 b]) (.slice (some ⟨g, 0, none⟩) m c)).run Try.prog W1 = .ok () w' ∧ Kee (fun b => b = mb) W1 w' ∧ ∀ w2, Below w.heap.size w' w2 → G w2)) :
    Calls Try.prog 45 #[.pointer (some ⟨wp, 0, none⟩), .int .i64 a, .int .i64 b] w fun e w' => e = .returned (.tuple #[.agg #[.int .i64 y0, .int .i64 y1, .string ys, .slice ya yl yc], .int .i64 0]) ∧ G w' := by
  have c0 := HC.out
  have HW : Hid (∃ wr q0 q1, wr = (w.alloc (.cells #[.int .i64 0, .int .i64 0, .string ⟨#[]⟩, .slice none 0 0] 24)).alloc (.cells #[.int .i64 a, .int .i64 b] 88) ∧ q0 = w.heap.size ∧ q1 = w.heap.size + 1) := ⟨_, _, _, rfl, rfl, rfl⟩
  go_enter Try.func45, Try.ntmps45
  go_wp2_with fail
  obtain ⟨wr, q0, q1, hwr, hq0, hq1⟩ := HW.out
  rw [← hwr, ← hq1, ← hq0]
  have hsr : wr.heap.size = w.heap.size + 2 := by rw [hwr]; simp
  have HB : Hid (Below w.heap.size w wr) := by
    rw [hwr]
    exact ((Below.refl _ _).alloc (Nat.le_refl _) _).alloc (by simp) _
  have HQ0 : Hid (wr.heap[q0]? = some (.cells #[.int .i64 0, .int .i64 0, .string ⟨#[]⟩, .slice none 0 0] 24)) := by
    rw [hwr, hq0]
    exact (((Below.refl _ _).alloc (Nat.le_refl _) _).block w.heap.size (by simp)).trans (heap_alloc_new w _)
  have HQ1 : Hid (wr.heap[q1]? = some (.cells #[.int .i64 a, .int .i64 b] 88)) := by
    rw [hwr, hq1]
    have h := heap_alloc_new (w.alloc (.cells #[.int .i64 0, .int .i64 0, .string ⟨#[]⟩, .slice none 0 0] 24)) (.cells #[.int .i64 a, .int .i64 b] 88)
    have e : (w.alloc (.cells #[.int .i64 0, .int .i64 0, .string ⟨#[]⟩, .slice none 0 0] 24)).heap.size = w.heap.size + 1 := by simp
    rwa [e] at h
  have HN : Hid (q0 < wr.heap.size ∧ q1 < wr.heap.size ∧ wp < wr.heap.size ∧ w.heap.size ≤ q0 ∧ w.heap.size ≤ q1 ∧ wp < w.heap.size) := (show _ ∧ _ by omega)
  have HP : Hid (∀ W, Below wr.heap.size wr W → W.cell? ⟨wp, 0, none⟩ = some (.map (some mb)) ∧ W.cell? ⟨q1, 0, none⟩ = some (.int .i64 a) ∧ W.cell? ⟨q1, 1, none⟩ = some (.int .i64 b)) := by
    intro W hW
    have e1 := (hW.block q1 HN.out.2.1).trans HQ1.out
    exact ⟨((hW.cell (p := ⟨wp, 0, none⟩) HN.out.2.2.1).trans (HB.out.cell (p := ⟨wp, 0, none⟩) hwp)).trans c0, cell_row e1 0, cell_row e1 1⟩
  have HD0 : Hid (Below wr.heap.size wr wr.drew) := (Below.refl _ _).drew
  have HBD : Hid (∀ W, Below wr.heap.size wr W → Below w.heap.size w W) := fun W hW => HB.out.trans (hW.mono HB.out.size)
  have hl := HL.out _ (HBD.out _ HD0.out)
  obtain ⟨p0, p1, p2⟩ := HP.out wr (Below.refl _ _)
  clear hwr hq0 hq1 HW hsr c0
  go_region_held3 (fun W => W.cell? ⟨wp, 0, none⟩ = some (.map (some mb)) ∧ W.cell? ⟨q1, 0, none⟩ = some (.int .i64 a) ∧ W.cell? ⟨q1, 1, none⟩ = some (.int .i64 b)) (first | (go_keep; done) | exact HP.out _ HD0.out) (fail)
  obtain ⟨y0', y1', y2', y3'⟩ := HY.out
  have cc := below_cells HB.out
  replace y0' := (cc _ _ hg).trans y0'
  replace y1' := (cc _ _ hg).trans y1'
  replace y2' := (cc _ _ hg).trans y2'
  replace y3' := (cc _ _ hg).trans y3'
  clear cc
  have m1 : ¬ ((m : Int) + 1 = 0) := by omega
  have m2 : ¬ ((m : Int) + 1 = 1) := by omega
  have m3 : (0 : Int) < (m : Int) + 1 := by omega
  have HW3 : Hid (∃ w3 q2, (w3 = (wr.alloc (.cells #[.int .i64 y0, .int .i64 y1, .string ys, .slice ya yl yc] 24)).drew ∧ q2 = wr.heap.size) ∧ Below wr.heap.size wr w3 ∧ w3.heap[q2]? = some (.cells #[.int .i64 y0, .int .i64 y1, .string ys, .slice ya yl yc] 24) ∧ q2 < w3.heap.size ∧ wr.heap.size ≤ q2) := ⟨_, _, ⟨rfl, rfl⟩, (show Below _ _ _ by go_grown), heap_alloc_new wr _, by simp [World.drew], Nat.le_refl _⟩
  go_wp2_with fail
  obtain ⟨w3, q2, ⟨hw3, hq2⟩, HS3⟩ := HW3.out
  rw [← hw3, ← hq2]
  replace HS3 := hide HS3
  clear hw3 hq2 HW3 p0 p1 p2 hl y0' y1' y2' y3'
  have HB3 := hide (HBD.out _ HS3.out.1)
  have HP3 : Hid (∀ W : World, (∀ b, b < w3.heap.size → b ≠ mb → b ≠ g → W.heap[b]? = w3.heap[b]?) → (W.cell? ⟨wp, 0, none⟩ = some (.map (some mb)) ∧ W.cell? ⟨q1, 0, none⟩ = some (.int .i64 a) ∧ W.cell? ⟨q1, 1, none⟩ = some (.int .i64 b)) ∧ (W.cell? ⟨q2, 0, none⟩ = some (.int .i64 y0) ∧ W.cell? ⟨q2, 1, none⟩ = some (.int .i64 y1) ∧ W.cell? ⟨q2, 2, none⟩ = some (.string ys) ∧ W.cell? ⟨q2, 3, none⟩ = some (.slice ya yl yc)) ∧ (W.heap[q0]? = some (.cells #[.int .i64 0, .int .i64 0, .string ⟨#[]⟩, .slice none 0 0] 24))) := by
    intro W hW
    obtain ⟨n0, n1, n2, n3, n4, n5⟩ := HN.out
    have hs := HS3.out.1.size
    have hq := HS3.out.2.2.2
    have e1 := (hW q1 (by omega) (by omega) (by omega)).trans ((HS3.out.1.block q1 n1).trans HQ1.out)
    have e0 := (hW q0 (by omega) (by omega) (by omega)).trans ((HS3.out.1.block q0 n0).trans HQ0.out)
    have e2 := (hW q2 HS3.out.2.2.1 (by omega) (by omega)).trans HS3.out.2.1
    have ep := hW wp (by omega) hpm hpg
    refine ⟨⟨?_, cell_row e1 0, cell_row e1 1⟩, ⟨cell_row e2 0, cell_row e2 1, cell_row e2 2, cell_row e2 3⟩, e0⟩
    have h := (HP.out w3 HS3.out.1).1
    simp only [World.cell?, ep] at h ⊢
    exact h
  have HD3 : Hid (Below w3.heap.size w3 w3.drew) := (Below.refl _ _).drew
  have HB3D := hide (HB3.out.trans (HD3.out.mono HB3.out.size))
  obtain ⟨⟨p0, p1, p2⟩, _, _⟩ := HP3.out w3 (fun _ _ _ _ => rfl)
  have HPD := hide (HP3.out w3.drew (fun _ _ _ _ => rfl)).1
  go_region_held3 (fun W => W.cell? ⟨wp, 0, none⟩ = some (.map (some mb)) ∧ W.cell? ⟨q1, 0, none⟩ = some (.int .i64 a) ∧ W.cell? ⟨q1, 1, none⟩ = some (.int .i64 b)) (first | (go_keep; done) | exact HPD.out | exact HP5.out.1 | exact HP4.out.1)
    ((first | (go_at_call 92; refine (HD.out _ HB3D.out).mono ?_; rintro e w5 ⟨rfl, HR⟩; obtain ⟨w4, hup, hk4, hG4⟩ := HU.out _ _ HR.out.2 HB3D.out HR.out.1; have HP5 := hide (HP3.out w5 (fun b hb h1 h2 => HR.out.1.block b hb (fun e => h2 (Option.some.inj e)))); have HP4 := hide (HP3.out w4 (fun b hb h1 h2 => (hk4.block b (Nat.lt_of_lt_of_le hb HR.out.1.size) h1).trans (HR.out.1.block b hb (fun e => h2 (Option.some.inj e))))); have HG4 := hide hG4; clear hk4 hG4)))
  obtain ⟨_, ⟨t0, t1, t2, t3⟩, hz⟩ := HP4.out
  have z0 : w4.cell? ⟨q0, 0, none⟩ = some (.int .i64 0) := cell_row hz 0
  have z1 : w4.cell? ⟨q0, 1, none⟩ = some (.int .i64 0) := cell_row hz 1
  have z2 : w4.cell? ⟨q0, 2, none⟩ = some (.string ⟨#[]⟩) := cell_row hz 2
  have z3 : w4.cell? ⟨q0, 3, none⟩ = some (.slice none 0 0) := cell_row hz 3
  have zf : ∀ j, w4.frozen? ⟨q0, j, none⟩ = false := fun j => by simp [World.frozen?, hz]
  have f0 := zf 0
  have f1 := zf 1
  have f2 := zf 2
  have f3 := zf 3
  have HQ := hide HN.out.2.2.2.1
  clear zf hz
  go_wp2_with fail
  refine bodyPost_ret (v := .tuple #[.agg #[.int .i64 y0, .int .i64 y1, .string ys, .slice ya yl yc], .int .i64 0]) (by simp [results, Try.results45, go_sem, z0, z1, z2, z3]) rfl ⟨rfl, ?_⟩
  exact HG4.out _ (((((Below.refl w.heap.size w4).setCell HQ.out _).setCell HQ.out _).setCell HQ.out _).setCell HQ.out _)
end Go.Proofs.Ytfginhifgljnmaa
