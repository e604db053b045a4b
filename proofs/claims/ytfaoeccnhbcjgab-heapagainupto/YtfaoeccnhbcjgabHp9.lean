/- What is proved here: Put of a heap: which error it tells, and what it lays. No condition but sizes, and that the term lies outside of the heap's own blocks. -/
import Derived.Test.YtfaoeccnhbcjgabHp8
import Derived.Test.YtfaoeccnhbcjgabClo
namespace Go.Proofs.Ytfaoeccnhbcjgab
open Go.RowKit

/-- The boxes of a call of Put: the term, and the word that is told. -/
def PutBox (q : Nat) (k u : Int) (s : ByteArray) (a : Option Addr) (l c : Nat) (w : World) : Prop :=
  w.heap[q]? = some (.cells #[.int .i64 k, .int .i64 u, .string s, .slice a l c] 24) ∧ w.heap[q + 1]? = some (.cells #[.int .i64 0, .int .i64 0] 37)
theorem put_box (w : World) (k u : Int) (s : ByteArray) (a : Option Addr) (l c : Nat) : PutBox w.heap.size k u s a l c ((w.alloc (Obj.cells #[.int .i64 k, .int .i64 u, .string s, .slice a l c] 24)).alloc (Obj.cells #[.int .i64 0, .int .i64 0] 37)) := by
  refine ⟨((World.grownBy_alloc (w.alloc (Obj.cells #[.int .i64 k, .int .i64 u, .string s, .slice a l c] 24)) (Obj.cells #[.int .i64 0, .int .i64 0] 37) none).block _ (by simp) (by simp)).trans (heap_alloc_new w _), ?_⟩
  have := heap_alloc_new (w.alloc (Obj.cells #[.int .i64 k, .int .i64 u, .string s, .slice a l c] 24)) (Obj.cells #[.int .i64 0, .int .i64 0] 37)
  have es : ∀ o, (w.alloc o).heap.size = w.heap.size + 1 := fun o => by simp
  rw [es] at this
  exact this
theorem PutBox.facts {q : Nat} {k u : Int} {s : ByteArray} {a : Option Addr} {l c : Nat} {w : World} (h : PutBox q k u s a l c w) :
    (w.cell? ⟨q, 0, none⟩ = some (.int .i64 k) ∧ w.cell? ⟨q, 1, none⟩ = some (.int .i64 u) ∧ w.cell? ⟨q, 2, none⟩ = some (.string s) ∧ w.cell? ⟨q, 3, none⟩ = some (.slice a l c)) ∧ (w.cell? ⟨q + 1, 0, none⟩ = some (.int .i64 0) ∧ w.cell? ⟨q + 1, 1, none⟩ = some (.int .i64 0)) ∧ w.frozen? ⟨q + 1, 0, none⟩ = false ∧ w.frozen? ⟨q + 1, 1, none⟩ = false := by
  obtain ⟨h1, h2⟩ := h
  refine ⟨⟨?_, ?_, ?_, ?_⟩, ⟨?_, ?_⟩, ?_, ?_⟩
  all_goals simp [World.cell?, World.frozen?, h1, h2]
theorem put_next {k u : Int} {s : ByteArray} {a : Option Addr} {l c : Nat} {w w1 w2 : World} (h : Below w.heap.size w w1 ∧ w.heap.size + 2 ≤ w1.heap.size ∧ PutBox w.heap.size k u s a l c w1) (hb : Below w1.heap.size w1 w2) : Below w.heap.size w w2 ∧ w.heap.size + 2 ≤ w2.heap.size ∧ PutBox w.heap.size k u s a l c w2 := by
  obtain ⟨h1, h2, h3⟩ := h
  have := hb.size
  exact ⟨h1.trans (hb.mono h1.size), by omega, (hb.block _ (by omega)).trans h3.1, (hb.block _ (by omega)).trans h3.2⟩
theorem put_below {k u : Int} {s : ByteArray} {a : Option Addr} {l c : Nat} {w w1 : World} (h : Below w.heap.size w w1 ∧ w.heap.size + 2 ≤ w1.heap.size ∧ PutBox w.heap.size k u s a l c w1) (v0 v1 : Value) : Below w.heap.size w ((w1.setCell ⟨w.heap.size + 1, 0, none⟩ v0).setCell ⟨w.heap.size + 1, 1, none⟩ v1) := by
  obtain ⟨h1, h2, h3⟩ := h
  have k1 := keep_set w1 (w.heap.size + 1) 0 v0
  have k2 := keep_set (w1.setCell ⟨w.heap.size + 1, 0, none⟩ v0) (w.heap.size + 1) 1 v1
  have k3 := (keep_below h1 (fun b => b = w.heap.size + 1)).trans (k1.trans k2 (fun b _ h => h)) (fun b _ h => h)
  exact ⟨k3.os, k3.tape, k3.output, k3.size, fun b hb => k3.block b hb (by omega)⟩

set_option maxHeartbeats 1000000 in
set_option maxRecDepth 100000 in
theorem put_e1 (hp : Nat) (k u : Int) (s : ByteArray) (a : Option Addr) (l c : Nat) (w : World) (ce : Int) (hce : (ce != 0) = true)
    (HC : Hid (∀ w1, Below w.heap.size w w1 → Calls Try.prog 41 #[.agg #[.int .i64 k, .int .i64 u, .string s, .slice a l c]] w1 fun e w' => e = .returned (.int .i64 ce) ∧ Below w1.heap.size w1 w')) :
    Calls Try.prog 15 #[.pointer (some ⟨hp, 0, none⟩), .agg #[.int .i64 k, .int .i64 u, .string s, .slice a l c]] w fun e w' => e = .returned (.tuple #[.agg #[.int .i64 0, .int .i64 0], .int .i64 ce]) ∧ Below w.heap.size w w' := by
  go_enter Try.func15, Try.ntmps15
  go_wp2_with fail
  generalize hw0 : (w.alloc (Obj.cells #[.int .i64 k, .int .i64 u, .string s, .slice a l c] 24)).alloc (Obj.cells #[.int .i64 0, .int .i64 0] 37) = w0
  have H0 : Hid (Below w.heap.size w w0 ∧ w.heap.size + 2 ≤ w0.heap.size ∧ PutBox w.heap.size k u s a l c w0) := by
    subst hw0
    exact ⟨((Below.refl _ _).alloc (Nat.le_refl _) _).alloc (by simp) _, by simp, put_box _ _ _ _ _ _ _⟩
  clear hw0
  refine (HC.out _ H0.out.1).mono ?_
  rintro e w1 ⟨rfl, hb⟩
  have H1 := hide (put_next H0.out hb)
  obtain ⟨⟨t0, t1, t2, t3⟩, ⟨r0, r1⟩, f0, f1⟩ := H1.out.2.2.facts
  clear hb H0
  go_wp2_with fail
  exact bodyPost_ret (v := .tuple #[.agg #[.int .i64 0, .int .i64 0], .int .i64 ce]) (by simp [results, Try.results15, go_sem, r0, r1]) rfl ⟨rfl, put_below H1.out _ _⟩

set_option maxHeartbeats 1000000 in
set_option maxRecDepth 100000 in
theorem put_e2 (hp : Nat) (k u : Int) (s : ByteArray) (a : Option Addr) (l c : Nat) (w : World)
    (HC : Hid (∀ w1, Below w.heap.size w w1 → Calls Try.prog 41 #[.agg #[.int .i64 k, .int .i64 u, .string s, .slice a l c]] w1 fun e w' => e = .returned (.int .i64 0) ∧ Below w1.heap.size w1 w'))
    (HL : Hid (∀ w1, Below w.heap.size w w1 → Calls Try.prog 42 #[.agg #[.int .i64 k, .int .i64 u, .string s, .slice a l c]] w1 fun e w' => e = .returned (.bool false) ∧ Below w1.heap.size w1 w')) :
    Calls Try.prog 15 #[.pointer (some ⟨hp, 0, none⟩), .agg #[.int .i64 k, .int .i64 u, .string s, .slice a l c]] w fun e w' => e = .returned (.tuple #[.agg #[.int .i64 0, .int .i64 0], .int .i64 5]) ∧ Below w.heap.size w w' := by
  go_enter Try.func15, Try.ntmps15
  go_wp2_with fail
  generalize hw0 : (w.alloc (Obj.cells #[.int .i64 k, .int .i64 u, .string s, .slice a l c] 24)).alloc (Obj.cells #[.int .i64 0, .int .i64 0] 37) = w0
  have H0 : Hid (Below w.heap.size w w0 ∧ w.heap.size + 2 ≤ w0.heap.size ∧ PutBox w.heap.size k u s a l c w0) := by
    subst hw0
    exact ⟨((Below.refl _ _).alloc (Nat.le_refl _) _).alloc (by simp) _, by simp, put_box _ _ _ _ _ _ _⟩
  clear hw0
  refine (HC.out _ H0.out.1).mono ?_
  rintro e w1 ⟨rfl, hb⟩
  have H1 := hide (put_next H0.out hb)
  obtain ⟨⟨t0, t1, t2, t3⟩, ⟨r0, r1⟩, f0, f1⟩ := H1.out.2.2.facts
  clear hb H0
  go_wp2_with fail
  clear t0 t1 t2 t3 r0 r1 f0 f1
  refine (HL.out _ H1.out.1).mono ?_
  rintro e w2 ⟨rfl, hb⟩
  have H2 := hide (put_next H1.out hb)
  obtain ⟨⟨t0, t1, t2, t3⟩, ⟨r0, r1⟩, f0, f1⟩ := H2.out.2.2.facts
  clear hb H1
  go_wp2_with fail
  exact bodyPost_ret (v := .tuple #[.agg #[.int .i64 0, .int .i64 0], .int .i64 5]) (by simp [results, Try.results15, go_sem, r0, r1]) rfl ⟨rfl, put_below H2.out _ _⟩

set_option maxHeartbeats 1000000 in
set_option maxRecDepth 100000 in
theorem put_e3 (hp : Nat) (k u : Int) (s : ByteArray) (a : Option Addr) (l c : Nat) (w : World) (z : Int)
    (HC : Hid (∀ w1, Below w.heap.size w w1 → Calls Try.prog 41 #[.agg #[.int .i64 k, .int .i64 u, .string s, .slice a l c]] w1 fun e w' => e = .returned (.int .i64 0) ∧ Below w1.heap.size w1 w'))
    (HL : Hid (∀ w1, Below w.heap.size w w1 → Calls Try.prog 42 #[.agg #[.int .i64 k, .int .i64 u, .string s, .slice a l c]] w1 fun e w' => e = .returned (.bool true) ∧ Below w1.heap.size w1 w'))
    (HS : Hid (∀ w1, Below w.heap.size w w1 → Calls Try.prog 44 #[.agg #[.int .i64 k, .int .i64 u, .string s, .slice a l c]] w1 fun e w' => e = .returned (.int .i64 z) ∧ Below w1.heap.size w1 w'))
    (HF : Hid (∀ w1, Below w.heap.size w w1 → Calls Try.prog 43 #[.pointer (some ⟨hp, 0, none⟩), .int .i64 z] w1 fun e w' => e = .returned (.bool false) ∧ Below w1.heap.size w1 w')) :
    Calls Try.prog 15 #[.pointer (some ⟨hp, 0, none⟩), .agg #[.int .i64 k, .int .i64 u, .string s, .slice a l c]] w fun e w' => e = .returned (.tuple #[.agg #[.int .i64 0, .int .i64 0], .int .i64 6]) ∧ Below w.heap.size w w' := by
  go_enter Try.func15, Try.ntmps15
  go_wp2_with fail
  generalize hw0 : (w.alloc (Obj.cells #[.int .i64 k, .int .i64 u, .string s, .slice a l c] 24)).alloc (Obj.cells #[.int .i64 0, .int .i64 0] 37) = w0
  have H0 : Hid (Below w.heap.size w w0 ∧ w.heap.size + 2 ≤ w0.heap.size ∧ PutBox w.heap.size k u s a l c w0) := by
    subst hw0
    exact ⟨((Below.refl _ _).alloc (Nat.le_refl _) _).alloc (by simp) _, by simp, put_box _ _ _ _ _ _ _⟩
  clear hw0
  refine (HC.out _ H0.out.1).mono ?_
  rintro e w1 ⟨rfl, hb⟩
  have H1 := hide (put_next H0.out hb)
  obtain ⟨⟨t0, t1, t2, t3⟩, ⟨r0, r1⟩, f0, f1⟩ := H1.out.2.2.facts
  clear hb H0
  go_wp2_with fail
  clear t0 t1 t2 t3 r0 r1 f0 f1
  refine (HL.out _ H1.out.1).mono ?_
  rintro e w2 ⟨rfl, hb⟩
  have H2 := hide (put_next H1.out hb)
  obtain ⟨⟨t0, t1, t2, t3⟩, ⟨r0, r1⟩, f0, f1⟩ := H2.out.2.2.facts
  clear hb H1
  go_wp2_with fail
  clear t0 t1 t2 t3 r0 r1 f0 f1
  refine (HS.out _ H2.out.1).mono ?_
  rintro e w3 ⟨rfl, hb⟩
  have H3 := hide (put_next H2.out hb)
  obtain ⟨⟨t0, t1, t2, t3⟩, ⟨r0, r1⟩, f0, f1⟩ := H3.out.2.2.facts
  clear hb H2
  go_wp2_with fail
  clear t0 t1 t2 t3 r0 r1 f0 f1
  refine (HF.out _ H3.out.1).mono ?_
  rintro e w4 ⟨rfl, hb⟩
  have H4 := hide (put_next H3.out hb)
  obtain ⟨⟨t0, t1, t2, t3⟩, ⟨r0, r1⟩, f0, f1⟩ := H4.out.2.2.facts
  clear hb H3
  go_wp2_with fail
  exact bodyPost_ret (v := .tuple #[.agg #[.int .i64 0, .int .i64 0], .int .i64 6]) (by simp [results, Try.results15, go_sem, r0, r1]) rfl ⟨rfl, put_below H4.out _ _⟩

set_option maxHeartbeats 1000000 in
set_option maxRecDepth 100000 in
theorem put_ok (hp : Nat) (k u : Int) (s : ByteArray) (a : Option Addr) (l c : Nat) (w : World) (z : Int) (V : Wd) (base : Nat) (room : Int) (ws : List Wd) (nm : List ByteArray) (M : Nat → Prop)
    (HC : Hid (∀ w1, Below w.heap.size w w1 → Calls Try.prog 41 #[.agg #[.int .i64 k, .int .i64 u, .string s, .slice a l c]] w1 fun e w' => e = .returned (.int .i64 0) ∧ Below w1.heap.size w1 w'))
    (HL : Hid (∀ w1, Below w.heap.size w w1 → Calls Try.prog 42 #[.agg #[.int .i64 k, .int .i64 u, .string s, .slice a l c]] w1 fun e w' => e = .returned (.bool true) ∧ Below w1.heap.size w1 w'))
    (HS : Hid (∀ w1, Below w.heap.size w w1 → Calls Try.prog 44 #[.agg #[.int .i64 k, .int .i64 u, .string s, .slice a l c]] w1 fun e w' => e = .returned (.int .i64 z) ∧ Below w1.heap.size w1 w'))
    (HF : Hid (∀ w1, Below w.heap.size w w1 → Calls Try.prog 43 #[.pointer (some ⟨hp, 0, none⟩), .int .i64 z] w1 fun e w' => e = .returned (.bool true) ∧ Below w1.heap.size w1 w'))
    (HY : Hid (∀ w1, Below w.heap.size w w1 → Calls Try.prog 45 #[.pointer (some ⟨hp, 0, none⟩), .agg #[.int .i64 k, .int .i64 u, .string s, .slice a l c]] w1 fun e w' => e = .returned (.agg #[.int .i64 V.1, .int .i64 V.2]) ∧ Hid (Laid base hp room ws nm (fun b => M b ∧ b < w.heap.size) w1 w'))) :
    Calls Try.prog 15 #[.pointer (some ⟨hp, 0, none⟩), .agg #[.int .i64 k, .int .i64 u, .string s, .slice a l c]] w fun e w' => e = .returned (.tuple #[.agg #[.int .i64 V.1, .int .i64 V.2], .int .i64 0]) ∧ Hid (Laid base hp room ws nm M w w') := by
  go_enter Try.func15, Try.ntmps15
  go_wp2_with fail
  generalize hw0 : (w.alloc (Obj.cells #[.int .i64 k, .int .i64 u, .string s, .slice a l c] 24)).alloc (Obj.cells #[.int .i64 0, .int .i64 0] 37) = w0
  have H0 : Hid (Below w.heap.size w w0 ∧ w.heap.size + 2 ≤ w0.heap.size ∧ PutBox w.heap.size k u s a l c w0) := by
    subst hw0
    exact ⟨((Below.refl _ _).alloc (Nat.le_refl _) _).alloc (by simp) _, by simp, put_box _ _ _ _ _ _ _⟩
  clear hw0
  refine (HC.out _ H0.out.1).mono ?_
  rintro e w1 ⟨rfl, hb⟩
  have H1 := hide (put_next H0.out hb)
  obtain ⟨⟨t0, t1, t2, t3⟩, ⟨r0, r1⟩, f0, f1⟩ := H1.out.2.2.facts
  clear hb H0
  go_wp2_with fail
  clear t0 t1 t2 t3 r0 r1 f0 f1
  refine (HL.out _ H1.out.1).mono ?_
  rintro e w2 ⟨rfl, hb⟩
  have H2 := hide (put_next H1.out hb)
  obtain ⟨⟨t0, t1, t2, t3⟩, ⟨r0, r1⟩, f0, f1⟩ := H2.out.2.2.facts
  clear hb H1
  go_wp2_with fail
  clear t0 t1 t2 t3 r0 r1 f0 f1
  refine (HS.out _ H2.out.1).mono ?_
  rintro e w3 ⟨rfl, hb⟩
  have H3 := hide (put_next H2.out hb)
  obtain ⟨⟨t0, t1, t2, t3⟩, ⟨r0, r1⟩, f0, f1⟩ := H3.out.2.2.facts
  clear hb H2
  go_wp2_with fail
  clear t0 t1 t2 t3 r0 r1 f0 f1
  refine (HF.out _ H3.out.1).mono ?_
  rintro e w4 ⟨rfl, hb⟩
  have H4 := hide (put_next H3.out hb)
  obtain ⟨⟨t0, t1, t2, t3⟩, ⟨r0, r1⟩, f0, f1⟩ := H4.out.2.2.facts
  clear hb H3
  go_wp2_with fail
  refine (HY.out _ H4.out.1).mono ?_
  rintro e w5 ⟨rfl, HLD⟩
  have hcc := laid_cells HLD.out
  have d0 := (hcc (w.heap.size + 1) (by omega) (by have := H4.out.2.1; omega) 0).1.trans r0
  have d1 := (hcc (w.heap.size + 1) (by omega) (by have := H4.out.2.1; omega) 1).1.trans r1
  have g0 := (hcc (w.heap.size + 1) (by omega) (by have := H4.out.2.1; omega) 0).2.trans f0
  have g1 := (hcc (w.heap.size + 1) (by omega) (by have := H4.out.2.1; omega) 1).2.trans f1
  have HE := hide (laid_box HLD.out H4.out.1 H4.out.2.1 (.int .i64 V.1) (.int .i64 V.2))
  clear hcc t0 t1 t2 t3 r0 r1 f0 f1 HLD
  go_wp2_with fail
  exact bodyPost_ret (v := .tuple #[.agg #[.int .i64 V.1, .int .i64 V.2], .int .i64 0]) (by simp [results, Try.results15, go_sem, d0, d1]) rfl ⟨rfl, HE.out⟩
end Go.Proofs.Ytfaoeccnhbcjgab
