/- What is proved here: Join of a heap: which error it tells, and what it lays. No condition but what its callees do. -/
import Derived.Test.YtfaoeccnhbcjgabHp11
namespace Go.Proofs.Ytfaoeccnhbcjgab
open Go.RowKit

def JBox (q : Nat) (w : World) : Prop := w.heap[q]? = some (.cells #[.int .i64 0, .int .i64 0] 37)
theorem JBox.facts {q : Nat} {w : World} (h : JBox q w) : (w.cell? ⟨q, 0, none⟩ = some (.int .i64 0) ∧ w.cell? ⟨q, 1, none⟩ = some (.int .i64 0)) ∧ w.frozen? ⟨q, 0, none⟩ = false ∧ w.frozen? ⟨q, 1, none⟩ = false := by
  unfold JBox at h
  refine ⟨⟨?_, ?_⟩, ?_, ?_⟩
  all_goals simp [World.cell?, World.frozen?, h]
theorem join_next {w w1 w2 : World} (h : Below w.heap.size w w1 ∧ w.heap.size < w1.heap.size ∧ JBox w.heap.size w1) (hb : Below w1.heap.size w1 w2) : Below w.heap.size w w2 ∧ w.heap.size < w2.heap.size ∧ JBox w.heap.size w2 := by
  obtain ⟨h1, h2, h3⟩ := h
  have := hb.size
  exact ⟨h1.trans (hb.mono h1.size), by omega, (hb.block _ (by omega)).trans h3⟩
theorem join_below {w w1 : World} (h : Below w.heap.size w w1 ∧ w.heap.size < w1.heap.size ∧ JBox w.heap.size w1) (v0 v1 : Value) : Below w.heap.size w ((w1.setCell ⟨w.heap.size, 0, none⟩ v0).setCell ⟨w.heap.size, 1, none⟩ v1) := by
  obtain ⟨h1, h2, h3⟩ := h
  have k1 := keep_set w1 w.heap.size 0 v0
  have k2 := keep_set (w1.setCell ⟨w.heap.size, 0, none⟩ v0) w.heap.size 1 v1
  have k3 := (keep_below h1 (fun b => b = w.heap.size)).trans (k1.trans k2 (fun b _ h => h)) (fun b _ h => h)
  exact ⟨k3.os, k3.tape, k3.output, k3.size, fun b hb => k3.block b hb (by omega)⟩
theorem laid_box0 {base hp : Nat} {room : Int} {ws : List Wd} {nm : List ByteArray} {M : Nat → Prop} {w wA w2 : World} (h : Laid base hp room ws nm (fun b => M b ∧ b < w.heap.size) wA w2) (hA : Below w.heap.size w wA) (hs : w.heap.size < wA.heap.size) (v0 v1 : Value) :
    Laid base hp room ws nm M w ((w2.setCell ⟨w.heap.size, 0, none⟩ v0).setCell ⟨w.heap.size, 1, none⟩ v1) := by
  obtain ⟨h1, h2⟩ := h
  have k1 := keep_set w2 w.heap.size 0 v0
  have k2 := keep_set (w2.setCell ⟨w.heap.size, 0, none⟩ v0) w.heap.size 1 v1
  have k3 := k1.trans k2 (fun b _ h => h)
  refine ⟨(h1.kept k3 ?_).mono ?_, ?_⟩
  · rintro b (⟨_, hb⟩ | hb) _ e <;> omega
  · rintro b (⟨hm, _⟩ | hb)
    · exact Or.inl hm
    · exact Or.inr (by omega)
  · refine ((keep_below hA M).trans h2 ?_).trans k3 ?_
    · exact fun b _ h => h.1
    · intro b hb h
      omega

set_option maxHeartbeats 1000000 in
set_option maxRecDepth 100000 in
theorem join_e0 (hp : Nat) (a : Option Addr) (len pc : Nat) (w : World) (h8 : decide ((8 : Int) < (len : Int)) = true) :
    Calls Try.prog 18 #[.pointer (some ⟨hp, 0, none⟩), .slice a len pc] w fun e w' => e = .returned (.tuple #[.agg #[.int .i64 0, .int .i64 0], .int .i64 1]) ∧ Below w.heap.size w w' := by
  go_enter Try.func18, Try.ntmps18
  go_wp2_with fail
  exact bodyPost_ret (v := .tuple #[.agg #[.int .i64 0, .int .i64 0], .int .i64 1]) (by simp [results, Try.results18, go_sem]) rfl ⟨rfl, by go_grown⟩

set_option maxHeartbeats 1000000 in
set_option maxRecDepth 100000 in
theorem join_e1 (hp : Nat) (a : Option Addr) (len pc : Nat) (w : World) (h8 : decide ((8 : Int) < (len : Int)) = false)
    (HA : Hid (∀ w1, Below w.heap.size w w1 → Calls Try.prog 46 #[.pointer (some ⟨hp, 0, none⟩), .slice a len pc] w1 fun e w' => e = .returned (.bool false) ∧ Below w1.heap.size w1 w')) :
    Calls Try.prog 18 #[.pointer (some ⟨hp, 0, none⟩), .slice a len pc] w fun e w' => e = .returned (.tuple #[.agg #[.int .i64 0, .int .i64 0], .int .i64 1]) ∧ Below w.heap.size w w' := by
  go_enter Try.func18, Try.ntmps18
  go_wp2_with fail
  generalize hw0 : w.alloc (Obj.cells #[.int .i64 0, .int .i64 0] 37) = w0
  have H0 : Hid (Below w.heap.size w w0 ∧ w.heap.size < w0.heap.size ∧ JBox w.heap.size w0) := by
    subst hw0
    exact ⟨(Below.refl _ _).alloc (Nat.le_refl _) _, by simp, heap_alloc_new w _⟩
  clear hw0
  refine (HA.out _ H0.out.1).mono ?_
  rintro e w1 ⟨rfl, hb⟩
  have H1 := hide (join_next H0.out hb)
  obtain ⟨⟨r0, r1⟩, f0, f1⟩ := H1.out.2.2.facts
  clear hb H0
  go_wp2_with fail
  exact bodyPost_ret (v := .tuple #[.agg #[.int .i64 0, .int .i64 0], .int .i64 1]) (by simp [results, Try.results18, go_sem, r0, r1]) rfl ⟨rfl, join_below H1.out _ _⟩

set_option maxHeartbeats 1000000 in
set_option maxRecDepth 100000 in
theorem join_e2 (hp : Nat) (a : Option Addr) (len pc : Nat) (w : World) (h8 : decide ((8 : Int) < (len : Int)) = false) (hlen : len ≤ 8)
    (HA : Hid (∀ w1, Below w.heap.size w w1 → Calls Try.prog 46 #[.pointer (some ⟨hp, 0, none⟩), .slice a len pc] w1 fun e w' => e = .returned (.bool true) ∧ Below w1.heap.size w1 w'))
    (HF : Hid (∀ w1, Below w.heap.size w w1 → Calls Try.prog 43 #[.pointer (some ⟨hp, 0, none⟩), .int .i64 (1 + (len : Int))] w1 fun e w' => e = .returned (.bool false) ∧ Below w1.heap.size w1 w')) :
    Calls Try.prog 18 #[.pointer (some ⟨hp, 0, none⟩), .slice a len pc] w fun e w' => e = .returned (.tuple #[.agg #[.int .i64 0, .int .i64 0], .int .i64 6]) ∧ Below w.heap.size w w' := by
  go_enter Try.func18, Try.ntmps18
  go_wp2_with fail
  generalize hw0 : w.alloc (Obj.cells #[.int .i64 0, .int .i64 0] 37) = w0
  have H0 : Hid (Below w.heap.size w w0 ∧ w.heap.size < w0.heap.size ∧ JBox w.heap.size w0) := by
    subst hw0
    exact ⟨(Below.refl _ _).alloc (Nat.le_refl _) _, by simp, heap_alloc_new w _⟩
  clear hw0
  refine (HA.out _ H0.out.1).mono ?_
  rintro e w1 ⟨rfl, hb⟩
  have H1 := hide (join_next H0.out hb)
  obtain ⟨⟨r0, r1⟩, f0, f1⟩ := H1.out.2.2.facts
  clear hb H0
  go_wp2_with fail
  clear r0 r1 f0 f1
  refine (HF.out _ H1.out.1).mono ?_
  rintro e w2 ⟨rfl, hb⟩
  have H2 := hide (join_next H1.out hb)
  obtain ⟨⟨r0, r1⟩, f0, f1⟩ := H2.out.2.2.facts
  clear hb H1
  go_wp2_with fail
  exact bodyPost_ret (v := .tuple #[.agg #[.int .i64 0, .int .i64 0], .int .i64 6]) (by simp [results, Try.results18, go_sem, r0, r1]) rfl ⟨rfl, join_below H2.out _ _⟩

set_option maxHeartbeats 1000000 in
set_option maxRecDepth 100000 in
theorem join_e3 (hp : Nat) (a : Option Addr) (len pc : Nat) (w : World) (h8 : decide ((8 : Int) < (len : Int)) = false) (hlen : len ≤ 8) (ce : Int) (hce : (ce != 0) = true)
    (HA : Hid (∀ w1, Below w.heap.size w w1 → Calls Try.prog 46 #[.pointer (some ⟨hp, 0, none⟩), .slice a len pc] w1 fun e w' => e = .returned (.bool true) ∧ Below w1.heap.size w1 w'))
    (HF : Hid (∀ w1, Below w.heap.size w w1 → Calls Try.prog 43 #[.pointer (some ⟨hp, 0, none⟩), .int .i64 (1 + (len : Int))] w1 fun e w' => e = .returned (.bool true) ∧ Below w1.heap.size w1 w'))
    (HT : Hid (∀ w1, Below w.heap.size w w1 → Calls Try.prog 47 #[.pointer (some ⟨hp, 0, none⟩), .slice a len pc] w1 fun e w' => ∃ a' c', e = .returned (.agg #[.int .i64 4, .int .i64 0, .string .empty, .slice a' len c']) ∧ Hid (Below w1.heap.size w1 w' ∧ Calls Try.prog 41 #[.agg #[.int .i64 4, .int .i64 0, .string .empty, .slice a' len c']] w' fun e w2 => e = .returned (.int .i64 ce) ∧ Below w'.heap.size w' w2))) :
    Calls Try.prog 18 #[.pointer (some ⟨hp, 0, none⟩), .slice a len pc] w fun e w' => e = .returned (.tuple #[.agg #[.int .i64 0, .int .i64 0], .int .i64 ce]) ∧ Below w.heap.size w w' := by
  go_enter Try.func18, Try.ntmps18
  go_wp2_with fail
  generalize hw0 : w.alloc (Obj.cells #[.int .i64 0, .int .i64 0] 37) = w0
  have H0 : Hid (Below w.heap.size w w0 ∧ w.heap.size < w0.heap.size ∧ JBox w.heap.size w0) := by
    subst hw0
    exact ⟨(Below.refl _ _).alloc (Nat.le_refl _) _, by simp, heap_alloc_new w _⟩
  clear hw0
  refine (HA.out _ H0.out.1).mono ?_
  rintro e w1 ⟨rfl, hb⟩
  have H1 := hide (join_next H0.out hb)
  obtain ⟨⟨r0, r1⟩, f0, f1⟩ := H1.out.2.2.facts
  clear hb H0
  go_wp2_with fail
  clear r0 r1 f0 f1
  refine (HF.out _ H1.out.1).mono ?_
  rintro e w2 ⟨rfl, hb⟩
  have H2 := hide (join_next H1.out hb)
  obtain ⟨⟨r0, r1⟩, f0, f1⟩ := H2.out.2.2.facts
  clear hb H1
  go_wp2_with fail
  clear r0 r1 f0 f1
  refine (HT.out _ H2.out.1).mono ?_
  rintro e w3 ⟨a', c', rfl, hb⟩
  have H3 := hide (join_next H2.out hb.out.1)
  have HK := hide hb.out.2
  clear hb H2
  go_wp2_with fail
  refine HK.out.mono ?_
  rintro e w4 ⟨rfl, hb⟩
  have H4 := hide (join_next H3.out hb)
  obtain ⟨⟨r0, r1⟩, f0, f1⟩ := H4.out.2.2.facts
  clear hb H3 HK
  go_wp2_with fail
  exact bodyPost_ret (v := .tuple #[.agg #[.int .i64 0, .int .i64 0], .int .i64 ce]) (by simp [results, Try.results18, go_sem, r0, r1]) rfl ⟨rfl, join_below H4.out _ _⟩

set_option maxHeartbeats 1000000 in
set_option maxRecDepth 100000 in
theorem join_ok (hp : Nat) (a : Option Addr) (len pc : Nat) (w : World) (h8 : decide ((8 : Int) < (len : Int)) = false) (hlen : len ≤ 8) (V : Wd) (base : Nat) (room : Int) (ws : List Wd) (nm : List ByteArray) (M : Nat → Prop)
    (HA : Hid (∀ w1, Below w.heap.size w w1 → Calls Try.prog 46 #[.pointer (some ⟨hp, 0, none⟩), .slice a len pc] w1 fun e w' => e = .returned (.bool true) ∧ Below w1.heap.size w1 w'))
    (HF : Hid (∀ w1, Below w.heap.size w w1 → Calls Try.prog 43 #[.pointer (some ⟨hp, 0, none⟩), .int .i64 (1 + (len : Int))] w1 fun e w' => e = .returned (.bool true) ∧ Below w1.heap.size w1 w'))
    (HT : Hid (∀ w1, Below w.heap.size w w1 → Calls Try.prog 47 #[.pointer (some ⟨hp, 0, none⟩), .slice a len pc] w1 fun e w' => ∃ a' c', e = .returned (.agg #[.int .i64 4, .int .i64 0, .string .empty, .slice a' len c']) ∧ Hid (Below w1.heap.size w1 w' ∧ Calls Try.prog 41 #[.agg #[.int .i64 4, .int .i64 0, .string .empty, .slice a' len c']] w' fun e w2 => e = .returned (.int .i64 0) ∧ Below w'.heap.size w' w2)))
    (HY : Hid (∀ w1, Below w.heap.size w w1 → Calls Try.prog 48 #[.pointer (some ⟨hp, 1, none⟩), .slice a len pc] w1 fun e w' => e = .returned (.agg #[.int .i64 V.1, .int .i64 V.2]) ∧ Hid (Laid base hp room ws nm (fun b => M b ∧ b < w.heap.size) w1 w'))) :
    Calls Try.prog 18 #[.pointer (some ⟨hp, 0, none⟩), .slice a len pc] w fun e w' => e = .returned (.tuple #[.agg #[.int .i64 V.1, .int .i64 V.2], .int .i64 0]) ∧ Hid (Laid base hp room ws nm M w w') := by
  go_enter Try.func18, Try.ntmps18
  go_wp2_with fail
  generalize hw0 : w.alloc (Obj.cells #[.int .i64 0, .int .i64 0] 37) = w0
  have H0 : Hid (Below w.heap.size w w0 ∧ w.heap.size < w0.heap.size ∧ JBox w.heap.size w0) := by
    subst hw0
    exact ⟨(Below.refl _ _).alloc (Nat.le_refl _) _, by simp, heap_alloc_new w _⟩
  clear hw0
  refine (HA.out _ H0.out.1).mono ?_
  rintro e w1 ⟨rfl, hb⟩
  have H1 := hide (join_next H0.out hb)
  obtain ⟨⟨r0, r1⟩, f0, f1⟩ := H1.out.2.2.facts
  clear hb H0
  go_wp2_with fail
  clear r0 r1 f0 f1
  refine (HF.out _ H1.out.1).mono ?_
  rintro e w2 ⟨rfl, hb⟩
  have H2 := hide (join_next H1.out hb)
  obtain ⟨⟨r0, r1⟩, f0, f1⟩ := H2.out.2.2.facts
  clear hb H1
  go_wp2_with fail
  clear r0 r1 f0 f1
  refine (HT.out _ H2.out.1).mono ?_
  rintro e w3 ⟨a', c', rfl, hb⟩
  have H3 := hide (join_next H2.out hb.out.1)
  have HK := hide hb.out.2
  clear hb H2
  go_wp2_with fail
  refine HK.out.mono ?_
  rintro e w4 ⟨rfl, hb⟩
  have H4 := hide (join_next H3.out hb)
  obtain ⟨⟨r0, r1⟩, f0, f1⟩ := H4.out.2.2.facts
  clear hb H3 HK
  go_wp2_with fail
  refine (HY.out _ H4.out.1).mono ?_
  rintro e w5 ⟨rfl, HLD⟩
  have hcc := laid_cells HLD.out
  have d0 := (hcc w.heap.size (Nat.le_refl _) H4.out.2.1 0).1.trans r0
  have d1 := (hcc w.heap.size (Nat.le_refl _) H4.out.2.1 1).1.trans r1
  have g0 := (hcc w.heap.size (Nat.le_refl _) H4.out.2.1 0).2.trans f0
  have g1 := (hcc w.heap.size (Nat.le_refl _) H4.out.2.1 1).2.trans f1
  have HE := hide (laid_box0 HLD.out H4.out.1 H4.out.2.1 (.int .i64 V.1) (.int .i64 V.2))
  clear hcc r0 r1 f0 f1 HLD
  go_wp2_with fail
  exact bodyPost_ret (v := .tuple #[.agg #[.int .i64 V.1, .int .i64 V.2], .int .i64 0]) (by simp [results, Try.results18, go_sem, d0, d1]) rfl ⟨rfl, HE.out⟩
end Go.Proofs.Ytfaoeccnhbcjgab
