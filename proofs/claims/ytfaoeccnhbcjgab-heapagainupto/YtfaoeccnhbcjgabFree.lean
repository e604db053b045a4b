/- What is proved here: slices.Repeat of one term, at most eight times: so many of it, in new memory; the statements' own free(): four wild terms, in new memory. No other condition. -/
import Derived.Test.YtfaoeccnhbcjgabRep
import Derived.Test.YtfaoeccnhbcjgabFit3
namespace Go.Proofs.Ytfaoeccnhbcjgab
open Go.RowKit

set_option maxRecDepth 100000 in
theorem mul_14 (w : World) : Calls Try.prog 49 #[.int .u64 1, .int .u64 4] w fun e w' => e = .returned (.tuple #[.int .u64 0, .int .u64 4]) ∧ w' = w := by
  go_enter Try.func49, Try.ntmps49
  go_wp2
  go_ret2
  exact ⟨rfl, rfl⟩

theorem rep_start (k : Nat) {w w1 : World} (h : w1.ownsRow w.heap.size 24 4 (.slice (some ⟨w.heap.size, 0, none⟩) k k) k (madeCells (Value.agg #[.int .i64 0, .int .i64 0, .string .empty, .slice none 0 0]).cells (k * 4)).toList) : Has w.heap.size w.heap.size k (List.replicate k zA) w1 := by
  have e : (madeCells (Value.agg #[.int .i64 0, .int .i64 0, .string .empty, .slice none 0 0]).cells (k * 4)).toList = anCells (List.replicate k zA) := made_zero k
  rw [e] at h
  unfold Has
  simpa using h
theorem rep_src {base g k : Nat} {l : List An} {w : World} (h : Has base g k l w) (n : Nat) : ∀ j v, (anCells (l.take n))[j]? = some v → w.cell? ((⟨g, 0, none⟩ : Addr).add j) = some v := by
  intro j v hj
  refine World.ownsRow.cells h rfl j v ?_
  have e : anCells (l.take n) = (anCells l).take (n * 4) := by unfold anCells; rw [ndCells_take, List.map_take]
  rw [e] at hj
  rw [List.getElem?_take] at hj
  split at hj
  · exact hj
  · cases hj

theorem rep_below {w w0 : World} (h : w.grownBy w0 none) : Below w.heap.size w w0 := ⟨h.os, h.tape, h.output, h.size, fun k hk => h.block k hk (by simp)⟩
theorem rep_kept {w w0 : World} {pb po : Nat} {x : An} (h : Below w.heap.size w w0) (hpb : pb < w.heap.size) (hx : ∀ j v, (anCells [x])[j]? = some v → w.cell? ((⟨pb, po, none⟩ : Addr).add j) = some v) : ∀ j v, (anCells [x])[j]? = some v → w0.cell? ((⟨pb, po, none⟩ : Addr).add j) = some v := fun j v hj => by
  have := hx j v hj
  rw [Addr.add_lit] at this ⊢
  exact (below_cells h pb _ hpb).trans this

theorem rep_take (n m k : Nat) (x : An) (h : m ≤ n) : (List.replicate n x ++ List.replicate k zA).take m = List.replicate m x := by
  rw [List.take_append]
  simp [List.take_replicate, Nat.min_eq_left h]
  omega

set_option maxHeartbeats 1000000 in
set_option maxRecDepth 100000 in
theorem repeat_any (x : An) (k : Nat) (h0 : 0 < k) (h8 : k ≤ 8) (pb : Nat) (po pc : Nat) (w : World) (hpb : pb < w.heap.size)
    (HX : Hid (∀ j v, (anCells [x])[j]? = some v → w.cell? ((⟨pb, po, none⟩ : Addr).add j) = some v))
    (HM : Hid (∀ w1, Calls Try.prog 49 #[.int .u64 1, .int .u64 k] w1 fun e w' => e = .returned (.tuple #[.int .u64 0, .int .u64 k]) ∧ w' = w1)) :
    Calls Try.prog 25 #[.slice (some ⟨pb, po, none⟩) 1 pc, .int .i64 k] w fun e w' => e = .returned (.slice (some ⟨w.heap.size, 0, none⟩) k k) ∧ Hid (Below w.heap.size w w' ∧ Has w.heap.size w.heap.size k (List.replicate k x) w') := by
  obtain ⟨it, hit, htz0, htz1, htz2⟩ := info_parts infoTerm
  have e1 : IntKind.u64.wrap (k : Int) = (k : Int) := by rw [IntKind.wrap]; simp [IntKind.bits, IntKind.signed]; omega
  have e2 : IntKind.i64.wrap (k : Int) = (k : Int) := by rw [IntKind.wrap]; simp [IntKind.bits, IntKind.signed]; omega
  have hk1 : ¬ ((k : Int) < 0) := by omega
  have hk2 : ¬ (9223372036854775807 < (k : Int)) := by omega
  go_enter Try.func25, Try.ntmps25
  go_wp2_with fail
  refine (HM.out w).mono ?_
  rintro e w' ⟨rfl, rfl⟩
  clear HM
  go_wp2_with (at_make; refine wpList_make_full _ rfl _ _ 22 rfl w'.heap.size 24 it _ 4 Try.underlying22 hit htz0 htz1 _ _ _ _ k rfl rfl (by first | rfl | simp [e2]) (by first | rfl | simp [e2]) (by rw [htz2]; omega) (by unfold maxLen; omega) (Nat.le_refl _) ?_; intro w0 hown0 hgrow0; have HS0 := hide (rep_start k hown0); have HB0 := hide (rep_below hgrow0); have HX0 := hide (rep_kept HB0.out hpb HX.out); clear hown0 hgrow0)
  obtain ⟨w1, hrun, hh1, hg1⟩ := run_copy_has HS0.out (by simp) (by unfold maxLen; omega) 3 0 1 [x] ⟨pb, po, none⟩ k k 1 pc (Nat.min_eq_left h0) rfl (by omega) HX0.out
  rw [Nat.zero_mul] at hrun
  rw [hrun]
  have HH1 : Hid (Has w'.heap.size w'.heap.size k (List.replicate 1 x ++ List.replicate (k - 1) zA) w1) := by rw [rep_first] at hh1; exact hh1
  have HB1 : Hid (Below w'.heap.size w' w1) := HB0.out.trans (grown_below hg1 (Nat.le_refl _) HS0.out.lt.2)
  clear hh1 hg1 HS0 HB0 HX0 hit htz0 htz1 htz2 HX
  go_wp2_with fail
  go_loopw [8] (fun i wr => ∃ n : Nat, 1 ≤ n ∧ n ≤ k ∧ i = .int .i64 n ∧ Hid (Below w'.heap.size w' wr ∧ Has w'.heap.size w'.heap.size k (List.replicate n x ++ List.replicate (k - n) zA) wr)) (fun i _ => k - (intOf i).toNat)
  case atStart => exact ⟨1, by omega, by omega, rfl, HB1.out, HH1.out⟩
  case round =>
    obtain ⟨n, hn1, hnk, rfl, HR⟩ := hrel
    clear HB1 HH1
    by_cases hlt : n < k
    · have hn2 : (0 : Int) ≤ (n : Int) := by omega
      have hn3 : (n : Int) < (k : Int) := by omega
      have hne : ¬ k = n := by omega
      have hle : (n : Int) ≤ (k : Int) := by omega
      obtain ⟨m, hm⟩ : ∃ m, Nat.min n (k - n) = m := ⟨_, rfl⟩
      have hm1 : 1 ≤ m ∧ m ≤ n ∧ n + m ≤ k := by have : m = min n (k - n) := hm.symm; omega
      have HMN := hide hm
      have HSR : Hid (∀ j v, (anCells (List.replicate m x))[j]? = some v → wr.drew.cell? ((⟨w'.heap.size, 0, none⟩ : Addr).add j) = some v) := by
        have := rep_src HR.out.2 m
        rw [rep_take n m _ x hm1.2.1] at this
        exact this
      have HHD : Hid (Has w'.heap.size w'.heap.size k (List.replicate n x ++ List.replicate (k - n) zA) wr.drew) := HR.out.2
      have HLN : Hid ((List.replicate n x ++ List.replicate (k - n) zA).length = k) := by simp [Hid]; omega
      clear hm
      go_wp2_with fail
      go_region_held3 (fun _ => True) (trivial) ((refine step_copy_has rfl _ _ rfl HHD.out HLN.out (by unfold maxLen; omega) n m (List.replicate m x) ⟨w'.heap.size, 0, none⟩ (k - n) (k - n) n k (by simp [Act.eval]) (by simp [Act.eval]) HMN.out (by simp) (by omega) HSR.out ?_; intro w2 hh2 hg2))
      have HH2 : Hid (Has w'.heap.size w'.heap.size k (List.replicate (n + m) x ++ List.replicate (k - (n + m)) zA) w2) := by rw [rep_more] at hh2; exact hh2
      have HB2 : Hid (Below w'.heap.size w' w2) := HR.out.1.trans (grown_below (grown_undrew hg2) (Nat.le_refl _) HR.out.2.lt.2)
      clear hh2 hg2 HSR HHD HLN HR
      have e3 : IntKind.i64.wrap ((n : Int) + (m : Int)) = ((n + m : Nat) : Int) := by rw [IntKind.wrap]; simp [IntKind.bits, IntKind.signed]; omega
      go_wp2_with fail
      go_roundw
      case rel => exact ⟨n + m, by omega, by omega, by first | rfl | rw [e3] | (simp; omega), HB2.out, HH2.out⟩
      case measure => simp [intOf]; omega
    · obtain rfl : n = k := by omega
      go_wp2_with fail
      go_ret
      have h2 := HR.out.2
      simp at h2
      exact ⟨rfl, HR.out.1, h2⟩

def anyA : An := ⟨1, ((6, 0, .empty), (none, 0), [])⟩
set_option maxRecDepth 100000 in
theorem free_any (w : World) : Calls Try.prog 28 #[] w fun e w' => ∃ g, e = .returned (.slice (some ⟨g, 0, none⟩) 4 4) ∧ Hid (Below w.heap.size w w' ∧ Has g g 4 (List.replicate 4 anyA) w' ∧ w.heap.size < g) := by
  have HR : Hid (Calls Try.prog 25 #[.slice (some ⟨w.heap.size, 0, none⟩) 1 1, .int .i64 4] (w.alloc (.cells #[.int .i64 6, .int .i64 0, .string ⟨#[]⟩, .slice none 0 0] 24)) fun e w' => e = .returned (.slice (some ⟨w.heap.size + 1, 0, none⟩) 4 4) ∧ Hid (Below (w.heap.size + 1) (w.alloc (.cells #[.int .i64 6, .int .i64 0, .string ⟨#[]⟩, .slice none 0 0] 24)) w' ∧ Has (w.heap.size + 1) (w.heap.size + 1) 4 (List.replicate 4 anyA) w')) := by
    have hs : (w.alloc (.cells #[.int .i64 6, .int .i64 0, .string ⟨#[]⟩, .slice none 0 0] 24)).heap.size = w.heap.size + 1 := by simp
    have h := repeat_any anyA 4 (by decide) (by decide) w.heap.size 0 1 (w.alloc (.cells #[.int .i64 6, .int .i64 0, .string ⟨#[]⟩, .slice none 0 0] 24)) (by simp) (fun j v hj => by
      rw [add_none]
      have : j < 4 := (List.getElem?_eq_some_iff.1 hj).1
      have h4 : j = 0 ∨ j = 1 ∨ j = 2 ∨ j = 3 := by omega
      rcases h4 with rfl | rfl | rfl | rfl <;> simp [anCells, ndCells, nd4, ndA, hdT, hdOf, anyA] at hj <;> subst hj <;> simp [go_sem] <;> rfl) (fun w1 => mul_14 w1)
    rw [hs] at h
    exact h
  go_enter Try.func28, Try.ntmps28
  go_wp2_with fail
  refine HR.out.mono ?_
  rintro e w' ⟨rfl, H⟩
  go_wp2_with fail
  go_ret
  exact ⟨_, rfl, ((Below.refl _ _).alloc (Nat.le_refl _) _).trans (H.out.1.mono (by omega)), H.out.2, by omega⟩
end Go.Proofs.Ytfaoeccnhbcjgab
