/- What is proved here: slices.Repeat of one word, at most eight times: so many of it, in new memory. No other condition. -/
import Derived.Test.YtfaoeccnhbcjgabHp25
import Derived.Test.YtfaoeccnhbcjgabRep
import Derived.Test.YtfaoeccnhbcjgabFit3
namespace Go.Proofs.Ytfaoeccnhbcjgab
open Go.RowKit

def zW : Wd := (0, 0)
/-- A row of words that is owned. -/
def HasW (base : Nat) (g c : Nat) (b : List Wd) (w : World) : Prop := w.ownsRow base 37 2 (.slice (some ⟨g, 0, none⟩) b.length c) b.length (wCells b)
theorem HasW.lt {base g c : Nat} {b : List Wd} {w : World} (h : HasW base g c b w) : base ≤ g ∧ g < w.heap.size := World.ownsRow.lt h g rfl
theorem HasW.row {base g k : Nat} {l : List Wd} {w : World} (h : HasW base g k l w) (hl : l.length = k) : w.heap[g]? = some (.cells (wCells l).toArray 37 (0, 0)) := by
  obtain ⟨h1, h2⟩ := h
  rcases h2 with ⟨h2, _⟩ | ⟨g', cap, cur, hv, hg, hh, hc, hm, hz, he⟩
  · simp at h2
  · injection hv with e1 e2 e3
    injection e1 with e1
    injection e1 with e1 _
    subst e1 e3
    rw [hh, ← he, List.take_of_length_le (by rw [Array.length_toList, hz, hl]; exact Nat.le_refl _)]
theorem HasW.of_row {base g k : Nat} {l : List Wd} {w : World} (h : w.heap[g]? = some (.cells (wCells l).toArray 37 (0, 0))) (hl : l.length = k) (hg : base ≤ g) (hk : k ≤ maxLen) : HasW base g k l w := by
  refine ⟨wCells_length l, Or.inr ⟨g, k, (wCells l).toArray, rfl, hg, h, by omega, hk, by simp [wCells_length, hl], ?_⟩⟩
  rw [List.take_of_length_le (by simp [wCells_length])]
theorem wCells_take : (l : List Wd) → (i : Nat) → (wCells l).take (i * 2) = wCells (l.take i)
  | [], i => by simp [wCells]
  | x :: l, 0 => by simp [wCells]
  | x :: l, i + 1 => by
    have e : wCells (x :: l) = wd2 x ++ wCells l := rfl
    have hx : (wd2 x).length = 2 := rfl
    rw [e, List.take_append, hx, List.take_of_length_le (by rw [hx]; omega), show (i + 1) * 2 - 2 = i * 2 by omega, wCells_take l i]
    rfl
theorem wCells_drop : (l : List Wd) → (i : Nat) → (wCells l).drop (i * 2) = wCells (l.drop i)
  | [], i => by simp [wCells]
  | x :: l, 0 => by simp [wCells]
  | x :: l, i + 1 => by
    have e : wCells (x :: l) = wd2 x ++ wCells l := rfl
    have hx : (wd2 x).length = 2 := rfl
    rw [e, List.drop_append, hx, List.drop_eq_nil_of_le (by rw [hx]; omega), List.nil_append, show (i + 1) * 2 - 2 = i * 2 by omega, wCells_drop l i]
    rfl
theorem sizeWord : (Try.prog.info? 37).map (·.size) = some 2 := by
  obtain ⟨it, h1, h2, h3, h4⟩ := info_parts infoWord
  rw [h1]; simp [h3]
/-- A copy into a row that is owned, of terms that lie there. -/
theorem run_copy_hasW {base g k : Nat} {l : List Wd} {w : World} (h : HasW base g k l w) (hl : l.length = k) (hk : k ≤ maxLen) (ty : TypeId) (i n : Nat) (xs : List Wd) (ad : Addr) (dLen dCap sLen sCap : Nat) (hn : Nat.min sLen dLen = n) (hx : xs.length = n) (hi : i + n ≤ k)
    (hsrc : ∀ j v, (wCells xs)[j]? = some v → w.cell? (ad.add j) = some v) :
    ∃ w', (Builtin.copy_ #[42, 42] ty #[.slice (some ⟨g, i * 2, none⟩) dLen dCap, .slice (some ad) sLen sCap]).run Try.prog w = .ok (goInt n) w' ∧ HasW base g k (l.take i ++ xs ++ l.drop (i + n)) w' ∧ w.grownBy w' (some g) := by
  have hr := h.row hl
  refine ⟨_, run_copy_sz w _ _ ty 37 2 g (i * 2) dLen dCap ad sLen sCap (wCells l).toArray 37 (wCells xs) n Try.underlying42 sizeWord hr hn (by rw [wCells_length, hx]) hsrc (by simp [wCells_length]; omega) (wCells_one _), ?_, ?_⟩
  · have e : (wCells l).take (i * 2) ++ wCells xs ++ (wCells l).drop (i * 2 + (wCells xs).length) = wCells (l.take i ++ xs ++ l.drop (i + n)) := by
      rw [wCells_append, wCells_append, wCells_length, hx, ← Nat.add_mul]
      rw [wCells_take, wCells_drop]
    refine HasW.of_row ?_ (by simp; omega) h.lt.1 hk
    rw [← e]
    simp [World.setRow, Array.getElem?_modify, hr]
  · exact ⟨rfl, rfl, rfl, by simp [World.setRow], fun b _ hne => by
      have : g ≠ b := fun e => hne (by rw [e])
      simp [World.setRow, Array.getElem?_modify, this]⟩

theorem wp_copy_hasW {w : World} {o : Oper} {a : Act} {K : Act → World → Prop} {Q : Exit → Act → World → Prop} (d s : Operand) (ho : o.op = .call { callee := .builtin .copy, args := #[d, s], argTypes := #[42, 42] })
    {base g k : Nat} {l : List Wd} (h : HasW base g k l w) (hl : l.length = k) (hk : k ≤ maxLen) (i n : Nat) (xs : List Wd) (ad : Addr) (dLen dCap sLen sCap : Nat) (hd : a.eval d = .slice (some ⟨g, i * 2, none⟩) dLen dCap) (hs : a.eval s = .slice (some ad) sLen sCap) (hn : Nat.min sLen dLen = n) (hx : xs.length = n) (hi : i + n ≤ k)
    (hsrc : ∀ j v, (wCells xs)[j]? = some v → w.cell? (ad.add j) = some v)
    (hK : ∀ w', HasW base g k (l.take i ++ xs ++ l.drop (i + n)) w' → w.grownBy w' (some g) → K (a.put o.dst (goInt n)) w') : o.wp Try.prog a w K Q := by
  obtain ⟨w', hr, h2, h3⟩ := run_copy_hasW h hl hk o.type i n xs ad dLen dCap sLen sCap hn hx hi hsrc
  unfold Oper.wp execOp
  simp only [ho, resolve, invoke, builtin, Sem.run_bind, Sem.run_pure, Result.andThen_ok, List.map_toArray, List.map_cons, List.map_nil, hd, hs, hr]
  exact hK w' h2 h3
theorem wpList_copy_hasW {w : World} {ops : Array Oper} {rest : List Oper} {o : Oper} {a : Act} {Q : Exit → Act → World → Prop} (hgd : o.guard = none) (d s : Operand) (ho : o.op = .call { callee := .builtin .copy, args := #[d, s], argTypes := #[42, 42] })
    {base g k : Nat} {l : List Wd} (h : HasW base g k l w) (hl : l.length = k) (hk : k ≤ maxLen) (i n : Nat) (xs : List Wd) (ad : Addr) (dLen dCap sLen sCap : Nat) (hd : a.eval d = .slice (some ⟨g, i * 2, none⟩) dLen dCap) (hs : a.eval s = .slice (some ad) sLen sCap) (hn : Nat.min sLen dLen = n) (hx : xs.length = n) (hi : i + n ≤ k)
    (hsrc : ∀ j v, (wCells xs)[j]? = some v → w.cell? (ad.add j) = some v)
    (hK : ∀ w', HasW base g k (l.take i ++ xs ++ l.drop (i + n)) w' → w.grownBy w' (some g) → wpList Try.prog ops Q rest (a.put o.dst (goInt n)) w') : wpList Try.prog ops Q (o :: rest) a w :=
  wpList_plain hgd fun _ hK' => wp_copy_hasW d s ho h hl hk i n xs ad dLen dCap sLen sCap hd hs hn hx hi hsrc fun w' h2 h3 => hK' _ _ (hK w' h2 h3)
theorem step_copy_hasW {w : World} {ops : Array Oper} {o : Oper} {a : Act} {K : Act → World → Prop} {Q : Exit → Act → World → Prop} {E : Prop} (hgd : o.guard = none) (d s : Operand) (ho : o.op = .call { callee := .builtin .copy, args := #[d, s], argTypes := #[42, 42] })
    {base g k : Nat} {l : List Wd} (h : HasW base g k l w) (hl : l.length = k) (hk : k ≤ maxLen) (i n : Nat) (xs : List Wd) (ad : Addr) (dLen dCap sLen sCap : Nat) (hd : a.eval d = .slice (some ⟨g, i * 2, none⟩) dLen dCap) (hs : a.eval s = .slice (some ad) sLen sCap) (hn : Nat.min sLen dLen = n) (hx : xs.length = n) (hi : i + n ≤ k)
    (hsrc : ∀ j v, (wCells xs)[j]? = some v → w.cell? (ad.add j) = some v)
    (hK : ∀ w', HasW base g k (l.take i ++ xs ++ l.drop (i + n)) w' → w.grownBy w' (some g) → K (a.put o.dst (goInt n)) w') :
    if Region.wanted o (yielded ops a.tmps) = true then Oper.wp Try.prog o a w K Q else E := by
  have hw : Region.wanted o (yielded ops a.tmps) = true := by simp [Region.wanted, hgd]
  rw [if_pos hw]
  exact wp_copy_hasW d s ho h hl hk i n xs ad dLen dCap sLen sCap hd hs hn hx hi hsrc hK

theorem rep_firstW (k : Nat) (x : Wd) : (List.replicate k zW).take 0 ++ [x] ++ (List.replicate k zW).drop (0 + 1) = List.replicate 1 x ++ List.replicate (k - 1) zW := by simp [List.drop_replicate]
theorem rep_moreW (k n m : Nat) (x : Wd) : (List.replicate n x ++ List.replicate (k - n) zW).take n ++ List.replicate m x ++ (List.replicate n x ++ List.replicate (k - n) zW).drop (n + m) = List.replicate (n + m) x ++ List.replicate (k - (n + m)) zW := by
  rw [List.take_append, List.drop_append]
  simp [List.drop_replicate]
  rw [show k - n - m = k - (n + m) by omega]
theorem rep_startW (k : Nat) {w w1 : World} (h : w1.ownsRow w.heap.size 37 2 (.slice (some ⟨w.heap.size, 0, none⟩) k k) k (madeCells (Value.agg #[.int .i64 0, .int .i64 0]).cells (k * 2)).toList) : HasW w.heap.size w.heap.size k (List.replicate k zW) w1 := by
  have e : (madeCells (Value.agg #[.int .i64 0, .int .i64 0]).cells (k * 2)).toList = wCells (List.replicate k zW) := made_zero2 k
  rw [e] at h
  unfold HasW
  simpa using h
theorem rep_srcW {base g k : Nat} {l : List Wd} {w : World} (h : HasW base g k l w) (n : Nat) : ∀ j v, (wCells (l.take n))[j]? = some v → w.cell? ((⟨g, 0, none⟩ : Addr).add j) = some v := by
  intro j v hj
  refine World.ownsRow.cells h rfl j v ?_
  have e : wCells (l.take n) = (wCells l).take (n * 2) := by rw [wCells_take]
  rw [e] at hj
  rw [List.getElem?_take] at hj
  split at hj
  · exact hj
  · cases hj

theorem rep_belowW {w w0 : World} (h : w.grownBy w0 none) : Below w.heap.size w w0 := ⟨h.os, h.tape, h.output, h.size, fun k hk => h.block k hk (by simp)⟩
theorem rep_keptW {w w0 : World} {pb po : Nat} {x : Wd} (h : Below w.heap.size w w0) (hpb : pb < w.heap.size) (hx : ∀ j v, (wCells [x])[j]? = some v → w.cell? ((⟨pb, po, none⟩ : Addr).add j) = some v) : ∀ j v, (wCells [x])[j]? = some v → w0.cell? ((⟨pb, po, none⟩ : Addr).add j) = some v := fun j v hj => by
  have := hx j v hj
  rw [Addr.add_lit] at this ⊢
  exact (below_cells h pb _ hpb).trans this

theorem rep_takeW (n m k : Nat) (x : Wd) (h : m ≤ n) : (List.replicate n x ++ List.replicate k zW).take m = List.replicate m x := by
  rw [List.take_append]
  simp [List.take_replicate, Nat.min_eq_left h]
  omega

set_option maxHeartbeats 1000000 in
set_option maxRecDepth 100000 in
theorem repeat_anyW (x : Wd) (k : Nat) (h0 : 0 < k) (h8 : k ≤ 8) (pb : Nat) (po pc : Nat) (w : World) (hpb : pb < w.heap.size)
    (HX : Hid (∀ j v, (wCells [x])[j]? = some v → w.cell? ((⟨pb, po, none⟩ : Addr).add j) = some v))
    (HM : Hid (∀ w1, Calls Try.prog 49 #[.int .u64 1, .int .u64 k] w1 fun e w' => e = .returned (.tuple #[.int .u64 0, .int .u64 k]) ∧ w' = w1)) :
    Calls Try.prog 19 #[.slice (some ⟨pb, po, none⟩) 1 pc, .int .i64 k] w fun e w' => e = .returned (.slice (some ⟨w.heap.size, 0, none⟩) k k) ∧ Hid (Below w.heap.size w w' ∧ HasW w.heap.size w.heap.size k (List.replicate k x) w') := by
  obtain ⟨it, hit, htz0, htz1, htz2⟩ := info_parts infoWord
  have e1 : IntKind.u64.wrap (k : Int) = (k : Int) := by rw [IntKind.wrap]; simp [IntKind.bits, IntKind.signed]; omega
  have e2 : IntKind.i64.wrap (k : Int) = (k : Int) := by rw [IntKind.wrap]; simp [IntKind.bits, IntKind.signed]; omega
  have hk1 : ¬ ((k : Int) < 0) := by omega
  have hk2 : ¬ (9223372036854775807 < (k : Int)) := by omega
  go_enter Try.func19, Try.ntmps19
  go_wp2_with fail
  refine (HM.out w).mono ?_
  rintro e w' ⟨rfl, rfl⟩
  clear HM
  go_wp2_with (at_make; refine wpList_make_full _ rfl _ _ 42 rfl w'.heap.size 37 it _ 2 Try.underlying42 hit htz0 htz1 _ _ _ _ k rfl rfl (by first | rfl | simp [e2]) (by first | rfl | simp [e2]) (by rw [htz2]; omega) (by unfold maxLen; omega) (Nat.le_refl _) ?_; intro w0 hown0 hgrow0; have HS0 := hide (rep_startW k hown0); have HB0 := hide (rep_belowW hgrow0); have HX0 := hide (rep_keptW HB0.out hpb HX.out); clear hown0 hgrow0)
  obtain ⟨w1, hrun, hh1, hg1⟩ := run_copy_hasW HS0.out (by simp) (by unfold maxLen; omega) 3 0 1 [x] ⟨pb, po, none⟩ k k 1 pc (Nat.min_eq_left h0) rfl (by omega) HX0.out
  rw [Nat.zero_mul] at hrun
  rw [hrun]
  have HH1 : Hid (HasW w'.heap.size w'.heap.size k (List.replicate 1 x ++ List.replicate (k - 1) zW) w1) := by rw [rep_firstW] at hh1; exact hh1
  have HB1 : Hid (Below w'.heap.size w' w1) := HB0.out.trans (grown_below hg1 (Nat.le_refl _) HS0.out.lt.2)
  clear hh1 hg1 HS0 HB0 HX0 hit htz0 htz1 htz2 HX
  go_wp2_with fail
  go_loopw [8] (fun i wr => ∃ n : Nat, 1 ≤ n ∧ n ≤ k ∧ i = .int .i64 n ∧ Hid (Below w'.heap.size w' wr ∧ HasW w'.heap.size w'.heap.size k (List.replicate n x ++ List.replicate (k - n) zW) wr)) (fun i _ => k - (intOf i).toNat)
  case atStart => exact ⟨1, by omega, by omega, rfl, HB1.out, HH1.out⟩
  case round =>
    obtain ⟨n, hn1, hnk, rfl, HR⟩ := hrel
    clear HB1 HH1
    by_cases hlt : n < k
    · have hn2 : (0 : Int) ≤ (n : Int) := by omega
      have hn3 : (n : Int) < (k : Int) := by omega
      have hne : ¬ k = n := by omega
      have hle : (n : Int) ≤ (k : Int) := by omega
      obtain ⟨m, hm⟩ : ∃ m, Nat.min n (k - n) = m := ⟨_, rfl⟩
      have hm1 : 1 ≤ m ∧ m ≤ n ∧ n + m ≤ k := by have : m = min n (k - n) := hm.symm; omega
      have HMN := hide hm
      have HSR : Hid (∀ j v, (wCells (List.replicate m x))[j]? = some v → wr.drew.cell? ((⟨w'.heap.size, 0, none⟩ : Addr).add j) = some v) := by
        have := rep_srcW HR.out.2 m
        rw [rep_takeW n m _ x hm1.2.1] at this
        exact this
      have HHD : Hid (HasW w'.heap.size w'.heap.size k (List.replicate n x ++ List.replicate (k - n) zW) wr.drew) := HR.out.2
      have HLN : Hid ((List.replicate n x ++ List.replicate (k - n) zW).length = k) := by simp [Hid]; omega
      clear hm
      go_wp2_with fail
      go_region_held3 (fun _ => True) (trivial) ((refine step_copy_hasW rfl _ _ rfl HHD.out HLN.out (by unfold maxLen; omega) n m (List.replicate m x) ⟨w'.heap.size, 0, none⟩ (k - n) (k - n) n k (by simp [Act.eval]) (by simp [Act.eval]) HMN.out (by simp) (by omega) HSR.out ?_; intro w2 hh2 hg2))
      have HH2 : Hid (HasW w'.heap.size w'.heap.size k (List.replicate (n + m) x ++ List.replicate (k - (n + m)) zW) w2) := by rw [rep_moreW] at hh2; exact hh2
      have HB2 : Hid (Below w'.heap.size w' w2) := HR.out.1.trans (grown_below (grown_undrew hg2) (Nat.le_refl _) HR.out.2.lt.2)
      clear hh2 hg2 HSR HHD HLN HR
      have e3 : IntKind.i64.wrap ((n : Int) + (m : Int)) = ((n + m : Nat) : Int) := by rw [IntKind.wrap]; simp [IntKind.bits, IntKind.signed]; omega
      go_wp2_with fail
      go_roundw
      case rel => exact ⟨n + m, by omega, by omega, by first | rfl | rw [e3] | (simp; omega), HB2.out, HH2.out⟩
      case measure => simp [intOf]; omega
    · obtain rfl : n = k := by omega
      go_wp2_with fail
      go_ret
      have h2 := HR.out.2
      simp at h2
      exact ⟨rfl, HR.out.1, h2⟩

set_option maxRecDepth 100000 in
theorem mul_1k (k : Nat) (h0 : 0 < k) (h8 : k ≤ 8) (w : World) : Calls Try.prog 49 #[.int .u64 1, .int .u64 k] w fun e w' => e = .returned (.tuple #[.int .u64 0, .int .u64 k]) ∧ w' = w := by
  have h : k = 1 ∨ k = 2 ∨ k = 3 ∨ k = 4 ∨ k = 5 ∨ k = 6 ∨ k = 7 ∨ k = 8 := by omega
  rcases h with rfl | rfl | rfl | rfl | rfl | rfl | rfl | rfl
  all_goals
    go_enter Try.func49, Try.ntmps49
    go_wp2
    go_ret2
    exact ⟨rfl, rfl⟩
end Go.Proofs.Ytfaoeccnhbcjgab
