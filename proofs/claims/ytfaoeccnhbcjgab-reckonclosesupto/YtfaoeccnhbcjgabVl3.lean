/- What is proved here: reckon's tupleOfValues of right terms that lie in memory, from what value returns of each. No condition but that. -/
import Derived.Test.YtfaoeccnhbcjgabVl2
import Derived.Deep.RegionHeld3
namespace Go.Proofs.Ytfaoeccnhbcjgab
open Go.RowKit

/-- The values of a row, where there are any. -/
def vals {n N : Nat} (f : Tm n → Option (Tm N)) (p : List (Tm n)) : List (Tm N) := p.map fun y => (f y).getD (lift N 0 ())
def Had {n N : Nat} (f : Tm n → Option (Tm N)) (p : List (Tm n)) (k : Nat) : Prop := ∀ (i : Nat) (y : Tm n), i < k → p[i]? = some y → (f y).isSome = true
theorem vals_all {n N : Nat} {f : Tm n → Option (Tm N)} {p : List (Tm n)} {k : Nat} (h : Had f p k) (hk : p.length ≤ k) : allV f p = some (vals f p) := by
  refine allV_some f _ p fun y hy => ?_
  obtain ⟨i, hi⟩ := List.getElem?_of_mem hy
  have hlt := (List.getElem?_eq_some_iff.1 hi).1
  have := h i y (by omega) hi
  cases hf : f y with
  | none => rw [hf] at this; cases this
  | some z => rfl
theorem Had.next {n N : Nat} {f : Tm n → Option (Tm N)} {p : List (Tm n)} {k : Nat} {x : Tm n} (h : Had f p k) (hx : p[k]? = some x) (hf : true = (f x).isSome) : Had f p (k + 1) := by
  intro i y hi hy
  by_cases e : i = k
  · subst e
    rw [hx] at hy
    obtain rfl := Option.some.inj hy
    exact hf.symm
  · exact h i y (by omega) hy
theorem vals_at {n N : Nat} {f : Tm n → Option (Tm N)} {p : List (Tm n)} {k : Nat} {x : Tm n} (hx : p[k]? = some x) (hf : true = (f x).isSome) : ∃ z, (vals f p)[k]? = some z ∧ f x = some z := by
  cases h : f x with
  | none => rw [h] at hf; cases hf
  | some z => exact ⟨z, by simp [vals, hx, h], rfl⟩

/-- What tupleOfValues leaves, when all have a value. -/
theorem tuple_out {N : Nat} {P : List (Tm N)} {w wr : World} {g len k : Nat} {l : List (Tm N)} (h : CpP N P len g k l wr) (hl : P.length = len) (hk : k = len) (hb : Below w.heap.size w wr) (hm : len ≤ 8) (q : Nat) (hq : w.heap.size ≤ q) (hq0 : q < g) (v0 v1 v2 v3 : Value) :
    VOut (N + 1) (some (tupV N P)) w (.returned (.tuple #[.agg #[.int .i64 4, .int .i64 0, .string .empty, .slice (some ⟨g, 0, none⟩) len len], .bool true])) (put4 wr q 0 v0 v1 v2 v3) := by
  obtain ⟨h1, h2, h3, h4⟩ := h
  subst hk
  rw [List.take_of_length_le (by omega)] at h4
  rw [Nat.sub_self, List.replicate_zero, List.append_nil] at h2
  refine ⟨((4, 0, .empty), (some ⟨g, 0, none⟩, k), l), true, ?_, put_below hb hq _ _ _ _, ?_, ?_, rfl, fun z hz => ?_⟩
  · simp only [val, h1]
  · refine ⟨⟨by simp [I64], by simp [I64], Nat.zero_le _, by simp only; omega, by unfold maxLen; simp only; omega⟩, Or.inr ⟨g, 0, rfl, by rw [put4_size]; exact h2.lt.2, fun i y hy => ?_⟩⟩
    obtain ⟨k2, k3⟩ := h3 y (List.mem_of_getElem? hy)
    have hc := h2.cells i ⟨N, y⟩ (by simp [hy])
    refine ⟨Held.block (put4_block (by omega) _ _ _ _) ?_, ?_⟩
    · cases N with
      | zero => exact k2.elim
      | succ N =>
        rw [Nat.zero_add]
        exact hc
    · rw [put4_size]
      exact In.off (P := fun x => g < x) (fun x hx => put4_block (by omega) _ _ _ _) k3 k2
  · exact Or.inr ⟨g, 0, rfl, by omega, fun i y hy => (h3 y (List.mem_of_getElem? hy)).2.mono fun x hx => by omega⟩
  · obtain rfl := Option.some.inj hz
    exact same_mk rfl h4
theorem vals_len {n N : Nat} (f : Tm n → Option (Tm N)) (p : List (Tm n)) : (vals f p).length = p.length := by simp [vals]

theorem CpP.grow {N : Nat} {P : List (Tm N)} {len g k : Nat} {l : List (Tm N)} {w w' : World} (h : CpP N P len g k l w) (hb : Below w.heap.size w w') : CpP N P len g k l w' := by
  obtain ⟨h1, h2, h3, h4⟩ := h
  exact ⟨h1, h2.below hb, fun y hy => ⟨((h3 y hy).1.below hb).mono hb.size, (h3 y hy).2⟩, h4⟩
theorem Box0.block {q : Nat} {w w' : World} (h : Box0 q w) (hb : w'.heap[q]? = w.heap[q]?) (hs : w.heap.size ≤ w'.heap.size) : Box0 q w' := by
  obtain ⟨⟨h0, h1, h2, h3⟩, ⟨f0, f1, f2, f3⟩, hq⟩ := h
  have hc := fun o => block_cell hb o
  have hf : ∀ o, w'.frozen? ⟨q, o, none⟩ = w.frozen? ⟨q, o, none⟩ := fun o => by simp [World.frozen?, hb]
  exact ⟨⟨(hc 0).trans h0, (hc 1).trans h1, (hc 2).trans h2, (hc 3).trans h3⟩, ⟨(hf 0).trans f0, (hf 1).trans f1, (hf 2).trans f2, (hf 3).trans f3⟩, Nat.lt_of_lt_of_le hq hs⟩
theorem grown_none {w w' : World} (h : w.grownBy w' none) : Below w.heap.size w w' := ⟨h.os, h.tape, h.output, h.size, fun k hk => h.block k hk (by simp)⟩
theorem box_two {w w' : World} {s0 s1 : Value} {t1 t2 : TypeId} (hg : ((w.alloc (.cells #[s0, s1] t1)).alloc (.cells #[.int .i64 0, .int .i64 0, .string .empty, .slice none 0 0] t2)).grownBy w' none) :
    Below w.heap.size w w' ∧ (w'.cell? ⟨w.heap.size, 0, none⟩ = some s0 ∧ w'.cell? ⟨w.heap.size, 1, none⟩ = some s1) ∧ Box0 (w.heap.size + 1) w' := by
  have h := grown_none hg
  have hs := h.size
  simp at hs
  have h0 : Below w.heap.size w ((w.alloc (.cells #[s0, s1] t1)).alloc (.cells #[.int .i64 0, .int .i64 0, .string .empty, .slice none 0 0] t2)) := ((Below.refl _ _).alloc (Nat.le_refl _) _).alloc (by simp) _
  have hc := fun o => h.cell (p := ⟨w.heap.size, o, none⟩) (by simp; omega)
  have hz := fun o => h.cell (p := ⟨w.heap.size + 1, o, none⟩) (by simp)
  have hf := fun o => h.frozen (p := ⟨w.heap.size + 1, o, none⟩) (by simp)
  exact ⟨h0.trans (h.mono h0.size), ⟨(hc 0).trans (by simp [go_sem]), (hc 1).trans (by simp [go_sem])⟩,
    ⟨(hz 0).trans (by simp [go_sem]), (hz 1).trans (by simp [go_sem]), (hz 2).trans (by simp [go_sem]), (hz 3).trans (by simp [go_sem])⟩, ⟨(hf 0).trans (by simp [go_sem]), (hf 1).trans (by simp [go_sem]), (hf 2).trans (by simp [go_sem]), (hf 3).trans (by simp [go_sem])⟩, by omega⟩

set_option maxHeartbeats 1000000 in
set_option maxRecDepth 100000 in
theorem tupleV_walk (m : Nat) (b : List (Tm m)) (self : Int) (n : Nat) (ih : Hid (FVal m b self n)) (p : List (Tm n)) (len : Nat) (hpl : Hid (p.length = len)) (pa : Option Addr) (pc : Nat) (a : Option Addr) (c B : Nat) (w : World)
    (hlen : len ≤ 8) (hp : Hid (Lies B w n p pa)) (hrp : Hid (∀ y ∈ p, RightA ⟨n, y⟩)) (hb : Hid (Lies B w m b a)) (hB : B ≤ w.heap.size) :
    Calls Try.prog 83 #[.agg #[.slice a 4 c, .int .i64 self], .slice pa len pc] w (VOut (m + n + 1) ((allV (fun y => vl m b self n y) p).map (tupV (m + n))) w) := by
  obtain ⟨o, ho⟩ : ∃ o, o = (allV (fun y => vl m b self n y) p).map (tupV (m + n)) := ⟨_, rfl⟩
  rw [← ho]
  have HO := hide ho
  clear ho
  obtain ⟨it, hit, htz0, htz1, htz2⟩ := info_parts infoTerm
  go_enter Try.func83, Try.ntmps83
  go_wp2_with (at_make; refine wpList_make_full _ rfl _ _ 22 rfl _ 24 it _ 4 Try.underlying22 hit htz0 htz1 _ _ _ _ len rfl rfl rfl rfl (by rw [htz2]; omega) (by unfold maxLen; omega) (Nat.le_refl _) ?_; intro w1 hown1 hgrow1; have HST := hide (cp_start (m + n) (vals (fun y => vl m b self n y) p) len hown1); have HB1 := hide (grown_none hgrow1); have HW0 := hide (box_two hgrow1); clear hown1 hgrow1 hit htz0 htz1 htz2)
  have es : ((w.alloc (.cells #[.slice a 4 c, .int .i64 self] 99)).alloc (.cells #[.int .i64 0, .int .i64 0, .string ⟨#[]⟩, .slice none 0 0] 24)).heap.size = w.heap.size + 1 + 1 := by simp
  rw [es] at HST
  clear es HB1
  obtain ⟨hb1, hc1, hz1⟩ := HW0.out
  have HI : Hid (Below w.heap.size w w1 ∧ (w1.cell? ⟨w.heap.size, 0, none⟩ = some (.slice a 4 c) ∧ w1.cell? ⟨w.heap.size, 1, none⟩ = some (.int .i64 self)) ∧ Box0 (w.heap.size + 1) w1 ∧ Had (fun y => vl m b self n y) p 0 ∧ ∃ l, CpP (m + n) (vals (fun y => vl m b self n y) p) len (w.heap.size + 1 + 1) 0 l w1) :=
    ⟨hb1, hc1, hz1, fun i y hi _ => by omega, [], HST.out⟩
  clear HW0 HST hb1 hc1 hz1
  go_wp2_with fail
  go_loopw [16] (fun i wr => ∃ k : Nat, k ≤ len ∧ i = .int .i64 k ∧ Hid (Below w.heap.size w wr ∧ (wr.cell? ⟨w.heap.size, 0, none⟩ = some (.slice a 4 c) ∧ wr.cell? ⟨w.heap.size, 1, none⟩ = some (.int .i64 self)) ∧ Box0 (w.heap.size + 1) wr ∧ Had (fun y => vl m b self n y) p k ∧ ∃ l, CpP (m + n) (vals (fun y => vl m b self n y) p) len (w.heap.size + 1 + 1) k l wr)) (fun i _ => len - (intOf i).toNat)
  case atStart => exact ⟨0, by omega, rfl, HI.out⟩
  case round =>
    obtain ⟨k, hk, rfl, HR⟩ := hrel
    clear HI
    obtain ⟨HBr, ⟨s0, s1⟩, HZ, HH, l, HL⟩ : Hid (Below w.heap.size w wr) ∧ (wr.cell? ⟨w.heap.size, 0, none⟩ = some (.slice a 4 c) ∧ wr.cell? ⟨w.heap.size, 1, none⟩ = some (.int .i64 self)) ∧ Hid (Box0 (w.heap.size + 1) wr) ∧ Hid (Had (fun y => vl m b self n y) p k) ∧ ∃ l, Hid (CpP (m + n) (vals (fun y => vl m b self n y) p) len (w.heap.size + 1 + 1) k l wr) := HR.out
    clear HR
    by_cases hlt : k < len
    · obtain ⟨x, hx⟩ : ∃ x, p[k]? = some x := ⟨p[k]'(by rw [hpl.out]; exact hlt), List.getElem?_eq_getElem _⟩
      obtain ⟨pb, po, rfl, hpb, hpp⟩ : ∃ pb po, pa = some ⟨pb, po, none⟩ ∧ pb < B ∧ ∀ (i : Nat) (y : Tm n), p[i]? = some y → Held w pb (po + i * 4) n y ∧ In B w n y := by
        rcases hp.out with h | h
        · rw [h] at hx; simp at hx
        · exact h
      obtain ⟨hx1, hx2⟩ := hpp k x hx
      have HX := hide hx
      have HRX := hide (hrp.out x (List.mem_of_getElem? hx))
      replace hx1 := hx1.below (HBr.out.mono hB) hpb
      replace hx2 := hx2.below (HBr.out.mono hB)
      have hBr : B ≤ wr.heap.size := Nat.le_trans hB HBr.out.size
      have HV : Hid (∀ w1, Below wr.heap.size wr w1 → Calls Try.prog 58 #[.agg #[.slice a 4 c, .int .i64 self], val n x] w1 (VOut (m + n) (vl m b self n x) w1)) :=
        fun w1 h1 => ih.out x a c B w1 (hx2.below (h1.mono hBr)) HRX.out ((hb.out.below (HBr.out.mono hB)).below (h1.mono hBr)) (Nat.le_trans hBr h1.size)
      obtain ⟨ox, hox⟩ : ∃ ox, ox = vl m b self n x := ⟨_, rfl⟩
      rw [← hox] at HV
      have HOX := hide hox
      clear hpp hx hp hox hx2
      cases n with
      | zero => exact hx1.elim
      | succ n =>
      obtain ⟨x0, x1, x2, x3⟩ := hx1
      have e3 : val (n + 1) x = .agg #[.int .i64 x.1.1, .int .i64 x.1.2.1, .string x.1.2.2, .slice x.2.1.1 x.2.2.length x.2.1.2] := rfl
      rw [e3] at HV
      clear e3
      generalize x.2.2.length = xl at *
      have hk1 : (0 : Int) ≤ (k : Int) := by omega
      have hk2 : (k : Int) < (len : Int) := by omega
      have hpw : pb < wr.heap.size := by omega
      have hsw : w.heap.size < wr.heap.size := by have := HZ.out.2.2; omega
      go_wp2_with fail
      refine (HV.out _ ((Below.refl _ _).alloc (Nat.le_refl _) _)).mono ?_
      rintro e w2 ⟨y, r, rfl, HY⟩
      have HB2 : Hid (Below wr.heap.size wr w2) := ((Below.refl _ _).alloc (Nat.le_refl _) _).trans (HY.out.1.mono (by simp))
      have HW2 : Hid (Below w.heap.size w w2) := HBr.out.trans (HB2.out.mono HBr.out.size)
      have HZ2 := hide (HZ.out.below HB2.out)
      replace s0 := (below_cells HB2.out _ _ hsw).trans s0
      replace s1 := (below_cells HB2.out _ _ hsw).trans s1
      have e3 : val (m + (n + 1)) y = .agg #[.int .i64 y.1.1, .int .i64 y.1.2.1, .string y.1.2.2, .slice y.2.1.1 y.2.2.length y.2.1.2] := rfl
      rw [e3]
      clear HV x0 x1 x2 x3 HZ e3
      cases r
      · have HF : Hid (o = none) := by
          have h1 : vl m b self (n + 1) x = none := by
            have := HY.out.2.2.2.1
            rw [← HOX.out]
            cases ox with
            | none => rfl
            | some z => cases this
          show o = none
          rw [HO.out, allV_none _ p k x HX.out h1]
          rfl
        obtain ⟨⟨z0, z1, z2, z3⟩, ⟨f0, f1, f2, f3⟩, hzq⟩ := HZ2.out
        clear HY HL HH
        go_wp2_with fail
        rw [HF.out]
        exact bodyPost_ret (v := .tuple #[.agg #[.int .i64 0, .int .i64 0, .string .empty, .slice none 0 0], .bool false]) (by simp [results, Try.results83, go_sem, z0, z1, z2, z3, hzq]; rfl) rfl (vout_none ((put_below HW2.out (by omega) _ _ _ _).alloc (by rw [put4_size]; omega) _))
      · have hT : true = (vl m b self (n + 1) x).isSome := by rw [← HOX.out]; exact HY.out.2.2.2.1
        obtain ⟨z, hz1, hz2⟩ := vals_at (f := fun y => vl m b self (n + 1) y) HX.out hT
        have HN := hide (HH.out.next HX.out hT)
        have HST := hide (HL.out.step hlt z hz1 HB2.out y HY.out.2.1 (HY.out.2.2.1.mono fun q hq => by have := HL.out.2.1.lt.2; simp at hq; omega) (HY.out.2.2.2.2 z (by rw [HOX.out]; exact hz2)))
        have HH1 := hide (HL.out.2.1.below HB2.out)
        have HP : Hid (Below w.heap.size w (putNd w2 (w.heap.size + 1 + 1) (k * 4) (hdT (m + (n + 1)) y))) := by
          have h1 := HW2.out
          exact ⟨h1.os, h1.tape, h1.output, Nat.le_trans h1.size (Nat.le_of_eq (put4_size _ _ _ _).symm), fun q hq => (put4_block (by omega) _ _ _ _).trans (h1.block q hq)⟩
        have HIV : Hid (∀ o : Obj, Below w.heap.size w ((putNd w2 (w.heap.size + 1 + 1) (k * 4) (hdT (m + (n + 1)) y)).alloc o) ∧ (((putNd w2 (w.heap.size + 1 + 1) (k * 4) (hdT (m + (n + 1)) y)).alloc o).cell? ⟨w.heap.size, 0, none⟩ = some (.slice a 4 c) ∧ ((putNd w2 (w.heap.size + 1 + 1) (k * 4) (hdT (m + (n + 1)) y)).alloc o).cell? ⟨w.heap.size, 1, none⟩ = some (.int .i64 self)) ∧ Box0 (w.heap.size + 1) ((putNd w2 (w.heap.size + 1 + 1) (k * 4) (hdT (m + (n + 1)) y)).alloc o) ∧ Had (fun y => vl m b self (n + 1) y) p (k + 1) ∧ ∃ l, CpP (m + (n + 1)) (vals (fun y => vl m b self (n + 1) y) p) len (w.heap.size + 1 + 1) (k + 1) l ((putNd w2 (w.heap.size + 1 + 1) (k * 4) (hdT (m + (n + 1)) y)).alloc o)) := by
          intro o
          have hal : Below (putNd w2 (w.heap.size + 1 + 1) (k * 4) (hdT (m + (n + 1)) y)).heap.size (putNd w2 (w.heap.size + 1 + 1) (k * 4) (hdT (m + (n + 1)) y)) ((putNd w2 (w.heap.size + 1 + 1) (k * 4) (hdT (m + (n + 1)) y)).alloc o) := (Below.refl _ _).alloc (Nat.le_refl _) _
          have hsz : (putNd w2 (w.heap.size + 1 + 1) (k * 4) (hdT (m + (n + 1)) y)).heap.size = w2.heap.size := put4_size _ _ _ _
          have hg2 := HH1.out.lt.2
          refine ⟨HP.out.trans (hal.mono HP.out.size), ⟨?_, ?_⟩, ?_, HN.out, l ++ [y], HST.out.grow hal⟩
          · exact (below_cells hal _ _ (by omega)).trans ((block_cell (put4_block (by omega) _ _ _ _) _).trans s0)
          · exact (below_cells hal _ _ (by omega)).trans ((block_cell (put4_block (by omega) _ _ _ _) _).trans s1)
          · refine Box0.below ?_ hal
            exact HZ2.out.block (put4_block (by omega) _ _ _ _) (Nat.le_of_eq hsz.symm)
        obtain ⟨zz, hzz⟩ : ∃ zz, (l.map (fun x => (⟨m + (n + 1), x⟩ : An)) ++ List.replicate (len - k) zA)[k]? = some zz := ⟨_, List.getElem?_eq_getElem (by simp [HL.out.1]; omega)⟩
        obtain ⟨c0, c1, c2, c3⟩ := HH1.out.cells k zz hzz
        have hf := fun j => HH1.out.free j
        have hg2 : w.heap.size + 1 + 1 < w2.heap.size := HH1.out.lt.2
        clear HY HL HH HB2 HBr HST HN HP HH1 hzz HZ2 hz1 hz2 hT
        go_wp2_with fail
        go_roundw
        case rel => exact ⟨k + 1, by omega, by go_num, HIV.out _⟩
        case measure => simp [intOf]; omega
    · obtain rfl : k = len := by omega
      have HF : Hid (o = some (tupV (m + n) (vals (fun y => vl m b self n y) p))) := by
        show o = _
        rw [HO.out, vals_all HH.out (by rw [hpl.out]; exact Nat.le_refl _)]
        rfl
      have HT := fun v0 v1 v2 v3 => hide (tuple_out HL.out (by rw [vals_len]; exact hpl.out) rfl HBr.out hlen (w.heap.size + 1) (by omega) (by omega) v0 v1 v2 v3)
      obtain ⟨⟨z0, z1, z2, z3⟩, ⟨f0, f1, f2, f3⟩, hzq⟩ := HZ.out
      clear HH HL HBr hp hb
      go_wp2_with fail
      rw [HF.out]
      exact bodyPost_ret (v := .tuple #[.agg #[.int .i64 4, .int .i64 0, .string .empty, .slice (some ⟨w.heap.size + 1 + 1, 0, none⟩) k k], .bool true]) (by simp [results, Try.results83, go_sem, z0, z1, z2, z3]; rfl) rfl (HT _ _ _ _).out
end Go.Proofs.Ytfaoeccnhbcjgab
