/- What is proved here: plain facts and contracts that the claimed theorem stands on, several texts in one: clerklaw.CodeSays returns true and turns no memory that was there, for every term and every list that lie in memory. Conditions: at most 2097152 terms, told as a term too; at most 1048576 things in each list. a plain fact: a term has at most as many terms in it as it holds terms and letters. No condition. whatever reads as a term is a tree that lies in memory, no larger than the reading's bulk; and a row over terms follows from what the call does. No condition. whatever reads as a list of behaviours is a program's list that lies in memory, no larger than the reading's bulk. No condition. told as a term, a program in form is of no more terms than its bulk and 2897. No condition beside its form. -/
import Derived.Test.YtpehdgbdinjbaaaG20
import Derived.Test.YtpehdgbdinjbaaaG21
import Derived.Test.YtpehdgbdinjbaaaG24
import Derived.Test.YtpehdgbdinjbaaaG01
import Derived.ProofKit
import Derived.OpenShut
import Derived.JoinedCond
import Derived.Test.YtpehdgbdinjbaaaG09
namespace Go.Proofs.Ytpehdgbdinjbaaa
open Go.RowKit

theorem cs_to {n len : Nat} {p : List (Bh (n + 1))} {a : Option Addr} {pc B : Nat} {W : World} (hlen : p.length = len) (hl : len ≤ pc) (hpc : pc ≤ maxLen) (hi : PgIn (n + 1) B W a p) (hB : B ≤ W.heap.size) (hN : pgB (n + 1) p = true → (nodes (n + 6) (tellP n p)).length ≤ 2097152) :
    Calls Try.prog 38 #[.slice a len pc] W (ToOut B n p W) := by
  subst hlen
  exact to_any n p a pc hl hpc B W hi hB hN
/-- The two readings are the same program. -/
theorem cs_same {M : Nat} {l1 l2 z : List (Bh (M + 1))} {n : Nat} {x : Tm n} {a c : Option Addr} {pc qc L1 L2 : Nat} {W : World} (hn : n ≤ M + 1) (hc : chk n x = 0) (hN : (nodes n x).length ≤ 2097152) (hz : rdP M n x = some z) (hB : pgB (M + 1) z = true) (r1 : RelL (bhS (M + 1)) l1 z) (r2 : RelL (bhS (M + 1)) l2 z) (e1 : l1.length = L1) (e2 : l2.length = L2) (i1 : PgIn (M + 1) W.heap.size W a l1) (i2 : PgIn (M + 1) W.heap.size W c l2) :
    Calls Try.prog 40 #[.slice a L1 pc, .slice c L2 qc] W fun e w' => e = .returned (.bool true) ∧ Below W.heap.size W w' := by
  obtain ⟨a1, a2, a3, a4⟩ := read_told hn hc hz r1 hB
  obtain ⟨b1, b2, b3, b4⟩ := read_told hn hc hz r2 hB
  have lp := (pg_bounds a1).1
  have lq := (pg_bounds b1).1
  have h := samePrograms_any M M l1 l2 a c L1 pc L2 qc e1 e2 W.heap.size W (by omega) (by omega) (fun w1 h1 => rto_form M l1 L1 e1 a1 a pc W.heap.size w1 (PgIn.below h1 i1) h1.size (by omega) (by show _ ≤ _; rw [a4]; exact hN)) (fun w1 h1 => rto_form M l2 L2 e2 b1 c qc W.heap.size w1 (PgIn.below h1 i2) h1.size (by omega) (by show _ ≤ _; rw [b4]; exact hN))
  rw [sameP_of a2 b2 (same_trans _ _ _ _ _ _ a3 (same_symm _ _ _ _ b3)) (by rw [r1.1, r2.1])] at h
  exact h

set_option maxHeartbeats 4000000 in
set_option maxRecDepth 100000 in
theorem csays_walk (m : Nat) (x : Tm (m + 6)) (n : Nat) (p : List (Bh (n + 1))) (len : Nat) (a : Option Addr) (pc B : Nat) (w : World) (hlen : Hid (p.length = len)) (hl : len ≤ pc) (hpc : Hid (pc ≤ maxLen)) (hlm : len ≤ 1048576) (hF : Hid (Few (n + 1) 1048576 p)) (hx : Hid (In B w (m + 6) x)) (hp : Hid (PgIn (n + 1) B w a p)) (hB : B ≤ w.heap.size) (hNx : Hid ((nodes (m + 6) x).length ≤ 2097152)) (hNp : Hid (pgB (n + 1) p = true → (nodes (n + 6) (tellP n p)).length ≤ 2097152)) :
    Calls Try.prog 8 #[.agg #[.int .i64 x.1.1, .int .i64 x.1.2.1, .string x.1.2.2, .slice x.2.1.1 x.2.2.length x.2.1.2], .slice a len pc] w fun e w' => e = .returned (.bool true) ∧ Below w.heap.size w w' := by
  have HFR : Hid (∀ w1, Below w.heap.size w w1 → Calls Try.prog 36 #[.agg #[.int .i64 x.1.1, .int .i64 x.1.2.1, .string x.1.2.2, .slice x.2.1.1 x.2.2.length x.2.1.2]] w1 (FromOut (m + 6) (fromE (m + 6) (m + 6) x) (rdP (m + 6) (m + 6) x) w1)) := fun w1 h1 => from_any (m + 6) (m + 6) (by omega) x B w1 (hx.out.below (h1.mono hB)) hNx.out (Nat.le_trans hB h1.size)
  have HFD : Hid (∀ w1, Below w.heap.size w w1 → Calls Try.prog 37 #[.agg #[.int .i64 x.1.1, .int .i64 x.1.2.1, .string x.1.2.2, .slice x.2.1.1 x.2.2.length x.2.1.2]] w1 (RfOut (m + 6) (fromE (m + 6) (m + 6) x) (rdP (m + 6) (m + 6) x) w1)) := fun w1 h1 => rfrom_any (m + 6) m (by omega) x B w1 (hx.out.below (h1.mono hB)) hNx.out (Nat.le_trans hB h1.size)
  have HFF := hide (fun h => from_form (M := m + 6) (n := m + 6) (x := x) h)
  obtain ⟨E, hE⟩ : ∃ E, fromE (m + 6) (m + 6) x = E := ⟨_, rfl⟩
  rw [hE] at HFR HFD HFF
  clear hE
  go_enter Try.func8, Try.ntmps8
  go_wp2_with fail
  refine (HFR.out _ one_alloc).mono ?_
  rintro e w1 ⟨l1, a1, c1, rfl, H1⟩
  obtain ⟨L1, hL1⟩ : ∃ L1, l1.length = L1 := ⟨_, rfl⟩
  rw [hL1]
  have HL1 := hide hL1
  have HX1 := hide (box4_new w _ _ _ _ _ H1.out.1)
  have HB1 : Hid (Below w.heap.size w w1) := one_alloc.trans (H1.out.1.mono (by simp))
  have hL1m : L1 ≤ 9223372036854775807 := by have := H1.out.2.1; unfold maxLen at this; omega
  clear hL1
  have t0 : w1.cell? ⟨w.heap.size, 0, none⟩ = some (.int .i64 x.1.1) := box_cell HX1.out 0
  have t1 : w1.cell? ⟨w.heap.size, 1, none⟩ = some (.int .i64 x.1.2.1) := box_cell HX1.out 1
  have t2 : w1.cell? ⟨w.heap.size, 2, none⟩ = some (.string x.1.2.2) := box_cell HX1.out 2
  have t3 : w1.cell? ⟨w.heap.size, 3, none⟩ = some (.slice x.2.1.1 x.2.2.length x.2.1.2) := box_cell HX1.out 3
  go_wp2_with fail
  refine (HFD.out _ HB1.out).mono ?_
  rintro e w2 ⟨l2, L2, a2, c2, rfl, H2⟩
  have HB2 : Hid (Below w.heap.size w w2) := HB1.out.trans (H2.out.1.mono HB1.out.size)
  have hL2m : L2 ≤ 8 := H2.out.2.2.1
  clear t0 t1 t2 t3
  go_wp2_with fail
  refine (cs_to hlen.out hl hpc.out (PgIn.below (HB2.out.mono hB) hp.out) (Nat.le_trans hB HB2.out.size) hNp.out).mono ?_
  rintro e w3 ⟨y, rfl, HY⟩
  have e3 : val (n + 6) y = .agg #[.int .i64 y.1.1, .int .i64 y.1.2.1, .string y.1.2.2, .slice y.2.1.1 y.2.2.length y.2.1.2] := rfl
  rw [e3]
  clear e3
  have HB3 : Hid (Below w.heap.size w w3) := HB2.out.trans (HY.out.1.mono HB2.out.size)
  have HAL : Hid (Below w.heap.size w (w3.alloc (.cells #[.int .i64 y.1.1, .int .i64 y.1.2.1, .string y.1.2.2, .slice y.2.1.1 y.2.2.length y.2.1.2] 24))) := HB3.out.trans (one_alloc.mono HB3.out.size)
  obtain ⟨G, hG⟩ : ∃ G, toE n p = G := ⟨_, rfl⟩
  rw [hG]
  have HG := hide hG
  clear hG
  go_wp2_with fail
  refine (rto_walk n p len hlen hF a pc B _ (PgIn.below (HAL.out.mono hB) hp.out) (Nat.le_trans hB HAL.out.size) hlm hNp).mono ?_
  rintro e w4 ⟨z, rfl, HZ⟩
  have e3 : val (n + 6) z = .agg #[.int .i64 z.1.1, .int .i64 z.1.2.1, .string z.1.2.2, .slice z.2.1.1 z.2.2.length z.2.1.2] := rfl
  rw [e3, HG.out]
  clear e3
  have HX4 := hide (box4_new w3 _ _ _ _ _ HZ.out.1)
  have HB34 : Hid (Below w3.heap.size w3 w4) := one_alloc.trans (HZ.out.1.mono (by simp))
  have HB4 : Hid (Below w.heap.size w w4) := HB3.out.trans (HB34.out.mono HB3.out.size)
  have hq4 : w3.heap.size < w4.heap.size := (Array.getElem?_eq_some_iff.1 HX4.out).1
  have d0 : w4.cell? ⟨w3.heap.size, 0, none⟩ = some (.int .i64 y.1.1) := box_cell HX4.out 0
  have d1 : w4.cell? ⟨w3.heap.size, 1, none⟩ = some (.int .i64 y.1.2.1) := box_cell HX4.out 1
  have d2 : w4.cell? ⟨w3.heap.size, 2, none⟩ = some (.string y.1.2.2) := box_cell HX4.out 2
  have d3 : w4.cell? ⟨w3.heap.size, 3, none⟩ = some (.slice y.2.1.1 y.2.2.length y.2.1.2) := box_cell HX4.out 3
  have HSM : Hid (∀ w5, Below w4.heap.size w4 w5 → Calls Try.prog 14 #[.agg #[.int .i64 y.1.1, .int .i64 y.1.2.1, .string y.1.2.2, .slice y.2.1.1 y.2.2.length y.2.1.2], .agg #[.int .i64 z.1.1, .int .i64 z.1.2.1, .string z.1.2.2, .slice z.2.1.1 z.2.2.length z.2.1.2]] w5 fun e w' => e = .returned (.bool true) ∧ Below w5.heap.size w5 w') := fun w5 h5 => by
    have hs : same (n + 6) y (n + 6) z = true := same_trans _ _ _ _ _ _ HY.out.2.2.2 (same_symm _ _ _ _ HZ.out.2.2.2)
    rw [← hs]
    have hb5 := HB34.out.trans (h5.mono HB34.out.size)
    exact same_any (n + 6) y (n + 6) z w5.heap.size w5 ((HY.out.2.1.below hb5).mono hb5.size) ((HZ.out.2.1.below h5).mono h5.size) (Nat.le_refl _)
  have HL12 : Hid ((L1 : Int) = (L2 : Int)) := (by
    show _ = _
    by_cases h0 : E = 0
    · obtain ⟨z1, e1, r1⟩ := H1.out.2.2.2.2.2 h0
      obtain ⟨z2, e2, r2⟩ := H2.out.2.2.2.2.2 h0
      rw [e1] at e2
      injection e2 with e2
      subst e2
      have := r1.1
      have := r2.1
      have := HL1.out
      have := H2.out.2.1
      omega
    · have h1 := H1.out.2.2.2.2.1 h0
      have h2 := H2.out.2.2.2.2.1 h0
      have := HL1.out
      rw [h1] at this
      simp at this
      omega)
  have HSP : Hid (E = 0 → ∀ w5, Below w4.heap.size w4 w5 → Calls Try.prog 40 #[.slice a1 L1 c1, .slice a2 L2 c2] w5 fun e w' => e = .returned (.bool true) ∧ Below w5.heap.size w5 w') := fun h0 w5 h5 => by
    obtain ⟨z1, e1, r1⟩ := H1.out.2.2.2.2.2 h0
    obtain ⟨z2, e2, r2⟩ := H2.out.2.2.2.2.2 h0
    rw [e1] at e2
    injection e2 with e2
    subst e2
    obtain ⟨hc, hz⟩ := HFF.out h0
    have b2 : Below w2.heap.size w2 w5 := (HY.out.1.trans (HB34.out.mono HY.out.1.size)).trans (h5.mono (HY.out.1.trans (HB34.out.mono HY.out.1.size)).size)
    have b1 : Below w1.heap.size w1 w5 := H2.out.1.trans (b2.mono H2.out.1.size)
    exact cs_same (by omega) hc hNx.out e1 (hz _ e1) r1 r2 HL1.out H2.out.2.1 ((PgIn.below b1 H1.out.2.2.1).mono b1.size) ((PgIn.below b2 H2.out.2.2.2.1).mono b2.size)
  have hL12 := HL12.out
  have hL12' : ((L1 : Int) == (L2 : Int)) = true := by simpa using hL12
  clear hL12
  by_cases h0 : E = 0
  · subst h0
    have HSP0 := hide (HSP.out rfl)
    clear HSP
    go_wp2_with fail
    refine (HSP0.out _ one_alloc).mono ?_
    rintro e w5 ⟨rfl, hb5⟩
    have HB45 : Hid (Below w4.heap.size w4 w5) := one_alloc.trans (hb5.mono (by simp))
    have HY5 := hide ((HB45.out.block _ hq4).trans HX4.out)
    have HZ5 := hide (box4_new w4 _ _ _ _ _ hb5)
    clear hb5 d0 d1 d2 d3
    have d0 : w5.cell? ⟨w3.heap.size, 0, none⟩ = some (.int .i64 y.1.1) := box_cell HY5.out 0
    have d1 : w5.cell? ⟨w3.heap.size, 1, none⟩ = some (.int .i64 y.1.2.1) := box_cell HY5.out 1
    have d2 : w5.cell? ⟨w3.heap.size, 2, none⟩ = some (.string y.1.2.2) := box_cell HY5.out 2
    have d3 : w5.cell? ⟨w3.heap.size, 3, none⟩ = some (.slice y.2.1.1 y.2.2.length y.2.1.2) := box_cell HY5.out 3
    have z0 : w5.cell? ⟨w4.heap.size, 0, none⟩ = some (.int .i64 z.1.1) := box_cell HZ5.out 0
    have z1 : w5.cell? ⟨w4.heap.size, 1, none⟩ = some (.int .i64 z.1.2.1) := box_cell HZ5.out 1
    have z2 : w5.cell? ⟨w4.heap.size, 2, none⟩ = some (.string z.1.2.2) := box_cell HZ5.out 2
    have z3 : w5.cell? ⟨w4.heap.size, 3, none⟩ = some (.slice z.2.1.1 z.2.2.length z.2.1.2) := box_cell HZ5.out 3
    have HB5 : Hid (Below w.heap.size w w5) := HB4.out.trans (HB45.out.mono HB4.out.size)
    go_wp2_with fail
    refine (HSM.out _ HB45.out).mono ?_
    rintro e w6 ⟨rfl, hb6⟩
    have HB6 : Hid (Below w.heap.size w w6) := HB5.out.trans (hb6.mono HB5.out.size)
    clear hb6 d0 d1 d2 d3 z0 z1 z2 z3
    go_wp2_with fail
    go_ret
    exact ⟨by simp, HB6.out⟩
  · have h0' : (E != 0) = true := by simpa using h0
    clear HSP
    go_wp2_with fail
    refine (HSM.out _ one_alloc).mono ?_
    rintro e w5 ⟨rfl, hb5⟩
    have HB5 : Hid (Below w.heap.size w w5) := HB4.out.trans ((one_alloc.trans (hb5.mono (by simp))).mono HB4.out.size)
    clear hb5 d0 d1 d2 d3
    go_wp2_with fail
    go_ret
    exact ⟨by simp, HB5.out⟩
end Go.Proofs.Ytpehdgbdinjbaaa
namespace Go.Proofs.Ytpehdgbdinjbaaa

/-- How much a term holds: its terms, and the letters of their names. -/
def wt : (n : Nat) → Tm n → Nat
  | 0, _ => 1
  | n + 1, x => 1 + x.1.2.2.size + (x.2.2.map fun y => wt n y).sum

theorem nodes_wt : (n : Nat) → (x : Tm n) → (nodes n x).length ≤ wt n x
  | 0, _ => by simp [nodes, wt]
  | n + 1, x => by
    have key : ∀ l : List (Tm n), (l.flatMap fun y => nodes n y).length ≤ (l.map fun y => wt n y).sum := by
      intro l
      induction l with
      | nil => simp
      | cons y l ih =>
        have := nodes_wt n y
        simp only [List.flatMap_cons, List.length_append, List.map_cons, List.sum_cons]
        omega
    have := key x.2.2
    simp only [nodes, wt, List.length_cons]
    omega
end Go.Proofs.Ytpehdgbdinjbaaa
namespace Go.Proofs.Ytpehdgbdinjbaaa
open Go.ChangeShapes Go.WideShapes Go.ChangeAt Go.RowKit

theorem own : ownKnob Try.prog.godebug = none := by kernel_rfl
theorem laidOut : laidOutB Try.prog = true := by kernel_rfl
theorem cellsTerm : Try.prog.cellsOf 24 = 4 := by kernel_rfl
theorem cellsInt : Try.prog.cellsOf 3 = 1 := by kernel_rfl
theorem cellsString : Try.prog.cellsOf 9 = 1 := by kernel_rfl
theorem cellsTerms : Try.prog.cellsOf 22 = 1 := by kernel_rfl

theorem list_of {α : Type} {P : Nat → α → Prop} : (len : Nat) → (∀ i, i < len → ∃ y, P i y) → ∃ l : List α, l.length = len ∧ ∀ i y, l[i]? = some y → P i y
  | 0, _ => ⟨[], rfl, fun i y h => by simp at h⟩
  | len + 1, h => by
    obtain ⟨l, hl, hp⟩ := list_of len (fun i hi => h i (by omega))
    obtain ⟨z, hz⟩ := h len (by omega)
    refine ⟨l ++ [z], by simp [hl], fun i y hy => ?_⟩
    by_cases hi : i < l.length
    · rw [List.getElem?_append_left hi] at hy
      exact hp i y hy
    · rw [List.getElem?_append_right (by omega)] at hy
      have h0 : i - l.length = 0 := by
        by_cases h0 : i - l.length = 0
        · exact h0
        · rw [List.getElem?_eq_none (by simp; omega)] at hy; cases hy
      rw [h0] at hy
      have e1 : z = y := by simpa using hy
      have e2 : i = len := by omega
      rw [e2, ← e1]
      exact hz

theorem wt_le {H : Type} {n : Nat} : (p : List (Tm n)) → (es : List (DataW H)) → (∀ (i : Nat) (y : Tm n) (e : DataW H), p[i]? = some y → es[i]? = some e → wt n y ≤ Rows.uptoBulk e) → p.length = es.length → (p.map fun y => wt n y).sum ≤ Rows.uptoBulkAll es
  | [], es, _, h => by simp
  | y :: p, [], _, h => by simp at h
  | y :: p, e :: es, hp, h => by
    have h0 := hp 0 y e (by simp) (by simp)
    have h1 := wt_le p es (fun i y' e' hy he => hp (i + 1) y' e' (by simpa using hy) (by simpa using he)) (by simpa using h)
    simp only [List.map_cons, List.sum_cons, Rows.uptoBulkAll]
    omega

theorem add_add (b o i j : Nat) : ((⟨b, o, none⟩ : Addr).add i).add j = ⟨b, o + i + j, none⟩ := by
  unfold Addr.add
  split <;> split <;> simp_all
theorem spot_none {w : World} {a : Addr} {v : Value} (h : w.cell? ((a.add 0).add 0) = some v) : a = ⟨a.block, a.off, none⟩ := by
  have e : (a.add 0).add 0 = a := rfl
  rw [e] at h
  unfold World.cell? at h
  split at h
  · split at h
    · cases h
    · rename_i hs
      cases a with
      | mk b o s => cases s with
        | none => rfl
        | some q => simp at hs
  · cases h

theorem wf64 {k : Int} (h : (Lit.int .i64 k).wf = true) : I64 k := by
  have : -9223372036854775808 ≤ k ∧ k ≤ 9223372036854775807 := by simpa [Lit.wf, IntKind.min, IntKind.max, IntKind.signed, IntKind.bits] using h
  exact this

set_option maxRecDepth 100000 in
theorem tree_of {H : Type} (enc : TypeId × Value → H) (w : World) (sp : Nat → Bool) : (n f : Nat) → f ≤ 2 * n + 1 → (cs : List Value) → (x : DataW H × List MemPlace) →
    DataW.trod enc Try.prog w 0 sp true f 24 cs = some x →
    ∃ t : Tm (n + 1), cs = [.int .i64 t.1.1, .int .i64 t.1.2.1, .string t.1.2.2, .slice t.2.1.1 t.2.2.length t.2.1.2] ∧ In w.heap.size w (n + 1) t ∧ wt (n + 1) t ≤ Rows.uptoBulk x.1 := by
  intro n
  induction n with
  | zero =>
    intro f hf cs x h
    obtain ⟨xs, m, rfl, rfl, hl, hx, hg⟩ := DataW.trod_struct Try.underlying24 h
    have h0 : DataW.trod enc Try.prog w 0 sp true m 3 ((cs.drop 0).take (Try.prog.cellsOf 3)) = xs[0]? := hg 0 _ rfl
    obtain rfl : m = 0 := by omega
    have hx' : xs.length = 4 := hx
    rw [List.getElem?_eq_getElem (by omega)] at h0
    cases h0
  | succ n ih =>
    intro f hf cs x h
    obtain ⟨xs, m, rfl, rfl, hl, hx, hg⟩ := DataW.trod_struct Try.underlying24 h
    have h0 : DataW.trod enc Try.prog w 0 sp true m 3 ((cs.drop 0).take (Try.prog.cellsOf 3)) = xs[0]? := hg 0 _ rfl
    have h1 : DataW.trod enc Try.prog w 0 sp true m 3 ((cs.drop 1).take (Try.prog.cellsOf 3)) = xs[1]? := hg 1 _ rfl
    have h2 : DataW.trod enc Try.prog w 0 sp true m 9 ((cs.drop 2).take (Try.prog.cellsOf 9)) = xs[2]? := hg 2 _ rfl
    have h3 : DataW.trod enc Try.prog w 0 sp true m 22 ((cs.drop 3).take (Try.prog.cellsOf 22)) = xs[3]? := hg 3 _ rfl
    rw [cellsInt] at h0 h1
    rw [cellsString] at h2
    rw [cellsTerms] at h3
    rw [cellsTerm] at hl
    obtain ⟨c0, c1, c2, c3, rfl⟩ : ∃ c0 c1 c2 c3, cs = [c0, c1, c2, c3] := by
      match cs, hl with
      | [c0, c1, c2, c3], _ => exact ⟨c0, c1, c2, c3, rfl⟩
    obtain ⟨y0, y1, y2, y3, rfl⟩ : ∃ y0 y1 y2 y3, xs = [y0, y1, y2, y3] := by
      match xs, hx with
      | [y0, y1, y2, y3], _ => exact ⟨y0, y1, y2, y3, rfl⟩
    obtain ⟨k, e0, z0, w0⟩ := DataW.trod_int Try.underlying3 (x := y0) (by simpa using h0)
    obtain ⟨u, e1, z1, w1⟩ := DataW.trod_int Try.underlying3 (x := y1) (by simpa using h1)
    obtain ⟨s, e2, z2, w2⟩ := DataW.trod_string Try.underlying9 (x := y2) (by simpa using h2)
    have h3' : DataW.trod enc Try.prog w 0 sp true m 22 [c3] = some y3 := by simpa using h3
    simp at e0 e1 e2
    subst e0 e1 e2 z0 z1 z2
    rcases DataW.trod_slice Try.underlying22 h3' with ⟨e3, rfl⟩ | ⟨a, len, cap, elems, rest, m', rfl, e3, rfl, _, hlc, hcm, hel, hat, _, _⟩
    · simp at e3
      subst e3
      refine ⟨((k, u, s), (none, 0), []), rfl, ⟨⟨wf64 w0, wf64 w1, w2, Nat.le_refl _, Nat.zero_le _⟩, Or.inl rfl⟩, ?_⟩
      have es : s.data.toList.length = s.size := by rw [Array.length_toList]; rfl
      simp only [wt, Rows.uptoBulk, Rows.uptoBulkAll, List.map_cons, List.map_nil, List.sum_nil]
      omega
    · simp at e3
      subst e3
      simp only [cellsTerm] at hat
      have key : ∀ i, i < len → ∃ t : Tm (n + 1), (∃ b o, a = ⟨b, o, none⟩ ∧ b < w.heap.size ∧ Held w b (o + i * 4) (n + 1) t) ∧ In w.heap.size w (n + 1) t ∧ ∀ e, (elems.map (·.1))[i]? = some e → wt (n + 1) t ≤ Rows.uptoBulk e := by
        intro i hi
        have hi' := hat i hi
        have hi0 := hat 0 (by omega)
        rw [List.getElem?_eq_getElem (by omega)] at hi' hi0
        obtain ⟨cs', hcs, htr⟩ := Option.bind_eq_some_iff.1 hi'
        obtain ⟨cs0, hcs0, htr0⟩ := Option.bind_eq_some_iff.1 hi0
        obtain ⟨_, hlen, hcell⟩ := World.cells?_some hcs
        obtain ⟨_, hlen0, hcell0⟩ := World.cells?_some hcs0
        obtain ⟨t, rfl, hin, hb⟩ := ih m' (by omega) cs' _ htr
        have ha := spot_none (w := w) (a := a) (v := cs0[0]'(by omega)) (by have := hcell0 0 (by omega); rw [List.getElem?_eq_getElem (by omega)] at this; simpa using this)
        have hadd : ∀ j, (a.add (i * 4)).add j = ⟨a.block, a.off + i * 4 + j, none⟩ := fun j => by
          have := add_add a.block a.off (i * 4) j
          rw [← ha] at this
          exact this
        have c0 := hcell 0 (by omega)
        have c1 := hcell 1 (by omega)
        have c2 := hcell 2 (by omega)
        have c3 := hcell 3 (by omega)
        rw [hadd] at c0 c1 c2 c3
        simp at c0 c1 c2 c3
        refine ⟨t, ⟨a.block, a.off, ha, World.block_lt_of_cell? w ⟨a.block, a.off + i * 4, none⟩ c0, c0, c1, c2, c3⟩, hin, fun e he => ?_⟩
        rw [List.getElem?_map, List.getElem?_eq_getElem (by omega)] at he
        have : (elems[i]).1 = e := by simpa using he
        rw [← this]
        exact hb
      obtain ⟨p, hpl, hp⟩ := list_of len key
      refine ⟨((k, u, s), (some a, cap), p), by simp [hpl], ⟨⟨wf64 w0, wf64 w1, w2, by simp only; omega, hcm⟩, ?_⟩, ?_⟩
      · rcases Nat.eq_zero_or_pos len with h | h
        · exact Or.inl (List.eq_nil_of_length_eq_zero (hpl.trans h))
        · obtain ⟨⟨b, o, rfl, hb, _⟩, _, _⟩ := hp 0 (p[0]'(by rw [hpl]; exact h)) (List.getElem?_eq_getElem (by rw [hpl]; exact h))
          refine Or.inr ⟨b, o, rfl, hb, fun i y hy => ?_⟩
          obtain ⟨⟨b', o', e, _, hh⟩, hin, _⟩ := hp i y hy
          simp at e
          obtain ⟨rfl, rfl⟩ := e
          exact ⟨hh, hin⟩
      · have hs := wt_le p (elems.map (·.1)) (fun i y e hy he => (hp i y hy).2.2 e he) (by simp; omega)
        have es : s.data.toList.length = s.size := by rw [Array.length_toList]; rfl
        simp only [wt, Rows.uptoBulk, Rows.uptoBulkAll, List.map_cons, List.map_nil] at hs ⊢
        omega

set_option maxRecDepth 100000 in
theorem open_term {H : Type} {enc : TypeId × Value → H} {W : World} {r : Reach} {b0 : Nat} {v : Value} {d : DataW H} {p : List MemPlace} (hv : Value.okWide Try.prog W r b0 24 v)
    (h : DataW.Trod enc Try.prog W 0 (fun _ => true) true 24 v d p) : ∃ n, ∃ t : Tm (n + 1), v = val (n + 1) t ∧ In W.heap.size W (n + 1) t ∧ wt (n + 1) t ≤ Rows.uptoBulk d := by
  obtain ⟨cs, rfl, _⟩ := okWide_struct Try.underlying24 hv
  obtain ⟨f, hf⟩ := h
  obtain ⟨t, e, hin, hb⟩ := tree_of enc W (fun _ => true) f f (by omega) _ _ hf
  refine ⟨f, t, ?_, hin, hb⟩
  have : cs = #[.int .i64 t.1.1, .int .i64 t.1.2.1, .string t.1.2.2, .slice t.2.1.1 t.2.2.length t.2.1.2] := by
    simp [Value.cells] at e
    exact Array.toList_inj.1 e
  rw [this]
  rfl
end Go.Proofs.Ytpehdgbdinjbaaa
namespace Go.Proofs.Ytpehdgbdinjbaaa
open Go.ChangeShapes Go.WideShapes Go.ChangeAt Go.RowKit

def wtA (n : Nat) (a : Ac n) : Nat := wt n a.2.1.1 + wt n a.2.1.2 + a.2.2.1.size + 1
def wtC (n : Nat) (c : Cl n) : Nat := wt n c.1.1 + wt n c.1.2.1 + wt n c.1.2.2 + (c.2.2.map (wtA n)).sum + 1
def wtB (n : Nat) (b : Bh n) : Nat := b.1.size + (b.2.2.map (wtC n)).sum + 1
theorem cellsAct : Try.prog.cellsOf 137 = 11 := by kernel_rfl
theorem cellsClause : Try.prog.cellsOf 135 = 13 := by kernel_rfl
theorem cellsBeh : Try.prog.cellsOf 127 = 2 := by kernel_rfl
theorem cellsActs : Try.prog.cellsOf 133 = 1 := by kernel_rfl
theorem cellsClauses : Try.prog.cellsOf 125 = 1 := by kernel_rfl

theorem sum_le {α H : Type} (g : α → Nat) : (p : List α) → (es : List (DataW H)) → (∀ (i : Nat) (y : α) (e : DataW H), p[i]? = some y → es[i]? = some e → g y ≤ Rows.uptoBulk e) → p.length = es.length → (p.map g).sum ≤ Rows.uptoBulkAll es
  | [], es, _, h => by simp
  | y :: p, [], _, h => by simp at h
  | y :: p, e :: es, hp, h => by
    have h0 := hp 0 y e (by simp) (by simp)
    have h1 := sum_le g p es (fun i y' e' hy he => hp (i + 1) y' e' (by simpa using hy) (by simpa using he)) (by simpa using h)
    simp only [List.map_cons, List.sum_cons, Rows.uptoBulkAll]
    omega

set_option maxRecDepth 100000 in
theorem row_of {H α : Type} (enc : TypeId × Value → H) (w : World) (sp : Nat → Bool) (k : Nat) (f : α → List Value) (I : α → Prop) (g : α → Nat) (T S : TypeId) (hS : Try.prog.underlying S = some (.slice T)) (hk : Try.prog.cellsOf T = k) (hk0 : 0 < k) (hlen : ∀ y, (f y).length = k) (F : Nat)
    (elem : ∀ (m : Nat) (cs : List Value) (x : DataW H × List MemPlace), m ≤ F → DataW.trod enc Try.prog w 0 sp true m T cs = some x → ∃ y, cs = f y ∧ I y ∧ g y ≤ Rows.uptoBulk x.1)
    (m : Nat) (hm : m ≤ F) (v : Value) (x : DataW H × List MemPlace) (h : DataW.trod enc Try.prog w 0 sp true m S [v] = some x) :
    ∃ a l c, v = .slice a l.length c ∧ l.length ≤ c ∧ c ≤ maxLen ∧ Lay w.heap.size w k f I a l ∧ (l.map g).sum + 1 ≤ Rows.uptoBulk x.1 := by
  rcases DataW.trod_slice hS h with ⟨e, rfl⟩ | ⟨a, len, cap, elems, rest, m', rfl, e, rfl, _, hlc, hcm, hel, hat, _, _⟩
  · simp at e
    subst e
    exact ⟨none, [], 0, rfl, Nat.le_refl _, Nat.zero_le _, Or.inl rfl, by simp [Rows.uptoBulk]⟩
  · simp at e
    subst e
    simp only [hk] at hat
    have key : ∀ i, i < len → ∃ y : α, (∃ b o, a = ⟨b, o, none⟩ ∧ b < w.heap.size ∧ ∀ (j : Nat) (u : Value), (f y)[j]? = some u → w.cell? ⟨b, o + i * k + j, none⟩ = some u) ∧ I y ∧ ∀ e, (elems.map (·.1))[i]? = some e → g y ≤ Rows.uptoBulk e := by
      intro i hi
      have hi' := hat i hi
      have hi0 := hat 0 (by omega)
      rw [List.getElem?_eq_getElem (by omega)] at hi' hi0
      obtain ⟨cs', hcs, htr⟩ := Option.bind_eq_some_iff.1 hi'
      obtain ⟨cs0, hcs0, htr0⟩ := Option.bind_eq_some_iff.1 hi0
      obtain ⟨_, hl', hcell⟩ := World.cells?_some hcs
      obtain ⟨_, hl0, hcell0⟩ := World.cells?_some hcs0
      obtain ⟨y, rfl, hin, hb⟩ := elem m' cs' _ (by omega) htr
      have ha := spot_none (w := w) (a := a) (v := cs0[0]'(by omega)) (by have := hcell0 0 (by omega); rw [List.getElem?_eq_getElem (by omega)] at this; simpa using this)
      have hadd : ∀ j, (a.add (i * k)).add j = ⟨a.block, a.off + i * k + j, none⟩ := fun j => by
        have := add_add a.block a.off (i * k) j
        rw [← ha] at this
        exact this
      have hc : ∀ (j : Nat) (u : Value), (f y)[j]? = some u → w.cell? ⟨a.block, a.off + i * k + j, none⟩ = some u := fun j u hj => by
        have hjl := (List.getElem?_eq_some_iff.1 hj).1
        have := hcell j (by rw [hlen] at hjl; omega)
        rw [hadd, hj] at this
        exact this
      obtain ⟨u0, hu0⟩ : ∃ u, (f y)[0]? = some u := ⟨(f y)[0]'(by rw [hlen]; omega), List.getElem?_eq_getElem _⟩
      refine ⟨y, ⟨a.block, a.off, ha, World.block_lt_of_cell? w ⟨a.block, a.off + i * k + 0, none⟩ (hc 0 u0 hu0), hc⟩, hin, fun e he => ?_⟩
      rw [List.getElem?_map, List.getElem?_eq_getElem (by omega)] at he
      have : (elems[i]).1 = e := by simpa using he
      rw [← this]
      exact hb
    obtain ⟨p, hpl, hp⟩ := list_of len key
    refine ⟨some a, p, cap, by rw [hpl], by omega, hcm, ?_, ?_⟩
    · rcases Nat.eq_zero_or_pos len with h | h
      · exact Or.inl (List.eq_nil_of_length_eq_zero (hpl.trans h))
      · obtain ⟨⟨b, o, rfl, hb, _⟩, _, _⟩ := hp 0 (p[0]'(by rw [hpl]; exact h)) (List.getElem?_eq_getElem (by rw [hpl]; exact h))
        refine Or.inr ⟨b, o, rfl, hb, fun i y hy => ?_⟩
        obtain ⟨⟨b', o', e, _, hh⟩, hin, _⟩ := hp i y hy
        simp at e
        obtain ⟨rfl, rfl⟩ := e
        exact ⟨hh, hin⟩
    · have hs := sum_le g p (elems.map (·.1)) (fun i y e hy he => (hp i y hy).2.2 e he) (by simp; omega)
      simp only [Rows.uptoBulk]
      omega
theorem term_of {H : Type} (enc : TypeId × Value → H) (w : World) (sp : Nat → Bool) (n m : Nat) (hm : m ≤ n) (cs : List Value) (x : DataW H × List MemPlace) (h : DataW.trod enc Try.prog w 0 sp true m 24 cs = some x) : ∃ t : Tm (n + 1), cs = tm4 (n + 1) t ∧ In w.heap.size w (n + 1) t ∧ wt (n + 1) t ≤ Rows.uptoBulk x.1 := by
  obtain ⟨t, h1, h2, h3⟩ := tree_of enc w sp n m (by omega) cs x h
  exact ⟨t, h1, h2, h3⟩

set_option maxRecDepth 100000 in
set_option maxHeartbeats 1000000 in
theorem act_of {H : Type} (enc : TypeId × Value → H) (w : World) (sp : Nat → Bool) (n m : Nat) (hm : m ≤ n) (cs : List Value) (x : DataW H × List MemPlace) (h : DataW.trod enc Try.prog w 0 sp true m 137 cs = some x) : ∃ a : Ac (n + 1), cs = ac11 (n + 1) a ∧ AcIn (n + 1) w.heap.size w a ∧ wtA (n + 1) a ≤ Rows.uptoBulk x.1 := by
  obtain ⟨xs, m, rfl, rfl, hl, hx, hg⟩ := DataW.trod_struct Try.underlying137 h
  have h0 : DataW.trod enc Try.prog w 0 sp true m 3 ((cs.drop 0).take (Try.prog.cellsOf 3)) = xs[0]? := hg 0 _ rfl
  have h1 : DataW.trod enc Try.prog w 0 sp true m 24 ((cs.drop 1).take (Try.prog.cellsOf 24)) = xs[1]? := hg 1 _ rfl
  have h2 : DataW.trod enc Try.prog w 0 sp true m 24 ((cs.drop 5).take (Try.prog.cellsOf 24)) = xs[2]? := hg 2 _ rfl
  have h3 : DataW.trod enc Try.prog w 0 sp true m 9 ((cs.drop 9).take (Try.prog.cellsOf 9)) = xs[3]? := hg 3 _ rfl
  have h4 : DataW.trod enc Try.prog w 0 sp true m 3 ((cs.drop 10).take (Try.prog.cellsOf 3)) = xs[4]? := hg 4 _ rfl
  rw [cellsInt] at h0 h4
  rw [cellsTerm] at h1 h2
  rw [cellsString] at h3
  rw [cellsAct] at hl
  obtain ⟨c0, c1, c2, c3, c4, c5, c6, c7, c8, c9, c10, rfl⟩ : ∃ c0 c1 c2 c3 c4 c5 c6 c7 c8 c9 c10, cs = [c0, c1, c2, c3, c4, c5, c6, c7, c8, c9, c10] := by
    match cs, hl with
    | [c0, c1, c2, c3, c4, c5, c6, c7, c8, c9, c10], _ => exact ⟨c0, c1, c2, c3, c4, c5, c6, c7, c8, c9, c10, rfl⟩
  obtain ⟨y0, y1, y2, y3, y4, rfl⟩ : ∃ y0 y1 y2 y3 y4, xs = [y0, y1, y2, y3, y4] := by
    match xs, hx with
    | [y0, y1, y2, y3, y4], _ => exact ⟨y0, y1, y2, y3, y4, rfl⟩
  obtain ⟨k, e0, z0, w0⟩ := DataW.trod_int Try.underlying3 (x := y0) (by simpa using h0)
  obtain ⟨v, e4, z4, w4⟩ := DataW.trod_int Try.underlying3 (x := y4) (by simpa using h4)
  obtain ⟨s, e3, z3, w3⟩ := DataW.trod_string Try.underlying9 (x := y3) (by simpa using h3)
  obtain ⟨t, e1, i1, b1⟩ := term_of enc w sp n m (by omega) [c1, c2, c3, c4] y1 (by simpa using h1)
  obtain ⟨u, e2, i2, b2⟩ := term_of enc w sp n m (by omega) [c5, c6, c7, c8] y2 (by simpa using h2)
  simp at e0 e3 e4
  subst e0 e3 e4 z0 z3 z4
  refine ⟨(k, (t, u), (s, v)), ?_, ⟨wf64 w0, i1, i2, w3, wf64 w4⟩, ?_⟩
  · show _ = .int .i64 k :: (tm4 (n + 1) t ++ tm4 (n + 1) u ++ [.string s, .int .i64 v])
    rw [← e1, ← e2]
    rfl
  · have es : s.data.toList.length = s.size := by rw [Array.length_toList]; rfl
    simp only [wtA, Rows.uptoBulk, Rows.uptoBulkAll, List.map_cons, List.map_nil]
    omega

set_option maxRecDepth 100000 in
set_option maxHeartbeats 1000000 in
theorem clause_of {H : Type} (enc : TypeId × Value → H) (w : World) (sp : Nat → Bool) (n m : Nat) (hm : m ≤ n) (cs : List Value) (x : DataW H × List MemPlace) (h : DataW.trod enc Try.prog w 0 sp true m 135 cs = some x) : ∃ a : Cl (n + 1), cs = cl13 (n + 1) a ∧ ClIn (n + 1) w.heap.size w a ∧ wtC (n + 1) a ≤ Rows.uptoBulk x.1 := by
  obtain ⟨xs, m, rfl, rfl, hl, hx, hg⟩ := DataW.trod_struct Try.underlying135 h
  have h0 : DataW.trod enc Try.prog w 0 sp true m 24 ((cs.drop 0).take (Try.prog.cellsOf 24)) = xs[0]? := hg 0 _ rfl
  have h1 : DataW.trod enc Try.prog w 0 sp true m 24 ((cs.drop 4).take (Try.prog.cellsOf 24)) = xs[1]? := hg 1 _ rfl
  have h2 : DataW.trod enc Try.prog w 0 sp true m 133 ((cs.drop 8).take (Try.prog.cellsOf 133)) = xs[2]? := hg 2 _ rfl
  have h3 : DataW.trod enc Try.prog w 0 sp true m 24 ((cs.drop 9).take (Try.prog.cellsOf 24)) = xs[3]? := hg 3 _ rfl
  rw [cellsTerm] at h0 h1 h3
  rw [cellsActs] at h2
  rw [cellsClause] at hl
  obtain ⟨c0, c1, c2, c3, c4, c5, c6, c7, c8, c9, c10, c11, c12, rfl⟩ : ∃ c0 c1 c2 c3 c4 c5 c6 c7 c8 c9 c10 c11 c12, cs = [c0, c1, c2, c3, c4, c5, c6, c7, c8, c9, c10, c11, c12] := by
    match cs, hl with
    | [c0, c1, c2, c3, c4, c5, c6, c7, c8, c9, c10, c11, c12], _ => exact ⟨c0, c1, c2, c3, c4, c5, c6, c7, c8, c9, c10, c11, c12, rfl⟩
  obtain ⟨y0, y1, y2, y3, rfl⟩ : ∃ y0 y1 y2 y3, xs = [y0, y1, y2, y3] := by
    match xs, hx with
    | [y0, y1, y2, y3], _ => exact ⟨y0, y1, y2, y3, rfl⟩
  obtain ⟨t, e0, i0, b0⟩ := term_of enc w sp n m (by omega) [c0, c1, c2, c3] y0 (by simpa using h0)
  obtain ⟨u, e1, i1, b1⟩ := term_of enc w sp n m (by omega) [c4, c5, c6, c7] y1 (by simpa using h1)
  obtain ⟨v, e3, i3, b3⟩ := term_of enc w sp n m (by omega) [c9, c10, c11, c12] y3 (by simpa using h3)
  obtain ⟨a, l, c, e2, hlc, hcm, hly, hb⟩ := row_of enc w sp 11 (ac11 (n + 1)) (AcIn (n + 1) w.heap.size w) (wtA (n + 1)) 137 133 Try.underlying133 cellsAct (by omega) (fun _ => rfl) n (fun m cs x hm h => act_of enc w sp n m hm cs x h) m (by omega) c8 y2 (by simpa using h2)
  subst e2
  refine ⟨((t, u, v), (a, c), l), ?_, ⟨⟨i0, i1, i3⟩, ⟨hlc, hcm⟩, hly⟩, ?_⟩
  · show _ = tm4 (n + 1) t ++ tm4 (n + 1) u ++ (.slice a l.length c :: tm4 (n + 1) v)
    rw [← e0, ← e1, ← e3]
    rfl
  · simp only [wtC, Rows.uptoBulk, Rows.uptoBulkAll, List.map_cons, List.map_nil]
    omega

set_option maxRecDepth 100000 in
set_option maxHeartbeats 1000000 in
theorem beh_of {H : Type} (enc : TypeId × Value → H) (w : World) (sp : Nat → Bool) (n m : Nat) (hm : m ≤ n) (cs : List Value) (x : DataW H × List MemPlace) (h : DataW.trod enc Try.prog w 0 sp true m 127 cs = some x) : ∃ a : Bh (n + 1), cs = bh2 (n + 1) a ∧ BhIn (n + 1) w.heap.size w a ∧ wtB (n + 1) a ≤ Rows.uptoBulk x.1 := by
  obtain ⟨xs, m, rfl, rfl, hl, hx, hg⟩ := DataW.trod_struct Try.underlying127 h
  have h0 : DataW.trod enc Try.prog w 0 sp true m 9 ((cs.drop 0).take (Try.prog.cellsOf 9)) = xs[0]? := hg 0 _ rfl
  have h1 : DataW.trod enc Try.prog w 0 sp true m 125 ((cs.drop 1).take (Try.prog.cellsOf 125)) = xs[1]? := hg 1 _ rfl
  rw [cellsString] at h0
  rw [cellsClauses] at h1
  rw [cellsBeh] at hl
  obtain ⟨c0, c1, rfl⟩ : ∃ c0 c1, cs = [c0, c1] := by
    match cs, hl with
    | [c0, c1], _ => exact ⟨c0, c1, rfl⟩
  obtain ⟨y0, y1, rfl⟩ : ∃ y0 y1, xs = [y0, y1] := by
    match xs, hx with
    | [y0, y1], _ => exact ⟨y0, y1, rfl⟩
  obtain ⟨s, e0, z0, w0⟩ := DataW.trod_string Try.underlying9 (x := y0) (by simpa using h0)
  obtain ⟨a, l, c, e1, hlc, hcm, hly, hb⟩ := row_of enc w sp 13 (cl13 (n + 1)) (ClIn (n + 1) w.heap.size w) (wtC (n + 1)) 135 125 Try.underlying125 cellsClause (by omega) (fun _ => rfl) n (fun m cs x hm h => clause_of enc w sp n m hm cs x h) m (by omega) c1 y1 (by simpa using h1)
  simp at e0
  subst e0 z0 e1
  refine ⟨(s, (a, c), l), rfl, ⟨w0, ⟨hlc, hcm⟩, hly⟩, ?_⟩
  have es : s.data.toList.length = s.size := by rw [Array.length_toList]; rfl
  simp only [wtB, Rows.uptoBulk, Rows.uptoBulkAll, List.map_cons, List.map_nil]
  omega

set_option maxRecDepth 100000 in
theorem open_prog {H : Type} {enc : TypeId × Value → H} {W : World} {r : Reach} {b0 : Nat} {v : Value} {d : DataW H} {p : List MemPlace} (hv : Value.okWide Try.prog W r b0 75 v)
    (h : DataW.Trod enc Try.prog W 0 (fun _ => true) true 75 v d p) : ∃ n, ∃ l : List (Bh (n + 1)), ∃ a c, v = .slice a l.length c ∧ l.length ≤ c ∧ c ≤ maxLen ∧ PgIn (n + 1) W.heap.size W a l ∧ (l.map (wtB (n + 1))).sum ≤ Rows.uptoBulk d := by
  obtain ⟨a, len, cap, rfl⟩ := okWide_slice Try.underlying75 hv
  obtain ⟨f, hf⟩ := h
  have hf' : DataW.trod enc Try.prog W 0 (fun _ => true) true f 75 [.slice a len cap] = some (d, p) := hf
  obtain ⟨a', l, c, e, h1, h2, h3, h4⟩ := row_of enc W (fun _ => true) 2 (bh2 (f + 1)) (BhIn (f + 1) W.heap.size W) (wtB (f + 1)) 127 75 Try.underlying75 cellsBeh (by omega) (fun _ => rfl) f (fun m cs x hm h => beh_of enc W _ f m hm cs x h) f (Nat.le_refl _) _ _ hf'
  exact ⟨f, l, a', c, e, h1, h2, h3, by simp only at h4; omega⟩
end Go.Proofs.Ytpehdgbdinjbaaa
namespace Go.Proofs.Ytpehdgbdinjbaaa

theorem wt_lift : (N n : Nat) → n ≤ N → (x : Tm n) → wt N (lift N n x) = wt n x
  | 0, 0, _, _ => rfl
  | N + 1, 0, _, _ => by simp [lift, wt]
  | N + 1, n + 1, h, x => by
    simp only [lift, wt, List.map_map]
    congr 2
    refine List.map_congr_left fun y _ => ?_
    exact wt_lift N n (by omega) y
theorem wt_pos : (n : Nat) → (x : Tm n) → 1 ≤ wt n x
  | 0, _ => by simp [wt]
  | n + 1, x => by simp only [wt]; omega
theorem sum_more {α : Type} (f g : α → Nat) (c : Nat) : (l : List α) → (∀ y ∈ l, f y ≤ g y + c) → (l.map f).sum ≤ (l.map g).sum + l.length * c
  | [], _ => by simp
  | y :: l, h => by
    have h1 := h y (by simp)
    have h2 := sum_more f g c l fun z hz => h z (by simp [hz])
    simp only [List.map_cons, List.sum_cons, List.length_cons, Nat.add_mul, Nat.one_mul]
    omega
theorem wt_atom (s : ByteArray) (N : Nat) : wt (N + 1) (atomV s N) = 1 + s.size := by simp [wt, atomV]
theorem wt_tup (N : Nat) (l : List (Tm N)) : wt (N + 1) (tupV N l) = 1 + (l.map (wt N)).sum := by simp [wt, tupV]
theorem wt_leaf (k u : Int) (N : Nat) : wt (N + 1) (leafV k u N) = 1 := by simp [wt, leafV]
theorem wt_tellA (n : Nat) (a : Ac (n + 1)) : wt (n + 2) (tellA n a) ≤ wtA (n + 1) a + 8 := by
  have h1 := wt_pos (n + 1) a.2.1.1
  have h2 := wt_pos (n + 1) a.2.1.2
  have e1 : wSend.size = 4 := rfl
  have e2 : wSpawn.size = 5 := rfl
  have e3 : wLink.size = 4 := rfl
  have e4 : wStop.size = 4 := rfl
  unfold tellA wtA
  split
  · rw [wt_tup]; simp only [List.map_cons, List.map_nil, List.sum_cons, List.sum_nil, wt_atom]; omega
  · split
    · rw [wt_tup]; simp only [List.map_cons, List.map_nil, List.sum_cons, List.sum_nil, wt_atom, wt_leaf]; omega
    · split
      · rw [wt_tup]; simp only [List.map_cons, List.map_nil, List.sum_cons, List.sum_nil, wt_atom]; omega
      · rw [wt_tup]; simp only [List.map_cons, List.map_nil, List.sum_cons, List.sum_nil, wt_atom]; omega
theorem wt_tellC (n : Nat) (c : Cl (n + 1)) (h : clB (n + 1) c = true) : wt (n + 4) (tellC n c) ≤ wtC (n + 1) c + 68 := by
  have e1 : wOn.size = 2 := rfl
  have hl : c.2.2.length ≤ 8 := by
    simp only [clB, Bool.and_eq_true, decide_eq_true_eq] at h
    omega
  have hs := sum_more (fun a => wt (n + 2) (tellA n a)) (wtA (n + 1)) 8 c.2.2 fun a _ => wt_tellA n a
  have l1 := wt_lift (n + 3) (n + 1) (by omega) c.1.1
  have l2 := wt_lift (n + 3) (n + 1) (by omega) c.1.2.1
  have l3 := wt_lift (n + 3) (n + 1) (by omega) c.1.2.2
  unfold tellC wtC
  rw [wt_tup]
  simp only [List.map_cons, List.map_nil, List.sum_cons, List.sum_nil, wt_atom, wt_tup, List.map_map, l1, l2, l3]
  have hs' : (c.2.2.map (wt (n + 2) ∘ tellA n)).sum ≤ (c.2.2.map (wtA (n + 1))).sum + c.2.2.length * 8 := hs
  omega
theorem wt_tellB (n : Nat) (b : Bh (n + 1)) (h : bhB (n + 1) b = true) : wt (n + 5) (tellB n b) ≤ wtB (n + 1) b + 413 := by
  have e1 : wBeh.size = 3 := rfl
  simp only [bhB, Bool.and_eq_true, decide_eq_true_eq, List.all_eq_true] at h
  have hs : (b.2.2.map (wt (n + 4) ∘ tellC n)).sum ≤ (b.2.2.map (wtC (n + 1))).sum + b.2.2.length * 68 := sum_more (fun a => wt (n + 4) (tellC n a)) (wtC (n + 1)) 68 b.2.2 fun a ha => wt_tellC n a (h.2 a ha)
  have hl : b.2.2.length ≤ 6 := by omega
  unfold tellB wtB
  rw [wt_tup]
  simp only [List.map_cons, List.sum_cons, wt_atom, List.map_map]
  omega
/-- Told as a term, a program in form is hardly larger. -/
theorem wt_tellP (n : Nat) (p : List (Bh (n + 1))) (h : pgB (n + 1) p = true) : wt (n + 6) (tellP n p) ≤ (p.map (wtB (n + 1))).sum + 2897 := by
  have e1 : wCode.size = 4 := rfl
  simp only [pgB, Bool.and_eq_true, decide_eq_true_eq, List.all_eq_true] at h
  have hs : (p.map (wt (n + 5) ∘ tellB n)).sum ≤ (p.map (wtB (n + 1))).sum + p.length * 413 := sum_more (fun a => wt (n + 5) (tellB n a)) (wtB (n + 1)) 413 p fun a ha => wt_tellB n a (h.2 a ha)
  have hl : p.length ≤ 7 := by omega
  unfold tellP
  rw [wt_tup]
  simp only [List.map_cons, List.sum_cons, wt_atom, List.map_map]
  omega
theorem nodes_tellP (n : Nat) (p : List (Bh (n + 1))) (h : pgB (n + 1) p = true) (hb : (p.map (wtB (n + 1))).sum ≤ 1048576) : (nodes (n + 6) (tellP n p)).length ≤ 2097152 := by
  have h1 := nodes_wt (n + 6) (tellP n p)
  have h2 := wt_tellP n p h
  omega
end Go.Proofs.Ytpehdgbdinjbaaa
