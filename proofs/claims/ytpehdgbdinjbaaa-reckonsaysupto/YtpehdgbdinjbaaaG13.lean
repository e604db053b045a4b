/- What is proved here: plain facts and contracts that the claimed theorem stands on, several texts in one: the document's Value of right things that lie in memory: what it returns. No condition but that. the document's Value of right things that lie in memory: what it returns. No condition but that. clerklaw.ReckonSays of a term, a list of terms that lie in memory, and a number returns true, and turns no memory that was there. Condition: at most 2097152 terms in each. a plain fact: a term has at most as many terms in it as it holds terms and letters. No condition. whatever reads as a term is a tree that lies in memory, no larger than the reading's bulk; and a row over terms follows from what the call does. No condition. whatever reads as a list of terms is a list of trees that lies in memory, no larger than the reading's bulk. No condition. -/
import Derived.Test.YtpehdgbdinjbaaaG12
import Derived.Test.YtpehdgbdinjbaaaG01
import Derived.ProofKit
import Derived.OpenShut
import Derived.JoinedCond
import Derived.Test.YtpehdgbdinjbaaaG06
namespace Go.Proofs.Ytpehdgbdinjbaaa
open Go.RowKit

theorem right_num {N : Nat} {z : Tm N} (h : RightA ⟨N, z⟩) : -1099511627776 ≤ numA N z ∧ numA N z ≤ 1099511627776 := by
  cases N with
  | zero => exact (zero_bad h).elim
  | succ N =>
    have hg := h (hdOf N z) (by simp [nodes, hdOf])
    have hk := good_kind (hdOf N z) hg
    simp only [numA, hdT]
    unfold good at hg
    rcases hk with k | k | k | k | k | ⟨k, k0⟩
    all_goals (rw [k] at hg; simp [inB] at hg; omega)
/-- Of a sum, the first part is an atom, and has a value. -/
theorem add_all (m : Nat) (b : List (Tm m)) (self : Int) (n : Nat) (p : List (Tm n)) (hr : ∀ y ∈ p, RightA ⟨n, y⟩) (h : isW n p wAdd 2 = true) : ∃ (x0 x1 x2 : Tm n) (z0 : Tm (m + n)), p = [x0, x1, x2] ∧ vl m b self n x0 = some z0 := by
  have hl := isW_len2 h
  obtain ⟨x0, x1, x2, rfl⟩ : ∃ x0 x1 x2, p = [x0, x1, x2] := by
    match p, hl with
    | [x0, x1, x2], _ => exact ⟨x0, x1, x2, rfl⟩
  have h0 := hr x0 (by simp)
  cases n with
  | zero => exact (zero_bad h0).elim
  | succ n =>
    rw [isW_at hl rfl] at h
    have hk : x0.1.1 = 2 := by simp at h; exact h.1
    exact ⟨x0, x1, x2, _, rfl, vl_leaf m b self n x0 (by omega) (by omega) (by omega)⟩
theorem tup_else (m : Nat) (b : List (Tm m)) (self : Int) (n : Nat) (p : List (Tm n)) (hr : ∀ y ∈ p, RightA ⟨n, y⟩) (h1 : isW n p wSelf 0 = false) (h2 : isW n p wPut 1 = false) :
    tupO m n self (fun y => vl m b self n y) p = elseO (m + n) (isW n p wAdd 2) (allV (fun y => vl m b self n y) p) := by
  cases h3 : isW n p wAdd 2
  · simp only [tupO, h1, h2, h3, elseO]
    cases allV (fun y => vl m b self n y) p <;> rfl
  · obtain ⟨x0, x1, x2, z0, rfl, hz⟩ := add_all m b self n p hr h3
    simp only [tupO, h1, h3, elseO, allV, hz]
    cases h4 : vl m b self n x1 with
    | none => simp [h4]
    | some z1 =>
      cases h5 : vl m b self n x2 with
      | none => simp [h5]
      | some z2 => simp [addO, h4, h5]

theorem dvalue_any (m : Nat) (b : List (Tm m)) (self : Int) (hbd : bndB m b = true) (hs : 1 ≤ self ∧ self ≤ 99) (n : Nat) : FDv m b self n := by
  induction n with
  | zero => intro x a c B w hx; exact hx.elim
  | succ n ih =>
    intro x a c B w hx hr hN hb hB
    obtain ⟨h4b, hbk⟩ := bnd_ok hbd
    have hbr : ∀ y ∈ b, RightA ⟨m, y⟩ := fun y hy => (hbk y hy).2.1
    have hg := hr (hdOf n x) (by simp [nodes, hdOf])
    have hlen : x.2.2.length ≤ 8 := good_len (hdOf n x) hg
    have hold : ∀ (M : Nat) (y : Tm (M + 1)) (r : Bool) (o : Option (Tm (m + n + 1))) (w' : World), M + 1 ≤ m + n + 1 → In B w (M + 1) y → RightA ⟨M + 1, y⟩ → Below w.heap.size w w' → o = (if r then some (lift (m + n + 1) (M + 1) y) else none) → DvOut B (m + n + 1) o w (.returned (.tuple #[.agg #[.int .i64 y.1.1, .int .i64 y.1.2.1, .string y.1.2.2, .slice y.2.1.1 y.2.2.length y.2.1.2], .bool r])) w' := by
      intro M y r o w' hM hin hry hbl ho
      have h1 := lift_in (m + n + 1) (M + 1) hM _ _ _ hin
      refine ⟨lift (m + n + 1) (M + 1) y, r, by rw [lift_val]; rfl, hbl, (h1.below (hbl.mono hB)).mono (Nat.le_trans hB hbl.size), h1.offLow.mono fun q hq => Or.inl hq, by rw [ho]; cases r <;> rfl, fun z hz => ?_⟩
      rw [ho] at hz
      cases r with
      | false => cases hz
      | true =>
        obtain rfl := Option.some.inj hz
        exact same_refl _ _ (lift_right hM y hry)
    by_cases h6 : x.1.1 = 6
    · have hh := dv_any self x.1.2.1 x.1.2.2 x.2.1.1 x.2.2.length x.2.1.2 a c w
      rw [← h6] at hh
      refine hh.mono ?_
      rintro e w' ⟨rfl, hbl⟩
      exact hold n x false _ w' (by omega) hx hr hbl (vl_any m b self n x h6)
    · by_cases h5 : x.1.1 = 5
      · have hn : 0 ≤ x.1.2.1 ∧ x.1.2.1 ≤ 3 := by
          have h51 : ¬ (5 : Int) = 1 := by decide
          have h52 : ¬ (5 : Int) = 2 := by decide
          have h53 : ¬ (5 : Int) = 3 := by decide
          have h54 : ¬ (5 : Int) = 4 := by decide
          simp only [good, hdOf, h5, inB, Bool.and_eq_true, if_true, h51, h52, h53, h54, if_false] at hg
          exact ⟨of_decide_eq_true hg.1.2.1, of_decide_eq_true hg.1.2.2⟩
        obtain ⟨k, hk⟩ : ∃ k : Nat, x.1.2.1 = (k : Int) := ⟨x.1.2.1.toNat, by omega⟩
        obtain ⟨y, hy⟩ : ∃ y, b[k]? = some y := ⟨b[k]'(by omega), List.getElem?_eq_getElem _⟩
        have hry := (hbk y (List.mem_of_getElem? hy)).2.1
        have eo := vl_var m b self n x y k h5 hk hy
        rcases hb with hb | ⟨bb, bo, rfl, hbb, hb⟩
        · rw [hb] at h4b; simp at h4b
        · obtain ⟨hy1, hy2⟩ := hb k y hy
          cases m with
          | zero => exact (zero_bad hry).elim
          | succ m =>
          have hh := dv_var self x.1.2.1 x.1.2.2 x.2.1.1 x.2.2.length x.2.1.2 bb bo k c w y.1.1 y.1.2.1 y.1.2.2 y.2.1.1 y.2.2.length y.2.1.2 hk (by omega) (by omega) hy1
          rw [← h5] at hh
          refine hh.mono ?_
          rintro e w' ⟨rfl, hbl⟩
          refine hold m y (y.1.1 != 6) _ w' (by omega) hy2 hry hbl ?_
          rw [eo]
          by_cases h : y.1.1 = 6
          · simp [kindA, h]
          · simp [kindA, h]
      · by_cases h4 : x.1.1 = 4
        · have hp : Lies B w n x.2.2 x.2.1.1 := hx.2
          have hrp : ∀ y ∈ x.2.2, RightA ⟨n, y⟩ := fun y hy => parts_right n x y hr hy
          have hNp : ∀ y ∈ x.2.2, (nodes n y).length ≤ 2097152 := fun y hy => by
            have := mem_flat_le (fun y => nodes n y) x.2.2 y hy
            simp only [nodes, List.length_cons] at this hN
            omega
          have hi := fun s k (hk : k ≤ 8) w1 (h1 : Below w.heap.size w w1) => is_any n x.2.2 x.1.2.1 x.1.2.2 x.2.1.1 x.2.1.2 B s k w1 (hp.below (h1.mono hB)) (Nat.le_trans hB h1.size) hlen hk
          have hi1 := hi wSelf 0 (by omega)
          have hi2 := hi wPut 1 (by omega)
          have hi3 := hi wAdd 2 (by omega)
          have ev : val (n + 1) x = .agg #[.int .i64 4, .int .i64 x.1.2.1, .string x.1.2.2, .slice x.2.1.1 x.2.2.length x.2.1.2] := by rw [← h4]; rfl
          rw [ev, vl_tup m b self n x h4]
          cases e1 : isW n x.2.2 wSelf 0
          · rw [e1] at hi1
            cases e2 : isW n x.2.2 wPut 1
            · rw [e2] at hi2
              rw [tup_else m b self n x.2.2 hrp e1 e2]
              refine dv_else m b self n ih x.2.2 x.1.2.1 x.1.2.2 x.2.1.1 x.2.2.length x.2.1.2 rfl hlen a c B (isW n x.2.2 wAdd 2) w (fun h => by have := isW_len2 h; omega) ?_ ?_ hp hrp hNp hb hB hi1 hi2 hi3
              · intro l hl i z hz
                obtain ⟨k1, k2⟩ := allV_len _ _ _ hl
                have hi : i < x.2.2.length := by rw [← k1]; exact (List.getElem?_eq_some_iff.1 hz).1
                exact right_num (vl_right m b self hs hbr n x.2.2[i] (hrp _ (List.getElem_mem _)) z (k2 i _ z (List.getElem?_eq_getElem hi) hz))
              · show In B w (n + 1) ((4, x.1.2.1, x.1.2.2), (x.2.1.1, x.2.1.2), x.2.2)
                rw [← h4]
                exact hx
            · rw [e2] at hi2
              have hl := isW_len2 e2
              have hp' := hp
              rcases hp with hp | ⟨pb, po, hpa, hpb, hp⟩
              · rw [hp] at hl; simp at hl
              · obtain ⟨y, hy⟩ : ∃ y, x.2.2[1]? = some y := ⟨x.2.2[1]'(by omega), List.getElem?_eq_getElem _⟩
                obtain ⟨hy1, hy2⟩ := hp 1 y hy
                have hry := hrp y (List.mem_of_getElem? hy)
                have e3 : isW n x.2.2 wAdd 2 = false := isW_len (by omega)
                have eo : tupO m n self (fun y => vl m b self n y) x.2.2 = if closedT n y = true then some (lift (m + n + 1) n y) else none := by simp [tupO, e1, e2, e3, hy]
                rw [eo]
                cases n with
                | zero => exact hy1.elim
                | succ n =>
                rw [show x.2.2.length = 2 by omega, hpa] at hi1 hi2 ⊢
                have hh := dv_put self x.1.2.1 x.1.2.2 pb po x.2.1.2 a c w y.1.1 y.1.2.1 y.1.2.2 y.2.1.1 y.2.2.length y.2.1.2 (closedT (n + 1) y) (by omega) (by simpa [Held] using hy1) hi1 hi2 (fun w1 h1 => by
                  rw [closed_eq]
                  exact rclosed_any (n + 1) y B w1 (hy2.below (h1.mono hB)) (Nat.le_trans hB h1.size) (hNp y (List.mem_of_getElem? hy)))
                refine hh.mono ?_
                rintro e w' ⟨rfl, hbl⟩
                exact hold n y (closedT (n + 1) y) _ w' (by omega) hy2 hry hbl rfl
          · rw [e1] at hi1
            refine (dv_self self x.1.2.1 x.1.2.2 x.2.1.1 x.2.2.length x.2.1.2 a c w hi1).mono ?_
            rintro e w' ⟨rfl, hbl⟩
            have eo : tupO m n self (fun y => vl m b self n y) x.2.2 = some (leafV 3 self (m + n)) := by simp [tupO, e1]
            rw [eo]
            exact ⟨leafV 3 self (m + n), true, rfl, hbl, (leaf_out (m + n) 3 self (by simp [I64]) ⟨by omega, by omega⟩ _ _ (fun _ => True)).1, (leaf_out (m + n) 3 self (by simp [I64]) ⟨by omega, by omega⟩ 0 w _).2, rfl, fun z hz => by obtain rfl := Option.some.inj hz; exact leaf_same (m + n) 3 self⟩
        · have hh := dv_leaf self x.1.1 x.1.2.1 x.1.2.2 x.2.1.1 x.2.2.length x.2.1.2 a c w h4 h5 h6
          refine hh.mono ?_
          rintro e w' ⟨rfl, hbl⟩
          exact hold n x true _ w' (by omega) hx hr hbl (vl_leaf m b self n x h4 h5 h6)
end Go.Proofs.Ytpehdgbdinjbaaa
namespace Go.Proofs.Ytpehdgbdinjbaaa
open Go.RowKit

/-- What the document's Value leaves. -/
def DvvOut (B N : Nat) (o : Option (Tm (N + 1))) (w : World) (e : Ending) (w' : World) : Prop :=
  ∃ (y : Tm (N + 1)) (r : Bool), e = .returned (.tuple #[val (N + 1) y, .bool r]) ∧ Hid (Below w.heap.size w w' ∧ In w'.heap.size w' (N + 1) y ∧ Off (fun q => q < B ∨ w.heap.size ≤ q) (N + 1) y ∧ r = (rvO 0 o).isSome ∧ same (N + 1) y (N + 1) ((rvO 0 o).getD (zeroV N)) = true)
theorem dvv_none {B N : Nat} {o : Option (Tm (N + 1))} {w w' : World} (hb : Below w.heap.size w w') (h : rvO 0 o = none) : DvvOut B N o w (.returned (.tuple #[.agg #[.int .i64 0, .int .i64 0, .string .empty, .slice none 0 0], .bool false])) w' :=
  ⟨zeroV N, false, rfl, hb, (leaf_out N 0 0 i64_zero i64_zero _ _ (fun _ => True)).1, (leaf_out N 0 0 i64_zero i64_zero 0 w _).2, by rw [h]; rfl, by rw [h]; exact leaf_same N 0 0⟩
theorem dvv_some {B N : Nat} {o : Option (Tm (N + 1))} {z : Tm (N + 1)} {w w1 w2 w3 : World} {y : Tm (N + 1)} {q : Nat} (hB : B ≤ w.heap.size) (ho : o = some z) (hc : chk (N + 1) z = 0) (hb : Below w.heap.size w w1) (hq : w.heap.size ≤ q) (hq1 : q < w1.heap.size)
    (k1 : Below w1.heap.size w1 w2) (k2 : In w2.heap.size w2 (N + 1) y) (k3 : Off (fun q => q < B ∨ w1.heap.size ≤ q) (N + 1) y) (k4 : same (N + 1) y (N + 1) z = true) (hb3 : Below w2.heap.size w2 w3) (v0 v1 v2 v3 : Value) :
    DvvOut B N o w (.returned (.tuple #[.agg #[.int .i64 y.1.1, .int .i64 y.1.2.1, .string y.1.2.2, .slice y.2.1.1 y.2.2.length y.2.1.2], .bool true])) (put4 w3 q 0 v0 v1 v2 v3) := by
  have hs := hb.size
  have hbb := (hb.trans (k1.mono hs)).trans (hb3.mono (Nat.le_trans hs k1.size))
  have er : rvO 0 o = some z := by simp [rvO, ho, hc]
  refine ⟨y, true, rfl, put_below hbb hq _ _ _ _, ?_, k3.mono fun b hh => by omega, by rw [er]; rfl, by rw [er]; exact k4⟩
  rw [put4_size]
  exact In.off (P := fun b => b < B ∨ w1.heap.size ≤ b) (fun b hh => put4_block (by omega) _ _ _ _) k3 ((k2.below hb3).mono hb3.size)

set_option maxHeartbeats 1000000 in
set_option maxRecDepth 100000 in
theorem dvv_walk (B N : Nat) (o : Option (Tm (N + 1))) (a : Option Addr) (c : Nat) (self : Int) (x0 x1 : Int) (x2 : ByteArray) (xa : Option Addr) (xl xc : Nat) (w : World) (hB : B ≤ w.heap.size)
    (HV : Hid (∀ w1, Below w.heap.size w w1 → Calls Try.prog 70 #[.agg #[.int .i64 x0, .int .i64 x1, .string x2, .slice xa xl xc], .slice a 4 c, .int .i64 self] w1 (DvOut B (N + 1) o w1)))
    (HZ : Hid (∀ (y z : Tm (N + 1)) (w1 : World), o = some z → same (N + 1) y (N + 1) z = true → In w1.heap.size w1 (N + 1) y → Calls Try.prog 10 #[.agg #[.int .i64 y.1.1, .int .i64 y.1.2.1, .string y.1.2.2, .slice y.2.1.1 y.2.2.length y.2.1.2]] w1 fun e w' => e = .returned (.int .i64 (chk (N + 1) z)) ∧ Below w1.heap.size w1 w')) :
    Calls Try.prog 34 #[.agg #[.int .i64 x0, .int .i64 x1, .string x2, .slice xa xl xc], .slice a 4 c, .int .i64 self] w (DvvOut B N o w) := by
  go_enter Try.func34, Try.ntmps34
  go_wp2_with fail
  refine (HV.out _ (two4_is w _ _ _ _ _ _).1).mono ?_
  rintro e w3 ⟨y, r, rfl, H⟩
  have HB3 : Hid (Below w.heap.size w w3) := (two4_is w _ _ _ _ _ _).1.trans (H.out.1.mono (two4_is w _ _ _ _ _ _).1.size)
  have HBX3 := hide ((two4_is w _ _ _ _ _ _).2.below H.out.1)
  have e3 : val (N + 1) y = .agg #[.int .i64 y.1.1, .int .i64 y.1.2.1, .string y.1.2.2, .slice y.2.1.1 y.2.2.length y.2.1.2] := rfl
  rw [e3]
  clear HV e3
  cases r
  · have HN : Hid (o = none) := by
      have := H.out.2.2.2.1
      cases o with
      | none => rfl
      | some z => cases this
    obtain ⟨⟨z0, z1, z2, z3⟩, ⟨f0, f1, f2, f3⟩, hzq⟩ := HBX3.out
    clear H HZ
    go_wp2_with fail
    exact bodyPost_ret (v := .tuple #[.agg #[.int .i64 0, .int .i64 0, .string .empty, .slice none 0 0], .bool false]) (by simp [results, Try.results34, go_sem, z0, z1, z2, z3, hzq]; rfl) rfl (dvv_none ((put_below HB3.out (by omega) _ _ _ _).alloc (by rw [put4_size]; omega) _) (by simp [rvO, HN.out]))
  · obtain ⟨z, hz⟩ : ∃ z, o = some z := by
      have := H.out.2.2.2.1
      cases o with
      | none => cases this
      | some z => exact ⟨z, rfl⟩
    have HOZ := hide hz
    have HS := hide (H.out.2.2.2.2 z hz)
    have HKZ : Hid (∀ w1, Below w3.heap.size w3 w1 → Calls Try.prog 10 #[.agg #[.int .i64 y.1.1, .int .i64 y.1.2.1, .string y.1.2.2, .slice y.2.1.1 y.2.2.length y.2.1.2]] w1 fun e w' => e = .returned (.int .i64 (chk (N + 1) z)) ∧ Below w1.heap.size w1 w') :=
      fun w1 h1 => HZ.out y z w1 HOZ.out HS.out ((H.out.2.1.below h1).mono h1.size)
    obtain ⟨cz, hcz⟩ : ∃ cz, cz = chk (N + 1) z := ⟨_, rfl⟩
    rw [← hcz] at HKZ
    have HCZ := hide hcz
    have HQ := fun (w4 : World) (h4 : Below w3.heap.size w3 w4) (h0 : cz = 0) v0 v1 v2 v3 => hide (dvv_some hB HOZ.out (HCZ.out.symm.trans h0) (two4_is w _ _ _ _ _ _).1 (Nat.le_add_right _ 1) (two4_is w _ _ _ _ _ _).2.2.2 H.out.1 H.out.2.1 H.out.2.2.1 HS.out h4 v0 v1 v2 v3)
    clear hz hcz HZ H
    go_wp2_with fail
    refine (HKZ.out _ ((Below.refl _ _).alloc (Nat.le_refl _) _)).mono ?_
    rintro e w4 ⟨rfl, hb4⟩
    obtain ⟨⟨t0, t1, t2, t3⟩, _⟩ := boxed hb4
    have HB4 : Hid (Below w3.heap.size w3 w4) := ((Below.refl _ _).alloc (Nat.le_refl _) _).trans (hb4.mono (by simp))
    have HBX4 := hide (HBX3.out.below HB4.out)
    have HW4 : Hid (Below w.heap.size w w4) := HB3.out.trans (HB4.out.mono HB3.out.size)
    obtain ⟨⟨z0, z1, z2, z3⟩, ⟨f0, f1, f2, f3⟩, hzq⟩ := HBX4.out
    have hne1 : ¬ (w.heap.size + 1 = w3.heap.size) := by have := HBX3.out.2.2; omega
    have hne2 : ¬ (w3.heap.size = w.heap.size + 1) := fun e => hne1 e.symm
    clear hb4 HKZ HBX3
    by_cases hz0 : cz = 0
    · have hc2 : (cz != 0) = false := by simp [hz0]
      have HT := fun v0 v1 v2 v3 => HQ w4 HB4.out hz0 v0 v1 v2 v3
      clear HQ hz0
      go_wp2_with fail
      exact bodyPost_ret (v := .tuple #[.agg #[.int .i64 y.1.1, .int .i64 y.1.2.1, .string y.1.2.2, .slice y.2.1.1 y.2.2.length y.2.1.2], .bool true]) (by simp [results, Try.results34, go_sem, z0, z1, z2, z3]) rfl (HT _ _ _ _).out
    · have hc2 : (cz != 0) = true := by simpa using hz0
      have HNZ := hide hz0
      clear HQ hz0
      go_wp2_with fail
      exact bodyPost_ret (v := .tuple #[.agg #[.int .i64 0, .int .i64 0, .string .empty, .slice none 0 0], .bool false]) (by simp [results, Try.results34, go_sem, z0, z1, z2, z3]; rfl) rfl (dvv_none (put_below HW4.out (by omega) _ _ _ _) (by have h1 := HCZ.out; have h2 := HNZ.out; rw [h1] at h2; simp [rvO, HOZ.out, h2]))

theorem dvv_any (n m : Nat) (x : Tm (n + 1)) (b : List (Tm m)) (a : Option Addr) (c B : Nat) (self : Int) (w : World) (hx : In B w (n + 1) x) (hb : Lies B w m b a) (hB : B ≤ w.heap.size) (h1 : chk (n + 1) x = 0) (h2 : bndB m b = true) (h3 : 1 ≤ self ∧ self ≤ 99) :
    Calls Try.prog 34 #[val (n + 1) x, .slice a b.length c, .int .i64 self] w (DvvOut B (m + n) (vl m b self (n + 1) x) w) := by
  rw [(bnd_ok h2).1]
  refine dvv_walk B (m + n) _ a c self x.1.1 x.1.2.1 x.1.2.2 x.2.1.1 x.2.2.length x.2.1.2 w hB ?_ ?_
  · intro w1 k1
    exact dvalue_any m b self h2 h3 (n + 1) x a c B w1 (hx.below (k1.mono hB)) (right_formed.2 (chk_iff.1 h1).1) (Nat.le_trans (chk_nlen h1) (by omega)) (hb.below (k1.mono hB)) (Nat.le_trans hB k1.size)
  · intro y z w1 ho hs hin
    have hn := val_nodes h1 h2 ho
    have hk := rcheck_any (m + n + 1) y w1.heap.size w1 hin (Nat.le_refl _) (by rw [same_nlen _ _ _ _ hs]; exact hn)
    rw [same_chk hs] at hk
    exact hk
end Go.Proofs.Ytpehdgbdinjbaaa
namespace Go.Proofs.Ytpehdgbdinjbaaa
open Go.RowKit

theorem BoxT.put {q : Nat} {u0 u1 u2 u3 : Value} {w : World} (h : BoxT q u0 u1 u2 u3 w) (v0 v1 v2 v3 : Value) : BoxT q v0 v1 v2 v3 (put4 w q 0 v0 v1 v2 v3) := by
  unfold BoxT at *
  simp [put4, World.setCell, Array.getElem?_modify, h]

set_option maxHeartbeats 2000000 in
set_option maxRecDepth 100000 in
theorem rsays_walk (B N : Nat) (o : Option (Tm (N + 1))) (a : Option Addr) (ql c : Nat) (self : Int) (x0 x1 : Int) (x2 : ByteArray) (xa : Option Addr) (xl xc : Nat) (ck : Int) (bd : Bool) (w : World) (hB : B ≤ w.heap.size)
    (HK : Hid (∀ w1, Below w.heap.size w w1 → Calls Try.prog 10 #[.agg #[.int .i64 x0, .int .i64 x1, .string x2, .slice xa xl xc]] w1 fun e w' => e = .returned (.int .i64 ck) ∧ Below w1.heap.size w1 w'))
    (HA : Hid (∀ w1, Below w.heap.size w w1 → Calls Try.prog 30 #[.slice a ql c] w1 fun e w' => e = .returned (.bool bd) ∧ Below w1.heap.size w1 w'))
    (HV : Hid (rvE ck bd self = 0 → ∀ w1, Below w.heap.size w w1 → Calls Try.prog 34 #[.agg #[.int .i64 x0, .int .i64 x1, .string x2, .slice xa xl xc], .slice a ql c, .int .i64 self] w1 (DvvOut B N o w1)))
    (HM : Hid (∀ w1, Below w.heap.size w w1 → Calls Try.prog 35 #[.agg #[.int .i64 x0, .int .i64 x1, .string x2, .slice xa xl xc], .slice a ql c, .int .i64 self] w1 (RvOut N (rvE ck bd self) o w1)))
    (HS : Hid (∀ (y z t : Tm (N + 1)) (w1 : World), same (N + 1) y (N + 1) t = true → same (N + 1) z (N + 1) t = true → In w1.heap.size w1 (N + 1) y → In w1.heap.size w1 (N + 1) z → Calls Try.prog 14 #[.agg #[.int .i64 y.1.1, .int .i64 y.1.2.1, .string y.1.2.2, .slice y.2.1.1 y.2.2.length y.2.1.2], .agg #[.int .i64 z.1.1, .int .i64 z.1.2.1, .string z.1.2.2, .slice z.2.1.1 z.2.2.length z.2.1.2]] w1 fun e w' => e = .returned (.bool true) ∧ Below w1.heap.size w1 w')) :
    Calls Try.prog 7 #[.agg #[.int .i64 x0, .int .i64 x1, .string x2, .slice xa xl xc], .slice a ql c, .int .i64 self] w fun e w' => e = .returned (.bool true) ∧ Below w.heap.size w w' := by
  go_enter Try.func7, Try.ntmps7
  go_wp2_with fail
  refine (HK.out _ ((Below.refl _ _).alloc (Nat.le_refl _) _)).mono ?_
  rintro e w1 ⟨rfl, hb1⟩
  have HX1 := hide (boxed hb1).1
  have HB1 : Hid (Below w.heap.size w w1) := ((Below.refl _ _).alloc (Nat.le_refl _) _).trans (hb1.mono (by simp))
  have hlt1 : w.heap.size < w1.heap.size := by have := hb1.size; simp at this; omega
  clear hb1 HK
  by_cases hck : ck = 0
  case neg =>
    have hc1 : (ck != 0) = true := by simpa using hck
    have hc2 : (ck == 0) = false := by simpa using hck
    have HEN : Hid (rvE ck bd self = ck ∧ ck ≠ 0) := ⟨by simp [rvE, hck], hck⟩
    obtain ⟨x0', x1', x2', x3'⟩ := HX1.out
    clear hck HV HA
    have HMK := hide (HM.out _ ((HB1.out).alloc (HB1.out).size (.cells #[.int .i64 0, .int .i64 0, .string ⟨#[]⟩, .slice none 0 0] 24)))
    go_wp2_with fail
    refine HMK.out.mono ?_
    rintro e w5 ⟨y, rfl, H⟩
    obtain ⟨⟨t0, t1, t2, t3⟩, _⟩ := boxed H.out.1
    have HN : Hid (rvO (rvE ck bd self) o = none) := by rw [Hid]; simp [rvO, HEN.out.1, HEN.out.2]
    have HCD : Hid (rvC (rvE ck bd self) (rvO (rvE ck bd self) o) = ck) := by rw [Hid]; simp [rvC, HEN.out.1, HEN.out.2]
    rw [HCD.out]
    have e3 : val (N + 1) y = .agg #[.int .i64 y.1.1, .int .i64 y.1.2.1, .string y.1.2.2, .slice y.2.1.1 y.2.2.length y.2.1.2] := rfl
    rw [e3]
    have HB5 : Hid (Below w.heap.size w w5) := ((HB1.out).alloc (HB1.out).size _).trans (H.out.1.mono (Nat.le_trans (HB1.out).size (by simp)))
    have hw5 : w1.heap.size < w5.heap.size := by have := H.out.1.size; simp at this; omega
    have HSK : Hid (∀ w6, Below w5.heap.size w5 w6 → Calls Try.prog 14 #[.agg #[.int .i64 y.1.1, .int .i64 y.1.2.1, .string y.1.2.2, .slice y.2.1.1 y.2.2.length y.2.1.2], .agg #[.int .i64 0, .int .i64 0, .string ⟨#[]⟩, .slice none 0 0]] w6 fun e w' => e = .returned (.bool true) ∧ Below w6.heap.size w6 w') := by
      intro w6 h6
      have hs := H.out.2.2.2
      rw [HN.out] at hs
      exact HS.out y (zeroV N) (zeroV N) w6 hs (leaf_same N 0 0) ((H.out.2.1.below h6).mono h6.size) (leaf_out N 0 0 i64_zero i64_zero _ _ (fun _ => True)).1
    clear e3 H HMK HM HS HN HCD
    go_wp2_with fail
    refine (HSK.out _ ((Below.refl _ _).alloc (Nat.le_refl _) _)).mono ?_
    rintro e w6 ⟨rfl, hb6⟩
    have HB6 : Hid (Below w.heap.size w w6) := ((HB5.out).alloc (HB5.out).size _).trans (hb6.mono (Nat.le_trans (HB5.out).size (by simp)))
    clear hb6 HSK
    go_wp2_with fail
    go_ret
    exact ⟨rfl, HB6.out⟩
  have hc1 : (ck != 0) = false := by simp [hck]
  have hc2 : (ck == 0) = true := by simp [hck]
  go_wp2_with fail
  refine (HA.out _ HB1.out).mono ?_
  rintro e w2 ⟨rfl, hb2⟩
  have HX2 := hide (cells_nx hlt1 hb2 HX1.out)
  have HB2 : Hid (Below w.heap.size w w2) := HB1.out.trans (hb2.mono HB1.out.size)
  have hlt2 : w.heap.size < w2.heap.size := Nat.lt_of_lt_of_le hlt1 hb2.size
  obtain ⟨x0', x1', x2', x3'⟩ := HX2.out
  clear hb2 HA HB1 HX1
  cases bd
  · have HEN : Hid (rvE ck false self = 5 ∧ (5 : Int) ≠ 0) := ⟨by simp [rvE, hck], by decide⟩
    clear hck HV
    have HMK := hide (HM.out _ ((HB2.out).alloc (HB2.out).size (.cells #[.int .i64 0, .int .i64 0, .string ⟨#[]⟩, .slice none 0 0] 24)))
    go_wp2_with fail
    refine HMK.out.mono ?_
    rintro e w5 ⟨y, rfl, H⟩
    obtain ⟨⟨t0, t1, t2, t3⟩, _⟩ := boxed H.out.1
    have HN : Hid (rvO (rvE ck false self) o = none) := by rw [Hid]; simp [rvO, HEN.out.1, HEN.out.2]
    have HCD : Hid (rvC (rvE ck false self) (rvO (rvE ck false self) o) = 5) := by rw [Hid]; simp [rvC, HEN.out.1, HEN.out.2]
    rw [HCD.out]
    have e3 : val (N + 1) y = .agg #[.int .i64 y.1.1, .int .i64 y.1.2.1, .string y.1.2.2, .slice y.2.1.1 y.2.2.length y.2.1.2] := rfl
    rw [e3]
    have HB5 : Hid (Below w.heap.size w w5) := ((HB2.out).alloc (HB2.out).size _).trans (H.out.1.mono (Nat.le_trans (HB2.out).size (by simp)))
    have hw5 : w2.heap.size < w5.heap.size := by have := H.out.1.size; simp at this; omega
    have HSK : Hid (∀ w6, Below w5.heap.size w5 w6 → Calls Try.prog 14 #[.agg #[.int .i64 y.1.1, .int .i64 y.1.2.1, .string y.1.2.2, .slice y.2.1.1 y.2.2.length y.2.1.2], .agg #[.int .i64 0, .int .i64 0, .string ⟨#[]⟩, .slice none 0 0]] w6 fun e w' => e = .returned (.bool true) ∧ Below w6.heap.size w6 w') := by
      intro w6 h6
      have hs := H.out.2.2.2
      rw [HN.out] at hs
      exact HS.out y (zeroV N) (zeroV N) w6 hs (leaf_same N 0 0) ((H.out.2.1.below h6).mono h6.size) (leaf_out N 0 0 i64_zero i64_zero _ _ (fun _ => True)).1
    clear e3 H HMK HM HS HN HCD
    go_wp2_with fail
    refine (HSK.out _ ((Below.refl _ _).alloc (Nat.le_refl _) _)).mono ?_
    rintro e w6 ⟨rfl, hb6⟩
    have HB6 : Hid (Below w.heap.size w w6) := ((HB5.out).alloc (HB5.out).size _).trans (hb6.mono (Nat.le_trans (HB5.out).size (by simp)))
    clear hb6 HSK
    go_wp2_with fail
    go_ret
    exact ⟨rfl, HB6.out⟩
  · cases hI : inB self 1 99
    · have HEN : Hid (rvE ck true self = 1 ∧ (1 : Int) ≠ 0) := by
        refine ⟨?_, by decide⟩
        have : ¬ (1 ≤ self ∧ self ≤ 99) := by simp [inB] at hI; omega
        simp [rvE, hck, this]
      have HIN : Hid (∀ w1, Calls Try.prog 16 #[.int .i64 self, .int .i64 1, .int .i64 99] w1 fun e w' => e = .returned (.bool false) ∧ w' = w1) := fun w1 => by have := in_any self 1 99 w1; rw [hI] at this; exact this
      clear hck HV hI
      go_wp2_with fail
      refine (HIN.out _).mono ?_
      rintro e w' ⟨rfl, rfl⟩
      have HMK := hide (HM.out _ ((HB2.out).alloc (HB2.out).size (.cells #[.int .i64 0, .int .i64 0, .string ⟨#[]⟩, .slice none 0 0] 24)))
      go_wp2_with fail
      refine HMK.out.mono ?_
      rintro e w5 ⟨y, rfl, H⟩
      obtain ⟨⟨t0, t1, t2, t3⟩, _⟩ := boxed H.out.1
      have HN : Hid (rvO (rvE ck true self) o = none) := by rw [Hid]; simp [rvO, HEN.out.1, HEN.out.2]
      have HCD : Hid (rvC (rvE ck true self) (rvO (rvE ck true self) o) = 1) := by rw [Hid]; simp [rvC, HEN.out.1, HEN.out.2]
      rw [HCD.out]
      have e3 : val (N + 1) y = .agg #[.int .i64 y.1.1, .int .i64 y.1.2.1, .string y.1.2.2, .slice y.2.1.1 y.2.2.length y.2.1.2] := rfl
      rw [e3]
      have HB5 : Hid (Below w.heap.size w w5) := ((HB2.out).alloc (HB2.out).size _).trans (H.out.1.mono (Nat.le_trans (HB2.out).size (by simp)))
      have hw5 : w'.heap.size < w5.heap.size := by have := H.out.1.size; simp at this; omega
      have HSK : Hid (∀ w6, Below w5.heap.size w5 w6 → Calls Try.prog 14 #[.agg #[.int .i64 y.1.1, .int .i64 y.1.2.1, .string y.1.2.2, .slice y.2.1.1 y.2.2.length y.2.1.2], .agg #[.int .i64 0, .int .i64 0, .string ⟨#[]⟩, .slice none 0 0]] w6 fun e w' => e = .returned (.bool true) ∧ Below w6.heap.size w6 w') := by
        intro w6 h6
        have hs := H.out.2.2.2
        rw [HN.out] at hs
        exact HS.out y (zeroV N) (zeroV N) w6 hs (leaf_same N 0 0) ((H.out.2.1.below h6).mono h6.size) (leaf_out N 0 0 i64_zero i64_zero _ _ (fun _ => True)).1
      clear e3 H HMK HM HS HN HCD
      go_wp2_with fail
      refine (HSK.out _ ((Below.refl _ _).alloc (Nat.le_refl _) _)).mono ?_
      rintro e w6 ⟨rfl, hb6⟩
      have HB6 : Hid (Below w.heap.size w w6) := ((HB5.out).alloc (HB5.out).size _).trans (hb6.mono (Nat.le_trans (HB5.out).size (by simp)))
      clear hb6 HSK
      go_wp2_with fail
      go_ret
      exact ⟨rfl, HB6.out⟩
    · have HE0 : Hid (rvE ck true self = 0) := by
        have : (1 ≤ self ∧ self ≤ 99) := by simp [inB] at hI; omega
        simp [Hid, rvE, hck, this]
      have HIN : Hid (∀ w1, Calls Try.prog 16 #[.int .i64 self, .int .i64 1, .int .i64 99] w1 fun e w' => e = .returned (.bool true) ∧ w' = w1) := fun w1 => by have := in_any self 1 99 w1; rw [hI] at this; exact this
      have HVK := hide (HV.out HE0.out _ ((HB2.out).alloc (HB2.out).size (.cells #[.int .i64 0, .int .i64 0, .string ⟨#[]⟩, .slice none 0 0] 24)))
      clear hck HV hI
      go_wp2_with fail
      refine (HIN.out _).mono ?_
      rintro e w' ⟨rfl, rfl⟩
      go_wp2_with fail
      refine HVK.out.mono ?_
      rintro e w4 ⟨y, r, rfl, H⟩
      have e3 : val (N + 1) y = .agg #[.int .i64 y.1.1, .int .i64 y.1.2.1, .string y.1.2.2, .slice y.2.1.1 y.2.2.length y.2.1.2] := rfl
      rw [e3]
      have HBA : Hid (Below w.heap.size w w4) := ((HB2.out).alloc (HB2.out).size _).trans (H.out.1.mono (Nat.le_trans (HB2.out).size (by simp)))
      have HBT : Hid (BoxT w'.heap.size (.int .i64 0) (.int .i64 0) (.string .empty) (.slice none 0 0) w4) := (box_alloc w' _ _ _ _).below H.out.1
      obtain ⟨⟨z0, z1, z2, z3⟩, hzf⟩ := HBT.out.cells
      have hcc := below_cells H.out.1
      have hxa : w.heap.size < (w'.alloc (.cells #[.int .i64 0, .int .i64 0, .string ⟨#[]⟩, .slice none 0 0] 24)).heap.size := by simp; omega
      have hxb : ∀ j, (w'.alloc (.cells #[.int .i64 0, .int .i64 0, .string ⟨#[]⟩, .slice none 0 0] 24)).cell? ⟨w.heap.size, j, none⟩ = w'.cell? ⟨w.heap.size, j, none⟩ := fun j => below_cells ((Below.refl w'.heap.size w').alloc (Nat.le_refl _) _) _ _ hlt2
      replace x0' := ((hcc _ _ hxa).trans (hxb 0)).trans x0'
      replace x1' := ((hcc _ _ hxa).trans (hxb 1)).trans x1'
      replace x2' := ((hcc _ _ hxa).trans (hxb 2)).trans x2'
      replace x3' := ((hcc _ _ hxa).trans (hxb 3)).trans x3'
      have hq4 : w'.heap.size < w4.heap.size := HBT.out.lt
      have hne1 : ¬ (w'.heap.size = w.heap.size) := by omega
      have hne2 : ¬ (w.heap.size = w'.heap.size) := by omega
      clear hcc hxb hxa HVK HX2 HIN e3
      cases r
      · have HSO : Hid (rvO 0 o = none) := by
          have := H.out.2.2.2.1
          cases hh : rvO 0 o with
          | none => rfl
          | some z => rw [hh] at this; cases this
        have HBQ : Hid (BoxT w'.heap.size (.int .i64 0) (.int .i64 0) (.string ⟨#[]⟩) (.slice none 0 0) (put4 (put4 w4 w'.heap.size 0 (.int .i64 y.1.1) (.int .i64 y.1.2.1) (.string y.1.2.2) (.slice y.2.1.1 y.2.2.length y.2.1.2)) w'.heap.size 0 (.int .i64 0) (.int .i64 0) (.string ⟨#[]⟩) (.slice none 0 0))) := (HBT.out.put _ _ _ _).put _ _ _ _
        have HBP : Hid (Below w.heap.size w (put4 (put4 w4 w'.heap.size 0 (.int .i64 y.1.1) (.int .i64 y.1.2.1) (.string y.1.2.2) (.slice y.2.1.1 y.2.2.length y.2.1.2)) w'.heap.size 0 (.int .i64 0) (.int .i64 0) (.string ⟨#[]⟩) (.slice none 0 0))) := put_below (put_below HBA.out (by omega) _ _ _ _) (by omega) _ _ _ _
        have HSW : Hid (same (N + 1) (zeroV N) (N + 1) ((rvO 0 o).getD (zeroV N)) = true) := by rw [Hid, HSO.out]; exact leaf_same N 0 0
        have HIW : Hid (∀ w6, Below (put4 (put4 w4 w'.heap.size 0 (.int .i64 y.1.1) (.int .i64 y.1.2.1) (.string y.1.2.2) (.slice y.2.1.1 y.2.2.length y.2.1.2)) w'.heap.size 0 (.int .i64 0) (.int .i64 0) (.string ⟨#[]⟩) (.slice none 0 0)).heap.size (put4 (put4 w4 w'.heap.size 0 (.int .i64 y.1.1) (.int .i64 y.1.2.1) (.string y.1.2.2) (.slice y.2.1.1 y.2.2.length y.2.1.2)) w'.heap.size 0 (.int .i64 0) (.int .i64 0) (.string ⟨#[]⟩) (.slice none 0 0)) w6 → In w6.heap.size w6 (N + 1) (zeroV N)) := fun w6 _ => (leaf_out N 0 0 i64_zero i64_zero _ _ (fun _ => True)).1
        clear H HBT
        have HMK := hide (HM.out _ HBP.out)
        rw [HE0.out] at HMK
        go_wp2_with fail
        refine HMK.out.mono ?_
        rintro e w5 ⟨y2, rfl, H2⟩
        obtain ⟨⟨t0, t1, t2, t3⟩, _⟩ := (HBQ.out.below H2.out.1).cells
        have HCD : Hid (rvC 0 (rvO 0 o) = 7) := by rw [Hid]; simp [rvC, HSO.out]
        rw [HCD.out]
        have e4 : val (N + 1) y2 = .agg #[.int .i64 y2.1.1, .int .i64 y2.1.2.1, .string y2.1.2.2, .slice y2.2.1.1 y2.2.2.length y2.2.1.2] := rfl
        rw [e4]
        have HB5 : Hid (Below w.heap.size w w5) := HBP.out.trans (H2.out.1.mono HBP.out.size)
        have hw5 : w'.heap.size < w5.heap.size := Nat.lt_of_lt_of_le HBQ.out.lt H2.out.1.size
        have HSK : Hid (∀ w6, Below w5.heap.size w5 w6 → Calls Try.prog 14 #[.agg #[.int .i64 y2.1.1, .int .i64 y2.1.2.1, .string y2.1.2.2, .slice y2.2.1.1 y2.2.2.length y2.2.1.2], .agg #[.int .i64 0, .int .i64 0, .string ⟨#[]⟩, .slice none 0 0]] w6 fun e w' => e = .returned (.bool true) ∧ Below w6.heap.size w6 w') := by
          intro w6 h6
          exact HS.out y2 (zeroV N) _ w6 H2.out.2.2.2 HSW.out ((H2.out.2.1.below h6).mono h6.size) (HIW.out w6 (H2.out.1.trans (h6.mono H2.out.1.size)))
        clear e4 H2 HMK HM HS HCD
        go_wp2_with fail
        refine (HSK.out _ ((Below.refl _ _).alloc (Nat.le_refl _) _)).mono ?_
        rintro e w6 ⟨rfl, hb6⟩
        have HB6 : Hid (Below w.heap.size w w6) := ((HB5.out).alloc (HB5.out).size _).trans (hb6.mono (Nat.le_trans (HB5.out).size (by simp)))
        clear hb6 HSK
        go_wp2_with fail
        go_ret
        exact ⟨rfl, HB6.out⟩
      · obtain ⟨z, hz⟩ : ∃ z, rvO 0 o = some z := by
          have := H.out.2.2.2.1
          cases hh : rvO 0 o with
          | none => rw [hh] at this; cases this
          | some z => exact ⟨z, rfl⟩
        have HSO := hide hz
        have HBQ : Hid (BoxT w'.heap.size (.int .i64 y.1.1) (.int .i64 y.1.2.1) (.string y.1.2.2) (.slice y.2.1.1 y.2.2.length y.2.1.2) (put4 w4 w'.heap.size 0 (.int .i64 y.1.1) (.int .i64 y.1.2.1) (.string y.1.2.2) (.slice y.2.1.1 y.2.2.length y.2.1.2))) := HBT.out.put _ _ _ _
        have HBP : Hid (Below w.heap.size w (put4 w4 w'.heap.size 0 (.int .i64 y.1.1) (.int .i64 y.1.2.1) (.string y.1.2.2) (.slice y.2.1.1 y.2.2.length y.2.1.2))) := put_below HBA.out (by omega) _ _ _ _
        have HSW := hide H.out.2.2.2.2
        have HIW : Hid (∀ w6, Below (put4 w4 w'.heap.size 0 (.int .i64 y.1.1) (.int .i64 y.1.2.1) (.string y.1.2.2) (.slice y.2.1.1 y.2.2.length y.2.1.2)).heap.size (put4 w4 w'.heap.size 0 (.int .i64 y.1.1) (.int .i64 y.1.2.1) (.string y.1.2.2) (.slice y.2.1.1 y.2.2.length y.2.1.2)) w6 → In w6.heap.size w6 (N + 1) y) := fun w6 h6 => by
          have h0 : In (put4 w4 w'.heap.size 0 (.int .i64 y.1.1) (.int .i64 y.1.2.1) (.string y.1.2.2) (.slice y.2.1.1 y.2.2.length y.2.1.2)).heap.size (put4 w4 w'.heap.size 0 (.int .i64 y.1.1) (.int .i64 y.1.2.1) (.string y.1.2.2) (.slice y.2.1.1 y.2.2.length y.2.1.2)) (N + 1) y := by
            rw [put4_size]
            exact In.off (P := fun b => b < B ∨ (w'.alloc (.cells #[.int .i64 0, .int .i64 0, .string ⟨#[]⟩, .slice none 0 0] 24)).heap.size ≤ b) (fun b hh => put4_block (by have := HB2.out.size; simp at hh; omega) _ _ _ _) H.out.2.2.1 H.out.2.1
          exact (h0.below h6).mono h6.size
        clear H HBT hz
        have HMK := hide (HM.out _ HBP.out)
        rw [HE0.out] at HMK
        go_wp2_with fail
        refine HMK.out.mono ?_
        rintro e w5 ⟨y2, rfl, H2⟩
        obtain ⟨⟨t0, t1, t2, t3⟩, _⟩ := (HBQ.out.below H2.out.1).cells
        have HCD : Hid (rvC 0 (rvO 0 o) = 0) := by rw [Hid]; simp [rvC, HSO.out]
        rw [HCD.out]
        have e4 : val (N + 1) y2 = .agg #[.int .i64 y2.1.1, .int .i64 y2.1.2.1, .string y2.1.2.2, .slice y2.2.1.1 y2.2.2.length y2.2.1.2] := rfl
        rw [e4]
        have HB5 : Hid (Below w.heap.size w w5) := HBP.out.trans (H2.out.1.mono HBP.out.size)
        have hw5 : w'.heap.size < w5.heap.size := Nat.lt_of_lt_of_le HBQ.out.lt H2.out.1.size
        have HSK : Hid (∀ w6, Below w5.heap.size w5 w6 → Calls Try.prog 14 #[.agg #[.int .i64 y2.1.1, .int .i64 y2.1.2.1, .string y2.1.2.2, .slice y2.2.1.1 y2.2.2.length y2.2.1.2], .agg #[.int .i64 y.1.1, .int .i64 y.1.2.1, .string y.1.2.2, .slice y.2.1.1 y.2.2.length y.2.1.2]] w6 fun e w' => e = .returned (.bool true) ∧ Below w6.heap.size w6 w') := by
          intro w6 h6
          exact HS.out y2 y _ w6 H2.out.2.2.2 HSW.out ((H2.out.2.1.below h6).mono h6.size) (HIW.out w6 (H2.out.1.trans (h6.mono H2.out.1.size)))
        clear e4 H2 HMK HM HS HCD
        go_wp2_with fail
        refine (HSK.out _ ((Below.refl _ _).alloc (Nat.le_refl _) _)).mono ?_
        rintro e w6 ⟨rfl, hb6⟩
        have HB6 : Hid (Below w.heap.size w w6) := ((HB5.out).alloc (HB5.out).size _).trans (hb6.mono (Nat.le_trans (HB5.out).size (by simp)))
        clear hb6 HSK
        go_wp2_with fail
        go_ret
        exact ⟨rfl, HB6.out⟩

theorem rsays_any (n m : Nat) (x : Tm (n + 1)) (b : List (Tm m)) (a : Option Addr) (c B : Nat) (self : Int) (w : World) (hx : In B w (n + 1) x) (hb : Lies B w m b a) (hB : B ≤ w.heap.size) (hN : (nodes (n + 1) x).length ≤ 2097152) (hbl : b.length ≤ 9223372036854775807) (hNb : ∀ y ∈ b, (nodes m y).length ≤ 2097152) :
    Calls Try.prog 7 #[val (n + 1) x, .slice a b.length c, .int .i64 self] w fun e w' => e = .returned (.bool true) ∧ Below w.heap.size w w' := by
  refine rsays_walk B (m + n) (vl m b self (n + 1) x) a b.length c self x.1.1 x.1.2.1 x.1.2.2 x.2.1.1 x.2.2.length x.2.1.2 (chk (n + 1) x) (bndB m b) w hB ?_ ?_ ?_ ?_ ?_
  · intro w1 h1
    exact rcheck_any (n + 1) x B w1 (hx.below (h1.mono hB)) (Nat.le_trans hB h1.size) hN
  · intro w1 h1
    exact rbound_any m b a c B w1 (hb.below (h1.mono hB)) hbl hNb (Nat.le_trans hB h1.size)
  · intro hE w1 h1
    obtain ⟨e1, e2, e3⟩ := rvE_zero hE
    exact dvv_any n m x b a c B self w1 (hx.below (h1.mono hB)) (hb.below (h1.mono hB)) (Nat.le_trans hB h1.size) e1 e2 e3
  · intro w1 h1
    exact rvalue_any n m x b a c B self w1 (hx.below (h1.mono hB)) (hb.below (h1.mono hB)) (Nat.le_trans hB h1.size) hN hbl hNb
  · intro y z t w1 h1 h2 h3 h4
    have h := same_any (m + n + 1) y (m + n + 1) z w1.heap.size w1 h3 h4 (Nat.le_refl _)
    rw [same_trans _ _ _ _ _ _ h1 (same_symm _ _ _ _ h2)] at h
    exact h
end Go.Proofs.Ytpehdgbdinjbaaa
namespace Go.Proofs.Ytpehdgbdinjbaaa

/-- How much a term holds: its terms, and the letters of their names. -/
def wt : (n : Nat) → Tm n → Nat
  | 0, _ => 1
  | n + 1, x => 1 + x.1.2.2.size + (x.2.2.map fun y => wt n y).sum

theorem nodes_wt : (n : Nat) → (x : Tm n) → (nodes n x).length ≤ wt n x
  | 0, _ => by simp [nodes, wt]
  | n + 1, x => by
    have key : ∀ l : List (Tm n), (l.flatMap fun y => nodes n y).length ≤ (l.map fun y => wt n y).sum := by
      intro l
      induction l with
      | nil => simp
      | cons y l ih =>
        have := nodes_wt n y
        simp only [List.flatMap_cons, List.length_append, List.map_cons, List.sum_cons]
        omega
    have := key x.2.2
    simp only [nodes, wt, List.length_cons]
    omega
end Go.Proofs.Ytpehdgbdinjbaaa
namespace Go.Proofs.Ytpehdgbdinjbaaa
open Go.ChangeShapes Go.WideShapes Go.ChangeAt Go.RowKit

theorem own : ownKnob Try.prog.godebug = none := by kernel_rfl
theorem laidOut : laidOutB Try.prog = true := by kernel_rfl
theorem cellsTerm : Try.prog.cellsOf 24 = 4 := by kernel_rfl
theorem cellsInt : Try.prog.cellsOf 3 = 1 := by kernel_rfl
theorem cellsString : Try.prog.cellsOf 9 = 1 := by kernel_rfl
theorem cellsTerms : Try.prog.cellsOf 22 = 1 := by kernel_rfl

theorem list_of {α : Type} {P : Nat → α → Prop} : (len : Nat) → (∀ i, i < len → ∃ y, P i y) → ∃ l : List α, l.length = len ∧ ∀ i y, l[i]? = some y → P i y
  | 0, _ => ⟨[], rfl, fun i y h => by simp at h⟩
  | len + 1, h => by
    obtain ⟨l, hl, hp⟩ := list_of len (fun i hi => h i (by omega))
    obtain ⟨z, hz⟩ := h len (by omega)
    refine ⟨l ++ [z], by simp [hl], fun i y hy => ?_⟩
    by_cases hi : i < l.length
    · rw [List.getElem?_append_left hi] at hy
      exact hp i y hy
    · rw [List.getElem?_append_right (by omega)] at hy
      have h0 : i - l.length = 0 := by
        by_cases h0 : i - l.length = 0
        · exact h0
        · rw [List.getElem?_eq_none (by simp; omega)] at hy; cases hy
      rw [h0] at hy
      have e1 : z = y := by simpa using hy
      have e2 : i = len := by omega
      rw [e2, ← e1]
      exact hz

theorem wt_le {H : Type} {n : Nat} : (p : List (Tm n)) → (es : List (DataW H)) → (∀ (i : Nat) (y : Tm n) (e : DataW H), p[i]? = some y → es[i]? = some e → wt n y ≤ Rows.uptoBulk e) → p.length = es.length → (p.map fun y => wt n y).sum ≤ Rows.uptoBulkAll es
  | [], es, _, h => by simp
  | y :: p, [], _, h => by simp at h
  | y :: p, e :: es, hp, h => by
    have h0 := hp 0 y e (by simp) (by simp)
    have h1 := wt_le p es (fun i y' e' hy he => hp (i + 1) y' e' (by simpa using hy) (by simpa using he)) (by simpa using h)
    simp only [List.map_cons, List.sum_cons, Rows.uptoBulkAll]
    omega

theorem add_add (b o i j : Nat) : ((⟨b, o, none⟩ : Addr).add i).add j = ⟨b, o + i + j, none⟩ := by
  unfold Addr.add
  split <;> split <;> simp_all
theorem spot_none {w : World} {a : Addr} {v : Value} (h : w.cell? ((a.add 0).add 0) = some v) : a = ⟨a.block, a.off, none⟩ := by
  have e : (a.add 0).add 0 = a := rfl
  rw [e] at h
  unfold World.cell? at h
  split at h
  · split at h
    · cases h
    · rename_i hs
      cases a with
      | mk b o s => cases s with
        | none => rfl
        | some q => simp at hs
  · cases h

theorem wf64 {k : Int} (h : (Lit.int .i64 k).wf = true) : I64 k := by
  have : -9223372036854775808 ≤ k ∧ k ≤ 9223372036854775807 := by simpa [Lit.wf, IntKind.min, IntKind.max, IntKind.signed, IntKind.bits] using h
  exact this

set_option maxRecDepth 100000 in
theorem tree_of {H : Type} (enc : TypeId × Value → H) (w : World) (sp : Nat → Bool) : (n f : Nat) → f ≤ 2 * n + 1 → (cs : List Value) → (x : DataW H × List MemPlace) →
    DataW.trod enc Try.prog w 0 sp true f 24 cs = some x →
    ∃ t : Tm (n + 1), cs = [.int .i64 t.1.1, .int .i64 t.1.2.1, .string t.1.2.2, .slice t.2.1.1 t.2.2.length t.2.1.2] ∧ In w.heap.size w (n + 1) t ∧ wt (n + 1) t ≤ Rows.uptoBulk x.1 := by
  intro n
  induction n with
  | zero =>
    intro f hf cs x h
    obtain ⟨xs, m, rfl, rfl, hl, hx, hg⟩ := DataW.trod_struct Try.underlying24 h
    have h0 : DataW.trod enc Try.prog w 0 sp true m 3 ((cs.drop 0).take (Try.prog.cellsOf 3)) = xs[0]? := hg 0 _ rfl
    obtain rfl : m = 0 := by omega
    have hx' : xs.length = 4 := hx
    rw [List.getElem?_eq_getElem (by omega)] at h0
    cases h0
  | succ n ih =>
    intro f hf cs x h
    obtain ⟨xs, m, rfl, rfl, hl, hx, hg⟩ := DataW.trod_struct Try.underlying24 h
    have h0 : DataW.trod enc Try.prog w 0 sp true m 3 ((cs.drop 0).take (Try.prog.cellsOf 3)) = xs[0]? := hg 0 _ rfl
    have h1 : DataW.trod enc Try.prog w 0 sp true m 3 ((cs.drop 1).take (Try.prog.cellsOf 3)) = xs[1]? := hg 1 _ rfl
    have h2 : DataW.trod enc Try.prog w 0 sp true m 9 ((cs.drop 2).take (Try.prog.cellsOf 9)) = xs[2]? := hg 2 _ rfl
    have h3 : DataW.trod enc Try.prog w 0 sp true m 22 ((cs.drop 3).take (Try.prog.cellsOf 22)) = xs[3]? := hg 3 _ rfl
    rw [cellsInt] at h0 h1
    rw [cellsString] at h2
    rw [cellsTerms] at h3
    rw [cellsTerm] at hl
    obtain ⟨c0, c1, c2, c3, rfl⟩ : ∃ c0 c1 c2 c3, cs = [c0, c1, c2, c3] := by
      match cs, hl with
      | [c0, c1, c2, c3], _ => exact ⟨c0, c1, c2, c3, rfl⟩
    obtain ⟨y0, y1, y2, y3, rfl⟩ : ∃ y0 y1 y2 y3, xs = [y0, y1, y2, y3] := by
      match xs, hx with
      | [y0, y1, y2, y3], _ => exact ⟨y0, y1, y2, y3, rfl⟩
    obtain ⟨k, e0, z0, w0⟩ := DataW.trod_int Try.underlying3 (x := y0) (by simpa using h0)
    obtain ⟨u, e1, z1, w1⟩ := DataW.trod_int Try.underlying3 (x := y1) (by simpa using h1)
    obtain ⟨s, e2, z2, w2⟩ := DataW.trod_string Try.underlying9 (x := y2) (by simpa using h2)
    have h3' : DataW.trod enc Try.prog w 0 sp true m 22 [c3] = some y3 := by simpa using h3
    simp at e0 e1 e2
    subst e0 e1 e2 z0 z1 z2
    rcases DataW.trod_slice Try.underlying22 h3' with ⟨e3, rfl⟩ | ⟨a, len, cap, elems, rest, m', rfl, e3, rfl, _, hlc, hcm, hel, hat, _, _⟩
    · simp at e3
      subst e3
      refine ⟨((k, u, s), (none, 0), []), rfl, ⟨⟨wf64 w0, wf64 w1, w2, Nat.le_refl _, Nat.zero_le _⟩, Or.inl rfl⟩, ?_⟩
      have es : s.data.toList.length = s.size := by rw [Array.length_toList]; rfl
      simp only [wt, Rows.uptoBulk, Rows.uptoBulkAll, List.map_cons, List.map_nil, List.sum_nil]
      omega
    · simp at e3
      subst e3
      simp only [cellsTerm] at hat
      have key : ∀ i, i < len → ∃ t : Tm (n + 1), (∃ b o, a = ⟨b, o, none⟩ ∧ b < w.heap.size ∧ Held w b (o + i * 4) (n + 1) t) ∧ In w.heap.size w (n + 1) t ∧ ∀ e, (elems.map (·.1))[i]? = some e → wt (n + 1) t ≤ Rows.uptoBulk e := by
        intro i hi
        have hi' := hat i hi
        have hi0 := hat 0 (by omega)
        rw [List.getElem?_eq_getElem (by omega)] at hi' hi0
        obtain ⟨cs', hcs, htr⟩ := Option.bind_eq_some_iff.1 hi'
        obtain ⟨cs0, hcs0, htr0⟩ := Option.bind_eq_some_iff.1 hi0
        obtain ⟨_, hlen, hcell⟩ := World.cells?_some hcs
        obtain ⟨_, hlen0, hcell0⟩ := World.cells?_some hcs0
        obtain ⟨t, rfl, hin, hb⟩ := ih m' (by omega) cs' _ htr
        have ha := spot_none (w := w) (a := a) (v := cs0[0]'(by omega)) (by have := hcell0 0 (by omega); rw [List.getElem?_eq_getElem (by omega)] at this; simpa using this)
        have hadd : ∀ j, (a.add (i * 4)).add j = ⟨a.block, a.off + i * 4 + j, none⟩ := fun j => by
          have := add_add a.block a.off (i * 4) j
          rw [← ha] at this
          exact this
        have c0 := hcell 0 (by omega)
        have c1 := hcell 1 (by omega)
        have c2 := hcell 2 (by omega)
        have c3 := hcell 3 (by omega)
        rw [hadd] at c0 c1 c2 c3
        simp at c0 c1 c2 c3
        refine ⟨t, ⟨a.block, a.off, ha, World.block_lt_of_cell? w ⟨a.block, a.off + i * 4, none⟩ c0, c0, c1, c2, c3⟩, hin, fun e he => ?_⟩
        rw [List.getElem?_map, List.getElem?_eq_getElem (by omega)] at he
        have : (elems[i]).1 = e := by simpa using he
        rw [← this]
        exact hb
      obtain ⟨p, hpl, hp⟩ := list_of len key
      refine ⟨((k, u, s), (some a, cap), p), by simp [hpl], ⟨⟨wf64 w0, wf64 w1, w2, by simp only; omega, hcm⟩, ?_⟩, ?_⟩
      · rcases Nat.eq_zero_or_pos len with h | h
        · exact Or.inl (List.eq_nil_of_length_eq_zero (hpl.trans h))
        · obtain ⟨⟨b, o, rfl, hb, _⟩, _, _⟩ := hp 0 (p[0]'(by rw [hpl]; exact h)) (List.getElem?_eq_getElem (by rw [hpl]; exact h))
          refine Or.inr ⟨b, o, rfl, hb, fun i y hy => ?_⟩
          obtain ⟨⟨b', o', e, _, hh⟩, hin, _⟩ := hp i y hy
          simp at e
          obtain ⟨rfl, rfl⟩ := e
          exact ⟨hh, hin⟩
      · have hs := wt_le p (elems.map (·.1)) (fun i y e hy he => (hp i y hy).2.2 e he) (by simp; omega)
        have es : s.data.toList.length = s.size := by rw [Array.length_toList]; rfl
        simp only [wt, Rows.uptoBulk, Rows.uptoBulkAll, List.map_cons, List.map_nil] at hs ⊢
        omega

set_option maxRecDepth 100000 in
theorem open_term {H : Type} {enc : TypeId × Value → H} {W : World} {r : Reach} {b0 : Nat} {v : Value} {d : DataW H} {p : List MemPlace} (hv : Value.okWide Try.prog W r b0 24 v)
    (h : DataW.Trod enc Try.prog W 0 (fun _ => true) true 24 v d p) : ∃ n, ∃ t : Tm (n + 1), v = val (n + 1) t ∧ In W.heap.size W (n + 1) t ∧ wt (n + 1) t ≤ Rows.uptoBulk d := by
  obtain ⟨cs, rfl, _⟩ := okWide_struct Try.underlying24 hv
  obtain ⟨f, hf⟩ := h
  obtain ⟨t, e, hin, hb⟩ := tree_of enc W (fun _ => true) f f (by omega) _ _ hf
  refine ⟨f, t, ?_, hin, hb⟩
  have : cs = #[.int .i64 t.1.1, .int .i64 t.1.2.1, .string t.1.2.2, .slice t.2.1.1 t.2.2.length t.2.1.2] := by
    simp [Value.cells] at e
    exact Array.toList_inj.1 e
  rw [this]
  rfl
end Go.Proofs.Ytpehdgbdinjbaaa
namespace Go.Proofs.Ytpehdgbdinjbaaa
open Go.ChangeShapes Go.WideShapes Go.ChangeAt Go.RowKit

set_option maxRecDepth 100000 in
theorem open_terms {H : Type} {enc : TypeId × Value → H} {W : World} {r : Reach} {b0 : Nat} {v : Value} {d : DataW H} {p : List MemPlace} (hv : Value.okWide Try.prog W r b0 22 v)
    (h : DataW.Trod enc Try.prog W 0 (fun _ => true) true 22 v d p) : ∃ n, ∃ q : List (Tm (n + 1)), ∃ a c, v = .slice a q.length c ∧ Lies W.heap.size W (n + 1) q a ∧ q.length ≤ c ∧ c ≤ maxLen ∧ (q.map fun y => wt (n + 1) y).sum ≤ Rows.uptoBulk d := by
  obtain ⟨a, len, cap, rfl⟩ := okWide_slice Try.underlying22 hv
  obtain ⟨f, hf⟩ := h
  have hf' : DataW.trod enc Try.prog W 0 (fun _ => true) true f 22 [.slice a len cap] = some (d, p) := hf
  rcases DataW.trod_slice Try.underlying22 hf' with ⟨e, e2⟩ | ⟨a, len, cap, elems, rest, m, rfl, e, e2, _, hlc, hcm, hel, hat, _, _⟩
  · simp at e e2
    obtain ⟨rfl, rfl, rfl⟩ := e
    exact ⟨0, [], none, 0, rfl, Or.inl rfl, Nat.le_refl _, Nat.zero_le _, Nat.zero_le _⟩
  · simp at e e2
    obtain ⟨rfl, rfl, rfl⟩ := e
    obtain ⟨rfl, rfl⟩ := e2
    simp only [cellsTerm] at hat
    have key : ∀ i, i < len → ∃ t : Tm (m + 1), (∃ b o, a = ⟨b, o, none⟩ ∧ b < W.heap.size ∧ Held W b (o + i * 4) (m + 1) t) ∧ In W.heap.size W (m + 1) t ∧ ∀ e, (elems.map (·.1))[i]? = some e → wt (m + 1) t ≤ Rows.uptoBulk e := by
      intro i hi
      have hi' := hat i hi
      have hi0 := hat 0 (by omega)
      rw [List.getElem?_eq_getElem (by omega)] at hi' hi0
      obtain ⟨cs', hcs, htr⟩ := Option.bind_eq_some_iff.1 hi'
      obtain ⟨cs0, hcs0, htr0⟩ := Option.bind_eq_some_iff.1 hi0
      obtain ⟨_, hlen, hcell⟩ := World.cells?_some hcs
      obtain ⟨_, hlen0, hcell0⟩ := World.cells?_some hcs0
      obtain ⟨t, rfl, hin, hb⟩ := tree_of enc W (fun _ => true) m m (by omega) cs' _ htr
      have ha := spot_none (w := W) (a := a) (v := cs0[0]'(by omega)) (by have := hcell0 0 (by omega); rw [List.getElem?_eq_getElem (by omega)] at this; simpa using this)
      have hadd : ∀ j, (a.add (i * 4)).add j = ⟨a.block, a.off + i * 4 + j, none⟩ := fun j => by
        have := add_add a.block a.off (i * 4) j
        rw [← ha] at this
        exact this
      have c0 := hcell 0 (by omega)
      have c1 := hcell 1 (by omega)
      have c2 := hcell 2 (by omega)
      have c3 := hcell 3 (by omega)
      rw [hadd] at c0 c1 c2 c3
      simp at c0 c1 c2 c3
      refine ⟨t, ⟨a.block, a.off, ha, World.block_lt_of_cell? W ⟨a.block, a.off + i * 4, none⟩ c0, c0, c1, c2, c3⟩, hin, fun e he => ?_⟩
      rw [List.getElem?_map, List.getElem?_eq_getElem (by omega)] at he
      have : (elems[i]).1 = e := by simpa using he
      rw [← this]
      exact hb
    obtain ⟨q, hpl, hp⟩ := list_of len key
    refine ⟨m, q, some a, cap, by rw [hpl], ?_, by omega, hcm, ?_⟩
    · rcases Nat.eq_zero_or_pos len with h | h
      · exact Or.inl (List.eq_nil_of_length_eq_zero (hpl.trans h))
      · obtain ⟨⟨b, o, rfl, hb, _⟩, _, _⟩ := hp 0 (q[0]'(by rw [hpl]; exact h)) (List.getElem?_eq_getElem (by rw [hpl]; exact h))
        refine Or.inr ⟨b, o, rfl, hb, fun i y hy => ?_⟩
        obtain ⟨⟨b', o', e, _, hh⟩, hin, _⟩ := hp i y hy
        simp at e
        obtain ⟨rfl, rfl⟩ := e
        exact ⟨hh, hin⟩
    · have hs := wt_le q (elems.map (·.1)) (fun i y e hy he => (hp i y hy).2.2 e he) (by simp; omega)
      simp only [Rows.uptoBulk]
      omega
theorem sum_mem {n : Nat} (q : List (Tm n)) (y : Tm n) (h : y ∈ q) : wt n y ≤ (q.map fun y => wt n y).sum := by
  induction q with
  | nil => cases h
  | cons z q ih =>
    simp only [List.map_cons, List.sum_cons]
    rcases List.mem_cons.1 h with rfl | h
    · omega
    · have := ih h
      omega
end Go.Proofs.Ytpehdgbdinjbaaa
