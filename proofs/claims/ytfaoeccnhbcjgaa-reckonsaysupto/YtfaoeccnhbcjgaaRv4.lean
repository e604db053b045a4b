/- What is proved here: the document's Value of right things that lie in memory: what it returns. No condition but that. -/
import Derived.Test.YtfaoeccnhbcjgaaRv3
namespace Go.Proofs.Ytfaoeccnhbcjgaa
open Go.RowKit

theorem right_num {N : Nat} {z : Tm N} (h : RightA ⟨N, z⟩) : -1099511627776 ≤ numA N z ∧ numA N z ≤ 1099511627776 := by
  cases N with
  | zero => exact (zero_bad h).elim
  | succ N =>
    have hg := h (hdOf N z) (by simp [nodes, hdOf])
    have hk := good_kind (hdOf N z) hg
    simp only [numA, hdT]
    unfold good at hg
    rcases hk with k | k | k | k | k | ⟨k, k0⟩
    all_goals (rw [k] at hg; simp [inB] at hg; omega)
/-- Of a sum, the first part is an atom, and has a value. -/
theorem add_all (m : Nat) (b : List (Tm m)) (self : Int) (n : Nat) (p : List (Tm n)) (hr : ∀ y ∈ p, RightA ⟨n, y⟩) (h : isW n p wAdd 2 = true) : ∃ (x0 x1 x2 : Tm n) (z0 : Tm (m + n)), p = [x0, x1, x2] ∧ vl m b self n x0 = some z0 := by
  have hl := isW_len2 h
  obtain ⟨x0, x1, x2, rfl⟩ : ∃ x0 x1 x2, p = [x0, x1, x2] := by
    match p, hl with
    | [x0, x1, x2], _ => exact ⟨x0, x1, x2, rfl⟩
  have h0 := hr x0 (by simp)
  cases n with
  | zero => exact (zero_bad h0).elim
  | succ n =>
    rw [isW_at hl rfl] at h
    have hk : x0.1.1 = 2 := by simp at h; exact h.1
    exact ⟨x0, x1, x2, _, rfl, vl_leaf m b self n x0 (by omega) (by omega) (by omega)⟩
theorem tup_else (m : Nat) (b : List (Tm m)) (self : Int) (n : Nat) (p : List (Tm n)) (hr : ∀ y ∈ p, RightA ⟨n, y⟩) (h1 : isW n p wSelf 0 = false) (h2 : isW n p wPut 1 = false) :
    tupO m n self (fun y => vl m b self n y) p = elseO (m + n) (isW n p wAdd 2) (allV (fun y => vl m b self n y) p) := by
  cases h3 : isW n p wAdd 2
  · simp only [tupO, h1, h2, h3, elseO]
    cases allV (fun y => vl m b self n y) p <;> rfl
  · obtain ⟨x0, x1, x2, z0, rfl, hz⟩ := add_all m b self n p hr h3
    simp only [tupO, h1, h3, elseO, allV, hz]
    cases h4 : vl m b self n x1 with
    | none => simp [h4]
    | some z1 =>
      cases h5 : vl m b self n x2 with
      | none => simp [h5]
      | some z2 => simp [addO, h4, h5]

theorem dvalue_any (m : Nat) (b : List (Tm m)) (self : Int) (hbd : bndB m b = true) (hs : 1 ≤ self ∧ self ≤ 99) (n : Nat) : FDv m b self n := by
  induction n with
  | zero => intro x a c B w hx; exact hx.elim
  | succ n ih =>
    intro x a c B w hx hr hN hb hB
    obtain ⟨h4b, hbk⟩ := bnd_ok hbd
    have hbr : ∀ y ∈ b, RightA ⟨m, y⟩ := fun y hy => (hbk y hy).2.1
    have hg := hr (hdOf n x) (by simp [nodes, hdOf])
    have hlen : x.2.2.length ≤ 8 := good_len (hdOf n x) hg
    have hold : ∀ (M : Nat) (y : Tm (M + 1)) (r : Bool) (o : Option (Tm (m + n + 1))) (w' : World), M + 1 ≤ m + n + 1 → In B w (M + 1) y → RightA ⟨M + 1, y⟩ → Below w.heap.size w w' → o = (if r then some (lift (m + n + 1) (M + 1) y) else none) → DvOut B (m + n + 1) o w (.returned (.tuple #[.agg #[.int .i64 y.1.1, .int .i64 y.1.2.1, .string y.1.2.2, .slice y.2.1.1 y.2.2.length y.2.1.2], .bool r])) w' := by
      intro M y r o w' hM hin hry hbl ho
      have h1 := lift_in (m + n + 1) (M + 1) hM _ _ _ hin
      refine ⟨lift (m + n + 1) (M + 1) y, r, by rw [lift_val]; rfl, hbl, (h1.below (hbl.mono hB)).mono (Nat.le_trans hB hbl.size), h1.offLow.mono fun q hq => Or.inl hq, by rw [ho]; cases r <;> rfl, fun z hz => ?_⟩
      rw [ho] at hz
      cases r with
      | false => cases hz
      | true =>
        obtain rfl := Option.some.inj hz
        exact same_refl _ _ (lift_right hM y hry)
    by_cases h6 : x.1.1 = 6
    · have hh := dv_any self x.1.2.1 x.1.2.2 x.2.1.1 x.2.2.length x.2.1.2 a c w
      rw [← h6] at hh
      refine hh.mono ?_
      rintro e w' ⟨rfl, hbl⟩
      exact hold n x false _ w' (by omega) hx hr hbl (vl_any m b self n x h6)
    · by_cases h5 : x.1.1 = 5
      · have hn : 0 ≤ x.1.2.1 ∧ x.1.2.1 ≤ 3 := by
          have h51 : ¬ (5 : Int) = 1 := by decide
          have h52 : ¬ (5 : Int) = 2 := by decide
          have h53 : ¬ (5 : Int) = 3 := by decide
          have h54 : ¬ (5 : Int) = 4 := by decide
          simp only [good, hdOf, h5, inB, Bool.and_eq_true, if_true, h51, h52, h53, h54, if_false] at hg
          exact ⟨of_decide_eq_true hg.1.2.1, of_decide_eq_true hg.1.2.2⟩
        obtain ⟨k, hk⟩ : ∃ k : Nat, x.1.2.1 = (k : Int) := ⟨x.1.2.1.toNat, by omega⟩
        obtain ⟨y, hy⟩ : ∃ y, b[k]? = some y := ⟨b[k]'(by omega), List.getElem?_eq_getElem _⟩
        have hry := (hbk y (List.mem_of_getElem? hy)).2.1
        have eo := vl_var m b self n x y k h5 hk hy
        rcases hb with hb | ⟨bb, bo, rfl, hbb, hb⟩
        · rw [hb] at h4b; simp at h4b
        · obtain ⟨hy1, hy2⟩ := hb k y hy
          cases m with
          | zero => exact (zero_bad hry).elim
          | succ m =>
          have hh := dv_var self x.1.2.1 x.1.2.2 x.2.1.1 x.2.2.length x.2.1.2 bb bo k c w y.1.1 y.1.2.1 y.1.2.2 y.2.1.1 y.2.2.length y.2.1.2 hk (by omega) (by omega) hy1
          rw [← h5] at hh
          refine hh.mono ?_
          rintro e w' ⟨rfl, hbl⟩
          refine hold m y (y.1.1 != 6) _ w' (by omega) hy2 hry hbl ?_
          rw [eo]
          by_cases h : y.1.1 = 6
          · simp [kindA, h]
          · simp [kindA, h]
      · by_cases h4 : x.1.1 = 4
        · have hp : Lies B w n x.2.2 x.2.1.1 := hx.2
          have hrp : ∀ y ∈ x.2.2, RightA ⟨n, y⟩ := fun y hy => parts_right n x y hr hy
          have hNp : ∀ y ∈ x.2.2, (nodes n y).length ≤ 2097152 := fun y hy => by
            have := mem_flat_le (fun y => nodes n y) x.2.2 y hy
            simp only [nodes, List.length_cons] at this hN
            omega
          have hi := fun s k (hk : k ≤ 8) w1 (h1 : Below w.heap.size w w1) => is_any n x.2.2 x.1.2.1 x.1.2.2 x.2.1.1 x.2.1.2 B s k w1 (hp.below (h1.mono hB)) (Nat.le_trans hB h1.size) hlen hk
          have hi1 := hi wSelf 0 (by omega)
          have hi2 := hi wPut 1 (by omega)
          have hi3 := hi wAdd 2 (by omega)
          have ev : val (n + 1) x = .agg #[.int .i64 4, .int .i64 x.1.2.1, .string x.1.2.2, .slice x.2.1.1 x.2.2.length x.2.1.2] := by rw [← h4]; rfl
          rw [ev, vl_tup m b self n x h4]
          cases e1 : isW n x.2.2 wSelf 0
          · rw [e1] at hi1
            cases e2 : isW n x.2.2 wPut 1
            · rw [e2] at hi2
              rw [tup_else m b self n x.2.2 hrp e1 e2]
              refine dv_else m b self n ih x.2.2 x.1.2.1 x.1.2.2 x.2.1.1 x.2.2.length x.2.1.2 rfl hlen a c B (isW n x.2.2 wAdd 2) w (fun h => by have := isW_len2 h; omega) ?_ ?_ hp hrp hNp hb hB hi1 hi2 hi3
              · intro l hl i z hz
                obtain ⟨k1, k2⟩ := allV_len _ _ _ hl
                have hi : i < x.2.2.length := by rw [← k1]; exact (List.getElem?_eq_some_iff.1 hz).1
                exact right_num (vl_right m b self hs hbr n x.2.2[i] (hrp _ (List.getElem_mem _)) z (k2 i _ z (List.getElem?_eq_getElem hi) hz))
              · show In B w (n + 1) ((4, x.1.2.1, x.1.2.2), (x.2.1.1, x.2.1.2), x.2.2)
                rw [← h4]
                exact hx
            · rw [e2] at hi2
              have hl := isW_len2 e2
              have hp' := hp
              rcases hp with hp | ⟨pb, po, hpa, hpb, hp⟩
              · rw [hp] at hl; simp at hl
              · obtain ⟨y, hy⟩ : ∃ y, x.2.2[1]? = some y := ⟨x.2.2[1]'(by omega), List.getElem?_eq_getElem _⟩
                obtain ⟨hy1, hy2⟩ := hp 1 y hy
                have hry := hrp y (List.mem_of_getElem? hy)
                have e3 : isW n x.2.2 wAdd 2 = false := isW_len (by omega)
                have eo : tupO m n self (fun y => vl m b self n y) x.2.2 = if closedT n y = true then some (lift (m + n + 1) n y) else none := by simp [tupO, e1, e2, e3, hy]
                rw [eo]
                cases n with
                | zero => exact hy1.elim
                | succ n =>
                rw [show x.2.2.length = 2 by omega, hpa] at hi1 hi2 ⊢
                have hh := dv_put self x.1.2.1 x.1.2.2 pb po x.2.1.2 a c w y.1.1 y.1.2.1 y.1.2.2 y.2.1.1 y.2.2.length y.2.1.2 (closedT (n + 1) y) (by omega) (by simpa [Held] using hy1) hi1 hi2 (fun w1 h1 => by
                  rw [closed_eq]
                  exact rclosed_any (n + 1) y B w1 (hy2.below (h1.mono hB)) (Nat.le_trans hB h1.size) (hNp y (List.mem_of_getElem? hy)))
                refine hh.mono ?_
                rintro e w' ⟨rfl, hbl⟩
                exact hold n y (closedT (n + 1) y) _ w' (by omega) hy2 hry hbl rfl
          · rw [e1] at hi1
            refine (dv_self self x.1.2.1 x.1.2.2 x.2.1.1 x.2.2.length x.2.1.2 a c w hi1).mono ?_
            rintro e w' ⟨rfl, hbl⟩
            have eo : tupO m n self (fun y => vl m b self n y) x.2.2 = some (leafV 3 self (m + n)) := by simp [tupO, e1]
            rw [eo]
            exact ⟨leafV 3 self (m + n), true, rfl, hbl, (leaf_out (m + n) 3 self (by simp [I64]) ⟨by omega, by omega⟩ _ _ (fun _ => True)).1, (leaf_out (m + n) 3 self (by simp [I64]) ⟨by omega, by omega⟩ 0 w _).2, rfl, fun z hz => by obtain rfl := Option.some.inj hz; exact leaf_same (m + n) 3 self⟩
        · have hh := dv_leaf self x.1.1 x.1.2.1 x.1.2.2 x.2.1.1 x.2.2.length x.2.1.2 a c w h4 h5 h6
          refine hh.mono ?_
          rintro e w' ⟨rfl, hbl⟩
          exact hold n x true _ w' (by omega) hx hr hbl (vl_leaf m b self n x h4 h5 h6)
end Go.Proofs.Ytfaoeccnhbcjgaa
