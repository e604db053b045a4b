/- What is proved here: plain facts for ReckonCloses: the value of a right term is closed; sums don't hang on the order; what is put is itself. No condition but that terms are right. -/
import Derived.Test.YtfaoeccnhbcjgabVl7
import Derived.Test.YtfaoeccnhbcjgabMB0
namespace Go.Proofs.Ytfaoeccnhbcjgab
open Go.RowKit

theorem lift_closed : (N n : Nat) → n ≤ N → (x : Tm n) → closedT N (lift N n x) = closedT n x
  | 0, 0, _, _ => rfl
  | _ + 1, 0, _, _ => by simp [lift, closedT]
  | 0, n + 1, h, _ => by omega
  | N + 1, n + 1, h, x => by
    have : (x.2.2.map fun y => lift N n y).all (fun y => closedT N y) = x.2.2.all fun y => closedT n y := by
      rw [List.all_map]
      congr 1
      funext y
      exact lift_closed N n (by omega) y
    simp only [closedT, lift]
    rw [this]
theorem vl_closed (m : Nat) (b : List (Tm m)) (self : Int) (hb : ∀ y ∈ b, kindA ⟨m, y⟩ = 6 ∨ closedT m y = true) : (n : Nat) → (x : Tm n) → RightA ⟨n, x⟩ → (z : Tm (m + n)) → vl m b self n x = some z → closedT (m + n) z = true
  | 0, _, _, _, h => by simp [vl] at h
  | n + 1, x, hr, z, h => by
    have gx := good_parts (hdOf n x) (hr (hdOf n x) (by simp [nodes, hdOf]))
    by_cases h6 : x.1.1 = 6
    · rw [vl_any m b self n x h6] at h; cases h
    · by_cases h5 : x.1.1 = 5
      · simp only [vl, h5, if_true] at h
        obtain ⟨y, hy, h⟩ := Option.bind_eq_some_iff.1 h
        split at h
        · cases h
        · rename_i hk
          obtain rfl := Option.some.inj h
          exact (lift_closed (m + n + 1) m (by omega) y).trans ((hb y (List.mem_of_getElem? hy)).resolve_left hk)
      · by_cases h4 : x.1.1 = 4
        · rw [vl_tup m b self n x h4] at h
          unfold tupO at h
          split at h
          · obtain rfl := Option.some.inj h
            simp [leafV, closedT]
          · split at h
            · obtain ⟨a, ha, h⟩ := Option.bind_eq_some_iff.1 h
              obtain ⟨c, hc, h⟩ := Option.bind_eq_some_iff.1 h
              obtain ⟨a', ha', h⟩ := Option.bind_eq_some_iff.1 h
              obtain ⟨c', hc', h⟩ := Option.bind_eq_some_iff.1 h
              unfold sumV at h
              split at h
              · obtain rfl := Option.some.inj h
                simp [leafV, closedT]
              · cases h
            · split at h
              · obtain ⟨a, ha, h⟩ := Option.bind_eq_some_iff.1 h
                split at h
                · rename_i hcl
                  obtain rfl := Option.some.inj h
                  exact (lift_closed (m + n + 1) n (by omega) a).trans hcl
                · cases h
              · obtain ⟨l, hl, rfl⟩ := Option.map_eq_some_iff.1 h
                obtain ⟨k1, k2⟩ := allV_len _ _ _ hl
                show closedT (m + n + 1) (tupV (m + n) l) = true
                simp only [closedT, tupV]
                simp only [Bool.and_eq_true, List.all_eq_true]
                refine ⟨by decide, fun y hy => ?_⟩
                obtain ⟨i, hi⟩ := List.getElem?_of_mem hy
                have hi2 : i < x.2.2.length := by rw [← k1]; exact (List.getElem?_eq_some_iff.1 hi).1
                exact vl_closed m b self hb n x.2.2[i] (parts_right n x _ hr (List.getElem_mem _)) y (k2 i _ y (List.getElem?_eq_getElem hi2) hi)
        · rw [vl_leaf m b self n x h4 h5 h6] at h
          obtain rfl := Option.some.inj h
          have hp : x.2.2 = [] := List.eq_nil_of_length_eq_zero (gx.2.2.2.2 h4)
          refine (lift_closed (m + n + 1) (n + 1) (by omega) x).trans ?_
          simp [closedT, h5, h6, hp]

theorem sumO_comm {N : Nat} (o1 o2 : Option (Tm N)) : sumO o1 o2 = sumO o2 o1 := by
  cases o1 with
  | none => cases o2 <;> rfl
  | some a =>
    cases o2 with
    | none => rfl
    | some c =>
      have e : sumB N a c = sumB N c a := by
        unfold sumB
        rw [Int.add_comm, Bool.and_comm (kindA ⟨N, a⟩ == 1)]
      simp only [sumO, Option.bind_some, sumV, e, Int.add_comm]

/-- Tuples that the statements make. -/
def tp3 (g D : Nat) (e0 e1 e2 : Tm D) : Tm (D + 1) := ((4, 0, ⟨#[]⟩), (some ⟨g, 0, none⟩, 3), [e0, e1, e2])
def tp2 (g D : Nat) (e0 e1 : Tm D) : Tm (D + 1) := ((4, 0, ⟨#[]⟩), (some ⟨g, 0, none⟩, 2), [e0, e1])
def wdD (D : Nat) (s : ByteArray) : Tm (D + 1) := lift (D + 1) 1 (wordT s)
theorem wd_kind (D : Nat) (s : ByteArray) : (wdD D s).1 = (2, 0, s) := rfl
theorem isW_add (D : Nat) (e1 e2 : Tm (D + 1)) : isW (D + 1) [wdD D wAdd, e1, e2] wAdd 2 = true := by
  rw [isW_at rfl rfl, wd_kind]
  simp
theorem isW_put (D : Nat) (e1 : Tm (D + 1)) : isW (D + 1) [wdD D wPut, e1] wPut 1 = true := by
  rw [isW_at rfl rfl, wd_kind]
  simp
theorem vl_add (m : Nat) (b : List (Tm m)) (self : Int) (g D : Nat) (e1 e2 : Tm (D + 1)) : vl m b self (D + 1 + 1) (tp3 g (D + 1) (wdD D wAdd) e1 e2) = sumO (vl m b self (D + 1) e1) (vl m b self (D + 1) e2) := by
  rw [vl_tup m b self (D + 1) _ rfl]
  show tupO m (D + 1) self (fun y => vl m b self (D + 1) y) [wdD D wAdd, e1, e2] = _
  have h1 : isW (D + 1) [wdD D wAdd, e1, e2] wSelf 0 = false := isW_len (by simp)
  simp only [tupO, h1, isW_add]
  rfl
theorem vl_put (m : Nat) (b : List (Tm m)) (self : Int) (g D : Nat) (e1 : Tm (D + 1)) (hc : closedT (D + 1) e1 = true) : vl m b self (D + 1 + 1) (tp2 g (D + 1) (wdD D wPut) e1) = some (lift (m + (D + 1) + 1) (D + 1) e1) := by
  rw [vl_tup m b self (D + 1) _ rfl]
  show tupO m (D + 1) self (fun y => vl m b self (D + 1) y) [wdD D wPut, e1] = _
  have h1 : isW (D + 1) [wdD D wPut, e1] wSelf 0 = false := isW_len (by simp)
  have h2 : isW (D + 1) [wdD D wPut, e1] wAdd 2 = false := isW_len (by simp)
  simp only [tupO, h1, h2, isW_put]
  simp [hc]
theorem chk_swap (g g' D : Nat) (e0 e1 e2 : Tm D) : chk (D + 1) (tp3 g D e0 e1 e2) = chk (D + 1) (tp3 g' D e0 e2 e1) := by
  rw [← tchk_chk, ← tchk_chk]
  have h1 : formedB (D + 1) (tp3 g D e0 e1 e2) = formedB (D + 1) (tp3 g' D e0 e2 e1) := by
    have hg : good (hdOf D (tp3 g D e0 e1 e2)) = good (hdOf D (tp3 g' D e0 e2 e1)) := rfl
    simp only [formedB, hg]
    simp only [tp3, List.all_cons, List.all_nil, Bool.and_true]
    rw [Bool.and_comm (formedB D e1)]
  have h2 : dep (D + 1) (tp3 g D e0 e1 e2) = dep (D + 1) (tp3 g' D e0 e2 e1) := by
    simp only [dep, tp3, if_true, List.foldl_cons, List.foldl_nil]
    omega
  have h3 : sz (D + 1) (tp3 g D e0 e1 e2) = sz (D + 1) (tp3 g' D e0 e2 e1) := by
    simp only [sz, tp3, if_true, List.map_cons, List.map_nil, List.sum_cons, List.sum_nil]
    omega
  unfold tchk
  rw [h1, h2, h3]
end Go.Proofs.Ytfaoeccnhbcjgab
