/- What is proved here: plain facts and small contracts for HeapShares: the document's Putable; rows of two and three words; how many words a tuple that is joined often has when it is copied. No condition but sizes. -/
import Derived.Test.YtfaoeccnhbcjgabKp1
import Derived.Test.YtfaoeccnhbcjgabRepW
import Derived.Test.YtfaoeccnhbcjgabVl0
namespace Go.Proofs.Ytfaoeccnhbcjgab
open Go.RowKit Go.Maps

def putC (n : Nat) (x : Tm n) : Int := if chk n x ≠ 0 then chk n x else if closedT n x = false then 5 else 0
set_option maxRecDepth 100000 in
theorem rputable_walk (x0 x1 : Int) (x2 : ByteArray) (xa : Option Addr) (xl xc : Nat) (ck : Int) (cl : Bool) (w : World)
    (HK : Hid (∀ w1, Below w.heap.size w w1 → Calls Try.prog 11 #[.agg #[.int .i64 x0, .int .i64 x1, .string x2, .slice xa xl xc]] w1 fun e w' => e = .returned (.int .i64 ck) ∧ Below w1.heap.size w1 w'))
    (HL : Hid (∀ w1, Below w.heap.size w w1 → Calls Try.prog 30 #[.agg #[.int .i64 x0, .int .i64 x1, .string x2, .slice xa xl xc]] w1 fun e w' => e = .returned (.bool cl) ∧ Below w1.heap.size w1 w')) :
    Calls Try.prog 16 #[.agg #[.int .i64 x0, .int .i64 x1, .string x2, .slice xa xl xc]] w fun e w' => e = .returned (.int .i64 (if ck ≠ 0 then ck else if cl = false then 5 else 0)) ∧ Below w.heap.size w w' := by
  obtain ⟨r, hr⟩ : ∃ r, r = (if ck ≠ 0 then ck else if cl = false then 5 else 0) := ⟨_, rfl⟩
  rw [← hr]
  have HR := hide hr
  clear hr
  go_enter Try.func16, Try.ntmps16
  go_wp2_with fail
  refine (HK.out _ ((Below.refl _ _).alloc (Nat.le_refl _) _)).mono ?_
  rintro e w1 ⟨rfl, hb1⟩
  obtain ⟨⟨t0, t1, t2, t3⟩, _⟩ := boxed hb1
  have HB1 : Hid (Below w.heap.size w w1) := ((Below.refl _ _).alloc (Nat.le_refl _) _).trans (hb1.mono (by simp))
  have hw1 : w.heap.size < w1.heap.size := by have := hb1.size; simp at this; omega
  clear hb1
  by_cases hck : ck = 0
  · have b1 : (ck != 0) = false := by simp [hck]
    have HC := hide hck
    clear hck
    go_wp2_with fail
    refine (HL.out _ HB1.out).mono ?_
    rintro e w2 ⟨rfl, hb2⟩
    have HB2 : Hid (Below w.heap.size w w2) := HB1.out.trans (hb2.mono HB1.out.size)
    clear hb2
    cases cl
    · go_wp2_with fail
      go_ret
      exact ⟨ret_int (by rw [HR.out]; simp [HC.out]), HB2.out⟩
    · go_wp2_with fail
      go_ret
      exact ⟨ret_int (by rw [HR.out]; simp [HC.out]), HB2.out⟩
  · have b1 : (ck != 0) = true := by simpa using hck
    have HC := hide hck
    clear hck
    go_wp2_with fail
    go_ret
    exact ⟨ret_int (by rw [HR.out]; simp [HC.out]), HB1.out⟩
theorem rputable_any (n : Nat) (x : Tm (n + 1)) (B : Nat) (w : World) (hx : In B w (n + 1) x) (hB : B ≤ w.heap.size) (hN : (nodes (n + 1) x).length ≤ 2097152) :
    Calls Try.prog 16 #[val (n + 1) x] w fun e w' => e = .returned (.int .i64 (putC (n + 1) x)) ∧ Below w.heap.size w w' := by
  refine rputable_walk x.1.1 x.1.2.1 x.1.2.2 x.2.1.1 x.2.2.length x.2.1.2 (chk (n + 1) x) (closedT (n + 1) x) w ?_ ?_
  · intro w1 h1
    exact rcheck_any (n + 1) x B w1 (hx.below (h1.mono hB)) (Nat.le_trans hB h1.size) hN
  · intro w1 h1
    rw [closed_eq]
    exact rclosed_any (n + 1) x B w1 (hx.below (h1.mono hB)) (Nat.le_trans hB h1.size) hN
theorem putE_C {n : Nat} {x : Tm n} (h : putE n x 1000 [] ≠ 0) : putE n x 1000 [] = putC n x := by
  unfold putE putC at *
  by_cases h1 : chk n x = 0
  · by_cases h2 : closedT n x = false
    · simp [h1, h2]
    · exfalso
      have h3 := (chk_iff.1 h1).2.2
      apply h
      have : decide (sz n x ≤ 1000 - (([] : List Wd).length : Int)) = true := by simp; omega
      simp only [h1, h2, this]
      simp
  · simp [h1]
set_option maxHeartbeats 1000000 in
theorem rest_m (n m : Int) (hm : 0 < m) (hm2 : m ≤ 1000000) (w : World) : Calls Try.prog 17 #[.int .i64 n, .int .i64 m] w fun e w' => ∃ r, e = .returned (.int .i64 r) ∧ 0 ≤ r ∧ r < m ∧ w' = w := by
  have hne : ¬ m = 0 := by omega
  have h1 : n.tmod m < m := Int.tmod_lt_of_pos n hm
  have h2 : -m < n.tmod m := by
    have := Int.lt_tmod_of_pos n hm
    omega
  go_enter Try.func17, Try.ntmps17
  by_cases h3 : n.tmod m < 0
  · have b3 : decide (n.tmod m < 0) = true := by simpa using h3
    have e : wrap64 (n.tmod m + m) = n.tmod m + m := by unfold wrap64; omega
    go_wp2_with fail
    go_ret
    exact ⟨_, rfl, by omega, by omega, rfl⟩
  · have b3 : decide (n.tmod m < 0) = false := by simpa using h3
    go_wp2_with fail
    go_ret
    exact ⟨_, rfl, by omega, by omega, rfl⟩

theorem two_words (w : World) (a b : Wd) (t : TypeId) : WordsIn (w.alloc (.cells #[.int .i64 a.1, .int .i64 a.2, .int .i64 b.1, .int .i64 b.2] t)) [a, b] (some ⟨w.heap.size, 0, none⟩) := by
  refine Or.inr ⟨w.heap.size, 0, rfl, by simp, fun i v hv => ?_⟩
  match i, hv with
  | 0, hv =>
    have : a = v := by simpa using hv
    subst this
    exact ⟨by simp [go_sem], by simp [go_sem]⟩
  | 1, hv =>
    have : b = v := by simpa using hv
    subst this
    exact ⟨by simp [go_sem], by simp [go_sem]⟩
  | _ + 2, hv => simp at hv
theorem three_words (w : World) (a b c : Wd) (t : TypeId) : WordsIn (w.alloc (.cells #[.int .i64 a.1, .int .i64 a.2, .int .i64 b.1, .int .i64 b.2, .int .i64 c.1, .int .i64 c.2] t)) [a, b, c] (some ⟨w.heap.size, 0, none⟩) := by
  refine Or.inr ⟨w.heap.size, 0, rfl, by simp, fun i v hv => ?_⟩
  match i, hv with
  | 0, hv =>
    have : a = v := by simpa using hv
    subst this
    exact ⟨by simp [go_sem], by simp [go_sem]⟩
  | 1, hv =>
    have : b = v := by simpa using hv
    subst this
    exact ⟨by simp [go_sem], by simp [go_sem]⟩
  | 2, hv =>
    have : c = v := by simpa using hv
    subst this
    exact ⟨by simp [go_sem], by simp [go_sem]⟩
  | _ + 3, hv => simp at hv

theorem cpL_still {f : Wd → List Wd × Went → Wd × List Wd × Went} {S : List Wd × Went} : (l : List Wd) → (∀ v ∈ l, (f v S).2 = S) → (cpL f l S).2 = S
  | [], _ => rfl
  | v :: l, h => by
    simp only [cpL]
    rw [h v (by simp)]
    exact cpL_still l fun u hu => h u (List.mem_cons_of_mem _ hu)
/-- A term laid, then joined k times: copied from the tuple, the term, the tuple again. -/
theorem shares_len (n : Nat) (x : Tm n) (hr : RightA ⟨n, x⟩) (k : Nat) (hk : 0 < k) (us : List Wd) (hus : us = (layF n x [] []).2.1 ++ (0, (k : Int)) :: List.replicate k (layF n x [] []).1) (r : List Wd) (hrl : ∀ v ∈ r, v = (layF n x [] []).1 ∨ v = (4, ((layF n x [] []).2.1.length : Int))) :
    ((rootsR us (n + 1) ((4, ((layF n x [] []).2.1.length : Int)) :: r)).2.1.length : Int) = sz n x + 1 + k := by
  have hp : (layF n x [] []).2.1 <+: us := by rw [hus]; exact List.prefix_append _ _
  have hst : Stands us (layF n x [] []).2.2 n x (layF n x [] []).1 := (layF_stands n x [] [] hr).mono hp (List.prefix_refl _)
  obtain ⟨h1, hno⟩ := lay_cp us n x [] [] ([], []) hp (fun p _ _ => by simp [look])
  have hno2 : look (cpF us n (layF n x [] []).1 ([], [])).2.2 (layF n x [] []).2.1.length = none := by rw [hno _ (Or.inr (Nat.le_refl _))]; simp [look]
  clear hno
  generalize (layF n x [] []).2.2 = nm at *
  generalize (layF n x [] []).1 = v at *
  generalize (layF n x [] []).2.1 = ws at *
  have hat : us[ws.length]? = some (0, (k : Int)) := by rw [hus, List.getElem?_append_right (Nat.le_refl _), Nat.sub_self]; rfl
  have hpp : partsOf us ws.length k = List.replicate k v := by
    have := parts_pre (us := us) (A := ws) (C := List.replicate k v) (h := (0, (k : Int))) (by rw [hus]; exact List.prefix_refl _)
    simpa using this
  obtain ⟨S1, hS1⟩ : ∃ S1, (cpF us n v ([], [])).2 = S1 := ⟨_, rfl⟩
  have hid : (cpF us n v S1).2 = S1 := cpF_idem hst ([], []) S1 (fun p q h => by rw [hS1] at h; exact h)
  have hrep : (cpL (cpF us n) (List.replicate k v) ([], [])).2 = S1 := by
    obtain ⟨j, rfl⟩ : ∃ j, k = j + 1 := ⟨k - 1, by omega⟩
    rw [List.replicate_succ]
    simp only [cpL]
    rw [hS1]
    exact cpL_same hid j
  have hlen : (cpL (cpF us n) (List.replicate k v) ([], [])).1.length = k := by rw [cpL_length]; simp
  have hx := cpF_new (ws := us) (n := n) (p := ws.length) (m := k) (S := ([], [])) (by simp [look]) hat
  rw [hpp, hrep] at hx
  obtain ⟨cs, hcs⟩ : ∃ cs, (cpL (cpF us n) (List.replicate k v) ([], [])).1 = cs := ⟨_, rfl⟩
  rw [hcs] at hx hlen
  have h2 : (cpF us (n + 1) (4, (ws.length : Int)) ([], [])).2 = (S1.1 ++ (0, (k : Int)) :: cs, (ws.length, S1.1.length) :: S1.2) := by rw [hx]
  have hkeep : ∀ p q, look S1.2 p = some q → look ((ws.length, S1.1.length) :: S1.2) p = some q := by
    intro p q h
    by_cases e : p = ws.length
    · exfalso
      have hf : look S1.2 ws.length = none := by rw [← hS1]; exact hno2
      rw [e, hf] at h
      cases h
    · rw [look_other _ _ e]; exact h
  have hr2 : (cpL (cpF us (n + 1)) r (S1.1 ++ (0, (k : Int)) :: cs, (ws.length, S1.1.length) :: S1.2)).2 = (S1.1 ++ (0, (k : Int)) :: cs, (ws.length, S1.1.length) :: S1.2) := by
    refine cpL_still r ?_
    intro v' hv'
    rcases hrl v' hv' with rfl | rfl
    · rw [cpF_deep n (n + 1) (by omega) x v' _ hst]
      exact cpF_idem hst ([], []) _ (fun p q h => hkeep p q (by rw [hS1] at h; exact h))
    · rw [cpF_old (q := S1.1.length) (look_same _ _ _)]
  have hfin : (rootsR us (n + 1) ((4, (ws.length : Int)) :: r)).2.1 = S1.1 ++ (0, (k : Int)) :: cs := by
    unfold rootsR
    simp only [cpL]
    rw [h2, hr2]
  rw [hfin]
  rw [hS1] at h1
  simp only [List.length_append, List.length_cons, hlen]
  simp at h1
  omega
end Go.Proofs.Ytfaoeccnhbcjgab
