/- What is proved here: clerkkeep.HeapShares of a term that lies in memory, and a number, returns true, and turns no memory that was there. Condition: at most 2097152 terms in it. -/
import Derived.Test.YtpehdgbdinjbaabG16
import Derived.Deep.RegionHeld3
import Derived.Deep.DeepCutAuto
namespace Go.Proofs.Ytpehdgbdinjbaab
open Go.RowKit Go.Maps

theorem offlow {B : Nat} {w : World} : {n : Nat} → {x : Tm n} → In B w n x → Off (fun b => b < B) n x
  | 0, _, k => k
  | _ + 1, _, k => by
    obtain ⟨_, k1⟩ := k
    rcases k1 with k1 | ⟨b, o, e, hb, k1⟩
    · exact Or.inl k1
    · exact Or.inr ⟨b, o, e, hb, fun i y hy => offlow (k1 i y hy).2⟩
theorem tup_nodes {n k : Nat} {x : Tm n} : (nodes (n + 1) (tupT n (List.replicate k x))).length = 1 + k * (nodes n x).length := by
  have : ((List.replicate k x).flatMap fun y => nodes n y).length = k * (nodes n x).length := by
    induction k with
    | zero => simp
    | succ k ih => rw [List.replicate_succ, List.flatMap_cons, List.length_append, ih, Nat.succ_mul]; omega
  simp only [nodes, tupT, List.length_cons, this]
  omega
theorem roots_copies {ws : List Wd} {nm : List ByteArray} {n : Nat} {vs : List Wd} {p : List (Tm n)} (h : StandL ws nm n vs p) : (rootsR ws n vs).1.length = vs.length ∧ ∀ (i : Nat) (y : Tm n) (c : Wd), p[i]? = some y → (rootsR ws n vs).1[i]? = some c → Stands (rootsR ws n vs).2.1 nm n y c := by
  obtain ⟨_, _, h3, h4⟩ := cpL_copies (fun x v S hh => cpF_copies n x v S hh) vs p ([], []) h (inv_nil ws nm)
  refine ⟨h3.symm, fun i y c hy hc => ?_⟩
  have hi : i < vs.length := by rw [h.1]; exact (List.getElem?_eq_some_iff.1 hy).1
  exact h4 i vs[i] c (List.getElem?_eq_getElem hi) hc n y (h.2 i vs[i] y (List.getElem?_eq_getElem hi) hy)

theorem tup_right {n k : Nat} {x : Tm n} (hr : RightA ⟨n, x⟩) (hk : k ≤ 8) : RightA ⟨n + 1, tupT n (List.replicate k x)⟩ := by
  refine right_mk (N := n) ?_ fun y hy => ?_
  · have : ((List.replicate k x).length : Int) ≤ 8 := by simp; omega
    simp [good, tupT, hdOf]
    omega
  · rw [List.eq_of_mem_replicate hy]
    exact hr
theorem tup_closed {n k : Nat} {x : Tm n} (hc : closedT n x = true) : closedT (n + 1) (tupT n (List.replicate k x)) = true := by
  simp only [closedT, tupT, Bool.and_eq_true, List.all_eq_true]
  refine ⟨by decide, fun y hy => ?_⟩
  rw [List.eq_of_mem_replicate hy]
  exact hc
theorem join_large {n k : Nat} {x : Tm n} {ws : List Wd} (hr : RightA ⟨n, x⟩) (hk : k ≤ 8) (hw : ws.length ≤ 200) : joinE n (List.replicate k x) 1000 ws = chk (n + 1) (tupT n (List.replicate k x)) ∧ (joinE n (List.replicate k x) 1000 ws ≠ 0 → joinE n (List.replicate k x) 1000 ws = 2) := by
  have h1 : decide (1 + ((List.replicate k x).length : Int) ≤ 1000 - ws.length) = true := by simp; omega
  have e : joinE n (List.replicate k x) 1000 ws = chk (n + 1) (tupT n (List.replicate k x)) := by simp only [joinE, h1]; rfl
  refine ⟨e, fun h => ?_⟩
  rw [e] at h ⊢
  rw [← tchk_chk] at h ⊢
  unfold tchk at h ⊢
  rw [if_pos (right_formed.1 (tup_right hr hk))] at h ⊢
  split at h
  · rename_i h2
    rw [if_pos h2]
  · exact absurd rfl h
theorem tup_stands {n k : Nat} {x : Tm n} {ws : List Wd} {nm : List ByteArray} {v : Wd} (h : Stands ws nm n x v) : Stands (ws ++ (0, (k : Int)) :: List.replicate k v) nm (n + 1) (tupT n (List.replicate k x)) (4, (ws.length : Int)) := by
  have hp : ws <+: ws ++ (0, (k : Int)) :: List.replicate k v := List.prefix_append _ _
  refine ⟨fun e => by simp [tupT] at e, fun _ => ⟨ws.length, rfl, ?_, ?_, fun i y hy => ?_⟩, fun _ e => absurd rfl e⟩
  · rw [List.getElem?_append_right (Nat.le_refl _), Nat.sub_self]
    simp [tupT]
  · simp [tupT]; omega
  · have hi : i < k := by have := (List.getElem?_eq_some_iff.1 hy).1; simpa [tupT] using this
    have ey : y = x := List.eq_of_mem_replicate (List.mem_of_getElem? hy)
    refine ⟨v, ?_, by rw [ey]; exact h.mono hp (List.prefix_refl _)⟩
    rw [List.getElem?_append_right (by omega), show ws.length + 1 + i - ws.length = i + 1 by omega]
    simp [hi]
theorem shares_roots {n k : Nat} {x : Tm n} {ws : List Wd} {nm : List ByteArray} {v : Wd} (h : Stands ws nm n x v) (hr : RightA ⟨n, x⟩) (hc : closedT n x = true) (hk : k ≤ 8) (h1 : chk n x = 0) (h2 : chk (n + 1) (tupT n (List.replicate k x)) = 0) :
    Roots (ws ++ (0, (k : Int)) :: List.replicate k v) nm (n + 1) [(4, (ws.length : Int)), v, (4, (ws.length : Int))] [tupT n (List.replicate k x), lift (n + 1) n x, tupT n (List.replicate k x)] ∧
    Roots (ws ++ (0, (k : Int)) :: List.replicate k v) nm (n + 1) [(4, (ws.length : Int)), v] [tupT n (List.replicate k x), lift (n + 1) n x] := by
  have hp : ws <+: ws ++ (0, (k : Int)) :: List.replicate k v := List.prefix_append _ _
  have s1 := tup_stands (k := k) h
  have s2 := stands_lift (n + 1) n (by omega) x v (h.mono hp (List.prefix_refl nm))
  have r1 := tup_right hr hk
  have r2 := lift_right (N := n + 1) (by omega) x hr
  have c1 := tup_closed (k := k) hc
  have c2 : closedT (n + 1) (lift (n + 1) n x) = true := by rw [same_closed _ _ _ _ (lift_same (n + 1) n (by omega) x hr)]; exact hc
  have z1 := (chk_iff.1 h2).2.2
  have z2 : sz (n + 1) (lift (n + 1) n x) ≤ 200 := by rw [same_sz _ _ _ _ (lift_same (n + 1) n (by omega) x hr)]; exact (chk_iff.1 h1).2.2
  have n1 := chk_nlen h2
  have n2 : (nodes (n + 1) (lift (n + 1) n x)).length ≤ 201 := Nat.le_trans (lift_nlen (n + 1) n (by omega) x) (chk_nlen h1)
  refine ⟨⟨⟨rfl, fun i u y hu hy => ?_⟩, fun y hy => ?_, fun y hy => ?_, ?_, ?_, by simp⟩, ⟨⟨rfl, fun i u y hu hy => ?_⟩, fun y hy => ?_, fun y hy => ?_, ?_, ?_, by simp⟩⟩
  · match i, hu, hy with
    | 0, hu, hy => simp at hu hy; subst hu hy; exact s1
    | 1, hu, hy => simp at hu hy; subst hu hy; exact s2
    | 2, hu, hy => simp at hu hy; subst hu hy; exact s1
    | _ + 3, hu, _ => simp at hu
  · simp at hy; rcases hy with rfl | rfl | rfl <;> assumption
  · simp at hy; rcases hy with rfl | rfl | rfl <;> assumption
  · simp only [List.map_cons, List.map_nil, List.sum_cons, List.sum_nil]; omega
  · simp only [List.flatMap_cons, List.flatMap_nil, List.length_append, List.length_nil]; omega
  · match i, hu, hy with
    | 0, hu, hy => simp at hu hy; subst hu hy; exact s1
    | 1, hu, hy => simp at hu hy; subst hu hy; exact s2
    | _ + 2, hu, _ => simp at hu
  · simp at hy; rcases hy with rfl | rfl <;> assumption
  · simp at hy; rcases hy with rfl | rfl <;> assumption
  · simp only [List.map_cons, List.map_nil, List.sum_cons, List.sum_nil]; omega
  · simp only [List.flatMap_cons, List.flatMap_nil, List.length_append, List.length_nil]; omega


def repT (n g k : Nat) (x : Tm n) : Tm (n + 1) := ((4, 0, ⟨#[]⟩), (some ⟨g, 0, none⟩, k), List.replicate k x)
theorem repT_in {n g k base : Nat} {x : Tm (n + 1)} {w : World} (h : Has base g k (List.replicate k ⟨n + 1, x⟩) w) (hx : In w.heap.size w (n + 1) x) (hk : k ≤ 8) : In w.heap.size w (n + 2) (repT (n + 1) g k x) := by
  refine ⟨⟨by simp [repT, I64], by simp [repT, I64], Nat.zero_le _, by simp [repT], by simp only [repT, maxLen]; omega⟩, Or.inr ⟨g, 0, rfl, h.lt.2, fun i y hy => ?_⟩⟩
  have hi : i < k := by have := (List.getElem?_eq_some_iff.1 hy).1; simpa [repT] using this
  have e : y = x := List.eq_of_mem_replicate (List.mem_of_getElem? hy)
  subst e
  have hc := h.cells i ⟨n + 1, y⟩ (by rw [List.getElem?_replicate, if_pos hi])
  rw [Nat.zero_add]
  exact ⟨hc, hx⟩
theorem repT_same {n g k : Nat} {x : Tm n} (hr : RightA ⟨n, x⟩) : same (n + 1) (tupT n (List.replicate k x)) (n + 1) (repT n g k x) = true :=
  same_mk rfl (sameL_self _ _ fun y hy => by rw [List.eq_of_mem_replicate hy]; exact same_refl n x hr)
theorem rep_box {n k : Nat} (x : Tm (n + 1)) (h0 : 0 < k) (h8 : k ≤ 8) (w : World) :
    Calls Try.prog 26 #[.slice (some ⟨w.heap.size, 0, none⟩) 1 1, .int .i64 k] (w.alloc (.cells #[.int .i64 x.1.1, .int .i64 x.1.2.1, .string x.1.2.2, .slice x.2.1.1 x.2.2.length x.2.1.2] 24)).drew fun e w' => e = .returned (.slice (some ⟨w.heap.size + 1, 0, none⟩) k k) ∧ Hid (Below w.heap.size w w' ∧ Has (w.heap.size + 1) (w.heap.size + 1) k (List.replicate k ⟨n + 1, x⟩) w') := by
  have hs : (w.alloc (.cells #[.int .i64 x.1.1, .int .i64 x.1.2.1, .string x.1.2.2, .slice x.2.1.1 x.2.2.length x.2.1.2] 24)).drew.heap.size = w.heap.size + 1 := by simp
  have h := repeat_any ⟨n + 1, x⟩ k h0 h8 w.heap.size 0 1 (w.alloc (.cells #[.int .i64 x.1.1, .int .i64 x.1.2.1, .string x.1.2.2, .slice x.2.1.1 x.2.2.length x.2.1.2] 24)).drew (by simp) (fun j v hj => by
    rw [add_none]
    have : j < 4 := (List.getElem?_eq_some_iff.1 hj).1
    have h4 : j = 0 ∨ j = 1 ∨ j = 2 ∨ j = 3 := by omega
    rcases h4 with rfl | rfl | rfl | rfl <;> simp [anCells, ndCells, nd4, ndA, hdT, hdOf] at hj <;> subst hj <;> simp [go_sem] <;> rfl) (fun w1 => mul_1k k h0 h8 w1)
  rw [hs] at h
  refine h.mono ?_
  rintro e w' ⟨rfl, H⟩
  exact ⟨rfl, ((Below.refl _ _).alloc (Nat.le_refl _) _).drew.trans (H.out.1.mono (by omega)), H.out.2⟩

set_option maxHeartbeats 80000000 in
set_option maxRecDepth 100000 in
theorem hshares_walk (n : Nat) (x : Tm (n + 1)) (B : Nat) (num : Int) (w : World) (hB : B ≤ w.heap.size) (HX : Hid (In B w (n + 1) x)) (HNX : Hid ((nodes (n + 1) x).length ≤ 2097152)) :
    Calls Try.prog 4 #[.agg #[.int .i64 x.1.1, .int .i64 x.1.2.1, .string x.1.2.2, .slice x.2.1.1 x.2.2.length x.2.1.2], .int .i64 num] w fun e w' => e = .returned (.bool true) ∧ Below w.heap.size w w' := by
  go_enter Try.func4, Try.ntmps4
  go_wp2_with fail
  refine (kept_any _).mono ?_
  rintro e w1 ⟨rfl, hb1⟩
  obtain ⟨⟨t0, t1, t2, t3⟩, _⟩ := boxed hb1
  have HB1 : Hid (Below w.heap.size w w1) := ((Below.refl _ _).alloc (Nat.le_refl _) _).trans (hb1.mono (by simp))
  have hw1 : w.heap.size < w1.heap.size := by have := hb1.size; simp at this; omega
  clear hb1
  go_wp2_with fail
  refine (new_any 1000 _).mono ?_
  rintro e w2 ⟨_, h2⟩
  obtain ⟨rfl, hn⟩ := h2 (by decide)
  have HH2 := hide (HpS.new (Below.refl w1.heap.size w1) hn)
  clear h2 hn
  have HIX : Hid (∀ wk, Below w1.heap.size w1 wk → In wk.heap.size wk (n + 1) x ∧ Off (fun b => b < w1.heap.size) (n + 1) x) := by
    intro wk hk
    have h1 := HX.out.below (HB1.out.mono hB)
    refine ⟨(h1.below (hk.mono (by omega))).mono (by have := hk.size; omega), (offlow h1).mono fun b hb => by omega⟩
  have HP2 := hide (hput_any (n + 1) x w1.heap.size w1.heap.size 1000 [] [] (fun b => b = w1.heap.size) w2 HH2.out.2.1 (HIX.out w2 HH2.out.1).1 ((HIX.out w2 HH2.out.1).2.mono fun b hb => by omega) HNX.out HH2.out.1.size (by decide) (by decide) (by decide) (by decide))
  have ex : val (n + 1) x = .agg #[.int .i64 x.1.1, .int .i64 x.1.2.1, .string x.1.2.2, .slice x.2.1.1 x.2.2.length x.2.1.2] := rfl
  rw [ex] at HP2
  have hcc2 := below_cells HH2.out.1
  replace t0 := (hcc2 _ _ hw1).trans t0
  replace t1 := (hcc2 _ _ hw1).trans t1
  replace t2 := (hcc2 _ _ hw1).trans t2
  replace t3 := (hcc2 _ _ hw1).trans t3
  clear ex hcc2
  go_wp2_with fail
  refine HP2.out.mono ?_
  rintro e w3 ⟨h3a, h3b⟩
  by_cases hpe : putE (n + 1) x 1000 [] = 0
  case neg =>
    obtain ⟨rfl, hb3⟩ := h3a hpe
    have hcc3 := below_cells hb3
    have hw2 : w.heap.size < w2.heap.size := Nat.lt_of_lt_of_le hw1 HH2.out.1.size
    replace t0 := (hcc3 _ _ hw2).trans t0
    replace t1 := (hcc3 _ _ hw2).trans t1
    replace t2 := (hcc3 _ _ hw2).trans t2
    replace t3 := (hcc3 _ _ hw2).trans t3
    have hw3 : w.heap.size < w3.heap.size := Nat.lt_of_lt_of_le hw2 hb3.size
    have HB3 := hide (HH2.out.1.trans (hb3.mono HH2.out.1.size))
    obtain ⟨pe, hpe2⟩ : ∃ pe, putE (n + 1) x 1000 [] = pe := ⟨_, rfl⟩
    have HPU : Hid (∀ wk, Below w3.heap.size w3 wk → Calls Try.prog 17 #[.agg #[.int .i64 x.1.1, .int .i64 x.1.2.1, .string x.1.2.2, .slice x.2.1.1 x.2.2.length x.2.1.2]] wk fun e w' => e = .returned (.int .i64 pe) ∧ Below wk.heap.size wk w') := by
      intro wk hk
      have h := rputable_any n x wk.heap.size wk (HIX.out wk (HB3.out.trans (hk.mono HB3.out.size))).1 (Nat.le_refl _) HNX.out
      rw [← putE_C hpe, hpe2] at h
      exact h
    rw [hpe2] at hpe ⊢
    have b1 : (pe != 0) = true := by simpa using hpe
    have b2 : (pe == pe) = true := by simp
    have ev : wdV (0, 0) = .agg #[.int .i64 0, .int .i64 0] := rfl
    rw [ev]
    clear h3a h3b hpe hpe2 hcc3 HP2 hb3 ev
    go_wp2_with fail
    refine (HPU.out _ ((Below.refl _ _).alloc (Nat.le_refl _) _)).mono ?_
    rintro e w4 ⟨rfl, hb4⟩
    have HB4 : Hid (Below w.heap.size w w4) := (HB1.out.trans (HB3.out.mono HB1.out.size)).trans ((((Below.refl w3.heap.size w3).alloc (Nat.le_refl _) _).trans (hb4.mono (by simp))).mono (Nat.le_trans HB1.out.size HB3.out.size))
    clear hb4
    go_wp2_with fail
    go_ret
    exact ⟨rfl, HB4.out⟩
  obtain ⟨⟨hck, hcl, hszle⟩, rfl, hl3⟩ := h3b hpe
  have HH3 := hide (HH2.out.laid hl3)
  have HTX : Hid (w1.cell? ⟨w.heap.size, 0, none⟩ = some (.int .i64 x.1.1) ∧ w1.cell? ⟨w.heap.size, 1, none⟩ = some (.int .i64 x.1.2.1) ∧ w1.cell? ⟨w.heap.size, 2, none⟩ = some (.string x.1.2.2) ∧ w1.cell? ⟨w.heap.size, 3, none⟩ = some (.slice x.2.1.1 x.2.2.length x.2.1.2)) := by
    have hcc := fun o => below_cells HH2.out.1 w.heap.size o hw1
    exact ⟨(hcc 0).symm.trans t0, (hcc 1).symm.trans t1, (hcc 2).symm.trans t2, (hcc 3).symm.trans t3⟩
  have HTC : Hid (∀ wk, Below w1.heap.size w1 wk → (wk.cell? ⟨w.heap.size, 0, none⟩ = some (.int .i64 x.1.1) ∧ wk.cell? ⟨w.heap.size, 1, none⟩ = some (.int .i64 x.1.2.1) ∧ wk.cell? ⟨w.heap.size, 2, none⟩ = some (.string x.1.2.2) ∧ wk.cell? ⟨w.heap.size, 3, none⟩ = some (.slice x.2.1.1 x.2.2.length x.2.1.2)) ∧ w.heap.size < wk.heap.size) :=
    fun wk hk => ⟨cells_nx hw1 hk HTX.out, Nat.lt_of_lt_of_le hw1 hk.size⟩
  have hrx : RightA ⟨n + 1, x⟩ := right_formed.2 (chk_iff.1 hck).1
  have HRX := hide hrx
  have HCK := hide hck
  have HCL := hide hcl
  have HSL := hide (fun k hk us hus r hrl => shares_len (n + 1) x hrx k hk us hus r hrl)
  have HST := hide (layF_stands (n + 1) x [] [] hrx)
  have hsz := layF_sizes (n + 1) x [] []
  simp only [List.length_nil] at hsz
  have hn201 := chk_nlen hck
  have hs200 := (chk_iff.1 hck).2.2
  generalize (layF (n + 1) x [] []).2.1 = ws at *
  generalize (layF (n + 1) x [] []).2.2 = nm at *
  generalize (layF (n + 1) x [] []).1 = v at *
  obtain ⟨M3, hM3⟩ : ∃ M3 : Nat → Prop, HpS w1 w1.heap.size 1000 ws nm M3 w3 ∧ ∀ b, M3 b → b < w3.heap.size := ⟨_, HH3.out, fun b hb => (HH3.out.2.2 b hb).2⟩
  have HM3 := hide hM3
  obtain ⟨hsz1, hsz2⟩ := hsz
  have hws : ws.length ≤ 200 := by omega
  have hnm : nm.length ≤ 201 := by omega
  have HSZ := hide hsz1
  have ev : wdV v = .agg #[.int .i64 v.1, .int .i64 v.2] := rfl
  rw [ev]
  clear h3a h3b hpe hl3 HH3 hM3 hck hcl hszle hrx hsz1 hsz2 hs200 ev HP2 HH2 t0 t1 t2 t3 HTX
  go_wp2_with fail
  refine (rest_m num 8 (by decide) (by decide) _).mono ?_
  rintro e w4 ⟨r, rfl, hr0, hr1, rfl⟩
  obtain ⟨kk, hkk⟩ : ∃ kk : Nat, (kk : Int) = 1 + r := ⟨(1 + r).toNat, by omega⟩
  have ew : IntKind.i64.wrap (1 + r) = (kk : Int) := by rw [hkk, IntKind.wrap]; simp [IntKind.bits, IntKind.signed]; omega
  have ew2 : IntKind.i64.wrap r = r := by rw [IntKind.wrap]; simp [IntKind.bits, IntKind.signed]; omega
  have hk1 : 0 < kk := by omega
  have hk8 : kk ≤ 8 := by omega
  clear hkk
  have HREP : Hid (∀ (o : Obj), Calls Try.prog 20 #[.slice (some ⟨w3.heap.size + 1, 0, none⟩) 1 1, .int .i64 kk] ((w3.alloc o).alloc (.cells #[.int .i64 v.1, .int .i64 v.2] 37)) fun e w' => e = .returned (.slice (some ⟨w3.heap.size + 1 + 1, 0, none⟩) kk kk) ∧ Hid (Below w3.heap.size w3 w' ∧ w'.heap[w3.heap.size]? = some o ∧ WordsIn w' (List.replicate kk v) (some ⟨w3.heap.size + 1 + 1, 0, none⟩))) := by
    intro o
    have es : (w3.alloc o).heap.size = w3.heap.size + 1 := by simp
    have es2 : ((w3.alloc o).alloc (.cells #[.int .i64 v.1, .int .i64 v.2] 37)).heap.size = w3.heap.size + 1 + 1 := by simp
    have h := repeat_anyW v kk hk1 hk8 (w3.heap.size + 1) 0 1 ((w3.alloc o).alloc (.cells #[.int .i64 v.1, .int .i64 v.2] 37)) (by simp) (by
      intro j u hj
      have h2 := two_news (w3.alloc o) v j u (by simpa [wCells] using hj)
      rw [es] at h2
      exact h2) (fun w1 => mul_1k kk hk1 hk8 w1)
    rw [es2] at h
    refine h.mono ?_
    rintro e w' ⟨rfl, H⟩
    have hb : Below w3.heap.size w3 ((w3.alloc o).alloc (.cells #[.int .i64 v.1, .int .i64 v.2] 37)) := ((Below.refl _ _).alloc (Nat.le_refl _) _).alloc (by simp) _
    have hH := H.out.2
    unfold HasW at hH
    simp only [List.length_replicate] at hH
    rw [← es2] at H
    refine ⟨rfl, hb.trans (H.out.1.mono hb.size), ?_, (words_row hH).1⟩
    rw [H.out.1.block w3.heap.size (by simp; omega)]
    exact ((Below.refl (w3.alloc o).heap.size (w3.alloc o)).alloc (Nat.le_refl _) _).block w3.heap.size (by simp) |>.trans (heap_alloc_new w3 o)
  go_wp2_with fail
  refine (HREP.out _).mono ?_
  rintro e w6 ⟨rfl, H6⟩
  have HH6 := hide (HM3.out.1.later H6.out.1)
  have HWB := hide H6.out.2.1
  have hxin : ∀ y ∈ List.replicate kk x, y = x := fun y hy => List.eq_of_mem_replicate hy
  have HJ6 := hide (hjoin_any (n + 1) (List.replicate kk x) (List.replicate kk v) (some ⟨w3.heap.size + 1 + 1, 0, none⟩) kk w1.heap.size w1.heap.size 1000 ws nm M3 w6 HH6.out.2.1 (by simp) (by simp; omega) HH6.out.1.size (by decide) (by decide) (by omega) (by omega) H6.out.2.2
    (fun b o e hm => by injection e with e; injection e with e1 _; subst e1; have := HM3.out.2 _ hm; omega)
    (fun i y u hy hu => by rw [hxin y (List.mem_of_getElem? hy), List.eq_of_mem_replicate (List.mem_of_getElem? hu)]; exact HST.out)
    (fun y hy => by rw [hxin y hy]; exact HRX.out) (fun y hy => by rw [hxin y hy]; exact HCL.out) (by rw [tup_nodes]; have : kk * (nodes (n + 1) x).length ≤ 8 * 201 := Nat.mul_le_mul hk8 hn201; omega))
  simp only [List.length_replicate] at HJ6
  clear hxin H6 HREP
  go_wp2_with fail
  refine HJ6.out.mono ?_
  rintro e w7 ⟨h7a, h7b⟩
  obtain ⟨hje1, hje2⟩ := join_large (ws := ws) HRX.out hk8 hws
  by_cases hje : joinE (n + 1) (List.replicate kk x) 1000 ws = 0
  case neg =>
    obtain ⟨rfl, hb7⟩ := h7a hje
    rw [hje2 hje]
    have HB7 : Hid (∀ o : Obj, Below w.heap.size w (w7.alloc o)) := fun o => by
      have h1 := (HB1.out.trans (HH6.out.1.mono HB1.out.size)).trans (hb7.mono (Nat.le_trans HB1.out.size HH6.out.1.size))
      exact h1.alloc h1.size o
    have ev : wdV (0, 0) = .agg #[.int .i64 0, .int .i64 0] := rfl
    rw [ev]
    clear h7a h7b hje hje1 hje2 hb7 ev HJ6
    go_wp2_with fail
    go_ret
    exact ⟨rfl, HB7.out _⟩
  obtain ⟨_, rfl, hl7⟩ := h7b hje
  simp only [List.length_replicate] at hl7
  have HH7 := hide (HH6.out.laid hl7)
  have hlt6 : w3.heap.size < w6.heap.size := (Array.getElem?_eq_some_iff.1 HWB.out).1
  have HWB7 : Hid (w7.heap[w3.heap.size]? = some (.cells #[.int .i64 v.1, .int .i64 v.2] 37)) := (hl7.2.block w3.heap.size hlt6 (fun hm => by have := HM3.out.2 _ hm; omega)).trans HWB.out
  obtain ⟨hR3, hR2⟩ := shares_roots (k := kk) HST.out HRX.out HCL.out hk8 HCK.out (hje1.symm.trans hje)
  have HL3 := hide (HSL.out kk hk1 _ rfl [v, (4, (ws.length : Int))] (fun u hu => by simp at hu; exact hu))
  have HL2 := hide (HSL.out kk hk1 _ rfl [v] (fun u hu => by simp at hu; exact Or.inl hu))
  have hw2l : (ws ++ (0, (kk : Int)) :: List.replicate kk v).length ≤ 1000 := by simp; omega
  have HR3 := hide hR3
  have HR2 := hide hR2
  obtain ⟨ws2, hws2⟩ : ∃ ws2, ws ++ (0, (kk : Int)) :: List.replicate kk v = ws2 := ⟨_, rfl⟩
  rw [hws2] at HH7 HR3 HR2 HL3 HL2 hw2l
  obtain ⟨M7, hM7⟩ : ∃ M7 : Nat → Prop, HpS w1 w1.heap.size 1000 ws2 nm M7 w7 := ⟨_, HH7.out⟩
  have HM7 := hide hM7
  have ev : wdV (4, (ws.length : Int)) = .agg #[.int .i64 4, .int .i64 ws.length] := rfl
  rw [ev]
  obtain ⟨c0, c1⟩ : w7.cell? ⟨w3.heap.size, 0, none⟩ = some (.int .i64 v.1) ∧ w7.cell? ⟨w3.heap.size, 1, none⟩ = some (.int .i64 v.2) := by
    have := HWB7.out
    exact ⟨by simp [World.cell?, this], by simp [World.cell?, this]⟩
  have hlt7 : w3.heap.size < w7.heap.size := (Array.getElem?_eq_some_iff.1 HWB7.out).1
  clear h7a h7b hje hje1 hje2 hl7 hR3 hR2 HH6 HWB hM7 ev HJ6 hlt6 HH7
  have HLV : Hid (∀ o, Calls Try.prog 21 #[.pointer (some ⟨w1.heap.size, 0, none⟩), .slice (some ⟨w7.heap.size + 1, 0, none⟩) 3 3] ((w7.alloc o).alloc (.cells #[.int .i64 4, .int .i64 ws.length, .int .i64 v.1, .int .i64 v.2, .int .i64 4, .int .i64 ws.length] 37)) fun e w' => e = .returned (.tuple #[.int .i64 (sz (n + 1) x + 1 + kk), .int .i64 0]) ∧ Below ((w7.alloc o).alloc (.cells #[.int .i64 4, .int .i64 ws.length, .int .i64 v.1, .int .i64 v.2, .int .i64 4, .int .i64 ws.length] 37)).heap.size ((w7.alloc o).alloc (.cells #[.int .i64 4, .int .i64 ws.length, .int .i64 v.1, .int .i64 v.2, .int .i64 4, .int .i64 ws.length] 37)) w') := by
    intro o
    have es : (w7.alloc o).heap.size = w7.heap.size + 1 := by simp
    rw [← es]
    have hh := (HM7.out.later ((Below.refl _ _).alloc (Nat.le_refl _) o)).later ((Below.refl _ _).alloc (Nat.le_refl _) (.cells #[.int .i64 4, .int .i64 ws.length, .int .i64 v.1, .int .i64 v.2, .int .i64 4, .int .i64 ws.length] 37))
    have h := hlive_any (n + 2) _ [(4, (ws.length : Int)), v, (4, (ws.length : Int))] (some ⟨(w7.alloc o).heap.size, 0, none⟩) 3 w1.heap.size w1.heap.size 1000 ws2 nm M7 _ hh.2.1 HR3.out (three_words (w7.alloc o) _ _ _ _) (by simp) hw2l (by omega)
    rw [HL3.out] at h
    exact h
  go_wp2_with fail
  refine (HLV.out _).mono ?_
  rintro e w8 ⟨rfl, hb8⟩
  have HB78 : Hid (Below w7.heap.size w7 w8) := by
    have h1 : Below w7.heap.size w7 ((w7.alloc (.cells #[.int .i64 4, .int .i64 ws.length] 37)).alloc (.cells #[.int .i64 4, .int .i64 ws.length, .int .i64 v.1, .int .i64 v.2, .int .i64 4, .int .i64 ws.length] 37)) := ((Below.refl _ _).alloc (Nat.le_refl _) _).alloc (by simp) _
    exact h1.trans (hb8.mono h1.size)
  have HM8 := hide (HM7.out.later HB78.out)
  have HXB8 : Hid (w8.heap[w7.heap.size]? = some (.cells #[.int .i64 4, .int .i64 ws.length] 37)) := by
    have h1 : ((w7.alloc (.cells #[.int .i64 4, .int .i64 ws.length] 37)).alloc (.cells #[.int .i64 4, .int .i64 ws.length, .int .i64 v.1, .int .i64 v.2, .int .i64 4, .int .i64 ws.length] 37)).heap[w7.heap.size]? = _ := (((Below.refl _ _).alloc (Nat.le_refl _) _).block w7.heap.size (by simp)).trans (heap_alloc_new w7 _)
    exact (hb8.block w7.heap.size (by simp; omega)).trans h1
  replace c0 := (below_cells HB78.out _ _ hlt7).trans c0
  replace c1 := (below_cells HB78.out _ _ hlt7).trans c1
  obtain ⟨d0, d1⟩ : w8.cell? ⟨w7.heap.size, 0, none⟩ = some (.int .i64 4) ∧ w8.cell? ⟨w7.heap.size, 1, none⟩ = some (.int .i64 ws.length) := by
    have := HXB8.out
    exact ⟨by simp [World.cell?, this], by simp [World.cell?, this]⟩
  have hlt8 : w3.heap.size < w8.heap.size := Nat.lt_of_lt_of_le hlt7 HB78.out.size
  have hlt87 : w7.heap.size < w8.heap.size := (Array.getElem?_eq_some_iff.1 HXB8.out).1
  obtain ⟨hcp1, hcp2⟩ := roots_copies HR2.out.1
  obtain ⟨ca, cb, hcab⟩ : ∃ ca cb, (rootsR ws2 (n + 2) [(4, (ws.length : Int)), v]).1 = [ca, cb] := by
    match h : (rootsR ws2 (n + 2) [(4, (ws.length : Int)), v]).1, hcp1 with
    | [ca, cb], _ => exact ⟨ca, cb, rfl⟩
  have HSA : Hid (Stands (rootsR ws2 (n + 2) [(4, (ws.length : Int)), v]).2.1 nm (n + 2) (tupT (n + 1) (List.replicate kk x)) ca) := hcp2 0 _ ca rfl (by rw [hcab]; rfl)
  have HSB : Hid (Stands (rootsR ws2 (n + 2) [(4, (ws.length : Int)), v]).2.1 nm (n + 2) (lift (n + 2) (n + 1) x) cb) := hcp2 1 _ cb rfl (by rw [hcab]; rfl)
  have HCO : Hid (Calls Try.prog 22 #[.pointer (some ⟨w1.heap.size, 0, none⟩), .slice (some ⟨w8.heap.size, 0, none⟩) 2 2] (w8.alloc (.cells #[.int .i64 4, .int .i64 ws.length, .int .i64 v.1, .int .i64 v.2] 37)) fun e w' => ∃ g, e = .returned (.tuple #[.slice (some ⟨g, 0, none⟩) 2 2, .int .i64 0]) ∧ Hid ((∃ M9, HpS w1 w1.heap.size 1000 (rootsR ws2 (n + 2) [(4, (ws.length : Int)), v]).2.1 nm M9 w' ∧ ¬ M9 g) ∧ WordsIn w' [ca, cb] (some ⟨g, 0, none⟩))) := by
    have hh := HM8.out.later ((Below.refl _ _).alloc (Nat.le_refl _) (.cells #[.int .i64 4, .int .i64 ws.length, .int .i64 v.1, .int .i64 v.2] 37))
    refine (hcollect_any (n + 2) _ [(4, (ws.length : Int)), v] (some ⟨w8.heap.size, 0, none⟩) 2 w1.heap.size w1.heap.size 1000 ws2 nm M7 _ hh.2.1 HR2.out (two_words w8 _ _ _) (fun b' o' e => by injection e with e; injection e with e1 _; subst e1; simp) hh.1.size hw2l (by omega)).mono ?_
    rintro e w' ⟨g, rfl, H⟩
    refine ⟨g, rfl, ⟨_, hh.coll H.out, fun hm => hm.1.2 rfl⟩, ?_⟩
    rw [← hcab]
    exact H.out.2.2.1
  clear hb8 hcp1 hcp2 hcab HLV HM7 HR3 HR2
  go_wp2_with fail
  refine HCO.out.mono ?_
  rintro e w9 ⟨g9, rfl, H9⟩
  obtain ⟨M9, hM9⟩ := H9.out.1
  have HM9 := hide hM9.1
  have hwi := H9.out.2
  obtain ⟨b9, o9, e9, hb9, hc9⟩ : ∃ b o, some (⟨g9, 0, none⟩ : Addr) = some ⟨b, o, none⟩ ∧ b < w9.heap.size ∧ ∀ (i : Nat) (u : Wd), [ca, cb][i]? = some u → w9.cell? ⟨b, o + i * 2, none⟩ = some (.int .i64 u.1) ∧ w9.cell? ⟨b, o + i * 2 + 1, none⟩ = some (.int .i64 u.2) := by
    rcases hwi with h | h
    · cases h
    · exact h
  injection e9 with e9
  injection e9 with e9 e10
  subst e9 e10
  obtain ⟨p0, p1⟩ := hc9 0 ca rfl
  obtain ⟨p2, p3⟩ := hc9 1 cb rfl
  simp only [Nat.zero_mul, Nat.zero_add, Nat.one_mul] at p0 p1 p2 p3
  have HPC : Hid (w9.cell? ⟨g9, 2, none⟩ = some (.int .i64 cb.1) ∧ w9.cell? ⟨g9, 2 + 1, none⟩ = some (.int .i64 cb.2)) := ⟨p2, p3⟩
  obtain ⟨⟨k0, k1, k2, k3⟩, hltk⟩ := HTC.out w9 HM9.out.1
  have HSI : Hid (∀ wk, Below w9.heap.size w9 wk → Calls Try.prog 23 #[.agg #[.int .i64 x.1.1, .int .i64 x.1.2.1, .string x.1.2.2, .slice x.2.1.1 x.2.2.length x.2.1.2]] wk fun e w' => e = .returned (.int .i64 (sz (n + 1) x)) ∧ Below wk.heap.size wk w') := by
    intro wk hk
    exact rsize_any (n + 1) x wk.heap.size wk (HIX.out wk (HM9.out.1.trans (hk.mono HM9.out.1.size))).1 (Nat.le_refl _) HNX.out
  have HUS : Hid (∀ wk, Below w9.heap.size w9 wk → Calls Try.prog 24 #[.pointer (some ⟨w1.heap.size, 0, none⟩)] wk fun e w' => e = .returned (.int .i64 (sz (n + 1) x + 1 + kk)) ∧ w' = wk) := by
    intro wk hk
    have h := hused_any (HM9.out.later hk).2.1
    rw [HL2.out] at h
    exact h
  obtain ⟨s, hs⟩ : ∃ s, sz (n + 1) x = s := ⟨_, rfl⟩
  have hs0 : 0 ≤ s ∧ s ≤ 200 := ⟨by rw [← hs]; exact (sz_bound (n + 1) x).1, by rw [← hs]; exact (chk_iff.1 HCK.out).2.2⟩
  have hl9 : ((rootsR ws2 (n + 2) [(4, (ws.length : Int)), v]).2.1.length : Int) = s + 1 + kk := by rw [HL2.out, hs]
  rw [hs] at HSI HUS ⊢
  have es1 : IntKind.i64.wrap (s + 1) = s + 1 := by rw [IntKind.wrap]; simp [IntKind.bits, IntKind.signed]; omega
  have es2 : IntKind.i64.wrap (s + 1 + (kk : Int)) = s + 1 + (kk : Int) := by rw [IntKind.wrap]; simp [IntKind.bits, IntKind.signed]; omega
  have bs : ((s + 1 + (kk : Int)) != (s + 1 + (kk : Int))) = false := by simp
  clear H9 hwi hc9 hM9 HCO HM8 c0 c1 d0 d1 hs HXB8 HWB7
  go_wp2_with fail
  refine (HSI.out _ (Below.refl _ _)).mono ?_
  rintro e w10 ⟨rfl, hb10⟩
  have HM10 := hide (HM9.out.later hb10)
  have hcc10 := below_cells hb10
  replace p0 := (hcc10 _ _ hb9).trans p0
  replace p1 := (hcc10 _ _ hb9).trans p1
  have HPC10 : Hid (w10.cell? ⟨g9, 2, none⟩ = some (.int .i64 cb.1) ∧ w10.cell? ⟨g9, 2 + 1, none⟩ = some (.int .i64 cb.2)) := ⟨(hcc10 _ _ hb9).trans p2, (hcc10 _ _ hb9).trans p3⟩
  have hb9' : g9 < w10.heap.size := Nat.lt_of_lt_of_le hb9 hb10.size
  have HG : Hid (∀ (u : Wd) (z : Tm (n + 2)), Stands (rootsR ws2 (n + 2) [(4, (ws.length : Int)), v]).2.1 nm (n + 2) z u → RightA ⟨n + 2, z⟩ → closedT (n + 2) z = true → ∀ wk, Below w10.heap.size w10 wk → Calls Try.prog 25 #[.pointer (some ⟨w1.heap.size, 0, none⟩), .agg #[.int .i64 u.1, .int .i64 u.2]] wk fun e w' => ∃ y : Tm (n + 2), e = .returned (.tuple #[val (n + 2) y, .int .i64 0]) ∧ Hid (Below wk.heap.size wk w' ∧ In w'.heap.size w' (n + 2) y ∧ Off (fun q => wk.heap.size ≤ q) (n + 2) y ∧ same (n + 2) y (n + 2) z = true)) := by
    intro u z h1 h2 h3 wk hk
    exact hget_any (n + 2) z u w1.heap.size w1.heap.size 1000 _ nm M9 wk (HM10.out.later hk).2.1 h1 h2 h3 (by omega) (by omega)
  have HUS10 := hide (HUS.out _ hb10)
  clear HUS HSI hcc10 p2 p3 HPC HM9 k0 k1 k2 k3 hltk
  go_wp2_with fail
  refine HUS10.out.mono ?_
  rintro e w11 ⟨rfl, rfl⟩
  have HGA := hide (HG.out ca _ HSA.out (tup_right HRX.out hk8) (tup_closed HCL.out) _ (Below.refl w11.heap.size w11))
  clear HUS10
  go_wp2_with fail
  refine HGA.out.mono ?_
  rintro e w12 ⟨y, rfl, HY⟩
  have hcc12 := below_cells HY.out.1
  obtain ⟨q2, q3⟩ := HPC10.out
  replace q2 := (hcc12 _ _ hb9').trans q2
  replace q3 := (hcc12 _ _ hb9').trans q3
  have hb12 : g9 < w12.heap.size := Nat.lt_of_lt_of_le hb9' HY.out.1.size
  have HGB : Hid (∀ o : Obj, Calls Try.prog 25 #[.pointer (some ⟨w1.heap.size, 0, none⟩), .agg #[.int .i64 cb.1, .int .i64 cb.2]] (w12.alloc o) fun e w' => ∃ y : Tm (n + 2), e = .returned (.tuple #[val (n + 2) y, .int .i64 0]) ∧ Hid (Below (w12.alloc o).heap.size (w12.alloc o) w' ∧ In w'.heap.size w' (n + 2) y ∧ Off (fun q => (w12.alloc o).heap.size ≤ q) (n + 2) y ∧ same (n + 2) y (n + 2) (lift (n + 2) (n + 1) x) = true)) := fun o =>
    HG.out cb _ HSB.out (lift_right (N := n + 2) (by omega) x HRX.out) (by rw [same_closed _ _ _ _ (lift_same (n + 2) (n + 1) (by omega) x HRX.out)]; exact HCL.out) _ (HY.out.1.alloc HY.out.1.size o)
  have e3 : val (n + 2) y = .agg #[.int .i64 y.1.1, .int .i64 y.1.2.1, .string y.1.2.2, .slice y.2.1.1 y.2.2.length y.2.1.2] := rfl
  rw [e3]
  clear e3 HG HGA hcc12 p0 p1 HPC10
  go_wp2_with fail
  refine (HGB.out _).mono ?_
  rintro e w13 ⟨z, rfl, HZ⟩
  have e3 : val (n + 2) z = .agg #[.int .i64 z.1.1, .int .i64 z.1.2.1, .string z.1.2.2, .slice z.2.1.1 z.2.2.length z.2.1.2] := rfl
  rw [e3]
  clear e3 HGB q2 q3
  have H113 : Hid (Below w1.heap.size w1 w13) := by
    have h1 := HM10.out.1.trans (HY.out.1.mono HM10.out.1.size)
    have h2 := h1.alloc h1.size (.cells #[.int .i64 y.1.1, .int .i64 y.1.2.1, .string y.1.2.2, .slice y.2.1.1 y.2.2.length y.2.1.2] 24)
    exact h2.trans (HZ.out.1.mono h2.size)
  have HYI : Hid (In w13.heap.size w13 (n + 2) y) := by
    have h2 := (Below.refl w12.heap.size w12).alloc (Nat.le_refl _) (.cells #[.int .i64 y.1.1, .int .i64 y.1.2.1, .string y.1.2.2, .slice y.2.1.1 y.2.2.length y.2.1.2] 24)
    have h3 := h2.trans (HZ.out.1.mono h2.size)
    exact (HY.out.2.1.below h3).mono h3.size
  obtain ⟨⟨a0, a1, a2, a3⟩, _⟩ := boxed HZ.out.1
  have hwa : w12.heap.size < w13.heap.size := by have := HZ.out.1.size; simp at this; omega
  obtain ⟨⟨k0, k1, k2, k3⟩, hwt⟩ := HTC.out w13 H113.out
  have HA13 := hide (show (w13.cell? ⟨w12.heap.size, 0, none⟩ = some (.int .i64 y.1.1) ∧ w13.cell? ⟨w12.heap.size, 1, none⟩ = some (.int .i64 y.1.2.1) ∧ w13.cell? ⟨w12.heap.size, 2, none⟩ = some (.string y.1.2.2) ∧ w13.cell? ⟨w12.heap.size, 3, none⟩ = some (.slice y.2.1.1 y.2.2.length y.2.1.2)) from ⟨a0, a1, a2, a3⟩)
  have HK13 := hide (show (w13.cell? ⟨w.heap.size, 0, none⟩ = some (.int .i64 x.1.1) ∧ w13.cell? ⟨w.heap.size, 1, none⟩ = some (.int .i64 x.1.2.1) ∧ w13.cell? ⟨w.heap.size, 2, none⟩ = some (.string x.1.2.2) ∧ w13.cell? ⟨w.heap.size, 3, none⟩ = some (.slice x.2.1.1 x.2.2.length x.2.1.2)) from ⟨k0, k1, k2, k3⟩)
  have HRP : Hid (Calls Try.prog 26 #[.slice (some ⟨w13.heap.size + 1, 0, none⟩) 1 1, .int .i64 kk] ((w13.alloc (.cells #[.int .i64 z.1.1, .int .i64 z.1.2.1, .string z.1.2.2, .slice z.2.1.1 z.2.2.length z.2.1.2] 24)).alloc (.cells #[.int .i64 x.1.1, .int .i64 x.1.2.1, .string x.1.2.2, .slice x.2.1.1 x.2.2.length x.2.1.2] 24)).drew fun e w' => e = .returned (.slice (some ⟨w13.heap.size + 1 + 1, 0, none⟩) kk kk) ∧ (w'.cell? ⟨w12.heap.size, 0, none⟩ = some (.int .i64 y.1.1) ∧ w'.cell? ⟨w12.heap.size, 1, none⟩ = some (.int .i64 y.1.2.1) ∧ w'.cell? ⟨w12.heap.size, 2, none⟩ = some (.string y.1.2.2) ∧ w'.cell? ⟨w12.heap.size, 3, none⟩ = some (.slice y.2.1.1 y.2.2.length y.2.1.2)) ∧ (w'.cell? ⟨w13.heap.size, 0, none⟩ = some (.int .i64 z.1.1) ∧ w'.cell? ⟨w13.heap.size, 1, none⟩ = some (.int .i64 z.1.2.1) ∧ w'.cell? ⟨w13.heap.size, 2, none⟩ = some (.string z.1.2.2) ∧ w'.cell? ⟨w13.heap.size, 3, none⟩ = some (.slice z.2.1.1 z.2.2.length z.2.1.2)) ∧ (w'.cell? ⟨w.heap.size, 0, none⟩ = some (.int .i64 x.1.1) ∧ w'.cell? ⟨w.heap.size, 1, none⟩ = some (.int .i64 x.1.2.1) ∧ w'.cell? ⟨w.heap.size, 2, none⟩ = some (.string x.1.2.2) ∧ w'.cell? ⟨w.heap.size, 3, none⟩ = some (.slice x.2.1.1 x.2.2.length x.2.1.2)) ∧ (w12.heap.size < w'.heap.size ∧ w13.heap.size < w'.heap.size ∧ w.heap.size < w'.heap.size) ∧ Hid (Below w13.heap.size w13 w' ∧ Has (w13.heap.size + 1 + 1) (w13.heap.size + 1 + 1) kk (List.replicate kk ⟨n + 1, x⟩) w')) := by
    have es : (w13.alloc (.cells #[.int .i64 z.1.1, .int .i64 z.1.2.1, .string z.1.2.2, .slice z.2.1.1 z.2.2.length z.2.1.2] 24)).heap.size = w13.heap.size + 1 := by simp
    have h := rep_box x hk1 hk8 (w13.alloc (.cells #[.int .i64 z.1.1, .int .i64 z.1.2.1, .string z.1.2.2, .slice z.2.1.1 z.2.2.length z.2.1.2] 24))
    rw [es] at h
    refine h.mono ?_
    rintro e w' ⟨rfl, H⟩
    have h1 := H.out.1
    rw [← es] at h1
    have h2 := h1
    have h3 := ((Below.refl w13.heap.size w13).alloc (Nat.le_refl _) (.cells #[.int .i64 z.1.1, .int .i64 z.1.2.1, .string z.1.2.2, .slice z.2.1.1 z.2.2.length z.2.1.2] 24)).trans (h2.mono (by simp))
    have h4 := h2.size
    simp at h4
    exact ⟨rfl, cells_nx hwa h3 HA13.out, (boxed h2).1, cells_nx hwt h3 HK13.out, ⟨by omega, by omega, by omega⟩, h3, H.out.2⟩
  have HS1 : Hid (∀ wk, Below w13.heap.size w13 wk → Has (w13.heap.size + 1 + 1) (w13.heap.size + 1 + 1) kk (List.replicate kk ⟨n + 1, x⟩) wk → Calls Try.prog 13 #[.agg #[.int .i64 y.1.1, .int .i64 y.1.2.1, .string y.1.2.2, .slice y.2.1.1 y.2.2.length y.2.1.2], .agg #[.int .i64 4, .int .i64 0, .string ⟨#[]⟩, .slice (some ⟨w13.heap.size + 1 + 1, 0, none⟩) kk kk]] wk fun e w' => e = .returned (.bool true) ∧ Below wk.heap.size wk w') := by
    intro wk hk hh
    have h := same_any (n + 2) y (n + 2) (repT (n + 1) (w13.heap.size + 1 + 1) kk x) wk.heap.size wk ((HYI.out.below hk).mono hk.size) (repT_in hh (HIX.out wk (H113.out.trans (hk.mono H113.out.size))).1 hk8) (Nat.le_refl _)
    rw [same_trans _ _ _ _ _ _ HY.out.2.2.2 (repT_same HRX.out)] at h
    simp only [val, repT, List.length_replicate] at h
    exact h
  have HS2 : Hid (∀ wk, Below w13.heap.size w13 wk → Calls Try.prog 13 #[.agg #[.int .i64 z.1.1, .int .i64 z.1.2.1, .string z.1.2.2, .slice z.2.1.1 z.2.2.length z.2.1.2], .agg #[.int .i64 x.1.1, .int .i64 x.1.2.1, .string x.1.2.2, .slice x.2.1.1 x.2.2.length x.2.1.2]] wk fun e w' => e = .returned (.bool true) ∧ Below wk.heap.size wk w') := by
    intro wk hk
    have h := same_any (n + 2) z (n + 1) x wk.heap.size wk ((HZ.out.2.1.below hk).mono hk.size) (HIX.out wk (H113.out.trans (hk.mono H113.out.size))).1 (Nat.le_refl _)
    rw [same_trans _ _ _ _ _ _ HZ.out.2.2.2 (lift_same (n + 2) (n + 1) (by omega) x HRX.out)] at h
    exact h
  have HBW : Hid (Below w.heap.size w w13) := HB1.out.trans (H113.out.mono HB1.out.size)
  clear HY HZ HYI H113 HM10 hb10 HSL HST HM3 HSZ HL2 HL3 HB78 HSA HSB HIX HTC HA13 HK13 HCK HCL HRX hl9 es1 es2 bs
  go_wp2_with fail
  go_region_held3 (fun w' => (w'.cell? ⟨w12.heap.size, 0, none⟩ = some (.int .i64 y.1.1) ∧ w'.cell? ⟨w12.heap.size, 1, none⟩ = some (.int .i64 y.1.2.1) ∧ w'.cell? ⟨w12.heap.size, 2, none⟩ = some (.string y.1.2.2) ∧ w'.cell? ⟨w12.heap.size, 3, none⟩ = some (.slice y.2.1.1 y.2.2.length y.2.1.2)) ∧ (w'.cell? ⟨w13.heap.size, 0, none⟩ = some (.int .i64 z.1.1) ∧ w'.cell? ⟨w13.heap.size, 1, none⟩ = some (.int .i64 z.1.2.1) ∧ w'.cell? ⟨w13.heap.size, 2, none⟩ = some (.string z.1.2.2) ∧ w'.cell? ⟨w13.heap.size, 3, none⟩ = some (.slice z.2.1.1 z.2.2.length z.2.1.2)) ∧ (w'.cell? ⟨w.heap.size, 0, none⟩ = some (.int .i64 x.1.1) ∧ w'.cell? ⟨w.heap.size, 1, none⟩ = some (.int .i64 x.1.2.1) ∧ w'.cell? ⟨w.heap.size, 2, none⟩ = some (.string x.1.2.2) ∧ w'.cell? ⟨w.heap.size, 3, none⟩ = some (.slice x.2.1.1 x.2.2.length x.2.1.2)))
    (go_keep) ((first
      | (go_at_call 26; refine HRP.out.mono ?_; rintro e w14 ⟨rfl, ⟨f0, f1, f2, f3⟩, ⟨g0, g1, g2, g3⟩, ⟨h0, h1, h2, h3⟩, ⟨hl1, hl2, hl3⟩, H14⟩)
      | (go_at_call 13; refine (HS1.out _ H14.out.1 H14.out.2).mono ?_; rintro e w15 ⟨rfl, hb15⟩; clear HS1; have HB15 := hide (H14.out.1.trans (hb15.mono H14.out.1.size)); obtain ⟨f0, f1, f2, f3⟩ := cells_nx hl1 hb15 ⟨f0, f1, f2, f3⟩; obtain ⟨g0, g1, g2, g3⟩ := cells_nx hl2 hb15 ⟨g0, g1, g2, g3⟩; obtain ⟨h0, h1, h2, h3⟩ := cells_nx hl3 hb15 ⟨h0, h1, h2, h3⟩; have hm1 := Nat.lt_of_lt_of_le hl1 hb15.size; have hm2 := Nat.lt_of_lt_of_le hl2 hb15.size; have hm3 := Nat.lt_of_lt_of_le hl3 hb15.size)
      | (go_at_call 13; refine (HS2.out _ HB15.out).mono ?_; rintro e w16 ⟨rfl, hb16⟩; have HB16 := hide (HB15.out.trans (hb16.mono HB15.out.size)); obtain ⟨f0, f1, f2, f3⟩ := cells_nx hm1 hb16 ⟨f0, f1, f2, f3⟩; obtain ⟨g0, g1, g2, g3⟩ := cells_nx hm2 hb16 ⟨g0, g1, g2, g3⟩; obtain ⟨h0, h1, h2, h3⟩ := cells_nx hm3 hb16 ⟨h0, h1, h2, h3⟩)))
  have HBF := hide (HBW.out.trans (HB16.out.mono HBW.out.size))
  clear hb16 hb15 H14 HB15 HB16
  go_wp2_with fail
  go_ret
  exact ⟨rfl, HBF.out⟩
end Go.Proofs.Ytpehdgbdinjbaab
