/- What is proved here: plain facts and contracts that the claimed theorem stands on, several texts in one: code.From of a term that lies in memory: its error is what plain functions say, and the list that it returns is the program that rdP reads, in new memory, or none. Condition: at most 2097152 terms in it. plain facts: what is read of a right term is told as that term. No condition. plain facts: a program that is read of a right term is told as that term; what is in form of it. No condition. the document's small calls on programs: an atom, a tuple, and whether a term is none. No condition but that it lies in memory. plain facts on rows that the document's To makes: what they hold while all is in form, and how they grow. No condition. a law for a region that draws its order: loads may be taken first under a condition on the world that need not hold behind one last operation, which waits for them. No condition but that. the document's Is of any term; plain facts on what an act, a clause and a behaviour is read as, said by Is; a row that is held in a box. No condition but that terms lie in memory. -/
import Derived.Test.YtpehdgbdinjbaaaG15
import Derived.Test.YtpehdgbdinjbaaaG11
import Derived.Test.YtpehdgbdinjbaaaG01
import Derived.OrdersHeld
namespace Go.Proofs.Ytpehdgbdinjbaaa
open Go.RowKit

def fromO (M : Nat) (o : Option (List (Bh (M + 1)))) : Int := match o with | some l => if pgB (M + 1) l = true then 0 else 5 | none => 5
def fromE (M n : Nat) (x : Tm n) : Int := if chk n x = 0 then fromO M (rdP M n x) else chk n x
def FromOut (M : Nat) (E : Int) (o : Option (List (Bh (M + 1)))) (w : World) (e : Ending) (w' : World) : Prop :=
  ∃ (l : List (Bh (M + 1))) (a : Option Addr) (c : Nat), e = .returned (.tuple #[.slice a l.length c, .int .i64 E]) ∧ Hid (Below w.heap.size w w' ∧ (l.length ≤ c ∧ c ≤ maxLen) ∧ PgIn (M + 1) w'.heap.size w' a l ∧ OffL (BhOff (M + 1) (fun b => w.heap.size ≤ b)) (fun b => w.heap.size ≤ b) a l ∧ (¬ E = 0 → l = []) ∧ (E = 0 → ∃ z, o = some z ∧ RelL (bhS (M + 1)) l z))
theorem from_none {M : Nat} {E : Int} {o : Option (List (Bh (M + 1)))} {w w' : World} (h : ¬ E = 0) (hb : Below w.heap.size w w') : FromOut M E o w (.returned (.tuple #[.slice none 0 0, .int .i64 E])) w' :=
  ⟨[], none, 0, rfl, hb, ⟨Nat.le_refl _, Nat.zero_le _⟩, Or.inl rfl, Or.inl rfl, fun _ => rfl, fun h0 => (h h0).elim⟩

set_option maxHeartbeats 1000000 in
set_option maxRecDepth 100000 in
theorem from_walk (M : Nat) (k u : Int) (s : ByteArray) (a : Option Addr) (l c : Nat) (w : World) (ck : Int) (o : Option (List (Bh (M + 1)))) (E : Int) (hE : Hid (E = if ck = 0 then fromO M o else ck))
    (HC : Hid (∀ w1, Below w.heap.size w w1 → Calls Try.prog 50 #[.agg #[.int .i64 k, .int .i64 u, .string s, .slice a l c]] w1 fun e w' => e = .returned (.int .i64 ck) ∧ Below w1.heap.size w1 w'))
    (HR : Hid (ck = 0 → ∀ w1, Below w.heap.size w w1 → Calls Try.prog 72 #[.agg #[.int .i64 k, .int .i64 u, .string s, .slice a l c]] w1 (RdProg M o w1))) :
    Calls Try.prog 36 #[.agg #[.int .i64 k, .int .i64 u, .string s, .slice a l c]] w (FromOut M E o w) := by
  go_enter Try.func36, Try.ntmps36
  go_wp2_with fail
  refine (HC.out _ one_alloc).mono ?_
  rintro e w1 ⟨rfl, hb1⟩
  have HB1 : Hid (Below w.heap.size w w1) := one_alloc.trans (hb1.mono (by simp))
  have HX1 := hide (box4_new w _ _ _ _ _ hb1)
  clear hb1 HC
  by_cases h0 : ck = 0
  · subst h0
    have HR1 := hide (HR.out (by simp) w1 HB1.out)
    have c0 : w1.cell? ⟨w.heap.size, 0, none⟩ = some (.int .i64 k) := box_cell HX1.out 0
    have c1 : w1.cell? ⟨w.heap.size, 1, none⟩ = some (.int .i64 u) := box_cell HX1.out 1
    have c2 : w1.cell? ⟨w.heap.size, 2, none⟩ = some (.string s) := box_cell HX1.out 2
    have c3 : w1.cell? ⟨w.heap.size, 3, none⟩ = some (.slice a l c) := box_cell HX1.out 3
    have hq1 : w.heap.size < w1.heap.size := (Array.getElem?_eq_some_iff.1 HX1.out).1
    have HEO := hide (show E = fromO M o by simpa using hE.out)
    clear HR hE
    go_wp2_with fail
    refine HR1.out.mono ?_
    rintro e w2 ⟨q, a', c', r, rfl, HQ⟩
    obtain ⟨L, hL⟩ : ∃ L, q.length = L := ⟨_, rfl⟩
    rw [hL]
    have HLL := hide hL
    have HB2 : Hid (Below w.heap.size w w2) := HB1.out.trans (HQ.out.1.mono HB1.out.size)
    clear hL HR1 c0 c1 c2 c3 HX1
    cases r
    · have HE5 : Hid (E = 5) := by
        show E = 5
        rw [HEO.out]
        have h := HQ.out.2.1
        cases o with
        | none => rfl
        | some z => cases h
      have HF : Hid (FromOut M E o w (.returned (.tuple #[.slice none 0 0, .int .i64 5])) w2) := by
        have h := from_none (M := M) (E := E) (o := o) (by rw [HE5.out]; omega) HB2.out
        rw [HE5.out] at h
        rw [HE5.out]
        exact h
      go_wp2_with fail
      exact bodyPost_ret (v := .tuple #[.slice none 0 0, .int .i64 5]) (by simp [results, Try.results36, go_sem]) rfl HF.out
    · have HIP : Hid (∀ w3, Below w2.heap.size w2 w3 → Calls Try.prog 73 #[.slice a' L c'] w3 fun e w' => e = .returned (.bool (pgB (M + 1) q)) ∧ Below w3.heap.size w3 w') := fun w3 h3 =>
        isProgram_any M q L HLL.out a' c' w2.heap.size w3 (PgIn.below h3 HQ.out.2.2.2.1) (by have := HQ.out.2.2.1; have := HLL.out; unfold maxLen at *; omega) h3.size
      obtain ⟨b, hb⟩ : ∃ b, pgB (M + 1) q = b := ⟨_, rfl⟩
      rw [hb] at HIP
      have HPB := hide hb
      clear hb
      have HZ : Hid (∃ z, o = some z ∧ RelL (bhS (M + 1)) q z) := by
        have h := HQ.out.2.1
        cases o with
        | none => cases h
        | some z => exact ⟨z, rfl, HQ.out.2.2.2.2.2 z rfl⟩
      cases b
      · have HE5 : Hid (E = 5) := by
          show E = 5
          obtain ⟨z, hz, hr⟩ := HZ.out
          rw [HEO.out, hz]
          show (if pgB (M + 1) z = true then (0 : Int) else 5) = 5
          rw [← pgS_B hr, HPB.out]
          rfl
        go_wp2_with (go_at_call 73; refine (HIP.out _ (Below.refl _ _)).mono ?_; rintro e w3 ⟨rfl, hb3⟩; have HB3 := hide (HB2.out.trans (hb3.mono HB2.out.size)); clear hb3)
        refine bodyPost_ret (v := .tuple #[.slice none 0 0, .int .i64 5]) (by simp [results, Try.results36, go_sem]) rfl ?_
        have h := from_none (M := M) (E := E) (o := o) (by rw [HE5.out]; omega) HB3.out
        rw [HE5.out] at h
        rw [HE5.out]
        exact h
      · have HE0 : Hid (E = 0) := by
          show E = 0
          obtain ⟨z, hz, hr⟩ := HZ.out
          rw [HEO.out, hz]
          show (if pgB (M + 1) z = true then (0 : Int) else 5) = 0
          rw [← pgS_B hr, HPB.out]
          rfl
        go_wp2_with (go_at_call 73; refine (HIP.out _ (Below.refl _ _)).mono ?_; rintro e w3 ⟨rfl, hb3⟩; have HB23 := hide hb3; have HB3 := hide (HB2.out.trans (hb3.mono HB2.out.size)); clear hb3)
        refine bodyPost_ret (v := .tuple #[.slice a' L c', .int .i64 0]) (by simp [results, Try.results36, go_sem]) rfl ?_
        obtain ⟨k1, k2, k3, k4, k5, k6⟩ := HQ.out
        rw [HE0.out]
        exact ⟨q, a', c', by rw [HLL.out], HB3.out, k3, (PgIn.below HB23.out k4).mono HB23.out.size, (lay_stays (bh_stays _) 2 (bh2 (M + 1)) a').1 _ _ _ (fun b hb => Nat.le_trans HB1.out.size hb) k5, fun h => (h rfl).elim, fun _ => HZ.out⟩
  · have e0 : (ck != 0) = true := by simpa using h0
    have HEE : Hid (E = ck) := by
      show E = ck
      rw [hE.out, if_neg h0]
    clear HR HX1
    go_wp2_with fail
    refine bodyPost_ret (v := .tuple #[.slice none 0 0, .int .i64 ck]) (by simp [results, Try.results36, go_sem]) rfl ?_
    rw [HEE.out]
    exact from_none h0 HB1.out
theorem from_any (M n : Nat) (hn : n ≤ M + 1) (x : Tm n) (B : Nat) (w : World) (hx : In B w n x) (hN : (nodes n x).length ≤ 2097152) (hB : B ≤ w.heap.size) :
    Calls Try.prog 36 #[val n x] w (FromOut M (fromE M n x) (rdP M n x) w) := by
  cases n with
  | zero => exact hx.elim
  | succ n =>
  exact from_walk M x.1.1 x.1.2.1 x.1.2.2 x.2.1.1 x.2.2.length x.2.1.2 w (chk (n + 1) x) _ _ rfl (fun w1 h1 => tcheck_any (n + 1) x B w1 (hx.below (h1.mono hB)) (Nat.le_trans hB h1.size) hN) (fun h0 w1 h1 => readProg_any M (n + 1) hn x B w1 (hx.below (h1.mono hB)) (right_formed.2 (chk_iff.1 h0).1) (Nat.le_trans hB h1.size))
end Go.Proofs.Ytpehdgbdinjbaaa
namespace Go.Proofs.Ytpehdgbdinjbaaa
open Go.RowKit

theorem empty_of {s : ByteArray} (h : s.toList.isEmpty = true) : s = .empty := by
  apply bytes_eq
  have e : ByteArray.empty.toList = [] := by rw [ByteArray.toList_eq]; rfl
  rw [e]
  simpa using h
theorem right_tup {n : Nat} {x : Tm (n + 1)} (hr : RightA ⟨n + 1, x⟩) (h4 : x.1.1 = 4) : x.1 = (4, 0, .empty) := by
  have h1 := hr (hdOf n x) (by simp [nodes, hdOf])
  unfold good at h1
  have e : (hdOf n x).1.1 = 4 := h4
  rw [if_neg (by rw [e]; omega), if_neg (by rw [e]; omega), if_neg (by rw [e]; omega), if_pos e] at h1
  simp only [Bool.and_eq_true, beq_iff_eq] at h1
  have h2 : x.1.2.2 = .empty := empty_of h1.1.1.1
  have h3 : x.1.2.1 = 0 := h1.1.1.2
  exact Prod.ext h4 (Prod.ext h3 h2)
theorem right_atom {n : Nat} {x : Tm (n + 1)} (hr : RightA ⟨n + 1, x⟩) (h2 : x.1.1 = 2) : x.1 = (2, 0, x.1.2.2) ∧ x.2.2 = [] ∧ nameB x.1.2.2 = true := by
  have h1 := hr (hdOf n x) (by simp [nodes, hdOf])
  unfold good at h1
  have e : (hdOf n x).1.1 = 2 := h2
  rw [if_neg (by rw [e]; omega), if_pos e] at h1
  simp only [Bool.and_eq_true, Bool.or_eq_true, beq_iff_eq] at h1
  obtain ⟨⟨hn, h0⟩, hk⟩ := h1
  refine ⟨Prod.ext h2 (Prod.ext h0 rfl), ?_, hn⟩
  rcases hk with hk | hk
  · rw [e] at hk; omega
  · have hk2 : ¬ (0 : Int) < (x.2.2.length : Int) := by simpa [hdOf] using hk
    exact List.eq_nil_of_length_eq_zero (by omega)
theorem right_var {n : Nat} {x : Tm (n + 1)} (hr : RightA ⟨n + 1, x⟩) (h5 : x.1.1 = 5) : x.1 = (5, x.1.2.1, .empty) ∧ x.2.2 = [] ∧ 0 ≤ x.1.2.1 ∧ x.1.2.1 ≤ 3 := by
  have h1 := hr (hdOf n x) (by simp [nodes, hdOf])
  unfold good at h1
  have e : (hdOf n x).1.1 = 5 := h5
  rw [if_neg (by rw [e]; omega), if_neg (by rw [e]; omega), if_neg (by rw [e]; omega), if_neg (by rw [e]; omega), if_pos e] at h1
  simp only [Bool.and_eq_true, Bool.or_eq_true, beq_iff_eq, inB, decide_eq_true_eq] at h1
  obtain ⟨⟨hn, h0⟩, hk⟩ := h1
  refine ⟨Prod.ext h5 (Prod.ext rfl (empty_of hn)), ?_, h0⟩
  rcases hk with hk | hk
  · rw [e] at hk; omega
  · have hk2 : ¬ (0 : Int) < (x.2.2.length : Int) := by simpa [hdOf] using hk
    exact List.eq_nil_of_length_eq_zero (by omega)
theorem atom_same {n : Nat} {x : Tm (n + 1)} (hr : RightA ⟨n + 1, x⟩) (h2 : x.1.1 = 2) (N : Nat) : same (N + 1) (atomV x.1.2.2 N) (n + 1) x = true := by
  obtain ⟨h1, h3, _⟩ := right_atom hr h2
  refine same_mk h1.symm ?_
  rw [h3]
  rfl
theorem var_same {n : Nat} {x : Tm (n + 1)} (hr : RightA ⟨n + 1, x⟩) (h5 : x.1.1 = 5) (N : Nat) : same (N + 1) (leafV 5 x.1.2.1 N) (n + 1) x = true := by
  obtain ⟨h1, h3, _⟩ := right_var hr h5
  refine same_mk h1.symm ?_
  rw [h3]
  rfl
/-- A right tuple that begins with an atom. -/
theorem word_right {n : Nat} {x : Tm (n + 1)} (hr : RightA ⟨n + 1, x⟩) {wd : ByteArray} (h : isB (wordT n x) wd = true) (hne : wd.toList ≠ []) :
    x.1 = (4, 0, .empty) ∧ ∃ h', x.2.2 = h' :: partsT n x ∧ ∀ N, same (N + 1) (atomV wd N) n h' = true := by
  have e0 : ByteArray.empty.toList = [] := by rw [ByteArray.toList_eq]; rfl
  have hw : wordT n x = wd := bytes_eq h
  unfold wordT at hw
  by_cases h4 : x.1.1 = 4
  · rw [if_pos h4] at hw
    refine ⟨right_tup hr h4, ?_⟩
    obtain ⟨⟨k, u, s⟩, ⟨a, c⟩, p⟩ := x
    simp only at h4 hw
    subst h4
    cases p with
    | nil =>
      simp at hw
      rw [← hw, e0] at hne
      exact (hne rfl).elim
    | cons y p =>
      simp only [List.getElem?_cons_zero] at hw
      cases n with
      | zero =>
        simp [kindA] at hw
        rw [← hw, e0] at hne
        exact (hne rfl).elim
      | succ n =>
        by_cases hk : y.1.1 = 2
        · refine ⟨y, by simp [partsT, kindA, hk], fun N => ?_⟩
          have e : wd = y.1.2.2 := by
            rw [if_pos (show kindA ⟨n + 1, y⟩ = 2 from hk)] at hw
            exact hw.symm
          rw [e]
          exact atom_same (parts_right (n + 1) _ y hr (by simp)) hk N
        · rw [if_neg (show ¬ kindA ⟨n + 1, y⟩ = 2 from hk)] at hw
          rw [← hw, e0] at hne
          exact (hne rfl).elim
  · rw [if_neg h4] at hw
    rw [← hw, e0] at hne
    exact (hne rfl).elim
theorem word_ne (l : List UInt8) (h : l ≠ []) : (⟨l.toArray⟩ : ByteArray).toList ≠ [] := by rw [bytes_lit]; exact h
theorem part_same {M n : Nat} (hn : n ≤ M + 1) {y : Tm n} (hr : RightA ⟨n, y⟩) : same (M + 1) (lift (M + 1) n y) n y = true := lift_self (M + 1) n hn y (same_refl n y hr)
theorem list_one {α : Type} {l : List α} {a : α} (h : l.length = 1) (h0 : l[0]? = some a) : l = [a] := by
  match l, h with
  | [x], _ => simpa using h0
theorem list_two {α : Type} {l : List α} {a b : α} (h : l.length = 2) (h0 : l[0]? = some a) (h1 : l[1]? = some b) : l = [a, b] := by
  match l, h with
  | [x, y], _ =>
    simp at h0 h1
    rw [h0, h1]
theorem list_three {α : Type} {l : List α} {a b c : α} (h : l.length = 3) (h0 : l[0]? = some a) (h1 : l[1]? = some b) (h2 : l[2]? = some c) : l = [a, b, c] := by
  match l, h with
  | [x, y, z], _ =>
    simp at h0 h1 h2
    rw [h0, h1, h2]
theorem list_four {α : Type} {l : List α} {a b c d : α} (h : l.length = 4) (h0 : l[0]? = some a) (h1 : l[1]? = some b) (h2 : l[2]? = some c) (h3 : l[3]? = some d) : l = [a, b, c, d] := by
  match l, h with
  | [x, y, z, t], _ =>
    simp at h0 h1 h2 h3
    rw [h0, h1, h2, h3]
/-- What is told of an act that was read. -/
theorem rdA_tell (M : Nat) : (n : Nat) → n ≤ M + 1 → (x : Tm n) → RightA ⟨n, x⟩ → (a : Ac (M + 1)) → rdA M n x = some a → same (M + 2) (tellA M a) n x = true ∧ actB (M + 1) a = true
  | 0, _, _, hr, _, _ => (zero_bad hr).elim
  | n + 1, hn, x, hr, a, h => by
    have hq : ∀ y ∈ partsT n x, RightA ⟨n, y⟩ := fun y hy => parts_right' hr hy
    have hz : nothingT (M + 1) (zT M) = true := by
      have e0 : ByteArray.empty.toList = [] := by rw [ByteArray.toList_eq]; rfl
      simp [nothingT, hdT, hdOf, zT, e0]
    have hns : noSp .empty 0 = true := by
      have e0 : ByteArray.empty.toList = [] := by rw [ByteArray.toList_eq]; rfl
      simp [noSp, e0]
    have get : ∀ (q : List (Tm n)) (i : Nat), i < q.length → ∃ y, q[i]? = some y ∧ y ∈ q := fun q i hi => ⟨q[i], List.getElem?_eq_getElem hi, List.getElem_mem hi⟩
    simp only [rdA, rdAq] at h
    split at h
    · rename_i hb
      simp only [Bool.and_eq_true, decide_eq_true_eq] at hb
      obtain ⟨h1, h', h2, h3⟩ := word_right hr hb.1 (word_ne [115, 101, 110, 100] (by simp))
      obtain ⟨p, hp, hpm⟩ := get _ 0 (by rw [hb.2]; omega)
      obtain ⟨q, hqq, hqm⟩ := get _ 1 (by rw [hb.2]; omega)
      rw [hp, hqq] at h
      have e : a = (1, (lift (M + 1) n p, lift (M + 1) n q), (.empty, 0)) := by simpa using h.symm
      have hl : partsT n x = [p, q] := list_two hb.2 hp hqq
      subst e
      refine ⟨same_mk h1.symm ?_, hns⟩
      rw [h2, hl]
      show sameL _ [atomV wSend M, lift (M + 1) n p, lift (M + 1) n q] [h', p, q] = true
      simp only [sameL, h3 M, part_same (M := M) (by omega) (hq p hpm), part_same (M := M) (by omega) (hq q hqm), Bool.and_self]
    split at h
    · rename_i hb
      simp only [Bool.and_eq_true, decide_eq_true_eq] at hb
      obtain ⟨h1, h', h2, h3⟩ := word_right hr hb.1 (word_ne [115, 112, 97, 119, 110] (by simp))
      obtain ⟨p, hp, hpm⟩ := get _ 0 (by rw [hb.2]; omega)
      obtain ⟨q, hqq, hqm⟩ := get _ 1 (by rw [hb.2]; omega)
      obtain ⟨r, hrr, hrm⟩ := get _ 2 (by rw [hb.2]; omega)
      rw [hp, hqq, hrr] at h
      simp only [Option.bind_some, rdSp] at h
      split at h
      · rename_i hk
        have e : a = (2, (zT M, lift (M + 1) n q), (nameA n p, numA n r)) := by simpa using h.symm
        have hl : partsT n x = [p, q, r] := list_three hb.2 hp hqq hrr
        subst e
        cases n with
        | zero => exact (zero_bad (hq p hpm)).elim
        | succ n =>
        have hv := right_var (hq r hrm) hk.2
        have hnm := right_atom (hq p hpm) hk.1
        refine ⟨same_mk h1.symm ?_, ?_⟩
        · rw [h2, hl]
          show sameL _ [atomV wSpawn M, atomV p.1.2.2 M, lift (M + 1) (n + 1) q, leafV 5 r.1.2.1 M] [h', p, q, r] = true
          simp only [sameL, h3 M, part_same (M := M) (by omega) (hq q hqm), atom_same (hq p hpm) hk.1 M, var_same (hq r hrm) hk.2 M, Bool.and_self]
        · show (nothingT (M + 1) (zT M) && nameB p.1.2.2 && decide (0 ≤ r.1.2.1) && decide (r.1.2.1 < 4)) = true
          rw [hz, hnm.2.2, decide_eq_true hv.2.2.1, decide_eq_true (by omega)]
          rfl
      · cases h
    split at h
    · rename_i hb
      simp only [Bool.and_eq_true, decide_eq_true_eq] at hb
      obtain ⟨h1, h', h2, h3⟩ := word_right hr hb.1 (word_ne [108, 105, 110, 107] (by simp))
      obtain ⟨p, hp, hpm⟩ := get _ 0 (by rw [hb.2]; omega)
      rw [hp] at h
      have e : a = (3, (lift (M + 1) n p, zT M), (.empty, 0)) := by simpa using h.symm
      have hl : partsT n x = [p] := list_one hb.2 hp
      subst e
      refine ⟨same_mk h1.symm ?_, ?_⟩
      · rw [h2, hl]
        show sameL _ [atomV wLink M, lift (M + 1) n p] [h', p] = true
        simp only [sameL, h3 M, part_same (M := M) (by omega) (hq p hpm), Bool.and_self]
      · show (nothingT (M + 1) (zT M) && noSp .empty 0) = true
        rw [hz, hns]
        rfl
    split at h
    · rename_i hb
      simp only [Bool.and_eq_true, decide_eq_true_eq] at hb
      obtain ⟨h1, h', h2, h3⟩ := word_right hr hb.1 (word_ne [115, 116, 111, 112] (by simp))
      have e : a = (4, (zT M, zT M), (.empty, 0)) := by simpa using h.symm
      have hl : partsT n x = [] := List.eq_nil_of_length_eq_zero hb.2
      subst e
      refine ⟨same_mk h1.symm ?_, ?_⟩
      · rw [h2, hl]
        show sameL _ [atomV wStop M] [h'] = true
        simp only [sameL, h3 M, Bool.and_self]
      · show (nothingT (M + 1) (zT M) && nothingT (M + 1) (zT M) && noSp .empty 0) = true
        rw [hz, hns]
        rfl
    · cases h
end Go.Proofs.Ytpehdgbdinjbaaa
namespace Go.Proofs.Ytpehdgbdinjbaaa
open Go.RowKit

theorem all_congr_mem {α : Type} {f g : α → Bool} : {l : List α} → (∀ x ∈ l, f x = g x) → l.all f = l.all g
  | [], _ => rfl
  | a :: l, h => by
    simp only [List.all_cons, h a (by simp), all_congr_mem (l := l) fun x hx => h x (by simp [hx])]
theorem allV_tell {α : Type} {n N : Nat} {f : Tm n → Option α} {g : α → Tm N} {B : α → Bool} (hf : ∀ x a, RightA ⟨n, x⟩ → f x = some a → same N (g a) n x = true ∧ B a = true) : (p : List (Tm n)) → (∀ y ∈ p, RightA ⟨n, y⟩) → (l : List α) → allV f p = some l → sameL (fun a b => same N a n b) (l.map g) p = true ∧ l.all B = true ∧ l.length = p.length
  | [], _, l, h => by
    simp [allV] at h
    subst h
    exact ⟨rfl, rfl, rfl⟩
  | y :: p, hr, l, h => by
    simp only [allV] at h
    obtain ⟨a, ha, h⟩ := Option.bind_eq_some_iff.1 h
    obtain ⟨r, hrr, rfl⟩ := Option.map_eq_some_iff.1 h
    obtain ⟨h1, h2, h3⟩ := allV_tell hf p (fun z hz => hr z (by simp [hz])) r hrr
    obtain ⟨k1, k2⟩ := hf y a (hr y (by simp)) ha
    refine ⟨?_, by simp [k2, h2], by simp [h3]⟩
    simp only [List.map_cons, sameL, k1, h1, Bool.and_self]
theorem lift_twice {N M n : Nat} (hn : n ≤ M + 1) (hN : M + 1 ≤ N) {y : Tm n} (hr : RightA ⟨n, y⟩) : same N (lift N (M + 1) (lift (M + 1) n y)) n y = true := by
  have h1 := part_same hn hr
  exact same_trans _ _ _ _ _ _ (lift_self N (M + 1) hN _ (same_left h1)) h1
theorem rdC_tell (M : Nat) : (n : Nat) → n ≤ M + 1 → (x : Tm n) → RightA ⟨n, x⟩ → (c : Cl (M + 1)) → rdC M n x = some c → same (M + 4) (tellC M c) n x = true ∧ clB (M + 1) c = true
  | 0, _, _, hr, _, _ => (zero_bad hr).elim
  | n + 1, hn, x, hr, c, h => by
    have hq : ∀ y ∈ partsT n x, RightA ⟨n, y⟩ := fun y hy => parts_right' hr hy
    have get : ∀ (q : List (Tm n)) (i : Nat), i < q.length → ∃ y, q[i]? = some y ∧ y ∈ q := fun q i hi => ⟨q[i], List.getElem?_eq_getElem hi, List.getElem_mem hi⟩
    simp only [rdC, rdCq] at h
    split at h
    · rename_i hb
      simp only [Bool.and_eq_true, decide_eq_true_eq] at hb
      obtain ⟨h1, h', h2, h3⟩ := word_right hr hb.1 (word_ne [111, 110] (by simp))
      obtain ⟨p, hp, hpm⟩ := get _ 0 (by rw [hb.2]; omega)
      obtain ⟨q, hqq, hqm⟩ := get _ 1 (by rw [hb.2]; omega)
      obtain ⟨r, hrr, hrm⟩ := get _ 2 (by rw [hb.2]; omega)
      obtain ⟨t, htt, htm⟩ := get _ 3 (by rw [hb.2]; omega)
      rw [hp, hqq, hrr, htt] at h
      simp only [Option.bind_some] at h
      split at h
      · rename_i hk
        obtain ⟨l, hl, rfl⟩ := Option.map_eq_some_iff.1 h
        have hparts : partsT n x = [p, q, r, t] := list_four hb.2 hp hqq hrr htt
        cases n with
        | zero => exact (zero_bad (hq p hpm)).elim
        | succ n =>
        have hr4 : r.1.1 = 4 := hk
        obtain ⟨k1, k2, k3⟩ := allV_tell (g := tellA M) (B := actB (M + 1)) (fun y a hy ha => rdA_tell M n (by omega) y hy a ha) r.2.2 (fun y hy => parts_right n r y (hq r hrm) hy) l hl
        have h8 := right_len (hq r hrm) hr4
        refine ⟨same_mk h1.symm ?_, ?_⟩
        · rw [h2, hparts]
          show sameL _ [atomV wOn (M + 2), lift (M + 3) (M + 1) (lift (M + 1) (n + 1) p), lift (M + 3) (M + 1) (lift (M + 1) (n + 1) q), tupV (M + 2) (l.map (tellA M)), lift (M + 3) (M + 1) (lift (M + 1) (n + 1) t)] [h', p, q, r, t] = true
          have hA : same (M + 3) (tupV (M + 2) (l.map (tellA M))) (n + 1) r = true := same_mk (right_tup (hq r hrm) hr4).symm k1
          simp only [sameL, h3 (M + 2), lift_twice (N := M + 3) (M := M) (by omega) (by omega) (hq p hpm), lift_twice (N := M + 3) (M := M) (by omega) (by omega) (hq q hqm), lift_twice (N := M + 3) (M := M) (by omega) (by omega) (hq t htm), hA, Bool.and_self]
        · show (decide ((l.length : Int) ≤ 8) && l.all (actB (M + 1))) = true
          rw [k2, decide_eq_true (by omega)]
          rfl
      · cases h
    · cases h
theorem rdB_tell (M : Nat) : (n : Nat) → n ≤ M + 1 → (x : Tm n) → RightA ⟨n, x⟩ → (b : Bh (M + 1)) → rdB M n x = some b → same (M + 5) (tellB M b) n x = true ∧ (nameB b.1 && decide ((b.2.2.length : Int) ≤ 6) && b.2.2.all (clB (M + 1))) = true
  | 0, _, _, hr, _, _ => (zero_bad hr).elim
  | n + 1, hn, x, hr, b, h => by
    have hq : ∀ y ∈ partsT n x, RightA ⟨n, y⟩ := fun y hy => parts_right' hr hy
    simp only [rdB, rdBq] at h
    split at h
    · rename_i hb
      obtain ⟨h1, h', h2, h3⟩ := word_right hr hb (word_ne [98, 101, 104] (by simp))
      obtain ⟨p, hp, h⟩ := Option.bind_eq_some_iff.1 h
      split at h
      · rename_i hk
        obtain ⟨l, hl, rfl⟩ := Option.map_eq_some_iff.1 h
        have hx4 : x.1.1 = 4 := by rw [h1]
        have h8 := right_len hr hx4
        generalize partsT n x = q at *
        cases q with
        | nil => simp at hp
        | cons p' q =>
        have e : p' = p := by simpa using hp
        subst e
        cases n with
        | zero => exact (zero_bad (hq p' (by simp))).elim
        | succ n =>
        have hnm := right_atom (hq p' (by simp)) hk
        obtain ⟨k1, k2, k3⟩ := allV_tell (g := tellC M) (B := clB (M + 1)) (fun y a hy ha => rdC_tell M (n + 1) (by omega) y hy a ha) q (fun y hy => hq y (by simp [hy])) l hl
        rw [h2] at h8
        simp only [List.length_cons] at h8
        refine ⟨same_mk h1.symm ?_, ?_⟩
        · rw [h2]
          show sameL _ (atomV wBeh (M + 3) :: atomV p'.1.2.2 (M + 3) :: l.map (tellC M)) (h' :: p' :: q) = true
          simp only [sameL, h3 (M + 3), atom_same (hq p' (by simp)) hk (M + 3), k1, Bool.and_self]
        · show (nameB p'.1.2.2 && decide ((l.length : Int) ≤ 6) && l.all (clB (M + 1))) = true
          rw [hnm.2.2, k2, decide_eq_true (by omega)]
          rfl
      · cases h
    · cases h
theorem rdP_tell (M : Nat) : (n : Nat) → n ≤ M + 1 → (x : Tm n) → RightA ⟨n, x⟩ → (l : List (Bh (M + 1))) → rdP M n x = some l → same (M + 6) (tellP M l) n x = true ∧ pgB (M + 1) l = (decide (1 ≤ (l.length : Int)) && l.all fun b => decide (1 ≤ (b.2.2.length : Int)))
  | 0, _, _, hr, _, _ => (zero_bad hr).elim
  | n + 1, hn, x, hr, l, h => by
    have hq : ∀ y ∈ partsT n x, RightA ⟨n, y⟩ := fun y hy => parts_right' hr hy
    simp only [rdP] at h
    split at h
    · rename_i hb
      obtain ⟨h1, h', h2, h3⟩ := word_right hr hb (word_ne [99, 111, 100, 101] (by simp))
      have hx4 : x.1.1 = 4 := by rw [h1]
      have h8 := right_len hr hx4
      obtain ⟨k1, k2, k3⟩ := allV_tell (g := tellB M) (B := fun b => nameB b.1 && decide ((b.2.2.length : Int) ≤ 6) && b.2.2.all (clB (M + 1))) (fun y a hy ha => rdB_tell M n (by omega) y hy a ha) (partsT n x) hq l h
      rw [h2] at h8
      simp only [List.length_cons] at h8
      refine ⟨same_mk h1.symm ?_, ?_⟩
      · rw [h2]
        show sameL _ (atomV wCode (M + 4) :: l.map (tellB M)) (h' :: partsT n x) = true
        simp only [sameL, h3 (M + 4), k1, Bool.and_self]
      · have e7 : decide ((l.length : Int) ≤ 7) = true := decide_eq_true (by omega)
        have ea : l.all (bhB (M + 1)) = l.all fun b => decide (1 ≤ (b.2.2.length : Int)) := by
          rw [List.all_eq_true] at k2
          refine all_congr_mem fun b hb => ?_
          have := k2 b hb
          simp only [Bool.and_eq_true] at this
          simp only [bhB, this.1.1, this.1.2, this.2, Bool.true_and, Bool.and_true]
        simp only [pgB, e7, ea, Bool.and_true]
    · cases h
end Go.Proofs.Ytpehdgbdinjbaaa
namespace Go.Proofs.Ytpehdgbdinjbaaa
open Go.RowKit

theorem ratom_any (s : ByteArray) (w : World) :
    Calls Try.prog 79 #[.string s] w fun e w' => e = .returned (.agg #[.int .i64 2, .int .i64 0, .string s, .slice none 0 0]) ∧ w' = w.alloc (.cells #[.int .i64 2, .int .i64 0, .string s, .slice none 0 0] 24) := by
  go_enter Try.func79, Try.ntmps79
  go_wp2_with fail
  exact bodyPost_ret (v := .agg #[.int .i64 2, .int .i64 0, .string s, .slice none 0 0]) (by simp [results, Try.results79, go_sem]) rfl ⟨rfl, rfl⟩
theorem rtuple_any (a : Option Addr) (l c : Nat) (w : World) :
    Calls Try.prog 80 #[.slice a l c] w fun e w' => e = .returned (.agg #[.int .i64 4, .int .i64 0, .string ⟨#[]⟩, .slice a l c]) ∧ w' = w.alloc (.cells #[.int .i64 4, .int .i64 0, .string ⟨#[]⟩, .slice a l c] 24) := by
  go_enter Try.func80, Try.ntmps80
  go_wp2_with fail
  exact bodyPost_ret (v := .agg #[.int .i64 4, .int .i64 0, .string ⟨#[]⟩, .slice a l c]) (by simp [results, Try.results80, go_sem]) rfl ⟨rfl, rfl⟩
theorem nothing_is (n : Nat) (x : Tm (n + 1)) : same (n + 1) x 1 (zT 0) = nothingT (n + 1) x := by
  have h1 : (x.1.2.2.toList == ByteArray.empty.toList) = x.1.2.2.toList.isEmpty := by
    have : ByteArray.empty.toList = [] := by rw [ByteArray.toList_eq]; rfl
    rw [this]
    cases x.1.2.2.toList <;> rfl
  have h2 : sameL (fun (_ : Tm n) (_ : Tm 0) => false) x.2.2 [] = ((x.2.2.length : Int) == 0) := by
    cases x.2.2 with
    | nil => rfl
    | cons a l => simp [sameL]; omega
  simp only [same, zT, nothingT, hdT, hdOf, h1, h2]
theorem none_any (n : Nat) (x : Tm (n + 1)) (B : Nat) (w : World) (hx : In B w (n + 1) x) (hB : B ≤ w.heap.size) :
    Calls Try.prog 78 #[.agg #[.int .i64 x.1.1, .int .i64 x.1.2.1, .string x.1.2.2, .slice x.2.1.1 x.2.2.length x.2.1.2]] w fun e w' => e = .returned (.bool (nothingT (n + 1) x)) ∧ Below w.heap.size w w' := by
  have HS : Hid (∀ w1, Below w.heap.size w w1 → Calls Try.prog 14 #[.agg #[.int .i64 x.1.1, .int .i64 x.1.2.1, .string x.1.2.2, .slice x.2.1.1 x.2.2.length x.2.1.2], .agg #[.int .i64 0, .int .i64 0, .string ⟨#[]⟩, .slice none 0 0]] w1 fun e w' => e = .returned (.bool (nothingT (n + 1) x)) ∧ Below w1.heap.size w1 w') := fun w1 h1 => by
    rw [← nothing_is]
    exact same_any (n + 1) x 1 (zT 0) B w1 (hx.below (h1.mono hB)) (zT_in 0 B w1) (Nat.le_trans hB h1.size)
  clear hx
  generalize nothingT (n + 1) x = r at *
  go_enter Try.func78, Try.ntmps78
  go_wp2_with fail
  refine (HS.out _ (by go_grown)).mono ?_
  rintro e w1 ⟨rfl, hb1⟩
  have hb2 : Below w.heap.size w w1 := one_alloc.trans (hb1.mono (by simp))
  go_wp2_with fail
  go_ret
  exact ⟨rfl, hb2⟩
end Go.Proofs.Ytpehdgbdinjbaaa
namespace Go.Proofs.Ytpehdgbdinjbaaa
open Go.RowKit

def Few (n : Nat) (M : Nat) (p : List (Bh n)) : Prop := p.length ≤ M ∧ ∀ b ∈ p, b.2.2.length ≤ M ∧ ∀ c ∈ b.2.2, c.2.2.length ≤ M
/-- A row of terms behind k rounds: h ahead of what tells the first k things, as long as all is in form. -/
def RowI {α : Type} (N B : Nat) (f : α → Tm N) (h : List (Tm N)) (p : List α) (w0 : World) (base k : Nat) (ok : Bool) (v : Value) (wr : World) : Prop :=
  ∃ xs, xs.length ≤ k + h.length ∧ GrowT N B base xs v w0 wr ∧ (ok = true → sameL (fun a b => same N a N b) xs (h ++ (p.take k).map f) = true)
theorem RowI.slice {α : Type} {N B : Nat} {f : α → Tm N} {h : List (Tm N)} {p : List α} {w0 : World} {base k : Nat} {ok : Bool} {v : Value} {wr : World} (H : RowI N B f h p w0 base k ok v wr) : ∃ a L c, v = .slice a L c ∧ L ≤ k + h.length ∧ ∃ xs, xs.length = L ∧ GrowT N B base xs v w0 wr ∧ (ok = true → sameL (fun a b => same N a N b) xs (h ++ (p.take k).map f) = true) := by
  obtain ⟨xs, h1, h2, h3⟩ := H
  obtain ⟨a, c, e⟩ := h2.slice
  exact ⟨a, xs.length, c, e, h1, xs, rfl, h2, h3⟩
theorem GrowT.ownAt {N B base k : Nat} {xs : List (Tm N)} {v : Value} {w0 wr W : World} (h : GrowT N B base xs v w0 wr) (hk : xs.length = k) (h3 : Below wr.heap.size wr W) : W.ownsRow base 24 4 v k (xs.flatMap (tm4 N)) := by
  subst hk
  exact own_below h.2.1 h3
theorem GrowT.appAt {N B base k : Nat} {xs : List (Tm N)} {v : Value} {w0 wr W w4 : World} {g c : Nat} (h : GrowT N B base xs v w0 wr) (hk : xs.length = k) (hB : B ≤ base) (hb : base ≤ wr.heap.size) (h3 : Below wr.heap.size wr W) (X : Tm N) (hX : In W.heap.size W N X) (hO : Off (fun b => b < B ∨ wr.heap.size ≤ b) N X)
    (hown : w4.ownsRow base 24 4 (.slice (some ⟨g, 0, none⟩) (k + 1) c) (k + 1) (xs.flatMap (tm4 N) ++ tm4 N X)) (hg : W.grownBy w4 v.ownBlock) (hat : v.ownBlock = some g ∨ g = W.heap.size) :
    GrowT N B base (xs ++ [X]) (.slice (some ⟨g, 0, none⟩) (k + 1) c) w0 w4 := by
  subst hk
  exact Grow.step (tm_stays N) h hB hb h3 X hX hO hown hg hat
theorem RowI.mk {α : Type} {N B : Nat} {f : α → Tm N} {h : List (Tm N)} {p : List α} {w0 : World} {base k : Nat} {ok ok' : Bool} {v : Value} {wr : World} {xs : List (Tm N)} {X : Tm N} {y : α} (hy : p[k]? = some y) (hl : xs.length ≤ k + h.length) (hs : ok = true → sameL (fun a b => same N a N b) xs (h ++ (p.take k).map f) = true) (hg : GrowT N B base (xs ++ [X]) v w0 wr) (hok : ok' = true → ok = true ∧ same N X N (f y) = true) : RowI N B f h p w0 base (k + 1) ok' v wr := by
  refine ⟨xs ++ [X], by simp; omega, hg, fun h1 => ?_⟩
  rw [take_map_snoc f p k y hy, ← List.append_assoc]
  exact sameL_snoc _ _ _ _ _ (hs (hok h1).1) (hok h1).2
theorem RowI.skip {α : Type} {N B : Nat} {f : α → Tm N} {h : List (Tm N)} {p : List α} {w0 : World} {base k : Nat} {v : Value} {wr : World} {xs : List (Tm N)} (hl : xs.length ≤ k + h.length) (hg : GrowT N B base xs v w0 wr) : RowI N B f h p w0 base (k + 1) false v wr :=
  ⟨xs, by omega, hg, fun h1 => by cases h1⟩
/-- A block that is not the row's own stays behind an append. -/
theorem grown_at {W w4 : World} {v : Value} (hg : W.grownBy w4 v.ownBlock) {q : Nat} (hq : q < W.heap.size) (hne : v.ownBlock ≠ some q) : w4.heap[q]? = W.heap[q]? := hg.block q hq (fun e => hne e.symm)
theorem GrowT.apart {N B base : Nat} {xs : List (Tm N)} {v : Value} {w0 wr : World} (h : GrowT N B base xs v w0 wr) {q : Nat} (hq : wr.heap.size ≤ q ∨ q < base) : v.ownBlock ≠ some q := fun e => by
  have := h.2.1.lt q e
  omega
theorem rto_row2 {n B : Nat} {ys : ByteArray} {cls : List (Cl (n + 1))} {ok : Bool} {wc : World} (hs : ys.size ≤ maxLen) :
    RowI (n + 4) B (tellC n) [atomV wBeh (n + 3), atomV ys (n + 3)] cls wc wc.heap.size 0 ok (.slice (some ⟨wc.heap.size + 1 + 1, 0, none⟩) 2 2) (((wc.alloc (.cells #[.int .i64 2, .int .i64 0, .string ⟨#[98, 101, 104]⟩, .slice none 0 0] 24)).alloc (.cells #[.int .i64 2, .int .i64 0, .string ys, .slice none 0 0] 24)).alloc (.cells #[.int .i64 2, .int .i64 0, .string ⟨#[98, 101, 104]⟩, .slice none 0 0, .int .i64 2, .int .i64 0, .string ys, .slice none 0 0] 24)).drew := by
  have h := Grow.lit (T := 24) (k := 4) (B := B) (base := wc.heap.size) (tm_stays (n + 4)) [atomV wBeh (n + 3), atomV ys (n + 3)] (w0 := wc) (w1 := (wc.alloc (.cells #[.int .i64 2, .int .i64 0, .string ⟨#[98, 101, 104]⟩, .slice none 0 0] 24)).alloc (.cells #[.int .i64 2, .int .i64 0, .string ys, .slice none 0 0] 24)) (cs := #[.int .i64 2, .int .i64 0, .string ⟨#[98, 101, 104]⟩, .slice none 0 0, .int .i64 2, .int .i64 0, .string ys, .slice none 0 0]) rfl (tm4_len _) (by show 2 ≤ maxLen; unfold maxLen; omega) (by simp; omega) (((Below.refl _ _).alloc (Nat.le_refl _) _).alloc (by simp) _) (fun y hy => by
    simp only [List.mem_cons, List.not_mem_nil, or_false] at hy
    rcases hy with rfl | rfl
    · exact ⟨atomV_in _ _ (word_le _ (by decide)) _ _, atomV_off _ _ _⟩
    · exact ⟨atomV_in _ _ hs _ _, atomV_off _ _ _⟩)
  have e : ((wc.alloc (.cells #[.int .i64 2, .int .i64 0, .string ⟨#[98, 101, 104]⟩, .slice none 0 0] 24)).alloc (.cells #[.int .i64 2, .int .i64 0, .string ys, .slice none 0 0] 24)).heap.size = wc.heap.size + 1 + 1 := by simp
  rw [e] at h
  exact ⟨_, by simp, h.later (tm_stays _) (by simp; omega) (Below.refl _ _).drew, fun _ => by simp [sameL, atomV_same]⟩
/-- A literal of some terms, as a tuple. -/
theorem lit_tup {B N : Nat} (xs : List (Tm N)) {w w1 W : World} {cs : Array Value} {g L : Nat} (h1 : Below w.heap.size w w1) (hg : g = w1.heap.size) (hL : L = xs.length) (h2 : Below (w1.alloc (.cells cs 24)).heap.size (w1.alloc (.cells cs 24)) W) (hcs : cs.toList = xs.flatMap (tm4 N)) (hm : xs.length ≤ 8) (hBw : B ≤ w.heap.size) (hX : ∀ y ∈ xs, In B w N y) :
    In W.heap.size W (N + 1) ((4, 0, .empty), (some ⟨g, 0, none⟩, L), xs) ∧ Off (fun b => b < B ∨ w.heap.size ≤ b) (N + 1) ((4, 0, .empty), (some ⟨g, 0, none⟩, L), xs) ∧ same (N + 1) ((4, 0, .empty), (some ⟨g, 0, none⟩, L), xs) (N + 1) (tupV N xs) = true := by
  subst hg hL
  have h := Grow.lit (T := 24) (k := 4) (B := B) (base := w1.heap.size) (tm_stays N) xs (w0 := w1) hcs (tm4_len N) (by unfold maxLen; omega) (Nat.le_refl _) (Below.refl _ _) (fun y hy => ⟨((hX y hy).below (h1.mono hBw)).mono (Nat.le_trans hBw h1.size), (in_offLow (hX y hy)).mono fun b hb => Or.inl hb⟩)
  have k := GrowT.tup (Grow.later (tm_stays N) h (by simp) h2)
  exact ⟨k.1, k.2.mono fun b hb => by have := h1.size; omega, same_mk rfl (sameL_self _ _ fun y hy => in_self (hX y hy))⟩
theorem new_last (Z : World) (o : Obj) {g : Nat} (hg : g = Z.heap.size) : (Z.alloc o).drew.heap[g]? = some o := by
  subst hg
  exact heap_alloc_new Z o
theorem new_last0 (Z : World) (o : Obj) {g : Nat} (hg : g = Z.heap.size) : (Z.alloc o).heap[g]? = some o := by
  subst hg
  exact heap_alloc_new Z o
/-- An act's box. -/
theorem act_box {w : World} {q : Nat} {c0 c1 c2 c3 c4 c5 c6 c7 c8 c9 c10 : Value} {t : TypeId} (h : w.heap[q]? = some (.cells #[c0, c1, c2, c3, c4, c5, c6, c7, c8, c9, c10] t)) :
    w.cell? ⟨q, 1, none⟩ = some c1 ∧ w.cell? ⟨q, 2, none⟩ = some c2 ∧ w.cell? ⟨q, 3, none⟩ = some c3 ∧ w.cell? ⟨q, 4, none⟩ = some c4 ∧ w.cell? ⟨q, 5, none⟩ = some c5 ∧ w.cell? ⟨q, 6, none⟩ = some c6 ∧ w.cell? ⟨q, 7, none⟩ = some c7 ∧ w.cell? ⟨q, 8, none⟩ = some c8 ∧ w.cell? ⟨q, 9, none⟩ = some c9 ∧ w.cell? ⟨q, 10, none⟩ = some c10 :=
  ⟨box_cell h 1, box_cell h 2, box_cell h 3, box_cell h 4, box_cell h 5, box_cell h 6, box_cell h 7, box_cell h 8, box_cell h 9, box_cell h 10⟩
theorem spawn_B {n : Nat} (t x : Tm n) (s : ByteArray) (v : Int) : actB n (2, (t, x), (s, v)) = (nothingT n t && nameB s && inB v 0 3) := by
  have h : decide (v < 4) = decide (v ≤ 3) := by
    by_cases h : v < 4
    · rw [decide_eq_true h, decide_eq_true (by omega)]
    · rw [decide_eq_false h, decide_eq_false (by omega)]
  show (nothingT n t && nameB s && decide (0 ≤ v) && decide (v < 4)) = (nothingT n t && nameB s && (decide (0 ≤ v) && decide (v ≤ 3)))
  rw [h, Bool.and_assoc]
theorem clause_in {n B base : Nat} {s m x : Tm (n + 1)} {w wr w1 : World} {A : Tm (n + 3)} (hB : B ≤ w.heap.size) (hs : In B w (n + 1) s) (hm : In B w (n + 1) m) (hx : In B w (n + 1) x) (hbw : Below w.heap.size w wr) (hA : In wr.heap.size wr (n + 3) A ∧ Off (fun b => b < B ∨ base ≤ b) (n + 3) A) (h1 : Below wr.heap.size wr w1) :
    ∀ y ∈ [atomV wOn (n + 2), lift (n + 3) (n + 1) s, lift (n + 3) (n + 1) m, A, lift (n + 3) (n + 1) x], In w1.heap.size w1 (n + 3) y ∧ Off (fun b => b < B ∨ base ≤ b) (n + 3) y := by
  have L : ∀ t : Tm (n + 1), In B w (n + 1) t → In w1.heap.size w1 (n + 3) (lift (n + 3) (n + 1) t) ∧ Off (fun b => b < B ∨ base ≤ b) (n + 3) (lift (n + 3) (n + 1) t) := fun t ht => by
    have h2 := lift_in (n + 3) (n + 1) (by omega) t B w ht
    have hb := hbw.trans (h1.mono hbw.size)
    exact ⟨(h2.below (hb.mono hB)).mono (Nat.le_trans hB hb.size), (in_offLow h2).mono fun b hb => Or.inl hb⟩
  intro y hy
  simp only [List.mem_cons, List.not_mem_nil, or_false] at hy
  rcases hy with rfl | rfl | rfl | rfl | rfl
  · exact ⟨atomV_in _ _ (word_le _ (by decide)) _ _, atomV_off _ _ _⟩
  · exact L s hs
  · exact L m hm
  · exact ⟨(hA.1.below h1).mono h1.size, hA.2⟩
  · exact L x hx
theorem clause_same {n B : Nat} {s m x : Tm (n + 1)} {w : World} {A : Tm (n + 3)} {ys : List (Tm (n + 2))} (hs : In B w (n + 1) s) (hm : In B w (n + 1) m) (hx : In B w (n + 1) x) (hAs : same (n + 3) A (n + 3) (tupV (n + 2) ys) = true) :
    sameL (fun a b => same (n + 3) a (n + 3) b) [atomV wOn (n + 2), lift (n + 3) (n + 1) s, lift (n + 3) (n + 1) m, A, lift (n + 3) (n + 1) x] [atomV wOn (n + 2), lift (n + 3) (n + 1) s, lift (n + 3) (n + 1) m, tupV (n + 2) ys, lift (n + 3) (n + 1) x] = true := by
  have S : ∀ t : Tm (n + 1), In B w (n + 1) t → same (n + 3) (lift (n + 3) (n + 1) t) (n + 3) (lift (n + 3) (n + 1) t) = true := fun t ht => in_self (lift_in (n + 3) (n + 1) (by omega) t B w ht)
  simp only [sameL, S s hs, S m hm, S x hx, hAs, atomV_same, Bool.and_self]
theorem lit_tup2 {B N base : Nat} (xs : List (Tm N)) {w1 W : World} {cs : Array Value} {g L : Nat} (hb1 : base ≤ w1.heap.size) (hg : g = w1.heap.size) (hL : L = xs.length) (h2 : Below (w1.alloc (.cells cs 24)).heap.size (w1.alloc (.cells cs 24)) W) (hcs : cs.toList = xs.flatMap (tm4 N)) (hm : xs.length ≤ 8) (hX : ∀ y ∈ xs, In w1.heap.size w1 N y ∧ Off (fun b => b < B ∨ base ≤ b) N y) :
    In W.heap.size W (N + 1) ((4, 0, .empty), (some ⟨g, 0, none⟩, L), xs) ∧ Off (fun b => b < B ∨ base ≤ b) (N + 1) ((4, 0, .empty), (some ⟨g, 0, none⟩, L), xs) := by
  subst hg hL
  have h := Grow.lit (T := 24) (k := 4) (B := B) (base := base) (tm_stays N) xs (w0 := w1) hcs (tm4_len N) (by unfold maxLen; omega) hb1 (Below.refl _ _) hX
  exact GrowT.tup (Grow.later (tm_stays N) h (by simp; omega) h2)
/-- A clause's box: its terms. -/
theorem clause_box {w : World} {q : Nat} {c0 c1 c2 c3 c4 c5 c6 c7 c8 c9 c10 c11 c12 : Value} {t : TypeId} (h : w.heap[q]? = some (.cells #[c0, c1, c2, c3, c4, c5, c6, c7, c8, c9, c10, c11, c12] t)) :
    (w.cell? ⟨q, 0, none⟩ = some c0 ∧ w.cell? ⟨q, 1, none⟩ = some c1 ∧ w.cell? ⟨q, 2, none⟩ = some c2 ∧ w.cell? ⟨q, 3, none⟩ = some c3) ∧ (w.cell? ⟨q, 4, none⟩ = some c4 ∧ w.cell? ⟨q, 5, none⟩ = some c5 ∧ w.cell? ⟨q, 6, none⟩ = some c6 ∧ w.cell? ⟨q, 7, none⟩ = some c7) ∧ (w.cell? ⟨q, 9, none⟩ = some c9 ∧ w.cell? ⟨q, 10, none⟩ = some c10 ∧ w.cell? ⟨q, 11, none⟩ = some c11 ∧ w.cell? ⟨q, 12, none⟩ = some c12) :=
  ⟨⟨box_cell h 0, box_cell h 1, box_cell h 2, box_cell h 3⟩, ⟨box_cell h 4, box_cell h 5, box_cell h 6, box_cell h 7⟩, box_cell h 9, box_cell h 10, box_cell h 11, box_cell h 12⟩
theorem ok_left {a b c d : Bool} (h : d = (a && b && c)) (k : d = true) : a = true := by
  subst h
  simp only [Bool.and_eq_true] at k
  exact k.1.1
theorem ok_left2 {a b c e d : Bool} (h : d = (a && b && c && e)) (k : d = true) : a = true := by
  subst h
  simp only [Bool.and_eq_true] at k
  exact k.1.1.1
theorem cs_is {w : World} {q L : Nat} {N : Nat} {xs : List (Tm N)} {va : Option Addr} {vc : Nat} {t : TypeId} (hL : xs.length = L) (h : w.heap[q]? = some (.cells #[.int .i64 4, .int .i64 0, .string ⟨#[]⟩, .slice va L vc] t)) : w.heap[q]? = some (.cells #[.int .i64 4, .int .i64 0, .string ⟨#[]⟩, .slice va xs.length vc] t) := by rw [hL]; exact h
theorem form_len {n len : Nat} {p : List (Bh n)} (h : pgB n p = true) (hl : p.length = len) : inB (len : Int) 1 7 = true := by
  rw [← hl]
  simp only [pgB, Bool.and_eq_true] at h
  simp only [inB, h.1.1, h.1.2, Bool.and_self]
theorem form_beh {n : Nat} {p : List (Bh n)} (h : pgB n p = true) {b : Bh n} (hb : b ∈ p) : nameB b.1 = true ∧ inB (b.2.2.length : Int) 1 6 = true ∧ b.2.2.length ≤ 6 ∧ ∀ c ∈ b.2.2, c.2.2.length ≤ 8 ∧ ∀ a ∈ c.2.2, actB n a = true := by
  simp only [pgB, bhB, clB, Bool.and_eq_true, decide_eq_true_eq, List.all_eq_true] at h
  obtain ⟨⟨⟨h1, h2⟩, h3⟩, h4⟩ := h.2 b hb
  refine ⟨h1, ?_, by omega, fun c hc => ⟨by have := (h4 c hc).1; omega, (h4 c hc).2⟩⟩
  simp only [inB, decide_eq_true h2, decide_eq_true h3, Bool.and_self]
theorem form_kind {n : Nat} {K : Int} {t x : Tm n} {s : ByteArray} {v : Int} (h : actB n (K, (t, x), (s, v)) = true) :
    (K = 1 ∧ s.toList.isEmpty = true ∧ (v == 0) = true) ∨ (K = 2 ∧ nothingT n t = true ∧ nameB s = true ∧ inB v 0 3 = true) ∨ (K = 3 ∧ nothingT n x = true ∧ s.toList.isEmpty = true ∧ (v == 0) = true) ∨ (K = 4 ∧ nothingT n t = true ∧ nothingT n x = true ∧ s.toList.isEmpty = true ∧ (v == 0) = true) := by
  by_cases k1 : K = 1
  · subst k1
    have h' : (s.toList.isEmpty && v == 0) = true := h
    rw [Bool.and_eq_true] at h'
    exact Or.inl ⟨rfl, h'.1, h'.2⟩
  by_cases k2 : K = 2
  · subst k2
    rw [spawn_B] at h
    simp only [Bool.and_eq_true] at h
    exact Or.inr (Or.inl ⟨rfl, h.1.1, h.1.2, h.2⟩)
  by_cases k3 : K = 3
  · subst k3
    have h' : (nothingT n x && (s.toList.isEmpty && v == 0)) = true := h
    simp only [Bool.and_eq_true] at h'
    exact Or.inr (Or.inr (Or.inl ⟨rfl, h'.1, h'.2.1, h'.2.2⟩))
  by_cases k4 : K = 4
  · subst k4
    have h' : (nothingT n t && nothingT n x && (s.toList.isEmpty && v == 0)) = true := h
    simp only [Bool.and_eq_true] at h'
    exact Or.inr (Or.inr (Or.inr ⟨rfl, h'.1.1, h'.1.2, h'.2.1, h'.2.2⟩))
  · simp [actB, k1, k2, k3, k4] at h
end Go.Proofs.Ytpehdgbdinjbaaa
namespace Go.Proofs.Ytpehdgbdinjbaaa
open Go.RowKit

section
variable {P : Program} {ops : Array Oper} {Q : Exit → Act → World → Prop} {md : Region.Mode} {S : World → Prop} {X : Nat}

/-- Whatever order is picked from here on; S holds behind every operation but X. -/
def wpAnyX (P : Program) (md : Region.Mode) (ops : Array Oper) (Q : Exit → Act → World → Prop) (S : World → Prop) (X : Nat) : Nat → Array Bool → Act → World → Prop
  | 0, listed, a, w => Region.ready md ops listed = [] ∧ Q .normal a w
  | fuel + 1, listed, a, w =>
    (Region.ready md ops listed = [] → Q .normal a w) ∧
    ∀ i ∈ Region.ready md ops listed, wpOp P ops Q i (fun a' w' => (i ≠ X → S w') ∧ wpAnyX P md ops Q S X fuel (listed.setIfInBounds i true) a' w') a w
theorem wpAny_of_x : ∀ (fuel : Nat) (listed : Array Bool) (a : Act) (w : World), wpAnyX P md ops Q S X fuel listed a w → wpAny P md ops Q fuel listed a w
  | 0, _, _, _, h => h
  | fuel + 1, _, _, _, h => ⟨h.1, fun i hi => wpOp_mono (fun a' w' h' => wpAny_of_x fuel _ a' w' h'.2) (h.2 i hi)⟩
theorem wpAnyX_first {i : Nat} {oi : Oper} {v : Value} (hi : ops[i]? = some oi) (hsel : ∀ (j : Nat) (o : Oper) cs b, ops[j]? = some o → o.op ≠ .select cs b)
    (hQ : ∀ c a w, Q (.panic c) (a.put oi.dst v) w → Q (.panic c) a w) (hX : ∀ oj, ops[X]? = some oj → ∃ e ∈ oj.after, Region.binds md e = true ∧ e.on = i) :
    ∀ (fuel : Nat) (listed : Array Bool) (a : Act) (w : World),
      (∀ j oj, ops[j]? = some oj → j ≠ i → listed.getD j true = false → (∀ e ∈ oj.after, Region.binds md e = true → e.on ≠ i) → oi.apart ops oj = true) →
      i ∈ Region.ready md ops listed → YieldsIf P ops S oi v a → S w →
      wpAnyX P md ops Q S X fuel (listed.setIfInBounds i true) (a.put oi.dst v) w → wpAnyX P md ops Q S X (fuel + 1) listed a w := by
  intro fuel
  induction fuel with
  | zero =>
    intro listed a w _ hr hy hS H
    refine ⟨fun h => (by rw [h] at hr; cases hr), fun j hj => ?_⟩
    by_cases hji : j = i
    · subst hji; exact hy.wpOp hi hS ⟨fun _ => hS, H⟩
    · have := ready_mono hj hji
      rw [H.1] at this
      cases this
  | succ fuel ih =>
    intro listed a w hfree hr hy hS H
    refine ⟨fun h => (by rw [h] at hr; cases hr), fun j hj => ?_⟩
    by_cases hji : j = i
    · subst hji; exact hy.wpOp hi hS ⟨fun _ => hS, H⟩
    · have h1 := H.2 j (ready_mono hj hji)
      obtain ⟨hjun, oj, hoj, hall⟩ := mem_ready.1 hj
      have hnot : ∀ e ∈ oj.after, Region.binds md e = true → e.on ≠ i := fun e he hb heq => by
        have h1 := hall e he hb
        have h0 := (mem_ready.1 hr).1
        rw [heq] at h1
        rcases Nat.lt_or_ge i listed.size with h' | h'
        · simp [h'] at h0 h1; rw [h0] at h1; cases h1
        · simp [Array.getElem?_eq_none h'] at h1
      have hne : j ≠ X := fun e => by
        obtain ⟨e1, he1, hb1, ho1⟩ := hX oj (by rw [← e]; exact hoj)
        exact hnot e1 he1 hb1 ho1
      have h2 := wpOp_putIf hoj (hfree j oj hoj hji hjun hnot) (fun cs b => hsel i oi cs b hi) (fun cs b => hsel j oj cs b hoj) hQ hy h1
      have hfree' : ∀ k ok, ops[k]? = some ok → k ≠ i → (listed.setIfInBounds j true).getD k true = false →
          (∀ e ∈ ok.after, Region.binds md e = true → e.on ≠ i) → oi.apart ops ok = true := fun k ok hk hki hun hno => by
        refine hfree k ok hk hki ?_ hno
        by_cases hjk : j = k
        · subst hjk; exact hjun
        · rw [getD_set_ne true hjk] at hun; exact hun
      refine wpOp_mono (fun a' w' h3 => ⟨fun _ => h3.2.1 hne, ih (listed.setIfInBounds j true) a' w' hfree' (ready_mono hr (Ne.symm hji)) h3.1 (h3.2.1 hne) ?_⟩) h2
      rw [Array.setIfInBounds_comm _ _ hji]
      exact h3.2.2
/-- Operation X waits for operation i. -/
def waitsB (md : Region.Mode) (ops : Array Oper) (X i : Nat) : Bool := ((ops[X]?).map fun o => o.after.any fun e => Region.binds md e && e.on == i).getD false
theorem waits_spec {i : Nat} (h : waitsB md ops X i = true) : ∀ oj, ops[X]? = some oj → ∃ e ∈ oj.after, Region.binds md e = true ∧ e.on = i := fun oj hj => by
  unfold waitsB at h
  rw [hj] at h
  simp only [Option.map_some, Option.getD_some, Array.any_eq_true] at h
  obtain ⟨k, hk, h⟩ := h
  simp only [Bool.and_eq_true, beq_iff_eq] at h
  exact ⟨_, Array.getElem_mem hk, h.1, h.2⟩
theorem wpAnyX_take {i : Nat} {oi : Oper} {v : Value} {fuel : Nat} {listed : Array Bool} {a : Act} {w : World} (hi : ops[i]? = some oi)
    (hs : Region.noSelect ops = true) (hf : Region.free md ops listed i = true) (hr : (Region.ready md ops listed).contains i = true) (hx : waitsB md ops X i = true)
    (hQ : ∀ c a w, Q (.panic c) (a.put oi.dst v) w → Q (.panic c) a w) (hg : oi.guard = none) (hy : ∀ w, S w → (execOp a.eval oi).run P w = .ok (.value v) w) (hS : S w)
    (h : wpAnyX P md ops Q S X fuel (listed.setIfInBounds i true) (a.put oi.dst v) w) : wpAnyX P md ops Q S X (fuel + 1) listed a w :=
  wpAnyX_first hi (Region.noSelect_spec hs) hQ (waits_spec hx) fuel listed a w (Region.free_spec hi hf) (by simpa using hr) (Or.inl ⟨by simp [Region.wanted, hg], hy⟩) hS h
/-- Only one may come up. -/
theorem wpAnyX_one {i : Nat} {o : Oper} {fuel : Nat} {listed : Array Bool} {a : Act} {w : World} (hr : Region.ready md ops listed = [i]) (ho : ops[i]? = some o) (hg : o.guard = none)
    (h : ∀ K : Act → World → Prop, Hid (∀ a' w', (i ≠ X → S w') → (S w' → wpAnyX P md ops Q S X fuel (listed.setIfInBounds i true) a' w') → K a' w') → o.wp P a w K Q) (hne : i ≠ X) : wpAnyX P md ops Q S X (fuel + 1) listed a w := by
  refine ⟨fun h0 => (by rw [hr] at h0; cases h0), fun j hj => ?_⟩
  rw [hr] at hj
  obtain rfl : j = i := by simpa using hj
  unfold wpOp
  simp only [ho]
  have hw : Region.wanted o (yielded ops a.tmps) = true := by simp [Region.wanted, hg]
  simp only [hw, if_true]
  exact Or.inl (h _ fun a' w' h1 h2 => ⟨h1, h2 (h1 hne)⟩)
/-- The last one. -/
theorem wpAnyX_last {o : Oper} {fuel : Nat} {listed : Array Bool} {a : Act} {w : World} (hr : Region.ready md ops listed = [X]) (ho : ops[X]? = some o) (hg : o.guard = none) (hd : Region.ready md ops (listed.setIfInBounds X true) = [])
    (h : ∀ K : Act → World → Prop, Hid (∀ a' w', Q .normal a' w' → K a' w') → o.wp P a w K Q) : wpAnyX P md ops Q S X (fuel + 1) listed a w := by
  refine ⟨fun h0 => (by rw [hr] at h0; cases h0), fun j hj => ?_⟩
  rw [hr] at hj
  obtain rfl : j = X := by simpa using hj
  unfold wpOp
  simp only [ho]
  have hw : Region.wanted o (yielded ops a.tmps) = true := by simp [Region.wanted, hg]
  simp only [hw, if_true]
  refine Or.inl (h _ fun a' w' h1 => ⟨fun h2 => absurd rfl h2, ?_⟩)
  cases fuel with
  | zero => exact ⟨hd, h1⟩
  | succ fuel => exact ⟨fun _ => h1, by rw [hd]; simp⟩
theorem wp_region_x (S : World → Prop) (X : Nat) {id : Nat} {a : Act} {w : World} (hm : P.follows .mixedOrders = true)
    (h : wpAnyX P .any ops Q S X ops.size (Array.replicate ops.size false) a w.drew) : (Code.region id ops true).wp P Q a w :=
  wp_region_any hm (wpAny_of_x _ _ _ _ h)
end
end Go.Proofs.Ytpehdgbdinjbaaa
namespace Go.Proofs.Ytpehdgbdinjbaaa
open Go.RowKit

theorem is_kind (x0 x1 : Int) (x2 : ByteArray) (a : Option Addr) (len pc : Nat) (s : ByteArray) (k : Nat) (w : World) (h : (x0 == 4) = false) :
    Calls Try.prog 74 #[.agg #[.int .i64 x0, .int .i64 x1, .string x2, .slice a len pc], .string s, .int .i64 k] w fun e w' => e = .returned (.bool false) ∧ Below w.heap.size w w' := by
  go_enter Try.func74, Try.ntmps74
  go_wp2_with fail
  go_ret
  exact ⟨rfl, (Below.refl _ _).alloc (Nat.le_refl _) _⟩
/-- The tuple of a word, and so many others. -/
def isT (n : Nat) (x : Tm (n + 1)) (s : ByteArray) (k : Nat) : Bool := x.1.1 == 4 && isW n x.2.2 s k
theorem ris_any (n : Nat) (x : Tm (n + 1)) (B : Nat) (s : ByteArray) (k : Nat) (w : World) (hx : In B w (n + 1) x) (hB : B ≤ w.heap.size) (hr : RightA ⟨n + 1, x⟩) (hk : k ≤ 8) :
    Calls Try.prog 74 #[.agg #[.int .i64 x.1.1, .int .i64 x.1.2.1, .string x.1.2.2, .slice x.2.1.1 x.2.2.length x.2.1.2], .string s, .int .i64 k] w fun e w' => e = .returned (.bool (isT n x s k)) ∧ Below w.heap.size w w' := by
  unfold isT
  by_cases h4 : x.1.1 = 4
  · have hl : x.2.2.length ≤ 8 := right_len hr h4
    rw [h4]
    exact is_any n x.2.2 x.1.2.1 x.1.2.2 x.2.1.1 x.2.1.2 B s k w hx.2 hB hl hk
  · have e : (x.1.1 == 4) = false := by simpa using h4
    rw [e]
    exact is_kind _ _ _ _ _ _ _ _ _ e
theorem isT_word (n : Nat) (x : Tm (n + 1)) (s : ByteArray) (k : Nat) (hs : s.toList ≠ []) : isT n x s k = (isB (wordT n x) s && decide ((partsT n x).length = k)) := by
  have e0 : isB ByteArray.empty s = false := by
    have : ByteArray.empty.toList = [] := by rw [ByteArray.toList_eq]; rfl
    simp only [isB, this]
    cases h : s.toList with
    | nil => exact absurd h hs
    | cons a l => rfl
  unfold isT wordT partsT isW
  by_cases h4 : x.1.1 = 4
  · rw [if_pos h4, if_pos h4]
    have e : (x.1.1 == 4) = true := by simpa using h4
    rw [e, Bool.true_and]
    cases hx : x.2.2 with
    | nil => simp [e0]
    | cons h l =>
      simp only [List.getElem?_cons_zero, List.length_cons, List.drop_succ_cons, List.drop_zero]
      by_cases h2 : kindA ⟨n, h⟩ = 2
      · have e2 : (kindA ⟨n, h⟩ == 2) = true := by simpa using h2
        rw [if_pos h2, if_pos h2, e2, Bool.true_and]
        show _ = (((hdT n h).1.2.2.toList == s.toList) && _)
        rw [Bool.and_comm]
        congr 1
        by_cases hl : l.length = k
        · simp [hl]; omega
        · simp [hl]; omega
      · have e2 : (kindA ⟨n, h⟩ == 2) = false := by simpa using h2
        rw [if_neg h2, if_neg h2, e2, Bool.false_and, Bool.and_false, e0, Bool.false_and]
  · have e : (x.1.1 == 4) = false := by simpa using h4
    rw [if_neg h4, if_neg h4, e, e0]
    rfl
theorem isT_parts {n : Nat} {x : Tm (n + 1)} {s : ByteArray} {k : Nat} (h : isT n x s k = true) : ∃ h0, x.2.2 = h0 :: partsT n x ∧ (partsT n x).length = k ∧ x.2.2.length = k + 1 := by
  unfold isT isW at h
  simp only [Bool.and_eq_true, beq_iff_eq, decide_eq_true_eq] at h
  obtain ⟨h4, hl, h2⟩ := h
  cases hx : x.2.2 with
  | nil => rw [hx] at hl; simp at hl; omega
  | cons h0 l =>
    rw [hx] at hl h2
    simp only [List.getElem?_cons_zero, Bool.and_eq_true, beq_iff_eq] at h2
    have hp : partsT n x = l := by
      unfold partsT
      rw [if_pos h4, hx]
      simp only [List.getElem?_cons_zero, if_pos h2.1, List.drop_succ_cons, List.drop_zero]
    rw [hp]
    simp only [List.length_cons] at hl
    exact ⟨h0, rfl, by omega, by simp; omega⟩
theorem word_lit (l : List UInt8) (h : l ≠ []) : (⟨l.toArray⟩ : ByteArray).toList ≠ [] := word_ne l h
/-- What an act is read as, by Is. -/
theorem rdA_is (M n : Nat) (y : Tm (n + 1)) : rdA M (n + 1) y =
    if isT n y wSend 2 = true then ((partsT n y)[0]?).bind fun a => ((partsT n y)[1]?).bind fun b => some (1, (lift (M + 1) n a, lift (M + 1) n b), (.empty, 0))
    else if isT n y wSpawn 3 = true then ((partsT n y)[0]?).bind fun a => ((partsT n y)[1]?).bind fun b => ((partsT n y)[2]?).bind fun c => rdSp M n a b c
    else if isT n y wLink 1 = true then ((partsT n y)[0]?).bind fun a => some (3, (lift (M + 1) n a, zT M), (.empty, 0))
    else if isT n y wStop 0 = true then some (4, (zT M, zT M), (.empty, 0)) else none := by
  rw [isT_word n y wSend 2 (word_lit [115, 101, 110, 100] (by simp)), isT_word n y wSpawn 3 (word_lit [115, 112, 97, 119, 110] (by simp)), isT_word n y wLink 1 (word_lit [108, 105, 110, 107] (by simp)), isT_word n y wStop 0 (word_lit [115, 116, 111, 112] (by simp))]
  rfl

theorem Grow.reset {α : Type} {I : Nat → World → α → Prop} {O : (Nat → Prop) → α → Prop} {f : α → List Value} {k : Nat} {T : TypeId} {B base : Nat} {xs : List α} {v : Value} {w0 wr : World} (h : Grow I O f k T B base xs v w0 wr) : Grow I O f k T B base xs v wr wr := ⟨Below.refl _ _, h.2⟩
/-- A row stays where a box ahead of it is written. -/
theorem Grow.stored {α : Type} {I : Nat → World → α → Prop} {O : (Nat → Prop) → α → Prop} (hS : Stays I O) {f : α → List Value} {k : Nat} {T : TypeId} {B base g : Nat} {xs : List α} {v : Value} {w0 wr w1 : World} (h : Grow I O f k T B base xs v w0 wr) (hk : Keeps g wr w1) (hB : B ≤ g) (hg : g < base) : Grow I O f k T B base xs v w1 w1 := by
  obtain ⟨_, h2, h3⟩ := h
  refine ⟨Below.refl _ _, ⟨h2.1, ?_⟩, fun y hy => ⟨?_, (h3 y hy).2⟩⟩
  · rcases h2.2 with e | ⟨q, cap, cur, e, hqb, hh, r⟩
    · exact Or.inl e
    · exact Or.inr ⟨q, cap, cur, e, hqb, (hk.2.2 q (by omega)).trans hh, r⟩
  · rw [hk.2.1]
    exact hS.2.2.1 _ _ wr w1 y (fun b hb => hk.2.2 b (by omega)) (h3 y hy).2 (h3 y hy).1
end Go.Proofs.Ytpehdgbdinjbaaa
