/- What is proved here: match.Fits of two terms and a list of terms that lie in memory returns what the plain functions say: the error of what isn't right, or whether the pattern fits, and then copies of what is bound; it turns no memory that was there. Condition: at most 2097152 terms in each. -/
import Derived.Test.YtfaoeccnhbcjgabMFit
import Derived.Test.YtfaoeccnhbcjgabUni
namespace Go.Proofs.Ytfaoeccnhbcjgab
open Go.RowKit

/-- The error, by what is asked in order. -/
def errF (cp ct : Int) (cl bd : Bool) : Int := if cp = 0 then if ct = 0 then if cl && bd then 0 else 5 else ct else cp
/-- What match.Fits leaves: err, and o: what is bound then. -/
def FitOut (err : Int) (o : Option (List An)) (w : World) (e : Ending) (w' : World) : Prop :=
  ∃ a len c r, e = .returned (.tuple #[.slice a len c, .bool r, .int .i64 err]) ∧ Hid (Below w.heap.size w w' ∧
    ((¬ (err = 0 ∧ o.isSome = true) → len = 0 ∧ r = false) ∧ ∀ b, err = 0 → o = some b → r = true ∧ len = 4 ∧ b.length = 4 ∧ ∃ w1 l, w.heap.size ≤ w1.heap.size ∧ CpRow (top b) (uni b) w1 w' a c l))
/-- The world with two boxes, and what came since. -/
def Bx2 (w : World) (v0 v1 v2 v3 u0 u1 u2 u3 : Value) (w' : World) : Prop :=
  Below w.heap.size w w' ∧ w.heap.size + 2 ≤ w'.heap.size ∧
  (w'.cell? ⟨w.heap.size, 0, none⟩ = some v0 ∧ w'.cell? ⟨w.heap.size, 1, none⟩ = some v1 ∧ w'.cell? ⟨w.heap.size, 2, none⟩ = some v2 ∧ w'.cell? ⟨w.heap.size, 3, none⟩ = some v3) ∧
  (w'.cell? ⟨w.heap.size + 1, 0, none⟩ = some u0 ∧ w'.cell? ⟨w.heap.size + 1, 1, none⟩ = some u1 ∧ w'.cell? ⟨w.heap.size + 1, 2, none⟩ = some u2 ∧ w'.cell? ⟨w.heap.size + 1, 3, none⟩ = some u3)
theorem Bx2.new (w : World) (v0 v1 v2 v3 u0 u1 u2 u3 : Value) (t t' : TypeId) : Bx2 w v0 v1 v2 v3 u0 u1 u2 u3 ((w.alloc (.cells #[v0, v1, v2, v3] t)).alloc (.cells #[u0, u1, u2, u3] t')) :=
  ⟨((Below.refl _ _).alloc (Nat.le_refl _) _).alloc (by simp) _, by simp, ⟨by simp [go_sem], by simp [go_sem], by simp [go_sem], by simp [go_sem]⟩, by simp [go_sem], by simp [go_sem], by simp [go_sem], by simp [go_sem]⟩
theorem Bx2.next {w : World} {v0 v1 v2 v3 u0 u1 u2 u3 : Value} {w1 w2 : World} (h : Bx2 w v0 v1 v2 v3 u0 u1 u2 u3 w1) (hb : Below w1.heap.size w1 w2) : Bx2 w v0 v1 v2 v3 u0 u1 u2 u3 w2 :=
  ⟨h.1.trans (hb.mono h.1.size), Nat.le_trans h.2.1 hb.size, cells_nx (by have := h.2.1; omega) hb h.2.2.1, cells_nx (by have := h.2.1; omega) hb h.2.2.2⟩

set_option maxHeartbeats 2000000 in
theorem mfits_walk (w : World) (k u k' u' : Int) (s s' : ByteArray) (a a' : Option Addr) (l pc l' pc' : Nat) (qa : Option Addr) (ql qc : Nat) (cp ct : Int) (cl bd : Bool) (o : Option (List An)) (b0 : List An)
    (HCP : Hid (∀ w1, Below w.heap.size w w1 → Calls Try.prog 41 #[.agg #[.int .i64 k, .int .i64 u, .string s, .slice a l pc]] w1 fun e w' => e = .returned (.int .i64 cp) ∧ Below w1.heap.size w1 w'))
    (HCT : Hid (∀ w1, Below w.heap.size w w1 → Calls Try.prog 41 #[.agg #[.int .i64 k', .int .i64 u', .string s', .slice a' l' pc']] w1 fun e w' => e = .returned (.int .i64 ct) ∧ Below w1.heap.size w1 w'))
    (HCL : Hid (∀ w1, Below w.heap.size w w1 → Calls Try.prog 42 #[.agg #[.int .i64 k', .int .i64 u', .string s', .slice a' l' pc']] w1 fun e w' => e = .returned (.bool cl) ∧ Below w1.heap.size w1 w'))
    (HBD : Hid (∀ w1, Below w.heap.size w w1 → Calls Try.prog 53 #[.slice qa ql qc] w1 fun e w' => e = .returned (.bool bd) ∧ Below w1.heap.size w1 w'))
    (HCN : Hid (bd = true → ∀ w1, Below w.heap.size w w1 → Calls Try.prog 54 #[.slice qa ql qc] w1 fun e w' => ∃ g c, e = .returned (.slice (some ⟨g, 0, none⟩) 4 c) ∧ Hid (Below w1.heap.size w1 w' ∧ Has w1.heap.size g c b0 w')))
    (HF : Hid (errF cp ct cl bd = 0 → ∀ w1 base g c, Below w.heap.size w w1 → w.heap.size ≤ base → Has base g c b0 w1 → Calls Try.prog 55 #[.slice (some ⟨g, 0, none⟩) 4 c, .agg #[.int .i64 k, .int .i64 u, .string s, .slice a l pc], .agg #[.int .i64 k', .int .i64 u', .string s', .slice a' l' pc']] w1 (FitPost base g c o w1)))
    (HC : Hid (errF cp ct cl bd = 0 → ∀ w1 base g c b, o = some b → Below w.heap.size w w1 → Has base g c b w1 → b.length = 4 ∧ Calls Try.prog 56 #[.slice (some ⟨g, 0, none⟩) 4 c] w1 fun e w' => ∃ a' c' l, e = .returned (.slice a' 4 c') ∧ Hid (CpRow (top b) (uni b) w1 w' a' c' l))) :
    Calls Try.prog 26 #[.agg #[.int .i64 k, .int .i64 u, .string s, .slice a l pc], .agg #[.int .i64 k', .int .i64 u', .string s', .slice a' l' pc'], .slice qa ql qc] w (FitOut (errF cp ct cl bd) o w) := by
  obtain ⟨err, herr⟩ : ∃ err, err = errF cp ct cl bd := ⟨_, rfl⟩
  rw [← herr] at HF HC ⊢
  have HE := hide herr
  clear herr
  go_enter Try.func26, Try.ntmps26
  go_wp2_with fail
  refine (HCP.out _ (Bx2.new w _ _ _ _ _ _ _ _ _ _).1).mono ?_
  rintro e w1 ⟨rfl, hb1⟩
  have H1 := hide ((Bx2.new w (.int .i64 k) (.int .i64 u) (.string s) (.slice a l pc) (.int .i64 k') (.int .i64 u') (.string s') (.slice a' l' pc') 24 24).next hb1)
  clear hb1 HCP
  by_cases hcp : cp = 0
  case neg =>
    have h0 : (cp != 0) = true := by simpa using hcp
    have HE2 : Hid (err = cp ∧ ¬ err = 0) := by have := HE.out; unfold errF at this; rw [if_neg hcp] at this; exact ⟨this, by rw [this]; exact hcp⟩
    clear hcp HE
    go_wp2_with fail
    exact bodyPost_ret (v := .tuple #[.slice none 0 0, .bool false, .int .i64 cp]) (by simp [results, Try.results26, go_sem]) rfl ⟨none, 0, 0, false, by rw [HE2.out.1], H1.out.1, fun _ => ⟨rfl, rfl⟩, fun b h => absurd h HE2.out.2⟩
  have h0 : (cp != 0) = false := by simp [hcp]
  obtain ⟨⟨v0, v1, v2, v3⟩, u0, u1, u2, u3⟩ := H1.out.2.2
  go_wp2_with fail
  refine (HCT.out _ H1.out.1).mono ?_
  rintro e w2 ⟨rfl, hb2⟩
  have H2 := hide (H1.out.next hb2)
  clear hb2 HCT H1 v0 v1 v2 v3 u0 u1 u2 u3
  by_cases hct : ct = 0
  case neg =>
    have h1 : (ct != 0) = true := by simpa using hct
    have HE2 : Hid (err = ct ∧ ¬ err = 0) := by have := HE.out; unfold errF at this; rw [if_pos hcp, if_neg hct] at this; exact ⟨this, by rw [this]; exact hct⟩
    clear hct hcp HE
    go_wp2_with fail
    exact bodyPost_ret (v := .tuple #[.slice none 0 0, .bool false, .int .i64 ct]) (by simp [results, Try.results26, go_sem]) rfl ⟨none, 0, 0, false, by rw [HE2.out.1], H2.out.1, fun _ => ⟨rfl, rfl⟩, fun b h => absurd h HE2.out.2⟩
  have h1 : (ct != 0) = false := by simp [hct]
  have HE1 : Hid (err = if cl && bd then 0 else 5) := by have := HE.out; unfold errF at this; rw [if_pos hcp, if_pos hct] at this; exact this
  clear hct hcp HE
  obtain ⟨⟨v0, v1, v2, v3⟩, u0, u1, u2, u3⟩ := H2.out.2.2
  go_wp2_with fail
  refine (HCL.out _ H2.out.1).mono ?_
  rintro e w3 ⟨rfl, hb3⟩
  have H3 := hide (H2.out.next hb3)
  clear hb3 HCL H2 v0 v1 v2 v3 u0 u1 u2 u3
  cases cl with
  | false =>
    have HE2 : Hid (err = 5 ∧ ¬ err = 0) := by have := HE1.out; simp at this; exact ⟨this, by rw [this]; decide⟩
    clear HE1
    go_wp2_with fail
    exact bodyPost_ret (v := .tuple #[.slice none 0 0, .bool false, .int .i64 5]) (by simp [results, Try.results26, go_sem]) rfl ⟨none, 0, 0, false, by rw [HE2.out.1], H3.out.1, fun _ => ⟨rfl, rfl⟩, fun b h => absurd h HE2.out.2⟩
  | true =>
  go_wp2_with fail
  refine (HBD.out _ H3.out.1).mono ?_
  rintro e w4 ⟨rfl, hb4⟩
  have H4 := hide (H3.out.next hb4)
  clear hb4 HBD H3
  cases bd with
  | false =>
    have HE2 : Hid (err = 5 ∧ ¬ err = 0) := by have := HE1.out; simp at this; exact ⟨this, by rw [this]; decide⟩
    clear HE1
    go_wp2_with fail
    exact bodyPost_ret (v := .tuple #[.slice none 0 0, .bool false, .int .i64 5]) (by simp [results, Try.results26, go_sem]) rfl ⟨none, 0, 0, false, by rw [HE2.out.1], H4.out.1, fun _ => ⟨rfl, rfl⟩, fun b h => absurd h HE2.out.2⟩
  | true =>
  have HE2 : Hid (err = 0) := by have := HE1.out; simp at this; exact this
  have HF2 := hide (HF.out HE2.out)
  have HC2 := hide (HC.out HE2.out)
  have HCN2 := hide (HCN.out rfl)
  clear HE1 HF HC HCN
  go_wp2_with fail
  refine (HCN2.out _ H4.out.1).mono ?_
  rintro e w5 ⟨g, c, rfl, H5a⟩
  have H5 := hide (H4.out.next H5a.out.1)
  have H5h : Hid (Has w4.heap.size g c b0 w5) := H5a.out.2
  have HW : Hid (w.heap.size ≤ w4.heap.size) := H4.out.1.size
  obtain ⟨⟨v0, v1, v2, v3⟩, u0, u1, u2, u3⟩ := H5.out.2.2
  clear H4 H5a HCN2
  go_wp2_with fail
  refine (HF2.out w5 w4.heap.size g c H5.out.1 HW.out H5h.out).mono ?_
  rintro e w6 h6
  have HB6 : Hid (Below w.heap.size w w6) := H5.out.1.trans (grown_below h6.2.1 (Nat.le_trans HW.out H5h.out.lt.1) H5h.out.lt.2)
  have H6h := hide h6.2.2
  obtain ⟨rfl, _, _⟩ := h6
  clear H5h HF2
  cases o with
  | none =>
    simp only [Option.isSome_none]
    go_wp2_with fail
    exact bodyPost_ret (v := .tuple #[.slice none 0 0, .bool false, .int .i64 0]) (by simp [results, Try.results26, go_sem]) rfl ⟨none, 0, 0, false, by rw [HE2.out], HB6.out, fun _ => ⟨rfl, rfl⟩, fun b _ h => by cases h⟩
  | some b =>
    simp only [Option.isSome_some]
    have HH := hide (H6h.out b rfl)
    have HCC := hide (HC2.out w6 _ g c b rfl HB6.out HH.out)
    clear H6h HC2
    go_wp2_with fail
    refine HCC.out.2.mono ?_
    rintro e w7 ⟨a1, c1, l1, rfl, H7⟩
    have HB7 : Hid (Below w.heap.size w w7) := HB6.out.trans (H7.out.1.mono HB6.out.size)
    go_wp2_with fail
    exact bodyPost_ret (v := .tuple #[.slice a1 4 c1, .bool true, .int .i64 0]) (by simp [results, Try.results26, go_sem]) rfl ⟨a1, 4, c1, true, by rw [HE2.out], HB7.out, fun h => absurd ⟨HE2.out, rfl⟩ h, fun b' _ e => by obtain rfl := Option.some.inj e; exact ⟨rfl, rfl, HCC.out.1, w6, l1, HB6.out.size, H7.out⟩⟩
end Go.Proofs.Ytfaoeccnhbcjgab
