/- What is proved here: reckon's value of a right term that lies in memory, by what its variables are bound to. No condition but that. -/
import Derived.Test.YtfaoeccnhbcjgabVl5
import Derived.Test.YtfaoeccnhbcjgabBnd
namespace Go.Proofs.Ytfaoeccnhbcjgab
open Go.RowKit

def tupO (m n : Nat) (self : Int) (f : Tm n → Option (Tm (m + n))) (p : List (Tm n)) : Option (Tm (m + n + 1)) :=
  if isW n p wSelf 0 then some (leafV 3 self (m + n))
  else if isW n p wAdd 2 then (p[1]?).bind fun a => (p[2]?).bind fun c => (f a).bind fun a => (f c).bind fun c => sumV (m + n) a c
  else if isW n p wPut 1 then (p[1]?).bind fun a => if closedT n a then some (lift (m + n + 1) n a) else none
  else (allV f p).map (tupV (m + n))
theorem vl_tup (m : Nat) (b : List (Tm m)) (self : Int) (n : Nat) (x : Tm (n + 1)) (h : x.1.1 = 4) : vl m b self (n + 1) x = tupO m n self (fun y => vl m b self n y) x.2.2 := by simp [vl, h, tupO]
theorem vl_any (m : Nat) (b : List (Tm m)) (self : Int) (n : Nat) (x : Tm (n + 1)) (h : x.1.1 = 6) : vl m b self (n + 1) x = none := by simp [vl, h]
theorem vl_leaf (m : Nat) (b : List (Tm m)) (self : Int) (n : Nat) (x : Tm (n + 1)) (h4 : x.1.1 ≠ 4) (h5 : x.1.1 ≠ 5) (h6 : x.1.1 ≠ 6) : vl m b self (n + 1) x = some (lift (m + n + 1) (n + 1) x) := by simp [vl, h4, h5, h6]
theorem vl_var (m : Nat) (b : List (Tm m)) (self : Int) (n : Nat) (x : Tm (n + 1)) (y : Tm m) (k : Nat) (h : x.1.1 = 5) (hk : x.1.2.1 = (k : Int)) (hy : b[k]? = some y) : vl m b self (n + 1) x = if kindA ⟨m, y⟩ = 6 then none else some (lift (m + n + 1) m y) := by
  simp [vl, h, hk, hy]
theorem isW_len2 {n : Nat} {p : List (Tm n)} {s : ByteArray} {k : Nat} (h : isW n p s k = true) : p.length = 1 + k := by
  by_cases hl : p.length = 1 + k
  · exact hl
  · rw [isW_len hl] at h; cases h
theorem lim_of {N : Nat} {o : Option (Tm N)} (h : ∀ z, o = some z → RightA ⟨N, z⟩) : Lim o := by
  intro z hz hk
  have hr := h z hz
  cases N with
  | zero => exact (zero_bad hr).elim
  | succ N =>
    have hg := hr (hdOf N z) (by simp [nodes, hdOf])
    have hk' : z.1.1 = 1 := hk
    simp only [good, hdOf, hk', inB, Bool.and_eq_true, if_true] at hg
    exact ⟨of_decide_eq_true hg.1.2.1, of_decide_eq_true hg.1.2.2⟩

theorem vtuple_any (m : Nat) (b : List (Tm m)) (self : Int) (hbd : bndB m b = true) (hs : 1 ≤ self ∧ self ≤ 99) (n : Nat) (ih : FVal m b self n) (p : List (Tm n)) (pa : Option Addr) (pc : Nat) (a : Option Addr) (c B : Nat) (w : World)
    (hlen : p.length ≤ 8) (hp : Lies B w n p pa) (hrp : ∀ y ∈ p, RightA ⟨n, y⟩) (hb : Lies B w m b a) (hB : B ≤ w.heap.size) :
    Calls Try.prog 75 #[.agg #[.slice a 4 c, .int .i64 self], .slice pa p.length pc] w (VOut (m + n + 1) (tupO m n self (fun y => vl m b self n y) p) w) := by
  have hi := fun s k (hk : k ≤ 8) w1 (h1 : Below w.heap.size w w1) => isCall_any n p pa pc B s k w1 (hp.below (h1.mono hB)) hlen hk
  have hi1 := hi wSelf 0 (by omega)
  have hi2 := hi wAdd 2 (by omega)
  have hi3 := hi wPut 1 (by omega)
  have hbr : ∀ y ∈ b, RightA ⟨m, y⟩ := fun y hy => ((bnd_ok hbd).2 y hy).2.1
  cases e1 : isW n p wSelf 0
  · rw [e1] at hi1
    cases e2 : isW n p wAdd 2
    · rw [e2] at hi2
      cases e3 : isW n p wPut 1
      · rw [e3] at hi3
        refine vt_else (m + n) _ a c self pa p.length pc w hi1 hi2 hi3 ?_
        intro w1 h1
        have hh := tupleV_walk m b self n ih p p.length rfl pa pc a c B w1 hlen (hp.below (h1.mono hB)) hrp (hb.below (h1.mono hB)) (Nat.le_trans hB h1.size)
        simpa [tupO, e1, e2, e3] using hh
      · rw [e3] at hi3
        have hl := isW_len2 e3
        rcases hp with hp | ⟨pb, po, rfl, hpb, hp⟩
        · rw [hp] at hl; simp at hl
        · obtain ⟨y, hy⟩ : ∃ y, p[1]? = some y := ⟨p[1]'(by omega), List.getElem?_eq_getElem _⟩
          obtain ⟨hy1, hy2⟩ := hp 1 y hy
          have hry := hrp y (List.mem_of_getElem? hy)
          have eo : tupO m n self (fun y => vl m b self n y) p = if closedT n y = true then some (lift (m + n + 1) n y) else none := by simp [tupO, e1, e2, e3, hy]
          rw [eo]
          cases n with
          | zero => exact hy1.elim
          | succ n =>
          rw [show p.length = 2 by omega] at hi1 hi2 hi3 ⊢
          refine vt_put (m + (n + 1)) _ a c self pb po n (by omega) y (closedT (n + 1) y) pc w hi1 hi2 hi3 (by omega) (by simpa using hy1) hry ?_ ?_ rfl
          · intro w1 h1
            exact copy_any (n + 1) y B w1 (hy2.below (h1.mono hB)) (Nat.le_trans hB h1.size) hry
          · intro w1 h1
            exact closed_any (n + 1) y B w1 (hy2.below (h1.mono hB)) (Nat.le_trans hB h1.size)
    · rw [e2] at hi2
      have hl := isW_len2 e2
      rcases hp with hp | ⟨pb, po, rfl, hpb, hp⟩
      · rw [hp] at hl; simp at hl
      · obtain ⟨x, hx⟩ : ∃ x, p[1]? = some x := ⟨p[1]'(by omega), List.getElem?_eq_getElem _⟩
        obtain ⟨y, hy⟩ : ∃ y, p[2]? = some y := ⟨p[2]'(by omega), List.getElem?_eq_getElem _⟩
        obtain ⟨hx1, hx2⟩ := hp 1 x hx
        obtain ⟨hy1, hy2⟩ := hp 2 y hy
        have hrx := hrp x (List.mem_of_getElem? hx)
        have hry := hrp y (List.mem_of_getElem? hy)
        have eo : tupO m n self (fun y => vl m b self n y) p = sumO (vl m b self n x) (vl m b self n y) := by simp [tupO, e1, e2, hx, hy, sumO]
        rw [eo]
        have lx := lim_of fun z hz => vl_right m b self hs hbr n x hrx z hz
        have ly := lim_of fun z hz => vl_right m b self hs hbr n y hry z hz
        cases n with
        | zero => exact hy1.elim
        | succ n =>
        rw [show p.length = 3 by omega] at hi1 hi2 ⊢
        refine vt_add (m + (n + 1)) _ a c self pb po x.1.1 x.1.2.1 x.1.2.2 x.2.1.1 x.2.2.length x.2.1.2 y.1.1 y.1.2.1 y.1.2.2 y.2.1.1 y.2.2.length y.2.1.2 pc w hi1 hi2 (by omega) (by simpa [Held] using hx1) (by simpa [Held] using hy1) ?_
        intro w1 h1
        refine sum_walk (m + (n + 1)) _ _ lx ly a c self x.1.1 x.1.2.1 x.1.2.2 x.2.1.1 x.2.2.length x.2.1.2 y.1.1 y.1.2.1 y.1.2.2 y.2.1.1 y.2.2.length y.2.1.2 w1 ?_ ?_
        · intro w2 h2
          refine number_walk (m + n) _ a c self x.1.1 x.1.2.1 x.1.2.2 x.2.1.1 x.2.2.length x.2.1.2 w2 ?_
          intro w3 h3
          have h13 := (h1.trans ((h2.trans (h3.mono h2.size)).mono h1.size))
          exact ih x a c B w3 (hx2.below (h13.mono hB)) hrx (hb.below (h13.mono hB)) (Nat.le_trans hB h13.size)
        · intro w2 h2
          refine number_walk (m + n) _ a c self y.1.1 y.1.2.1 y.1.2.2 y.2.1.1 y.2.2.length y.2.1.2 w2 ?_
          intro w3 h3
          have h13 := (h1.trans ((h2.trans (h3.mono h2.size)).mono h1.size))
          exact ih y a c B w3 (hy2.below (h13.mono hB)) hry (hb.below (h13.mono hB)) (Nat.le_trans hB h13.size)
  · rw [e1] at hi1
    exact vt_self (m + n) _ a c self ⟨by omega, by omega⟩ pa p.length pc w hi1 (by simp [Hid, tupO, e1])

theorem value_any (m : Nat) (b : List (Tm m)) (self : Int) (hbd : bndB m b = true) (hs : 1 ≤ self ∧ self ≤ 99) (n : Nat) : FVal m b self n := by
  induction n with
  | zero => intro x a c B w hx; exact hx.elim
  | succ n ih =>
    intro x a c B w hx hr hb hB
    obtain ⟨h4b, hbk⟩ := bnd_ok hbd
    have hg := hr (hdOf n x) (by simp [nodes, hdOf])
    have hlen : x.2.2.length ≤ 8 := good_len (hdOf n x) hg
    by_cases h6 : x.1.1 = 6
    · have hh := v_any (m + n) (vl m b self (n + 1) x) a x.1.2.1 x.1.2.2 x.2.1.1 x.2.2.length x.2.1.2 c self w (vl_any m b self n x h6)
      rw [← h6] at hh
      exact hh
    · by_cases h5 : x.1.1 = 5
      · have hn : 0 ≤ x.1.2.1 ∧ x.1.2.1 ≤ 3 := by
          have h51 : ¬ (5 : Int) = 1 := by decide
          have h52 : ¬ (5 : Int) = 2 := by decide
          have h53 : ¬ (5 : Int) = 3 := by decide
          have h54 : ¬ (5 : Int) = 4 := by decide
          simp only [good, hdOf, h5, inB, Bool.and_eq_true, if_true, h51, h52, h53, h54, if_false] at hg
          exact ⟨of_decide_eq_true hg.1.2.1, of_decide_eq_true hg.1.2.2⟩
        obtain ⟨k, hk⟩ : ∃ k : Nat, x.1.2.1 = (k : Int) := ⟨x.1.2.1.toNat, by omega⟩
        obtain ⟨y, hy⟩ : ∃ y, b[k]? = some y := ⟨b[k]'(by omega), List.getElem?_eq_getElem _⟩
        have hry := (hbk y (List.mem_of_getElem? hy)).2.1
        have eo := vl_var m b self n x y k h5 hk hy
        have hb' := hb
        rcases hb with hb | ⟨bb, bo, rfl, hbb, hb⟩
        · rw [hb] at h4b; simp at h4b
        · obtain ⟨hy1, hy2⟩ := hb k y hy
          cases m with
          | zero => exact (zero_bad hry).elim
          | succ m =>
          have hh := v_var (m + 1 + n) (vl (m + 1) b self (n + 1) x) bb bo k x.1.2.1 x.1.2.2 x.2.1.1 x.2.2.length x.2.1.2 m (by omega) y c self w hk (by omega) (by omega) hy1 hry
            (fun w1 h1 => copy_any (m + 1) y B w1 (hy2.below (h1.mono hB)) (Nat.le_trans hB h1.size) hry)
            (fun w1 => isBound_any y.1.1 y.1.2.1 y.1.2.2 y.2.1.1 y.2.2.length y.2.1.2 w1)
            (by
              show vl (m + 1) b self (n + 1) x = _
              rw [eo]
              by_cases h : y.1.1 = 6
              · simp [kindA, h]
              · simp [kindA, h])
          rw [← h5] at hh
          exact hh
      · by_cases h4 : x.1.1 = 4
        · have hh := v_tup (m + n) (vl m b self (n + 1) x) a x.1.2.1 x.1.2.2 x.2.1.1 x.2.2.length x.2.1.2 c self w (by
            intro w1 h1
            rw [vl_tup m b self n x h4]
            exact vtuple_any m b self hbd hs n ih x.2.2 x.2.1.1 x.2.1.2 a c B w1 hlen (Lies.below (h1.mono hB) hx.2) (fun y hy => parts_right n x y hr hy) (hb.below (h1.mono hB)) (Nat.le_trans hB h1.size))
          rw [← h4] at hh
          exact hh
        · exact v_leaf (m + n) (vl m b self (n + 1) x) a x.1.1 x.1.2.1 x.1.2.2 x.2.1.1 x.2.2.length x.2.1.2 n (by omega) x c self w h4 h5 h6 hr
            (fun w1 h1 => copy_any (n + 1) x B w1 (hx.below (h1.mono hB)) (Nat.le_trans hB h1.size) hr) (vl_leaf m b self n x h4 h5 h6)
end Go.Proofs.Ytfaoeccnhbcjgab
