/- What is proved here: plain facts and contracts that the claimed theorem stands on, several texts in one: reckon's value of a right term that lies in memory, by what its variables are bound to. No condition but that. reckon.Value of a term and a list of terms that lie in memory: what it returns. Condition: at most 2097152 terms in each. plain facts for ReckonCloses: the value of a right term is closed; sums don't hang on the order; what is put is itself. No condition but that terms are right. proc's doing.value and doing.process: what reckon.Value tells. No condition but that all lies in memory. proc's doing.process: the process that a value is. No condition but that all lies in memory. proc.clausesOf: the clauses of the first behaviour of that name, none if there is no such one. No condition but that the program lies in memory. what a process' step does, as a plain function of its state, its messages, its room, its number and the program (stpC), and what reckoning tells in it. No condition but that all is right. -/
import Derived.Test.YtbmjfnicfpdjfaaG16
import Derived.Test.YtbmjfnicfpdjfaaG06
import Derived.Test.YtbmjfnicfpdjfaaG14
import Derived.Test.YtbmjfnicfpdjfaaG15
import Derived.Test.YtbmjfnicfpdjfaaG09
namespace Go.Proofs.Ytbmjfnicfpdjfaa
open Go.RowKit

def tupO (m n : Nat) (self : Int) (f : Tm n → Option (Tm (m + n))) (p : List (Tm n)) : Option (Tm (m + n + 1)) :=
  if isW n p wSelf 0 then some (leafV 3 self (m + n))
  else if isW n p wAdd 2 then (p[1]?).bind fun a => (p[2]?).bind fun c => (f a).bind fun a => (f c).bind fun c => sumV (m + n) a c
  else if isW n p wPut 1 then (p[1]?).bind fun a => if closedT n a then some (lift (m + n + 1) n a) else none
  else (allV f p).map (tupV (m + n))
theorem vl_tup (m : Nat) (b : List (Tm m)) (self : Int) (n : Nat) (x : Tm (n + 1)) (h : x.1.1 = 4) : vl m b self (n + 1) x = tupO m n self (fun y => vl m b self n y) x.2.2 := by simp [vl, h, tupO]
theorem vl_any (m : Nat) (b : List (Tm m)) (self : Int) (n : Nat) (x : Tm (n + 1)) (h : x.1.1 = 6) : vl m b self (n + 1) x = none := by simp [vl, h]
theorem vl_leaf (m : Nat) (b : List (Tm m)) (self : Int) (n : Nat) (x : Tm (n + 1)) (h4 : x.1.1 ≠ 4) (h5 : x.1.1 ≠ 5) (h6 : x.1.1 ≠ 6) : vl m b self (n + 1) x = some (lift (m + n + 1) (n + 1) x) := by simp [vl, h4, h5, h6]
theorem vl_var (m : Nat) (b : List (Tm m)) (self : Int) (n : Nat) (x : Tm (n + 1)) (y : Tm m) (k : Nat) (h : x.1.1 = 5) (hk : x.1.2.1 = (k : Int)) (hy : b[k]? = some y) : vl m b self (n + 1) x = if kindA ⟨m, y⟩ = 6 then none else some (lift (m + n + 1) m y) := by
  simp [vl, h, hk, hy]
theorem isW_len2 {n : Nat} {p : List (Tm n)} {s : ByteArray} {k : Nat} (h : isW n p s k = true) : p.length = 1 + k := by
  by_cases hl : p.length = 1 + k
  · exact hl
  · rw [isW_len hl] at h; cases h
theorem lim_of {N : Nat} {o : Option (Tm N)} (h : ∀ z, o = some z → RightA ⟨N, z⟩) : Lim o := by
  intro z hz hk
  have hr := h z hz
  cases N with
  | zero => exact (zero_bad hr).elim
  | succ N =>
    have hg := hr (hdOf N z) (by simp [nodes, hdOf])
    have hk' : z.1.1 = 1 := hk
    simp only [good, hdOf, hk', inB, Bool.and_eq_true, if_true] at hg
    exact ⟨of_decide_eq_true hg.1.2.1, of_decide_eq_true hg.1.2.2⟩

theorem vtuple_any (m : Nat) (b : List (Tm m)) (self : Int) (hbd : bndB m b = true) (hs : 1 ≤ self ∧ self ≤ 99) (n : Nat) (ih : FVal m b self n) (p : List (Tm n)) (pa : Option Addr) (pc : Nat) (a : Option Addr) (c B : Nat) (w : World)
    (hlen : p.length ≤ 8) (hp : Lies B w n p pa) (hrp : ∀ y ∈ p, RightA ⟨n, y⟩) (hb : Lies B w m b a) (hB : B ≤ w.heap.size) :
    Calls Try.prog 92 #[.agg #[.slice a 4 c, .int .i64 self], .slice pa p.length pc] w (VOut (m + n + 1) (tupO m n self (fun y => vl m b self n y) p) w) := by
  have hi := fun s k (hk : k ≤ 8) w1 (h1 : Below w.heap.size w w1) => isCall_any n p pa pc B s k w1 (hp.below (h1.mono hB)) hlen hk
  have hi1 := hi wSelf 0 (by omega)
  have hi2 := hi wAdd 2 (by omega)
  have hi3 := hi wPut 1 (by omega)
  have hbr : ∀ y ∈ b, RightA ⟨m, y⟩ := fun y hy => ((bnd_ok hbd).2 y hy).2.1
  cases e1 : isW n p wSelf 0
  · rw [e1] at hi1
    cases e2 : isW n p wAdd 2
    · rw [e2] at hi2
      cases e3 : isW n p wPut 1
      · rw [e3] at hi3
        refine vt_else (m + n) _ a c self pa p.length pc w hi1 hi2 hi3 ?_
        intro w1 h1
        have hh := tupleV_walk m b self n ih p p.length rfl pa pc a c B w1 hlen (hp.below (h1.mono hB)) hrp (hb.below (h1.mono hB)) (Nat.le_trans hB h1.size)
        simpa [tupO, e1, e2, e3] using hh
      · rw [e3] at hi3
        have hl := isW_len2 e3
        rcases hp with hp | ⟨pb, po, rfl, hpb, hp⟩
        · rw [hp] at hl; simp at hl
        · obtain ⟨y, hy⟩ : ∃ y, p[1]? = some y := ⟨p[1]'(by omega), List.getElem?_eq_getElem _⟩
          obtain ⟨hy1, hy2⟩ := hp 1 y hy
          have hry := hrp y (List.mem_of_getElem? hy)
          have eo : tupO m n self (fun y => vl m b self n y) p = if closedT n y = true then some (lift (m + n + 1) n y) else none := by simp [tupO, e1, e2, e3, hy]
          rw [eo]
          cases n with
          | zero => exact hy1.elim
          | succ n =>
          rw [show p.length = 2 by omega] at hi1 hi2 hi3 ⊢
          refine vt_put (m + (n + 1)) _ a c self pb po n (by omega) y (closedT (n + 1) y) pc w hi1 hi2 hi3 (by omega) (by simpa using hy1) hry ?_ ?_ rfl
          · intro w1 h1
            exact copy_any (n + 1) y B w1 (hy2.below (h1.mono hB)) (Nat.le_trans hB h1.size) hry
          · intro w1 h1
            exact closed_any (n + 1) y B w1 (hy2.below (h1.mono hB)) (Nat.le_trans hB h1.size)
    · rw [e2] at hi2
      have hl := isW_len2 e2
      rcases hp with hp | ⟨pb, po, rfl, hpb, hp⟩
      · rw [hp] at hl; simp at hl
      · obtain ⟨x, hx⟩ : ∃ x, p[1]? = some x := ⟨p[1]'(by omega), List.getElem?_eq_getElem _⟩
        obtain ⟨y, hy⟩ : ∃ y, p[2]? = some y := ⟨p[2]'(by omega), List.getElem?_eq_getElem _⟩
        obtain ⟨hx1, hx2⟩ := hp 1 x hx
        obtain ⟨hy1, hy2⟩ := hp 2 y hy
        have hrx := hrp x (List.mem_of_getElem? hx)
        have hry := hrp y (List.mem_of_getElem? hy)
        have eo : tupO m n self (fun y => vl m b self n y) p = sumO (vl m b self n x) (vl m b self n y) := by simp [tupO, e1, e2, hx, hy, sumO]
        rw [eo]
        have lx := lim_of fun z hz => vl_right m b self hs hbr n x hrx z hz
        have ly := lim_of fun z hz => vl_right m b self hs hbr n y hry z hz
        cases n with
        | zero => exact hy1.elim
        | succ n =>
        rw [show p.length = 3 by omega] at hi1 hi2 ⊢
        refine vt_add (m + (n + 1)) _ a c self pb po x.1.1 x.1.2.1 x.1.2.2 x.2.1.1 x.2.2.length x.2.1.2 y.1.1 y.1.2.1 y.1.2.2 y.2.1.1 y.2.2.length y.2.1.2 pc w hi1 hi2 (by omega) (by simpa [Held] using hx1) (by simpa [Held] using hy1) ?_
        intro w1 h1
        refine sum_walk (m + (n + 1)) _ _ lx ly a c self x.1.1 x.1.2.1 x.1.2.2 x.2.1.1 x.2.2.length x.2.1.2 y.1.1 y.1.2.1 y.1.2.2 y.2.1.1 y.2.2.length y.2.1.2 w1 ?_ ?_
        · intro w2 h2
          refine number_walk (m + n) _ a c self x.1.1 x.1.2.1 x.1.2.2 x.2.1.1 x.2.2.length x.2.1.2 w2 ?_
          intro w3 h3
          have h13 := (h1.trans ((h2.trans (h3.mono h2.size)).mono h1.size))
          exact ih x a c B w3 (hx2.below (h13.mono hB)) hrx (hb.below (h13.mono hB)) (Nat.le_trans hB h13.size)
        · intro w2 h2
          refine number_walk (m + n) _ a c self y.1.1 y.1.2.1 y.1.2.2 y.2.1.1 y.2.2.length y.2.1.2 w2 ?_
          intro w3 h3
          have h13 := (h1.trans ((h2.trans (h3.mono h2.size)).mono h1.size))
          exact ih y a c B w3 (hy2.below (h13.mono hB)) hry (hb.below (h13.mono hB)) (Nat.le_trans hB h13.size)
  · rw [e1] at hi1
    exact vt_self (m + n) _ a c self ⟨by omega, by omega⟩ pa p.length pc w hi1 (by simp [Hid, tupO, e1])

theorem value_any (m : Nat) (b : List (Tm m)) (self : Int) (hbd : bndB m b = true) (hs : 1 ≤ self ∧ self ≤ 99) (n : Nat) : FVal m b self n := by
  induction n with
  | zero => intro x a c B w hx; exact hx.elim
  | succ n ih =>
    intro x a c B w hx hr hb hB
    obtain ⟨h4b, hbk⟩ := bnd_ok hbd
    have hg := hr (hdOf n x) (by simp [nodes, hdOf])
    have hlen : x.2.2.length ≤ 8 := good_len (hdOf n x) hg
    by_cases h6 : x.1.1 = 6
    · have hh := v_any (m + n) (vl m b self (n + 1) x) a x.1.2.1 x.1.2.2 x.2.1.1 x.2.2.length x.2.1.2 c self w (vl_any m b self n x h6)
      rw [← h6] at hh
      exact hh
    · by_cases h5 : x.1.1 = 5
      · have hn : 0 ≤ x.1.2.1 ∧ x.1.2.1 ≤ 3 := by
          have h51 : ¬ (5 : Int) = 1 := by decide
          have h52 : ¬ (5 : Int) = 2 := by decide
          have h53 : ¬ (5 : Int) = 3 := by decide
          have h54 : ¬ (5 : Int) = 4 := by decide
          simp only [good, hdOf, h5, inB, Bool.and_eq_true, if_true, h51, h52, h53, h54, if_false] at hg
          exact ⟨of_decide_eq_true hg.1.2.1, of_decide_eq_true hg.1.2.2⟩
        obtain ⟨k, hk⟩ : ∃ k : Nat, x.1.2.1 = (k : Int) := ⟨x.1.2.1.toNat, by omega⟩
        obtain ⟨y, hy⟩ : ∃ y, b[k]? = some y := ⟨b[k]'(by omega), List.getElem?_eq_getElem _⟩
        have hry := (hbk y (List.mem_of_getElem? hy)).2.1
        have eo := vl_var m b self n x y k h5 hk hy
        have hb' := hb
        rcases hb with hb | ⟨bb, bo, rfl, hbb, hb⟩
        · rw [hb] at h4b; simp at h4b
        · obtain ⟨hy1, hy2⟩ := hb k y hy
          cases m with
          | zero => exact (zero_bad hry).elim
          | succ m =>
          have hh := v_var (m + 1 + n) (vl (m + 1) b self (n + 1) x) bb bo k x.1.2.1 x.1.2.2 x.2.1.1 x.2.2.length x.2.1.2 m (by omega) y c self w hk (by omega) (by omega) hy1 hry
            (fun w1 h1 => copy_any (m + 1) y B w1 (hy2.below (h1.mono hB)) (Nat.le_trans hB h1.size) hry)
            (fun w1 => isBound_any y.1.1 y.1.2.1 y.1.2.2 y.2.1.1 y.2.2.length y.2.1.2 w1)
            (by
              show vl (m + 1) b self (n + 1) x = _
              rw [eo]
              by_cases h : y.1.1 = 6
              · simp [kindA, h]
              · simp [kindA, h])
          rw [← h5] at hh
          exact hh
      · by_cases h4 : x.1.1 = 4
        · have hh := v_tup (m + n) (vl m b self (n + 1) x) a x.1.2.1 x.1.2.2 x.2.1.1 x.2.2.length x.2.1.2 c self w (by
            intro w1 h1
            rw [vl_tup m b self n x h4]
            exact vtuple_any m b self hbd hs n ih x.2.2 x.2.1.1 x.2.1.2 a c B w1 hlen (Lies.below (h1.mono hB) hx.2) (fun y hy => parts_right n x y hr hy) (hb.below (h1.mono hB)) (Nat.le_trans hB h1.size))
          rw [← h4] at hh
          exact hh
        · exact v_leaf (m + n) (vl m b self (n + 1) x) a x.1.1 x.1.2.1 x.1.2.2 x.2.1.1 x.2.2.length x.2.1.2 n (by omega) x c self w h4 h5 h6 hr
            (fun w1 h1 => copy_any (n + 1) x B w1 (hx.below (h1.mono hB)) (Nat.le_trans hB h1.size) hr) (vl_leaf m b self n x h4 h5 h6)
end Go.Proofs.Ytbmjfnicfpdjfaa
namespace Go.Proofs.Ytbmjfnicfpdjfaa
open Go.RowKit

def zeroV (N : Nat) : Tm (N + 1) := leafV 0 0 N
/-- What Value leaves. -/
def RvOut (N : Nat) (E : Int) (o : Option (Tm (N + 1))) (w : World) (e : Ending) (w' : World) : Prop :=
  ∃ y : Tm (N + 1), e = .returned (.tuple #[val (N + 1) y, .int .i64 (rvC E (rvO E o))]) ∧ Hid (Below w.heap.size w w' ∧ In w'.heap.size w' (N + 1) y ∧ Off (fun q => w.heap.size ≤ q) (N + 1) y ∧ same (N + 1) y (N + 1) ((rvO E o).getD (zeroV N)) = true)
theorem rv_none {N : Nat} {E : Int} {o : Option (Tm (N + 1))} {w w' : World} {u : Int} (hb : Below w.heap.size w w') (h : rvO E o = none) (hu : u = rvC E (rvO E o)) : RvOut N E o w (.returned (.tuple #[.agg #[.int .i64 0, .int .i64 0, .string .empty, .slice none 0 0], .int .i64 u])) w' := by
  refine ⟨zeroV N, by rw [hu]; rfl, hb, (leaf_out N 0 0 i64_zero i64_zero _ _ (fun _ => True)).1, (leaf_out N 0 0 i64_zero i64_zero 0 w _).2, ?_⟩
  rw [h]
  exact leaf_same N 0 0
theorem rv_some {N : Nat} {E : Int} {o : Option (Tm (N + 1))} {z : Tm (N + 1)} {w w1 w2 w3 : World} {y : Tm (N + 1)} {q : Nat} (hE : E = 0) (ho : o = some z) (hc : chk (N + 1) z = 0) (hb : Below w.heap.size w w1) (hq : w.heap.size ≤ q) (hq1 : q < w1.heap.size)
    (k1 : Below w1.heap.size w1 w2) (k2 : In w2.heap.size w2 (N + 1) y) (k3 : Off (fun q => w1.heap.size ≤ q) (N + 1) y) (k4 : same (N + 1) y (N + 1) z = true) (hb3 : Below w2.heap.size w2 w3) (v0 v1 v2 v3 : Value) :
    RvOut N E o w (.returned (.tuple #[.agg #[.int .i64 y.1.1, .int .i64 y.1.2.1, .string y.1.2.2, .slice y.2.1.1 y.2.2.length y.2.1.2], .int .i64 0])) (put4 w3 q 0 v0 v1 v2 v3) := by
  have hs := hb.size
  have hbb := (hb.trans (k1.mono hs)).trans (hb3.mono (Nat.le_trans hs k1.size))
  have er : rvO E o = some z := by simp [rvO, hE, ho, hc]
  refine ⟨y, by rw [er]; simp [rvC, hE, val], put_below hbb hq _ _ _ _, ?_, k3.mono fun b hh => by omega, by rw [er]; exact k4⟩
  rw [put4_size]
  exact In.off (P := fun b => w1.heap.size ≤ b) (fun b hh => put4_block (by omega) _ _ _ _) k3 ((k2.below hb3).mono hb3.size)

theorem rvE_zero {ck : Int} {bd : Bool} {self : Int} (h : rvE ck bd self = 0) : ck = 0 ∧ bd = true ∧ 1 ≤ self ∧ self ≤ 99 := by
  unfold rvE at h
  split at h
  · split at h
    · split at h
      · rename_i h1 h2 h3
        exact ⟨h1, h2, h3⟩
      · cases h
    · cases h
  · rename_i h1
    exact absurd h h1
theorem val_nodes {m n : Nat} {b : List (Tm m)} {self : Int} {x : Tm (n + 1)} {z : Tm (m + n + 1)} (h1 : chk (n + 1) x = 0) (h2 : bndB m b = true) (hz : vl m b self (n + 1) x = some z) : (nodes (m + n + 1) z).length ≤ 2097152 := by
  have hx := chk_nlen h1
  have hn := vl_nodes m b self 201 (by omega) (fun y hy => chk_nlen ((bnd_ok h2).2 y hy).1) (n + 1) x z hz
  have : 201 * (nodes (n + 1) x).length ≤ 201 * 201 := Nat.mul_le_mul_left 201 hx
  exact Nat.le_trans hn (by omega)
theorem two4_is (w : World) (x0 x1 x2 x3 : Value) (t1 t2 : TypeId) : Below w.heap.size w ((w.alloc (.cells #[x0, x1, x2, x3] t1)).alloc (.cells #[.int .i64 0, .int .i64 0, .string .empty, .slice none 0 0] t2)) ∧ Box0 (w.heap.size + 1) ((w.alloc (.cells #[x0, x1, x2, x3] t1)).alloc (.cells #[.int .i64 0, .int .i64 0, .string .empty, .slice none 0 0] t2)) := by
  refine ⟨((Below.refl _ _).alloc (Nat.le_refl _) _).alloc (by simp) _, ⟨?_, ?_, ?_, ?_⟩, ⟨?_, ?_, ?_, ?_⟩, ?_⟩ <;> simp [go_sem]
theorem two4_cells {w w' : World} {x0 x1 x2 x3 y0 y1 y2 y3 : Value} {t1 t2 : TypeId} (h : Below ((w.alloc (.cells #[x0, x1, x2, x3] t1)).alloc (.cells #[y0, y1, y2, y3] t2)).heap.size ((w.alloc (.cells #[x0, x1, x2, x3] t1)).alloc (.cells #[y0, y1, y2, y3] t2)) w') :
    w'.cell? ⟨w.heap.size, 0, none⟩ = some x0 ∧ w'.cell? ⟨w.heap.size, 1, none⟩ = some x1 ∧ w'.cell? ⟨w.heap.size, 2, none⟩ = some x2 ∧ w'.cell? ⟨w.heap.size, 3, none⟩ = some x3 := by
  have hc := fun o => h.cell (p := ⟨w.heap.size, o, none⟩) (by simp; omega)
  exact ⟨(hc 0).trans (by simp [go_sem]), (hc 1).trans (by simp [go_sem]), (hc 2).trans (by simp [go_sem]), (hc 3).trans (by simp [go_sem])⟩

set_option maxHeartbeats 1000000 in
set_option maxRecDepth 100000 in
theorem rvalue_walk (N : Nat) (o : Option (Tm (N + 1))) (a : Option Addr) (ql c : Nat) (self : Int) (x0 x1 : Int) (x2 : ByteArray) (xa : Option Addr) (xl xc : Nat) (ck : Int) (bd : Bool) (w : World)
    (HK : Hid (∀ w1, Below w.heap.size w w1 → Calls Try.prog 36 #[.agg #[.int .i64 x0, .int .i64 x1, .string x2, .slice xa xl xc]] w1 fun e w' => e = .returned (.int .i64 ck) ∧ Below w1.heap.size w1 w'))
    (HA : Hid (∀ w1, Below w.heap.size w w1 → Calls Try.prog 72 #[.slice a ql c] w1 fun e w' => e = .returned (.bool bd) ∧ Below w1.heap.size w1 w'))
    (HV : Hid (rvE ck bd self = 0 → ∀ w1, Below w.heap.size w w1 → Calls Try.prog 78 #[.agg #[.slice a ql c, .int .i64 self], .agg #[.int .i64 x0, .int .i64 x1, .string x2, .slice xa xl xc]] w1 (VOut (N + 1) o w1)))
    (HZ : Hid (rvE ck bd self = 0 → ∀ (y z : Tm (N + 1)) (w1 : World), o = some z → same (N + 1) y (N + 1) z = true → In w1.heap.size w1 (N + 1) y → Calls Try.prog 36 #[.agg #[.int .i64 y.1.1, .int .i64 y.1.2.1, .string y.1.2.2, .slice y.2.1.1 y.2.2.length y.2.1.2]] w1 fun e w' => e = .returned (.int .i64 (chk (N + 1) z)) ∧ Below w1.heap.size w1 w')) :
    Calls Try.prog 64 #[.agg #[.int .i64 x0, .int .i64 x1, .string x2, .slice xa xl xc], .slice a ql c, .int .i64 self] w (RvOut N (rvE ck bd self) o w) := by
  obtain ⟨E, hE⟩ : ∃ E, E = rvE ck bd self := ⟨_, rfl⟩
  rw [← hE] at HV HZ ⊢
  have HE := hide hE
  clear hE
  go_enter Try.func64, Try.ntmps64
  go_wp2_with fail
  refine (HK.out _ (two4_is w _ _ _ _ _ _).1).mono ?_
  rintro e w1 ⟨rfl, hb1⟩
  have HX1 := hide (two4_cells hb1)
  have HB1 : Hid (Below w.heap.size w w1) := (two4_is w _ _ _ _ _ _).1.trans (hb1.mono (two4_is w _ _ _ _ _ _).1.size)
  have HBX1 := hide ((two4_is w _ _ _ _ _ _).2.below hb1)
  clear hb1 HK
  by_cases hck : ck = 0
  case neg =>
    have hc1 : (ck != 0) = true := by simpa using hck
    have HEN : Hid (E = ck ∧ ck ≠ 0) := ⟨by rw [HE.out]; simp [rvE, hck], hck⟩
    obtain ⟨⟨z0, z1, z2, z3⟩, ⟨f0, f1, f2, f3⟩, hzq⟩ := HBX1.out
    clear HV HE hck HZ
    go_wp2_with fail
    exact bodyPost_ret (v := .tuple #[.agg #[.int .i64 0, .int .i64 0, .string .empty, .slice none 0 0], .int .i64 ck]) (by simp [results, Try.results64, go_sem, z0, z1, z2, z3]; rfl) rfl (rv_none (put_below HB1.out (by omega) _ _ _ _) (by simp [rvO, HEN.out.1, HEN.out.2]) (by simp [rvC, HEN.out.1, HEN.out.2]))
  have hc1 : (ck != 0) = false := by simp [hck]
  go_wp2_with fail
  refine (HA.out _ HB1.out).mono ?_
  rintro e w2 ⟨rfl, hb2⟩
  have HX2 := hide (cells_nx (Nat.lt_of_succ_lt HBX1.out.2.2) hb2 HX1.out)
  have HB2 : Hid (Below w.heap.size w w2) := HB1.out.trans (hb2.mono HB1.out.size)
  have HBX2 := hide (HBX1.out.below hb2)
  clear hb2 HA HB1 HX1 HBX1
  cases bd
  · have HEN : Hid (E = 5) := by rw [Hid, HE.out]; simp [rvE, hck]
    obtain ⟨⟨z0, z1, z2, z3⟩, ⟨f0, f1, f2, f3⟩, hzq⟩ := HBX2.out
    clear HV HE hck HZ
    go_wp2_with fail
    exact bodyPost_ret (v := .tuple #[.agg #[.int .i64 0, .int .i64 0, .string .empty, .slice none 0 0], .int .i64 5]) (by simp [results, Try.results64, go_sem, z0, z1, z2, z3]; rfl) rfl (rv_none (put_below HB2.out (by omega) _ _ _ _) (by simp [rvO, HEN.out]) (by simp [rvC, HEN.out]))
  · by_cases hs1 : self < 1
    · have b1 : decide (self < 1) = true := by simpa using hs1
      have HEN : Hid (E = 1) := by rw [Hid, HE.out]; simp only [rvE, hck, if_true]; rw [if_neg (by omega)]
      obtain ⟨⟨z0, z1, z2, z3⟩, ⟨f0, f1, f2, f3⟩, hzq⟩ := HBX2.out
      clear HV HE hck HZ
      go_wp2_with fail
      exact bodyPost_ret (v := .tuple #[.agg #[.int .i64 0, .int .i64 0, .string .empty, .slice none 0 0], .int .i64 1]) (by simp [results, Try.results64, go_sem, z0, z1, z2, z3]; rfl) rfl (rv_none (put_below HB2.out (by omega) _ _ _ _) (by simp [rvO, HEN.out]) (by simp [rvC, HEN.out]))
    · have b1 : decide (self < 1) = false := by simpa using hs1
      by_cases hs2 : 99 < self
      · have b2 : decide (99 < self) = true := by simpa using hs2
        have HEN : Hid (E = 1) := by rw [Hid, HE.out]; simp only [rvE, hck, if_true]; rw [if_neg (by omega)]
        obtain ⟨⟨z0, z1, z2, z3⟩, ⟨f0, f1, f2, f3⟩, hzq⟩ := HBX2.out
        clear HV HE hck HZ
        go_wp2_with fail
        exact bodyPost_ret (v := .tuple #[.agg #[.int .i64 0, .int .i64 0, .string .empty, .slice none 0 0], .int .i64 1]) (by simp [results, Try.results64, go_sem, z0, z1, z2, z3]; rfl) rfl (rv_none (put_below HB2.out (by omega) _ _ _ _) (by simp [rvO, HEN.out]) (by simp [rvC, HEN.out]))
      · have b2 : decide (99 < self) = false := by simpa using hs2
        have HE0 : Hid (E = 0) := by rw [Hid, HE.out]; simp only [rvE, hck, if_true]; rw [if_pos (by omega)]
        obtain ⟨x0', x1', x2', x3'⟩ := HX2.out
        have hxw : w.heap.size < w2.heap.size := Nat.lt_of_succ_lt HBX2.out.2.2
        clear HE hck
        go_wp2_with fail
        refine (HV.out HE0.out _ HB2.out).mono ?_
        rintro e w3 ⟨y, r, rfl, H⟩
        have HB3 : Hid (Below w.heap.size w w3) := HB2.out.trans (H.out.1.mono HB2.out.size)
        have HBX3 := hide (HBX2.out.below H.out.1)
        have e3 : val (N + 1) y = .agg #[.int .i64 y.1.1, .int .i64 y.1.2.1, .string y.1.2.2, .slice y.2.1.1 y.2.2.length y.2.1.2] := rfl
        rw [e3]
        clear HV e3 x0' x1' x2' x3' HX2
        cases r
        · have HN : Hid (o = none) := by
            have := H.out.2.2.2.1
            cases o with
            | none => rfl
            | some z => cases this
          obtain ⟨⟨z0, z1, z2, z3⟩, ⟨f0, f1, f2, f3⟩, hzq⟩ := HBX3.out
          clear H HZ
          go_wp2_with fail
          exact bodyPost_ret (v := .tuple #[.agg #[.int .i64 0, .int .i64 0, .string .empty, .slice none 0 0], .int .i64 7]) (by simp [results, Try.results64, go_sem, z0, z1, z2, z3, hzq]; rfl) rfl (rv_none ((put_below HB3.out (by omega) _ _ _ _).alloc (by rw [put4_size]; omega) _) (by simp [rvO, HN.out]) (by simp [rvC, rvO, HN.out, HE0.out]))
        · obtain ⟨z, hz⟩ : ∃ z, o = some z := by
            have := H.out.2.2.2.1
            cases o with
            | none => cases this
            | some z => exact ⟨z, rfl⟩
          have HOZ := hide hz
          have HS := hide (H.out.2.2.2.2 z hz)
          have HKZ : Hid (∀ w1, Below w3.heap.size w3 w1 → Calls Try.prog 36 #[.agg #[.int .i64 y.1.1, .int .i64 y.1.2.1, .string y.1.2.2, .slice y.2.1.1 y.2.2.length y.2.1.2]] w1 fun e w' => e = .returned (.int .i64 (chk (N + 1) z)) ∧ Below w1.heap.size w1 w') :=
            fun w1 h1 => HZ.out HE0.out y z w1 HOZ.out HS.out ((H.out.2.1.below h1).mono h1.size)
          obtain ⟨cz, hcz⟩ : ∃ cz, cz = chk (N + 1) z := ⟨_, rfl⟩
          rw [← hcz] at HKZ
          have HCZ := hide hcz
          have HQ := fun (w4 : World) (h4 : Below w3.heap.size w3 w4) (h0 : cz = 0) v0 v1 v2 v3 => hide (rv_some (E := E) HE0.out HOZ.out (HCZ.out.symm.trans h0) HB2.out (Nat.le_add_right _ 1) HBX2.out.2.2 H.out.1 H.out.2.1 H.out.2.2.1 HS.out h4 v0 v1 v2 v3)
          clear hz hcz HZ H HBX2 HB2
          go_wp2_with fail
          refine (HKZ.out _ ((Below.refl _ _).alloc (Nat.le_refl _) _)).mono ?_
          rintro e w4 ⟨rfl, hb4⟩
          obtain ⟨⟨t0, t1, t2, t3⟩, _⟩ := boxed hb4
          have HB4 : Hid (Below w3.heap.size w3 w4) := ((Below.refl _ _).alloc (Nat.le_refl _) _).trans (hb4.mono (by simp))
          have HBX4 := hide (HBX3.out.below HB4.out)
          have HW4 : Hid (Below w.heap.size w w4) := HB3.out.trans (HB4.out.mono HB3.out.size)
          obtain ⟨⟨z0, z1, z2, z3⟩, ⟨f0, f1, f2, f3⟩, hzq⟩ := HBX4.out
          have hne1 : ¬ (w.heap.size + 1 = w3.heap.size) := by have := HBX3.out.2.2; omega
          have hne2 : ¬ (w3.heap.size = w.heap.size + 1) := fun e => hne1 e.symm
          clear hb4 HKZ HBX3
          by_cases hz0 : cz = 0
          · have hc2 : (cz != 0) = false := by simp [hz0]
            have HT := fun v0 v1 v2 v3 => HQ w4 HB4.out hz0 v0 v1 v2 v3
            clear HQ hz0
            go_wp2_with fail
            exact bodyPost_ret (v := .tuple #[.agg #[.int .i64 y.1.1, .int .i64 y.1.2.1, .string y.1.2.2, .slice y.2.1.1 y.2.2.length y.2.1.2], .int .i64 0]) (by simp [results, Try.results64, go_sem, z0, z1, z2, z3]) rfl (HT _ _ _ _).out
          · have hc2 : (cz != 0) = true := by simpa using hz0
            have HNZ := hide hz0
            clear HQ hz0
            go_wp2_with fail
            exact bodyPost_ret (v := .tuple #[.agg #[.int .i64 0, .int .i64 0, .string .empty, .slice none 0 0], .int .i64 7]) (by simp [results, Try.results64, go_sem, z0, z1, z2, z3]; rfl) rfl (rv_none (put_below HW4.out (by omega) _ _ _ _) (by have h1 := HCZ.out; have h2 := HNZ.out; rw [h1] at h2; simp [rvO, HOZ.out, h2]) (by have h1 := HCZ.out; have h2 := HNZ.out; rw [h1] at h2; simp [rvC, rvO, HOZ.out, HE0.out, h2]))

theorem rvalue_any (n m : Nat) (x : Tm (n + 1)) (b : List (Tm m)) (a : Option Addr) (c B : Nat) (self : Int) (w : World) (hx : In B w (n + 1) x) (hb : Lies B w m b a) (hB : B ≤ w.heap.size) (hN : (nodes (n + 1) x).length ≤ 2097152) (hbl : b.length ≤ 9223372036854775807) (hNb : ∀ y ∈ b, (nodes m y).length ≤ 2097152) :
    Calls Try.prog 64 #[val (n + 1) x, .slice a b.length c, .int .i64 self] w (RvOut (m + n) (rvE (chk (n + 1) x) (bndB m b) self) (vl m b self (n + 1) x) w) := by
  refine rvalue_walk (m + n) _ a b.length c self x.1.1 x.1.2.1 x.1.2.2 x.2.1.1 x.2.2.length x.2.1.2 (chk (n + 1) x) (bndB m b) w ?_ ?_ ?_ ?_
  · intro w1 h1
    exact tcheck_any (n + 1) x B w1 (hx.below (h1.mono hB)) (Nat.le_trans hB h1.size) hN
  · intro w1 h1
    exact areB_any m b a c B w1 (hb.below (h1.mono hB)) hbl hNb (Nat.le_trans hB h1.size)
  · intro hE w1 h1
    obtain ⟨e1, e2, e3⟩ := rvE_zero hE
    have h4 := (bnd_ok e2).1
    rw [h4]
    exact value_any m b self e2 e3 (n + 1) x a c B w1 (hx.below (h1.mono hB)) (right_formed.2 (chk_iff.1 e1).1) (hb.below (h1.mono hB)) (Nat.le_trans hB h1.size)
  · intro hE y z w1 ho hs hin
    obtain ⟨e1, e2, e3⟩ := rvE_zero hE
    have hn := val_nodes e1 e2 ho
    have hk := tcheck_any (m + n + 1) y w1.heap.size w1 hin (Nat.le_refl _) (by rw [same_nlen _ _ _ _ hs]; exact hn)
    rw [same_chk hs] at hk
    exact hk
end Go.Proofs.Ytbmjfnicfpdjfaa
namespace Go.Proofs.Ytbmjfnicfpdjfaa
open Go.RowKit

theorem lift_closed : (N n : Nat) → n ≤ N → (x : Tm n) → closedT N (lift N n x) = closedT n x
  | 0, 0, _, _ => rfl
  | _ + 1, 0, _, _ => by simp [lift, closedT]
  | 0, n + 1, h, _ => by omega
  | N + 1, n + 1, h, x => by
    have : (x.2.2.map fun y => lift N n y).all (fun y => closedT N y) = x.2.2.all fun y => closedT n y := by
      rw [List.all_map]
      congr 1
      funext y
      exact lift_closed N n (by omega) y
    simp only [closedT, lift]
    rw [this]
theorem vl_closed (m : Nat) (b : List (Tm m)) (self : Int) (hb : ∀ y ∈ b, kindA ⟨m, y⟩ = 6 ∨ closedT m y = true) : (n : Nat) → (x : Tm n) → RightA ⟨n, x⟩ → (z : Tm (m + n)) → vl m b self n x = some z → closedT (m + n) z = true
  | 0, _, _, _, h => by simp [vl] at h
  | n + 1, x, hr, z, h => by
    have gx := good_parts (hdOf n x) (hr (hdOf n x) (by simp [nodes, hdOf]))
    by_cases h6 : x.1.1 = 6
    · rw [vl_any m b self n x h6] at h; cases h
    · by_cases h5 : x.1.1 = 5
      · simp only [vl, h5, if_true] at h
        obtain ⟨y, hy, h⟩ := Option.bind_eq_some_iff.1 h
        split at h
        · cases h
        · rename_i hk
          obtain rfl := Option.some.inj h
          exact (lift_closed (m + n + 1) m (by omega) y).trans ((hb y (List.mem_of_getElem? hy)).resolve_left hk)
      · by_cases h4 : x.1.1 = 4
        · rw [vl_tup m b self n x h4] at h
          unfold tupO at h
          split at h
          · obtain rfl := Option.some.inj h
            simp [leafV, closedT]
          · split at h
            · obtain ⟨a, ha, h⟩ := Option.bind_eq_some_iff.1 h
              obtain ⟨c, hc, h⟩ := Option.bind_eq_some_iff.1 h
              obtain ⟨a', ha', h⟩ := Option.bind_eq_some_iff.1 h
              obtain ⟨c', hc', h⟩ := Option.bind_eq_some_iff.1 h
              unfold sumV at h
              split at h
              · obtain rfl := Option.some.inj h
                simp [leafV, closedT]
              · cases h
            · split at h
              · obtain ⟨a, ha, h⟩ := Option.bind_eq_some_iff.1 h
                split at h
                · rename_i hcl
                  obtain rfl := Option.some.inj h
                  exact (lift_closed (m + n + 1) n (by omega) a).trans hcl
                · cases h
              · obtain ⟨l, hl, rfl⟩ := Option.map_eq_some_iff.1 h
                obtain ⟨k1, k2⟩ := allV_len _ _ _ hl
                show closedT (m + n + 1) (tupV (m + n) l) = true
                simp only [closedT, tupV]
                simp only [Bool.and_eq_true, List.all_eq_true]
                refine ⟨by decide, fun y hy => ?_⟩
                obtain ⟨i, hi⟩ := List.getElem?_of_mem hy
                have hi2 : i < x.2.2.length := by rw [← k1]; exact (List.getElem?_eq_some_iff.1 hi).1
                exact vl_closed m b self hb n x.2.2[i] (parts_right n x _ hr (List.getElem_mem _)) y (k2 i _ y (List.getElem?_eq_getElem hi2) hi)
        · rw [vl_leaf m b self n x h4 h5 h6] at h
          obtain rfl := Option.some.inj h
          have hp : x.2.2 = [] := List.eq_nil_of_length_eq_zero (gx.2.2.2.2 h4)
          refine (lift_closed (m + n + 1) (n + 1) (by omega) x).trans ?_
          simp [closedT, h5, h6, hp]

theorem sumO_comm {N : Nat} (o1 o2 : Option (Tm N)) : sumO o1 o2 = sumO o2 o1 := by
  cases o1 with
  | none => cases o2 <;> rfl
  | some a =>
    cases o2 with
    | none => rfl
    | some c =>
      have e : sumB N a c = sumB N c a := by
        unfold sumB
        rw [Int.add_comm, Bool.and_comm (kindA ⟨N, a⟩ == 1)]
      simp only [sumO, Option.bind_some, sumV, e, Int.add_comm]

/-- Tuples that the statements make. -/
def tp3 (g D : Nat) (e0 e1 e2 : Tm D) : Tm (D + 1) := ((4, 0, ⟨#[]⟩), (some ⟨g, 0, none⟩, 3), [e0, e1, e2])
def tp2 (g D : Nat) (e0 e1 : Tm D) : Tm (D + 1) := ((4, 0, ⟨#[]⟩), (some ⟨g, 0, none⟩, 2), [e0, e1])
def wdD (D : Nat) (s : ByteArray) : Tm (D + 1) := lift (D + 1) 1 (wordT s)
theorem wd_kind (D : Nat) (s : ByteArray) : (wdD D s).1 = (2, 0, s) := rfl
theorem isW_add (D : Nat) (e1 e2 : Tm (D + 1)) : isW (D + 1) [wdD D wAdd, e1, e2] wAdd 2 = true := by
  rw [isW_at rfl rfl, wd_kind]
  simp
theorem isW_put (D : Nat) (e1 : Tm (D + 1)) : isW (D + 1) [wdD D wPut, e1] wPut 1 = true := by
  rw [isW_at rfl rfl, wd_kind]
  simp
theorem vl_add (m : Nat) (b : List (Tm m)) (self : Int) (g D : Nat) (e1 e2 : Tm (D + 1)) : vl m b self (D + 1 + 1) (tp3 g (D + 1) (wdD D wAdd) e1 e2) = sumO (vl m b self (D + 1) e1) (vl m b self (D + 1) e2) := by
  rw [vl_tup m b self (D + 1) _ rfl]
  show tupO m (D + 1) self (fun y => vl m b self (D + 1) y) [wdD D wAdd, e1, e2] = _
  have h1 : isW (D + 1) [wdD D wAdd, e1, e2] wSelf 0 = false := isW_len (by simp)
  simp only [tupO, h1, isW_add]
  rfl
theorem vl_put (m : Nat) (b : List (Tm m)) (self : Int) (g D : Nat) (e1 : Tm (D + 1)) (hc : closedT (D + 1) e1 = true) : vl m b self (D + 1 + 1) (tp2 g (D + 1) (wdD D wPut) e1) = some (lift (m + (D + 1) + 1) (D + 1) e1) := by
  rw [vl_tup m b self (D + 1) _ rfl]
  show tupO m (D + 1) self (fun y => vl m b self (D + 1) y) [wdD D wPut, e1] = _
  have h1 : isW (D + 1) [wdD D wPut, e1] wSelf 0 = false := isW_len (by simp)
  have h2 : isW (D + 1) [wdD D wPut, e1] wAdd 2 = false := isW_len (by simp)
  simp only [tupO, h1, h2, isW_put]
  simp [hc]
theorem chk_swap (g g' D : Nat) (e0 e1 e2 : Tm D) : chk (D + 1) (tp3 g D e0 e1 e2) = chk (D + 1) (tp3 g' D e0 e2 e1) := by
  rw [← tchk_chk, ← tchk_chk]
  have h1 : formedB (D + 1) (tp3 g D e0 e1 e2) = formedB (D + 1) (tp3 g' D e0 e2 e1) := by
    have hg : good (hdOf D (tp3 g D e0 e1 e2)) = good (hdOf D (tp3 g' D e0 e2 e1)) := rfl
    simp only [formedB, hg]
    simp only [tp3, List.all_cons, List.all_nil, Bool.and_true]
    rw [Bool.and_comm (formedB D e1)]
  have h2 : dep (D + 1) (tp3 g D e0 e1 e2) = dep (D + 1) (tp3 g' D e0 e2 e1) := by
    simp only [dep, tp3, if_true, List.foldl_cons, List.foldl_nil]
    omega
  have h3 : sz (D + 1) (tp3 g D e0 e1 e2) = sz (D + 1) (tp3 g' D e0 e2 e1) := by
    simp only [sz, tp3, if_true, List.map_cons, List.map_nil, List.sum_cons, List.sum_nil]
    omega
  unfold tchk
  rw [h1, h2, h3]
end Go.Proofs.Ytbmjfnicfpdjfaa
namespace Go.Proofs.Ytbmjfnicfpdjfaa
open Go.RowKit

/-- What value leaves. -/
def DvOut (N : Nat) (o : Option (Tm (N + 1))) (w : World) (e : Ending) (w' : World) : Prop :=
  ∃ y : Tm (N + 1), e = .returned (.tuple #[.agg #[.int .i64 y.1.1, .int .i64 y.1.2.1, .string y.1.2.2, .slice y.2.1.1 y.2.2.length y.2.1.2], .bool o.isSome]) ∧ Hid (Below w.heap.size w w' ∧ In w'.heap.size w' (N + 1) y ∧ Off (fun q => w.heap.size ≤ q) (N + 1) y ∧ same (N + 1) y (N + 1) (o.getD (zeroV N)) = true)
theorem rvC_zero {N : Nat} {E : Int} {o : Option (Tm N)} : (rvC E (rvO E o) == 0) = (rvO E o).isSome := by
  unfold rvC
  by_cases hE : E = 0
  · rw [if_pos hE]
    cases (rvO E o).isSome <;> simp
  · rw [if_neg hE]
    have : rvO E o = none := by unfold rvO; rw [if_neg hE]
    rw [this]
    simp [hE]
theorem val_agg4 {N : Nat} (y : Tm (N + 1)) : val (N + 1) y = .agg #[.int .i64 y.1.1, .int .i64 y.1.2.1, .string y.1.2.2, .slice y.2.1.1 y.2.2.length y.2.1.2] := rfl
theorem zero_box {w w' : World} {t : TypeId} {v0 v1 v2 v3 : Value} (h : Below (w.alloc (.cells #[v0, v1, v2, v3] t)).drew.heap.size (w.alloc (.cells #[v0, v1, v2, v3] t)).drew w') :
    w'.cell? ⟨w.heap.size, 0, none⟩ = some v0 ∧ w'.cell? ⟨w.heap.size, 1, none⟩ = some v1 ∧ w'.cell? ⟨w.heap.size, 2, none⟩ = some v2 ∧ w'.cell? ⟨w.heap.size, 3, none⟩ = some v3 ∧ w'.frozen? ⟨w.heap.size, 0, none⟩ = false ∧ w'.frozen? ⟨w.heap.size, 1, none⟩ = false ∧ w'.frozen? ⟨w.heap.size, 2, none⟩ = false ∧ w'.frozen? ⟨w.heap.size, 3, none⟩ = false := by
  have hz := (h.block w.heap.size (by simp [World.drew])).trans (heap_alloc_new w (.cells #[v0, v1, v2, v3] t))
  exact ⟨cell_row hz 0, cell_row hz 1, cell_row hz 2, cell_row hz 3, by simp [World.frozen?, hz], by simp [World.frozen?, hz], by simp [World.frozen?, hz], by simp [World.frozen?, hz]⟩
theorem box_at {w w' : World} {t : TypeId} {v0 v1 v2 v3 : Value} (h : Below (w.alloc (.cells #[v0, v1, v2, v3] t)).drew.heap.size (w.alloc (.cells #[v0, v1, v2, v3] t)).drew w') : w'.heap[w.heap.size]? = some (.cells #[v0, v1, v2, v3] t) :=
  (h.block w.heap.size (by simp [World.drew])).trans (heap_alloc_new w (.cells #[v0, v1, v2, v3] t))
theorem put4_full {w : World} {g : Nat} {t : TypeId} {u0 u1 u2 u3 : Value} (h : w.heap[g]? = some (.cells #[u0, u1, u2, u3] t)) (v0 v1 v2 v3 : Value) : (put4 w g 0 v0 v1 v2 v3).heap[g]? = some (.cells #[v0, v1, v2, v3] t) := by
  simp [put4, World.setCell, Array.getElem?_modify, h]
/-- A box p that holds y, made beside what was there. -/
def DvBox (N : Nat) (y : Tm (N + 1)) (w0 : World) (q p : Nat) (w2 wz : World) : Prop :=
  Below w0.heap.size w0 wz ∧ wz.heap[p]? = some (.cells #[.int .i64 y.1.1, .int .i64 y.1.2.1, .string y.1.2.2, .slice y.2.1.1 y.2.2.length y.2.1.2] 25) ∧ p ≠ q ∧ (∀ r, r < w2.heap.size → r ≠ p → wz.heap[r]? = w2.heap[r]?) ∧ Off (fun r => w0.heap.size ≤ r ∧ r < w2.heap.size ∧ r ≠ p) (N + 1) y
theorem DvBox.cells {N : Nat} {y : Tm (N + 1)} {w0 w2 wz : World} {q p : Nat} (h : DvBox N y w0 q p w2 wz) (hq : q < w0.heap.size) {t : TypeId} {v0 v1 v2 v3 : Value} (hz : w0.heap[q]? = some (.cells #[v0, v1, v2, v3] t)) :
    (wz.cell? ⟨p, 0, none⟩ = some (.int .i64 y.1.1) ∧ wz.cell? ⟨p, 1, none⟩ = some (.int .i64 y.1.2.1) ∧ wz.cell? ⟨p, 2, none⟩ = some (.string y.1.2.2) ∧ wz.cell? ⟨p, 3, none⟩ = some (.slice y.2.1.1 y.2.2.length y.2.1.2)) ∧
    (wz.cell? ⟨q, 0, none⟩ = some v0 ∧ wz.cell? ⟨q, 1, none⟩ = some v1 ∧ wz.cell? ⟨q, 2, none⟩ = some v2 ∧ wz.cell? ⟨q, 3, none⟩ = some v3) ∧ wz.frozen? ⟨q, 0, none⟩ = false ∧ wz.frozen? ⟨q, 1, none⟩ = false ∧ wz.frozen? ⟨q, 2, none⟩ = false ∧ wz.frozen? ⟨q, 3, none⟩ = false ∧ p ≠ q := by
  have e := (h.1.block q hq).trans hz
  exact ⟨⟨cell_row h.2.1 0, cell_row h.2.1 1, cell_row h.2.1 2, cell_row h.2.1 3⟩, ⟨cell_row e 0, cell_row e 1, cell_row e 2, cell_row e 3⟩, by simp [World.frozen?, e], by simp [World.frozen?, e], by simp [World.frozen?, e], by simp [World.frozen?, e], h.2.2.1⟩
theorem DvBox.close {N : Nat} {y : Tm (N + 1)} {E : Int} {o : Option (Tm (N + 1))} {w w0 w2 wz : World} {q p : Nat} (h : DvBox N y w0 q p w2 wz) (hb : Below w.heap.size w w0) (hqw : w.heap.size ≤ q) (hq : q < w0.heap.size) (hin : In w2.heap.size w2 (N + 1) y) (hs : same (N + 1) y (N + 1) ((rvO E o).getD (zeroV N)) = true) {v0 v1 v2 v3 : Value} (hsz : w2.heap.size ≤ wz.heap.size) :
    DvOut N (rvO E o) w (.returned (.tuple #[.agg #[.int .i64 y.1.1, .int .i64 y.1.2.1, .string y.1.2.2, .slice y.2.1.1 y.2.2.length y.2.1.2], .bool (rvC E (rvO E o) == 0)])) (put4 wz q 0 v0 v1 v2 v3) := by
  obtain ⟨h1, h2, h3, h4, h5⟩ := h
  have hbz := hb.trans (h1.mono hb.size)
  have hb0 := hb.size
  refine ⟨y, by rw [rvC_zero], put_below hbz hqw _ _ _ _, ?_, h5.mono fun r hr => by omega, hs⟩
  rw [put4_size]
  exact (In.off (P := fun r => w0.heap.size ≤ r ∧ r < w2.heap.size ∧ r ≠ p) (fun r hr => (put4_block (by omega) _ _ _ _).trans (h4 r hr.2.1 hr.2.2)) h5 hin).mono hsz
set_option maxRecDepth 100000 in
set_option maxHeartbeats 1000000 in
theorem dovalue_walk (N : Nat) (E : Int) (o : Option (Tm (N + 1))) (x0 x1 : Int) (x2 : ByteArray) (xa : Option Addr) (xl xc : Nat) (a : Option Addr) (c : Nat) (self : Int) (db : Nat) (w : World) (hdb : db < w.heap.size)
    (d0 : w.cell? ⟨db, 0, none⟩ = some (.slice a 4 c)) (d1 : w.cell? ⟨db, 1, none⟩ = some (.int .i64 self))
    (HV : Hid (∀ W, Below w.heap.size w W → Calls Try.prog 64 #[.agg #[.int .i64 x0, .int .i64 x1, .string x2, .slice xa xl xc], .slice a 4 c, .int .i64 self] W (RvOut N E o W))) :
    Calls Try.prog 47 #[.pointer (some ⟨db, 0, none⟩), .agg #[.int .i64 x0, .int .i64 x1, .string x2, .slice xa xl xc]] w (DvOut N (rvO E o) w) := by
  have HW : Hid (∃ w0 g q, (w0 = (w.alloc (.cells #[.int .i64 x0, .int .i64 x1, .string x2, .slice xa xl xc] 25)).alloc (.cells #[.int .i64 0, .int .i64 0, .string ⟨#[]⟩, .slice none 0 0] 25) ∧ g = w.heap.size ∧ q = w.heap.size + 1) ∧ (g < w0.heap.size ∧ db < w0.heap.size ∧ q < w0.heap.size ∧ w.heap.size ≤ q) ∧ Below w.heap.size w w0 ∧ w0.heap[q]? = some (.cells #[.int .i64 0, .int .i64 0, .string ⟨#[]⟩, .slice none 0 0] 25) ∧ ∀ W, Below w0.heap.size w0 W → (W.cell? ⟨g, 0, none⟩ = some (.int .i64 x0) ∧ W.cell? ⟨g, 1, none⟩ = some (.int .i64 x1) ∧ W.cell? ⟨g, 2, none⟩ = some (.string x2) ∧ W.cell? ⟨g, 3, none⟩ = some (.slice xa xl xc)) ∧ W.cell? ⟨db, 0, none⟩ = some (.slice a 4 c) ∧ W.cell? ⟨db, 1, none⟩ = some (.int .i64 self)) := by
    have hb0 : Below w.heap.size w ((w.alloc (.cells #[.int .i64 x0, .int .i64 x1, .string x2, .slice xa xl xc] 25)).alloc (.cells #[.int .i64 0, .int .i64 0, .string ⟨#[]⟩, .slice none 0 0] 25)) := ((Below.refl _ _).alloc (Nat.le_refl _) _).alloc (by simp) _
    have n1 := heap_alloc_new (w.alloc (.cells #[.int .i64 x0, .int .i64 x1, .string x2, .slice xa xl xc] 25)) (.cells #[.int .i64 0, .int .i64 0, .string ⟨#[]⟩, .slice none 0 0] 25)
    rw [World.size_alloc] at n1
    refine ⟨_, _, _, ⟨rfl, rfl, rfl⟩, ⟨by simp; omega, by simp; omega, by simp, by omega⟩, hb0, n1, fun W hW => ?_⟩
    have e0 := (hW.block w.heap.size (by simp; omega)).trans ((((Below.refl _ _).alloc (Nat.le_refl _) _).block w.heap.size (by simp)).trans (heap_alloc_new w (.cells #[.int .i64 x0, .int .i64 x1, .string x2, .slice xa xl xc] 25)))
    have hb : Below w.heap.size w W := hb0.trans (hW.mono (by simp; omega))
    exact ⟨⟨cell_row e0 0, cell_row e0 1, cell_row e0 2, cell_row e0 3⟩, (hb.cell (p := ⟨db, 0, none⟩) hdb).trans d0, (hb.cell (p := ⟨db, 1, none⟩) hdb).trans d1⟩
  go_enter Try.func47, Try.ntmps47
  go_wp2_with fail
  obtain ⟨w0, g, q, ⟨hw0, hg, hq⟩, HGL, HB0, HQ0, HC⟩ := HW.out
  rw [← hw0, ← hq, ← hg]
  replace HGL := hide HGL
  replace HB0 := hide HB0
  replace HQ0 := hide HQ0
  replace HC := hide HC
  clear hw0 hg hq HW d0 d1
  obtain ⟨⟨c0, c1, c2, c3⟩, d0, d1⟩ := HC.out w0 (Below.refl _ _)
  have HD0 : Hid (Below w0.heap.size w0 w0.drew) := (Below.refl _ _).drew
  have HDA : Hid (∀ o : Obj, Below w0.heap.size w0 (w0.alloc o).drew) := fun o => ((Below.refl _ _).alloc (Nat.le_refl _) o).drew
  have HBA : Hid (∀ o : Obj, Below w.heap.size w (w0.alloc o).drew) := fun o => HB0.out.trans ((HDA.out o).mono HB0.out.size)
  have HBD := hide (HB0.out.trans (HD0.out.mono HB0.out.size))
  go_region_held3 (fun W => (W.cell? ⟨g, 0, none⟩ = some (.int .i64 x0) ∧ W.cell? ⟨g, 1, none⟩ = some (.int .i64 x1) ∧ W.cell? ⟨g, 2, none⟩ = some (.string x2) ∧ W.cell? ⟨g, 3, none⟩ = some (.slice xa xl xc)) ∧ W.cell? ⟨db, 0, none⟩ = some (.slice a 4 c) ∧ W.cell? ⟨db, 1, none⟩ = some (.int .i64 self))
    (first | (go_keep; done) | exact HC.out _ HD0.out | exact HC.out _ (HDA.out _) | exact HC.out _ (HB2.out.alloc HB2.out.size _) | exact HC.out _ ((((HB2.out.setCell (Nat.le_refl _) _).setCell (Nat.le_refl _) _).setCell (Nat.le_refl _) _).setCell (Nat.le_refl _) _) | exact HC.out _ HB2.out) ((first
      | (go_at_call 64; refine (HV.out _ HBD.out).mono ?_; rintro e w2 ⟨y, rfl, HY⟩; rw [val_agg4]; have HB2 := hide (HD0.out.trans (HY.out.1.mono HD0.out.size)))
      | (go_at_call 64; refine (HV.out _ (HBA.out _)).mono ?_; rintro e w2 ⟨y, rfl, HY⟩; rw [val_agg4]; have HB2 := hide ((HDA.out _).trans (HY.out.1.mono (HDA.out _).size)); have HBK := hide (box_at HY.out.1); obtain ⟨z0, z1, z2, z3, f0, f1, f2, f3⟩ := zero_box HY.out.1)))
  · have HZ : Hid (∃ wz p, (wz = w2.alloc (.cells #[.int .i64 y.1.1, .int .i64 y.1.2.1, .string y.1.2.2, .slice y.2.1.1 y.2.2.length y.2.1.2] 25) ∧ p = w2.heap.size) ∧ DvBox N y w0 q p w2 wz) := by
      refine ⟨_, _, ⟨rfl, rfl⟩, HB2.out.alloc HB2.out.size _, heap_alloc_new _ _, ?_, fun r hr _ => ((Below.refl _ _).alloc (Nat.le_refl _) _).block r hr, ?_⟩
      · have := HGL.out.2.2.1
        have := HB2.out.size
        omega
      · exact (In.offB HY.out.2.2.1 HY.out.2.1).mono fun r hr => by have := HD0.out.size; omega
    obtain ⟨wz, p, ⟨hwz, hp⟩, HX⟩ := HZ.out
    rw [← hwz, ← hp]
    replace HX := hide HX
    have HIN := hide HY.out.2.1
    have HSM := hide HY.out.2.2.2
    have HSZ : Hid (w2.heap.size ≤ wz.heap.size) := by
      rw [hwz]
      simp [Hid]
    clear hwz hp HZ HY HV HC HDA HBA HBD HD0 c0 c1 c2 c3 d0 d1
    obtain ⟨⟨b0, b1, b2, b3⟩, ⟨z0, z1, z2, z3⟩, f0, f1, f2, f3, hpq⟩ := HX.out.cells HGL.out.2.2.1 HQ0.out
    go_wp2_with fail
    exact bodyPost_ret (v := .tuple #[.agg #[.int .i64 y.1.1, .int .i64 y.1.2.1, .string y.1.2.2, .slice y.2.1.1 y.2.2.length y.2.1.2], .bool (rvC E (rvO E o) == 0)]) (by simp [results, Try.results47, go_sem, z0, z1, z2, z3]) rfl (HX.out.close HB0.out HGL.out.2.2.2 HGL.out.2.2.1 HIN.out HSM.out HSZ.out)
  · have HZ : Hid (∃ wz p, (wz = put4 w2 w0.heap.size 0 (.int .i64 y.1.1) (.int .i64 y.1.2.1) (.string y.1.2.2) (.slice y.2.1.1 y.2.2.length y.2.1.2) ∧ p = w0.heap.size) ∧ DvBox N y w0 q p w2 wz) := by
      refine ⟨_, _, ⟨rfl, rfl⟩, ((((HB2.out.setCell (Nat.le_refl _) _).setCell (Nat.le_refl _) _).setCell (Nat.le_refl _) _).setCell (Nat.le_refl _) _), ?_, ?_, fun r _ hr => put4_block hr _ _ _ _, ?_⟩
      · exact put4_full HBK.out _ _ _ _
      · have := HGL.out.2.2.1
        omega
      · exact (In.offB HY.out.2.2.1 HY.out.2.1).mono fun r hr => by
          have := hr.1
          simp [World.drew] at this
          omega
    obtain ⟨wz, p, ⟨hwz, hp⟩, HX⟩ := HZ.out
    replace HX := hide HX
    have HIN := hide HY.out.2.1
    have HSM := hide HY.out.2.2.2
    have HSZ : Hid (w2.heap.size ≤ wz.heap.size) := by
      rw [hwz, put4_size]
      exact Nat.le_refl _
    unfold put4 at hwz
    simp only [Nat.zero_add] at hwz
    rw [← hwz, ← hp]
    clear hwz hp HZ HY HV HC HDA HBA HBD HD0 c0 c1 c2 c3 d0 d1 z0 z1 z2 z3 f0 f1 f2 f3
    obtain ⟨⟨b0, b1, b2, b3⟩, ⟨z0, z1, z2, z3⟩, f0, f1, f2, f3, hpq⟩ := HX.out.cells HGL.out.2.2.1 HQ0.out
    go_wp2_with fail
    exact bodyPost_ret (v := .tuple #[.agg #[.int .i64 y.1.1, .int .i64 y.1.2.1, .string y.1.2.2, .slice y.2.1.1 y.2.2.length y.2.1.2], .bool (rvC E (rvO E o) == 0)]) (by simp [results, Try.results47, go_sem, z0, z1, z2, z3]) rfl (HX.out.close HB0.out HGL.out.2.2.2 HGL.out.2.2.1 HIN.out HSM.out HSZ.out)
end Go.Proofs.Ytbmjfnicfpdjfaa
namespace Go.Proofs.Ytbmjfnicfpdjfaa
open Go.RowKit

/-- Is it a process. -/
def isPid {N : Nat} : Option (Tm (N + 1)) → Bool
  | some z => z.1.1 == 3
  | none => false
set_option maxRecDepth 100000 in
set_option maxHeartbeats 1000000 in
theorem doproc_walk (N : Nat) (o : Option (Tm (N + 1))) (x0 x1 : Int) (x2 : ByteArray) (xa : Option Addr) (xl xc : Nat) (db : Nat) (w : World)
    (HV : Hid (∀ W, Below w.heap.size w W → Calls Try.prog 47 #[.pointer (some ⟨db, 0, none⟩), .agg #[.int .i64 x0, .int .i64 x1, .string x2, .slice xa xl xc]] W (DvOut N o W))) :
    Calls Try.prog 91 #[.pointer (some ⟨db, 0, none⟩), .agg #[.int .i64 x0, .int .i64 x1, .string x2, .slice xa xl xc]] w fun e w' => ∃ u, e = .returned (.tuple #[.int .i64 u, .bool (isPid o)]) ∧ Hid (Below w.heap.size w w' ∧ ∀ z, o = some z → u = z.1.2.1) := by
  have HA : Hid (∀ o : Obj, Below w.heap.size w (w.alloc o)) := fun o => (Below.refl _ _).alloc (Nat.le_refl _) o
  have HC0 : (w.alloc (.cells #[.int .i64 x0, .int .i64 x1, .string x2, .slice xa xl xc] 25)).cell? ⟨w.heap.size, 0, none⟩ = some (.int .i64 x0) := cell_row (heap_alloc_new w _) 0
  go_enter Try.func91, Try.ntmps91
  go_wp2_with fail
  refine (HV.out _ (HA.out _)).mono ?_
  rintro e w2 ⟨y, rfl, HY⟩
  have HB2 := hide ((HA.out (.cells #[.int .i64 x0, .int .i64 x1, .string x2, .slice xa xl xc] 25)).trans (HY.out.1.mono (HA.out _).size))
  have HS := hide HY.out.2.2.2
  have HB3 : Hid (∀ ob : Obj, Below w.heap.size w (w2.alloc ob).drew) := fun ob => (HB2.out.alloc HB2.out.size ob).drew
  clear HY HV HC0
  cases o with
  | none =>
    simp only [Option.isSome_none]
    go_wp2_with fail
    go_region
    all_goals
      go_wp2_with fail
      go_ret2
      exact ⟨_, rfl, HB3.out _, fun z hz => by cases hz⟩
  | some z =>
    simp only [Option.isSome_some]
    have h := HS.out
    simp only [Option.getD_some, same, Bool.and_eq_true, beq_iff_eq] at h
    have HK : Hid (isPid (some z) = (y.1.1 == 3)) := by
      show _ = _
      rw [h.1.1.1]
      rfl
    have HU := hide h.1.1.2
    clear h HS
    go_wp2_with fail
    go_region
    all_goals
      go_wp2_with fail
      go_ret2
      rw [HK.out]
      exact ⟨_, rfl, HB3.out _, fun z' hz => by cases hz; exact HU.out⟩
end Go.Proofs.Ytbmjfnicfpdjfaa
namespace Go.Proofs.Ytbmjfnicfpdjfaa
open Go.RowKit

def bhOf (n : Nat) (name : ByteArray) : List (Bh n) → Option (Bh n)
  | [] => none
  | b :: l => if b.1 = name then some b else bhOf n name l
def clsV (n : Nat) : Option (Bh n) → Value
  | none => .slice none 0 0
  | some b => .slice b.2.1.1 b.2.2.length b.2.1.2
theorem bhOf_drop (n : Nat) (name : ByteArray) {l : List (Bh n)} {j : Nat} {b : Bh n} (h : l[j]? = some b) : bhOf n name (l.drop j) = if b.1 = name then some b else bhOf n name (l.drop (j + 1)) := by
  obtain ⟨h1, e⟩ := List.getElem?_eq_some_iff.1 h
  rw [List.drop_eq_getElem_cons h1, e]
  rfl
set_option maxRecDepth 100000 in
set_option maxHeartbeats 1000000 in
theorem clausesOf_walk (n : Nat) (name : ByteArray) (l : List (Bh n)) (la : Option Addr) (lc len B : Nat) (w : World) (hlen : l.length = len) (hll : len ≤ 9223372036854775807) (hB : B ≤ w.heap.size) (HL : Hid (PgIn n B w la l)) :
    Calls Try.prog 26 #[.slice la len lc, .string name] w fun e w' => e = .returned (clsV n (bhOf n name l)) ∧ Below w.heap.size w w' := by
  go_enter Try.func26, Try.ntmps26
  go_wp2_with fail
  go_loopw [9] (fun i wr => ∃ j : Nat, j ≤ len ∧ i = .int .i64 j ∧ Hid (Below w.heap.size w wr ∧ bhOf n name l = bhOf n name (l.drop j))) (fun i _ => len - (intOf i).toNat)
  case atStart => exact ⟨0, by omega, rfl, Below.refl _ _, rfl⟩
  case round =>
  obtain ⟨j, hj, rfl, HR⟩ := hrel
  by_cases hlt : j < len
  · obtain ⟨b, hb⟩ : ∃ b, l[j]? = some b := ⟨l[j]'(by omega), List.getElem?_eq_getElem _⟩
    obtain ⟨lb, lo, rfl, hlb, HC⟩ : ∃ g o, la = some ⟨g, o, none⟩ ∧ g < B ∧ Hid (∀ (t : Nat) (u : Value), (bh2 n b)[t]? = some u → w.cell? ⟨g, o + j * 2 + t, none⟩ = some u) := by
      rcases HL.out with e | ⟨g, o, e, hg, h⟩
      · rw [e] at hb
        simp at hb
      · exact ⟨g, o, e, hg, (h j _ hb).1⟩
    have hcell : ∀ (t : Nat) (u : Value), (bh2 n b)[t]? = some u → wr.cell? ⟨lb, lo + j * 2 + t, none⟩ = some u := fun t u ht => (HR.out.1.cell (p := ⟨lb, lo + j * 2 + t, none⟩) (Nat.lt_of_lt_of_le hlb hB)).trans (HC.out t u ht)
    have x0 : wr.cell? ⟨lb, lo + j * 2, none⟩ = some (.string b.1) := hcell 0 _ rfl
    have x1 : wr.cell? ⟨lb, lo + j * 2 + 1, none⟩ = some (.slice b.2.1.1 b.2.2.length b.2.1.2) := hcell 1 _ rfl
    have j1 : (0 : Int) ≤ (j : Int) := by omega
    have j2 : (j : Int) < (len : Int) := by omega
    have HN : Hid (∀ o : Obj, Below w.heap.size w (wr.alloc o)) := fun o => HR.out.1.alloc HR.out.1.size o
    by_cases hn : b.1 = name
    · have HE : Hid (bhOf n name l = some b) := by
        show _ = _
        rw [HR.out.2, bhOf_drop n name hb, if_pos hn]
      have HV : Hid (clsV n (bhOf n name l) = .slice b.2.1.1 b.2.2.length b.2.1.2) := by
        show _ = _
        rw [HE.out]
        rfl
      rw [hn] at x0
      clear hcell HR HE hb
      go_wp2_with fail
      go_ret
      rw [HV.out]
      exact ⟨rfl, HN.out _⟩
    · have HE : Hid (bhOf n name l = bhOf n name (l.drop (j + 1))) := by
        show _ = _
        rw [HR.out.2, bhOf_drop n name hb, if_neg hn]
      have ht : (b.1.toList == name.toList) = false := by
        rw [beq_eq_false_iff_ne]
        intro e
        rw [ByteArray.toList_eq, ByteArray.toList_eq] at e
        exact hn (ByteArray.ext (Array.ext' e))
      clear hcell HR hb
      go_wp2_with fail
      go_roundw
      case rel => exact ⟨j + 1, by omega, by go_num, HN.out _, HE.out⟩
      case measure => simp [intOf]; omega
  · obtain rfl : j = len := by omega
    have HV : Hid (clsV n (bhOf n name l) = .slice none 0 0) := by
      show _ = _
      rw [HR.out.2, List.drop_of_length_le (by omega)]
      rfl
    have HB := hide HR.out.1
    clear HR
    go_wp2_with fail
    go_ret
    rw [HV.out]
    exact ⟨rfl, HB.out⟩
end Go.Proofs.Ytbmjfnicfpdjfaa
namespace Go.Proofs.Ytbmjfnicfpdjfaa
open Go.RowKit

/-- What is reckoned. -/
def vlC (b : List Tc) (self : Int) (n : Nat) (x : Tm n) : Option Tc := (vl 13 b self n x).bind fun z => if chk (13 + n) z = 0 then some (cn (13 + n) z) else none
def pidC (b : List Tc) (self : Int) (n : Nat) (x : Tm n) : Option Int := (vlC b self n x).bind fun t => if t.1.1 = 3 then some t.1.2.1 else none
/-- What is done: what is bound, the next number, and what came of it. -/
structure Dg where
  b : List Tc
  next : Int
  sends : List (Int × Tc)
  spawns : List (Int × ByteArray × Tc)
  links : List Int
  stops : Bool
def pidT (u : Int) : Tc := ((3, u, .empty), (none, 0), [])
def doA (self : Int) {n : Nat} (a : Ac (n + 1)) (d : Dg) : Option Dg :=
  if a.1 = 1 then (pidC d.b self (n + 1) a.2.1.1).bind fun u => (vlC d.b self (n + 1) a.2.1.2).map fun t => { d with sends := d.sends ++ [(u, t)] }
  else if a.1 = 2 then (vlC d.b self (n + 1) a.2.1.2).bind fun t => if kindA ⟨13, (d.b[a.2.2.2.toNat]?).getD (pidT 0)⟩ = 6 then some { d with b := d.b.set a.2.2.2.toNat (pidT d.next), next := d.next + 1, spawns := d.spawns ++ [(d.next, a.2.2.1, t)] } else none
  else if a.1 = 3 then (pidC d.b self (n + 1) a.2.1.1).map fun u => { d with links := d.links ++ [u] }
  else some { d with stops := true }
def doL (self : Int) {n : Nat} : List (Ac (n + 1)) → Dg → Option Dg
  | [], d => some d
  | a :: l, d => (doA self a d).bind (doL self l)
/-- What a step tells, and what it leaves. -/
structure Tk where
  message : Tc
  fate : Int
  sends : List (Int × Tc)
  spawns : List (Int × ByteArray × Tc)
  links : List Int
  state : Tc
  mail : List Tc
def folC {n : Nat} (room self next : Int) (s m : Tc) (ms : List Tc) (c : Cl (n + 1)) (b : List Tc) : Tk :=
  match doL self c.2.2 ⟨b, next, [], [], [], false⟩ with
  | none => ⟨m, 2, [], [], [], s, ms⟩
  | some d => match vlC d.b self (n + 1) c.1.2.2 with
    | none => ⟨m, 2, [], [], [], s, ms⟩
    | some t => if (ms.map (sz 13)).sum + sz 13 t ≤ room then ⟨m, if d.stops then 1 else 0, d.sends, d.spawns, d.links, t, ms⟩ else ⟨m, 3, [], [], [], s, ms⟩
def clsOf {n : Nat} (name : ByteArray) (l : List (Bh (n + 1))) : List (Cl (n + 1)) := ((bhOf (n + 1) name l).map fun b => b.2.2).getD []
def stpC {n : Nat} (room : Int) (l : List (Bh (n + 1))) (name : ByteArray) (self next : Int) (s : Tc) (ms : List Tc) : Option Tk :=
  (chs (clsOf name l) s ms 0).bind fun x => (ms[x.1]?).map fun m => folC room self next s m (ms.eraseIdx x.1) x.2.1 x.2.2

theorem row_alike {D : Nat} {l : List (Tm D)} {B : List Tc} (hb : bndB D l = true) (ht : l.map (cn D) = B) : sameL (fun x y => same D x 13 y) l B = true := by
  rw [← ht]
  refine sameL_flip (fun y x => same 13 y D x) _ _ _ (fun a _ b hab => same_symm _ _ _ _ hab) (sameL_mapl _ _ _ fun y hy => ?_)
  exact cn_same ((bnd_ok hb).2 y hy).1
theorem row_ok {D : Nat} {l : List (Tm D)} {B : List Tc} (hb : bndB D l = true) (ht : l.map (cn D) = B) : bndB 13 B = true := by
  have h := row_alike hb ht
  obtain ⟨h4, ho⟩ := bnd_ok hb
  unfold bndB
  rw [← sameL_length _ _ _ h, h4]
  simp only [decide_true, Bool.true_and, List.all_eq_true]
  intro y hy
  rw [← ht] at hy
  obtain ⟨z, hz, rfl⟩ := List.mem_map.1 hy
  have hk := ho z hz
  have hs := cn_same hk.1
  simp only [okB, Bool.and_eq_true, beq_iff_eq, Bool.or_eq_true]
  refine ⟨cn_chk hk.1, ?_⟩
  rw [same_kind hs, ← closed_eq, cn_closed hk.1]
  exact hk.2.2
theorem vlC_of {D n : Nat} {l : List (Tm D)} {B : List Tc} (hb : bndB D l = true) (ht : l.map (cn D) = B) (self : Int) (x : Tm n) (hx : chk n x = 0) : (rvO 0 (vl D l self n x)).map (cn (D + n)) = vlC B self n x := by
  have hr : RightA ⟨n, x⟩ := right_formed.2 (chk_iff.1 hx).1
  have hB := row_ok hb ht
  have h := vl_alike D l 13 B self (row_alike hb ht) (fun y hy => right_formed.2 (chk_iff.1 ((bnd_ok hb).2 y hy).1).1) (fun y hy => right_formed.2 (chk_iff.1 ((bnd_ok hB).2 y hy).1).1) n x hr
  unfold vlC rvO
  cases e1 : vl D l self n x with
  | none =>
    rw [e1] at h
    cases e2 : vl 13 B self n x with
    | none => rfl
    | some _ =>
      rw [e2] at h
      exact h.elim
  | some z =>
    rw [e1] at h
    cases e2 : vl 13 B self n x with
    | none =>
      rw [e2] at h
      exact h.elim
    | some z' =>
      rw [e2] at h
      have hs : same (D + n) z (13 + n) z' = true := h
      simp only [if_true, Option.bind_some]
      rw [same_chk hs]
      by_cases hc : chk (13 + n) z' = 0
      · simp [hc, cn_eq hs]
      · simp [hc]
theorem vlC_ok {n : Nat} {B : List Tc} (hb : bndB 13 B = true) {self : Int} {x : Tm n} (hx : chk n x = 0) {t : Tc} (h : vlC B self n x = some t) : chk 13 t = 0 ∧ closedT 13 t = true ∧ cn 13 t = t := by
  have hr : RightA ⟨n, x⟩ := right_formed.2 (chk_iff.1 hx).1
  unfold vlC at h
  obtain ⟨z, hz, h⟩ := Option.bind_eq_some_iff.1 h
  by_cases hc : chk (13 + n) z = 0
  · rw [if_pos hc] at h
    obtain rfl := Option.some.inj h
    refine ⟨cn_chk hc, ?_, cn_idem hc⟩
    rw [cn_closed hc]
    exact vl_closed 13 B self (fun y hy => ((bnd_ok hb).2 y hy).2.2) n x hr z hz
  · rw [if_neg hc] at h
    cases h
/-- What doing.value leaves. -/
def DcOut (N : Nat) (o : Option Tc) (w : World) (e : Ending) (w' : World) : Prop :=
  ∃ y : Tm (N + 1), e = .returned (.tuple #[.agg #[.int .i64 y.1.1, .int .i64 y.1.2.1, .string y.1.2.2, .slice y.2.1.1 y.2.2.length y.2.1.2], .bool o.isSome]) ∧ Hid (Below w.heap.size w w' ∧ In w'.heap.size w' (N + 1) y ∧ Off (fun q => w.heap.size ≤ q) (N + 1) y ∧ ∀ t, o = some t → chk (N + 1) y = 0 ∧ closedT (N + 1) y = true ∧ cn (N + 1) y = t)
end Go.Proofs.Ytbmjfnicfpdjfaa
