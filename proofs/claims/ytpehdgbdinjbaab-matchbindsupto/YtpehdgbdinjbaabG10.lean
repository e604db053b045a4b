/- What is proved here: plain facts and contracts that the claimed theorem stands on, several texts in one: plain facts on a pattern with what is bound put in: how the row of its parts grows. No condition. a law for a call of put inside a region that draws its order: by its contract. No condition. the statements' own put, of a right pattern and four right terms that lie in memory: it returns the pattern with what is bound put in, in memory that was there ahead of it or is new; it turns no memory that was there. No other condition. slices.Repeat of one term: so many of it, in new memory. Condition: at most eight. slices.Repeat of one term, at most eight times: so many of it, in new memory; the statements' own free(): four wild terms, in new memory. No other condition. the small terms that the statements make for themselves (num, word, two): what they return, and that it lies in new memory. No condition. -/
import Derived.Test.YtpehdgbdinjbaabG09
import Derived.Deep.RegionLaw
import Derived.Deep.AppendLies
import Derived.Test.YtpehdgbdinjbaabG06
import Derived.Laws.CopyRow
import Derived.Deep.RegionHeld3
import Derived.Test.YtpehdgbdinjbaabG01
import Derived.Handy
namespace Go.Proofs.Ytpehdgbdinjbaab
open Go.RowKit

theorem In.offAll {B : Nat} {w : World} : {n : Nat} → {x : Tm n} → In B w n x → Off (fun b => b < B) n x
  | 0, _, k => k
  | _ + 1, _, k => by
    obtain ⟨_, k1⟩ := k
    rcases k1 with k1 | ⟨b, o, e, hb, k1⟩
    · exact Or.inl k1
    · exact Or.inr ⟨b, o, e, hb, fun i y hy => (k1 i y hy).2.offAll⟩
theorem val_lift (N n : Nat) (x : Tm (n + 1)) : val (N + 1) (lift (N + 1) (n + 1) x) = val (n + 1) x := by simp [val, lift]

theorem alloc_old (w : World) (o : Obj) {b : Nat} (h : b < w.heap.size) : (w.alloc o).heap[b]? = w.heap[b]? := (World.grownBy_alloc w o none).block b h (by simp)
/-- A box of the call's own. -/
def Box4 (q : Nat) (v0 v1 v2 v3 : Value) (w : World) : Prop := w.heap[q]? = some (.cells #[v0, v1, v2, v3] 24)
theorem Box4.cells {q : Nat} {v0 v1 v2 v3 : Value} {w : World} (h : Box4 q v0 v1 v2 v3 w) :
    (w.cell? ⟨q, 0, none⟩ = some v0 ∧ w.cell? ⟨q, 1, none⟩ = some v1 ∧ w.cell? ⟨q, 2, none⟩ = some v2 ∧ w.cell? ⟨q, 3, none⟩ = some v3) ∧ ∀ j, w.frozen? ⟨q, j, none⟩ = false := by
  unfold Box4 at h
  refine ⟨⟨?_, ?_, ?_, ?_⟩, fun j => ?_⟩
  all_goals simp [World.cell?, World.frozen?, h]
theorem Box4.lt {q : Nat} {v0 v1 v2 v3 : Value} {w : World} (h : Box4 q v0 v1 v2 v3 w) : q < w.heap.size := (Array.getElem?_eq_some_iff.1 h).1
theorem Box4.set3 {q : Nat} {v0 v1 v2 v3 : Value} {w : World} (h : Box4 q v0 v1 v2 v3 w) (v : Value) : Box4 q v0 v1 v2 v (w.setCell ⟨q, 3, none⟩ v) := by
  unfold Box4 at *
  simp [World.setCell, Array.getElem?_modify, h]

/-- What a pattern's parts have come to: xs, in the row v; the box q holds it. -/
def PtP (B : Nat) (D : Nat) (l : List (Tm D)) (n : Nat) (p : List (Tm n)) (w : World) (v0 v1 v2 : Value) (k : Nat) (xs : List (Tm (D + n))) (v : Value) (wr : World) : Prop :=
  Below w.heap.size w wr ∧ Box4 (w.heap.size + 2) v0 v1 v2 v wr ∧ xs.length = k ∧ wr.ownsRow (w.heap.size + 3) 24 4 v k (ndCells (xs.map (hdT (D + n)))) ∧
  (∀ y ∈ xs, In wr.heap.size wr (D + n) y ∧ Off (fun b => (b < B ∨ w.heap.size + 2 < b) ∧ v.ownBlock ≠ some b) (D + n) y) ∧
  ∀ (i : Nat) (y : Tm n) (e : Tm (D + n)), p[i]? = some y → xs[i]? = some e → PutR D l n y e

theorem PtP.step {B D : Nat} {l : List (Tm D)} {n : Nat} {p : List (Tm n)} {w : World} {v0 v1 v2 : Value} {k : Nat} {xs : List (Tm (D + n))} {v : Value} {wr w1 w2 : World} {o o1 : Obj} {g c : Nat} (hB : B ≤ w.heap.size)
    (h : PtP B D l n p w v0 v1 v2 k xs v wr) (hb : Below (wr.alloc o).heap.size (wr.alloc o) w1) (X : Tm (D + n)) (hX : In w1.heap.size w1 (D + n) X) (hoX : Off (fun b => b < B ∨ wr.heap.size < b) (D + n) X) (x : Tm n) (hx : p[k]? = some x) (hp : PutR D l n x X)
    (hown : w2.ownsRow (w.heap.size + 3) 24 4 (.slice (some ⟨g, 0, none⟩) (k + 1) c) (k + 1) (ndCells (xs.map (hdT (D + n))) ++ nd4 (hdT (D + n) X))) (hg : (w1.alloc o1).grownBy w2 v.ownBlock) (hat : v.ownBlock = some g ∨ g = w1.heap.size + 1) :
    PtP B D l n p w v0 v1 v2 (k + 1) (xs ++ [X]) (.slice (some ⟨g, 0, none⟩) (k + 1) c) (w2.setCell ⟨w.heap.size + 2, 3, none⟩ (.slice (some ⟨g, 0, none⟩) (k + 1) c)) := by
  obtain ⟨h1, h2, h3, h4, h5, h6⟩ := h
  have hs1 := h1.size
  have hs2 := h2.lt
  have hs3 := hb.size
  have es : (wr.alloc o).heap.size = wr.heap.size + 1 := by simp
  have es1 : (w1.alloc o1).heap.size = w1.heap.size + 1 := by simp
  have hb1 : Below wr.heap.size wr w1 := ((Below.refl _ _).alloc (Nat.le_refl _) o).trans (hb.mono (by omega))
  have hb1s := hb1.size
  have hgs := hg.size
  -- blocks that the append leaves: all of w1's but the row's own
  have hold : ∀ b, b < w1.heap.size → v.ownBlock ≠ some b → w2.heap[b]? = w1.heap[b]? := fun b hb hne => (hg.block b (by omega) (fun e => hne e.symm)).trans (alloc_old w1 o1 hb)
  have hvown : ∀ b, v.ownBlock = some b → w.heap.size + 3 ≤ b ∧ b < wr.heap.size := fun b e => h4.lt b e
  have hg3 : w.heap.size + 3 ≤ g := by
    rcases hat with e | e
    · exact (hvown g e).1
    · omega
  have hq : w2.heap[w.heap.size + 2]? = wr.heap[w.heap.size + 2]? := (hold _ (by omega) (fun e => by have := (hvown _ e).1; omega)).trans (hb1.block _ (by omega))
  have hbox : Box4 (w.heap.size + 2) v0 v1 v2 v w2 := hq.trans h2
  have hset : ∀ b, b ≠ w.heap.size + 2 → (w2.setCell ⟨w.heap.size + 2, 3, none⟩ (.slice (some ⟨g, 0, none⟩) (k + 1) c)).heap[b]? = w2.heap[b]? := fun b hne => by
    have : w.heap.size + 2 ≠ b := fun e => hne e.symm
    simp [World.setCell, Array.getElem?_modify, this]
  have hsz : (w2.setCell ⟨w.heap.size + 2, 3, none⟩ (.slice (some ⟨g, 0, none⟩) (k + 1) c)).heap.size = w2.heap.size := by simp [World.setCell]
  refine ⟨⟨?_, ?_, ?_, ?_, ?_⟩, hbox.set3 _, by simp [h3], ?_, ?_, ?_⟩
  · exact (hg.os.trans (hb1.os)).trans h1.os
  · exact (hg.tape.trans (hb1.tape)).trans h1.tape
  · exact (hg.output.trans (hb1.output)).trans h1.output
  · rw [hsz]; omega
  · intro b hb'
    exact (hset b (by omega)).trans ((hold b (by omega) (fun e => by have := (hvown _ e).1; omega)).trans ((hb1.block b (by omega)).trans (h1.block b hb')))
  · have e : ndCells ((xs ++ [X]).map (hdT (D + n))) = ndCells (xs.map (hdT (D + n))) ++ nd4 (hdT (D + n) X) := by simp [ndCells]
    rw [e]
    refine World.ownsRow.kept hown (row := some (w.heap.size + 2)) ⟨rfl, rfl, rfl, Nat.le_of_eq hsz.symm, fun b _ hne => hset b (fun e => hne (by rw [e]))⟩ (Or.inr ?_)
    simp only [Value.ownBlock]
    intro e
    injection e with e
    omega
  · intro y hy
    rw [hsz]
    rcases List.mem_append.1 hy with hy | hy
    · obtain ⟨k1, k2⟩ := h5 y hy
      have k4 : Off (fun b => ((b < B ∨ w.heap.size + 2 < b) ∧ v.ownBlock ≠ some b) ∧ b < wr.heap.size) (D + n) y := In.offB k2 k1
      refine ⟨?_, k4.mono fun b hb' => ⟨hb'.1.1, ?_⟩⟩
      · refine In.off (w := w1) (fun b hb' => ?_) k4 ((k1.below hb1).mono (by omega))
        exact (hset b (by have := hb'.1.1; omega)).trans (hold b (by have := hb'.2; omega) hb'.1.2)
      · simp only [Value.ownBlock]
        intro e
        injection e with e
        rcases hat with e2 | e2
        · exact hb'.1.2 (by rw [e2, e])
        · have := hb'.2
          omega
    · simp only [List.mem_singleton] at hy
      subst hy
      have k4 : Off (fun b => (b < B ∨ wr.heap.size < b) ∧ b < w1.heap.size) (D + n) y := In.offB hoX hX
      refine ⟨?_, k4.mono fun b hb' => ⟨by rcases hb'.1 with h | h <;> omega, ?_⟩⟩
      · refine In.off (w := w1) (fun b hb' => ?_) k4 (hX.mono (by omega))
        exact (hset b (by have := hb'.1; omega)).trans (hold b hb'.2 (fun e => by have := hvown _ e; have := hb'.1; omega))
      · simp only [Value.ownBlock]
        intro e
        injection e with e
        rcases hat with e2 | e2
        · have := hvown g e2
          have := hb'.1
          omega
        · have := hb'.2
          omega
  · intro i y e hy he
    by_cases hi : i < xs.length
    · rw [List.getElem?_append_left hi] at he
      exact h6 i y e hy he
    · rw [List.getElem?_append_right (by omega)] at he
      have h0 : i - xs.length = 0 := by
        by_cases h0 : i - xs.length = 0
        · exact h0
        · rw [List.getElem?_eq_none (by simp; omega)] at he; cases he
      rw [h0] at he
      have e1 : X = e := by simpa using he
      have e2 : i = k := by omega
      rw [e2, hx] at hy
      obtain rfl := Option.some.inj hy
      rw [← e1]
      exact hp
end Go.Proofs.Ytpehdgbdinjbaab
namespace Go.Proofs.Ytpehdgbdinjbaab
open Go.RowKit

theorem step_put {w : World} {ops : Array Oper} {o : Oper} {a : Act} {K : Act → World → Prop} {Q : Exit → Act → World → Prop} {E : Prop} (hgd : o.guard = none) (x y : Operand) (ho : o.op = .call { callee := .value (.func 33), args := #[x, y], argTypes := #[24, 22] })
    (vx vy : Value) (hx : a.eval x = vx) (hy : a.eval y = vy) (R : Ending → World → Prop) (hc : Calls Try.prog 33 #[vx, vy] w R) (hK : ∀ e w', R e w' → ∃ v, e = .returned v ∧ K (a.put o.dst v) w') :
    if Region.wanted o (yielded ops a.tmps) = true then Oper.wp Try.prog o a w K Q else E := by
  have hw : Region.wanted o (yielded ops a.tmps) = true := by simp [Region.wanted, hgd]
  rw [if_pos hw]
  unfold Oper.wp
  have hr : (execOp a.eval o).run Try.prog w = .ok (.enter 33 #[vx, vy]) w := by
    have hf : a.eval (.func 33) = .func (Fn.func 33) #[] #[] := rfl
    have hn : ¬ Try.f33.name = "runtime.NumGoroutine" := by decide +kernel
    have hb : ¬ Try.f33.body = none := by
      intro h
      have h2 : Try.f33.body.isNone = false := by kernel_rfl
      rw [h] at h2
      cases h2
    simp [execOp, ho, resolve, Deferred.ofValue, invoke, callFunc, hx, hy, hf, hn, hb]
  rw [hr, Oper.upon_enter]
  refine hc.mono ?_
  intro e w' h
  obtain ⟨v, rfl, hk⟩ := hK e w' h
  exact hk
end Go.Proofs.Ytpehdgbdinjbaab
namespace Go.Proofs.Ytpehdgbdinjbaab
open Go.RowKit

def FPut (D : Nat) (l : List (Tm D)) (n : Nat) : Prop := ∀ (p : Tm n) (B : Nat) (w : World) (la : Option Addr) (lc : Nat), In B w n p → Lies B w D l la → B ≤ w.heap.size → RightA ⟨n, p⟩ →
  Calls Try.prog 33 #[val n p, .slice la 4 lc] w fun e w' => ∃ X : Tm (D + n), e = .returned (val (D + n) X) ∧ Hid (Below w.heap.size w w' ∧ In w'.heap.size w' (D + n) X ∧ Off (fun b => b < B ∨ w.heap.size ≤ b) (D + n) X ∧ PutR D l n p X)

set_option maxHeartbeats 1000000 in
set_option maxRecDepth 100000 in theorem put_var (k : Nat) (u : Int) (s : ByteArray) (a : Option Addr) (pl pc lb lo lc : Nat) (zk zu : Int) (zs : ByteArray) (za : Option Addr) (zl zc : Nat) (w : World) (hk : k < 4) (hlb : lb < w.heap.size) (hu : u = k)
    (c0 : w.cell? ⟨lb, lo + k * 4, none⟩ = some (.int .i64 zk)) (c1 : w.cell? ⟨lb, lo + k * 4 + 1, none⟩ = some (.int .i64 zu)) (c2 : w.cell? ⟨lb, lo + k * 4 + 2, none⟩ = some (.string zs)) (c3 : w.cell? ⟨lb, lo + k * 4 + 3, none⟩ = some (.slice za zl zc)) :
    Calls Try.prog 33 #[.agg #[.int .i64 5, .int .i64 u, .string s, .slice a pl pc], .slice (some ⟨lb, lo, none⟩) 4 lc] w fun e w' => e = .returned (.agg #[.int .i64 zk, .int .i64 zu, .string zs, .slice za zl zc]) ∧ Below w.heap.size w w' := by
  subst hu
  have hk1 : (0 : Int) ≤ (k : Int) := by omega
  have hk2 : (k : Int) < 4 := by omega
  go_enter Try.func33, Try.ntmps33
  go_wp2_with fail
  exact bodyPost_ret (v := .agg #[.int .i64 zk, .int .i64 zu, .string zs, .slice za zl zc]) (by simp [results, Try.results33, go_sem]) rfl ⟨rfl, by go_grown⟩

theorem three_boxes (w : World) (a b c : Obj) : (((w.alloc a).alloc b).alloc c).heap[w.heap.size + 1]? = some b ∧ (((w.alloc a).alloc b).alloc c).heap[w.heap.size + 2]? = some c := by
  have e1 : (w.alloc a).heap.size = w.heap.size + 1 := by simp
  have e2 : ((w.alloc a).alloc b).heap.size = w.heap.size + 2 := by simp
  have h1 := heap_alloc_new (w.alloc a) b
  have h2 := heap_alloc_new ((w.alloc a).alloc b) c
  rw [e1] at h1
  rw [e2] at h2
  exact ⟨(alloc_old _ _ (by omega)).trans h1, h2⟩
theorem own_box1 {w w1 : World} {o o1 : Obj} {base e size : Nat} {v : Value} {n : Nat} {xs : List Value} (h : w.ownsRow base e size v n xs) (hb : Below (w.alloc o).drew.heap.size (w.alloc o).drew w1) : (w1.alloc o1).ownsRow base e size v n xs :=
  (own_below (own_below h (((Below.refl _ _).alloc (Nat.le_refl _) o).trans ((below_undrew hb).mono (by simp)))) (Below.refl _ _)).alloc o1
theorem four_news (w : World) (x : Nd) : ∀ j u, (nd4 x)[j]? = some u → (w.alloc (.cells #[.int .i64 x.1.1, .int .i64 x.1.2.1, .string x.1.2.2, .slice x.2.1 x.2.2.1 x.2.2.2] 24)).cell? ((⟨w.heap.size, 0, none⟩ : Addr).add j) = some u := by
  intro j u hj
  rw [add_none]
  have : j < 4 := (List.getElem?_eq_some_iff.1 hj).1
  have h4 : j = 0 ∨ j = 1 ∨ j = 2 ∨ j = 3 := by omega
  rcases h4 with rfl | rfl | rfl | rfl <;> simp [nd4] at hj <;> subst hj <;> simp [go_sem]
theorem nd4_one (x : Nd) : ∀ u ∈ nd4 x, u.oneCell' = true := by
  intro u hu
  simp [nd4] at hu
  rcases hu with rfl | rfl | rfl | rfl <;> rfl

theorem box_drew {w w' : World} {v0 v1 v2 v3 : Value} {t : TypeId} (hb : Below (w.alloc (.cells #[v0, v1, v2, v3] t)).drew.heap.size (w.alloc (.cells #[v0, v1, v2, v3] t)).drew w') :
    w'.cell? ⟨w.heap.size, 0, none⟩ = some v0 ∧ w'.cell? ⟨w.heap.size, 1, none⟩ = some v1 ∧ w'.cell? ⟨w.heap.size, 2, none⟩ = some v2 ∧ w'.cell? ⟨w.heap.size, 3, none⟩ = some v3 := (boxed (below_undrew hb)).1
theorem put_q3 {w w1 : World} {o : Obj} {q : Nat} {v : Value} (h : w.cell? ⟨q, 3, none⟩ = some v) (hq : q < w.heap.size) (hb : Below (w.alloc o).drew.heap.size (w.alloc o).drew w1) : w1.cell? ⟨q, 3, none⟩ = some v := by
  have hb1 : Below w.heap.size w w1 := ((Below.refl _ _).alloc (Nat.le_refl _) o).trans ((below_undrew hb).mono (by simp))
  exact (below_cells hb1 q 3 hq).trans h
theorem put_f3 {w w1 : World} {o : Obj} {q : Nat} (h : w.frozen? ⟨q, 3, none⟩ = false) (hq : q < w.heap.size) (hb : Below (w.alloc o).drew.heap.size (w.alloc o).drew w1) : w1.frozen? ⟨q, 3, none⟩ = false := by
  have hb1 : Below w.heap.size w w1 := ((Below.refl _ _).alloc (Nat.le_refl _) o).trans ((below_undrew hb).mono (by simp))
  exact (hb1.frozen (p := ⟨q, 3, none⟩) hq).trans h
theorem put_lt {w w1 : World} {o : Obj} {q : Nat} (hq : q < w.heap.size) (hb : Below (w.alloc o).drew.heap.size (w.alloc o).drew w1) : q < w1.heap.size := by
  have := hb.size
  have e : (w.alloc o).drew.heap.size = w.heap.size + 1 := by simp [World.drew]
  omega
theorem put_rb {w0 w w1 w2 : World} {o o1 : Obj} {e size : Nat} {v v0 v1 v2 v3 : Value} {n : Nat} {xs : List Value} (h0 : Box4 (w0.heap.size + 1) v0 v1 v2 v3 w) (h : w.ownsRow (w0.heap.size + 3) e size v n xs) (hsz : w0.heap.size + 3 ≤ w.heap.size) (hb : Below (w.alloc o).drew.heap.size (w.alloc o).drew w1) (hg : (w1.alloc o1).grownBy w2 v.ownBlock) (u : Value) :
    Box4 (w0.heap.size + 1) v0 v1 v2 v3 (w2.setCell ⟨w0.heap.size + 1 + 1, 3, none⟩ u) := by
  have hs := hb.size
  have e0 : (w.alloc o).drew.heap.size = w.heap.size + 1 := by simp [World.drew]
  have hb1 : Below w.heap.size w w1 := ((Below.refl _ _).alloc (Nat.le_refl _) o).trans ((below_undrew hb).mono (by simp))
  have h1 : w2.heap[w0.heap.size + 1]? = w.heap[w0.heap.size + 1]? := ((hg.block _ (by simp; omega) (fun e => by have := (h.lt _ e.symm).1; omega)).trans (alloc_old w1 o1 (by omega))).trans (hb1.block _ (by omega))
  have h2 : (w2.setCell ⟨w0.heap.size + 1 + 1, 3, none⟩ u).heap[w0.heap.size + 1]? = w2.heap[w0.heap.size + 1]? := by
    simp [World.setCell, Array.getElem?_modify]
  exact (h2.trans h1).trans h0
theorem put_val {w : World} {base e size : Nat} {v : Value} {n : Nat} {xs : List Value} (h : w.ownsRow base e size v n xs) : v.oneCell' = true ∧ ∃ a c, v = .slice a n c := by
  rcases h.2 with ⟨rfl, rfl⟩ | ⟨g, cap, cur, rfl, _⟩
  · exact ⟨rfl, none, 0, rfl⟩
  · exact ⟨rfl, _, _, rfl⟩
theorem put_base {w w1 : World} {o o1 : Obj} {m : Nat} (h : m ≤ w.heap.size) (hb : Below (w.alloc o).drew.heap.size (w.alloc o).drew w1) : m ≤ (w1.alloc o1).heap.size := by
  have := hb.size
  have e : (w.alloc o).drew.heap.size = w.heap.size + 1 := by simp [World.drew]
  simp
  omega

theorem put_far {w w1 w2 : World} {o o1 : Obj} {base e size : Nat} {v v0 v1 v2 v3 v4 : Value} {n : Nat} {xs : List Value} {q : Nat} (h : w.ownsRow base e size v n xs) (hq : q < w.heap.size) (hqb : q < base) (hb : Below (w.alloc o).drew.heap.size (w.alloc o).drew w1) (hg : (w1.alloc o1).grownBy w2 v.ownBlock)
    (k : w1.cell? ⟨w.heap.size, 0, none⟩ = some v0 ∧ w1.cell? ⟨w.heap.size, 1, none⟩ = some v1 ∧ w1.cell? ⟨w.heap.size, 2, none⟩ = some v2 ∧ w1.cell? ⟨w.heap.size, 3, none⟩ = some v3) (k4 : w1.cell? ⟨q, 3, none⟩ = some v4) (kf : w1.frozen? ⟨q, 3, none⟩ = false) :
    (w2.cell? ⟨w.heap.size, 0, none⟩ = some v0 ∧ w2.cell? ⟨w.heap.size, 1, none⟩ = some v1 ∧ w2.cell? ⟨w.heap.size, 2, none⟩ = some v2 ∧ w2.cell? ⟨w.heap.size, 3, none⟩ = some v3) ∧ w2.cell? ⟨q, 3, none⟩ = some v4 ∧ w2.frozen? ⟨q, 3, none⟩ = false := by
  have hs := hb.size
  have e0 : (w.alloc o).drew.heap.size = w.heap.size + 1 := by simp [World.drew]
  have hold : ∀ b, b < w1.heap.size → v.ownBlock ≠ some b → w2.heap[b]? = w1.heap[b]? := fun b hb hne => (hg.block b (by simp; omega) (fun e => hne e.symm)).trans (alloc_old w1 o1 hb)
  have h1 := hold w.heap.size (by omega) (fun e => by have := (h.lt _ e).2; omega)
  have h2 := hold q (by omega) (fun e => by have := (h.lt _ e).1; omega)
  obtain ⟨k0, k1, k2, k3⟩ := k
  exact ⟨⟨(block_cell h1 _).trans k0, (block_cell h1 _).trans k1, (block_cell h1 _).trans k2, (block_cell h1 _).trans k3⟩, (block_cell h2 _).trans k4, (World.frozen?_of_block (a := ⟨q, 3, none⟩) h2).trans kf⟩

set_option maxHeartbeats 1000000 in
set_option maxRecDepth 100000 in theorem put_else (D : Nat) (l : List (Tm D)) (n : Nat) (ih : FPut D l n) (k u : Int) (s : ByteArray) (a : Option Addr) (p : List (Tm n)) (len pc lc : Nat) (la : Option Addr) (B : Nat) (w : World) (hk5 : (k == 5) = false) (hpl : Hid (p.length = len)) (hlen : len ≤ 8)
    (hp : Hid (p = [] ∨ ∃ b o, a = some ⟨b, o, none⟩ ∧ b < B ∧ ∀ (i : Nat) (y : Tm n), p[i]? = some y → Held w b (o + i * 4) n y ∧ In B w n y)) (HL : Hid (Lies B w D l la)) (hrp : Hid (∀ y ∈ p, RightA ⟨n, y⟩)) (hB : B ≤ w.heap.size) :
    Calls Try.prog 33 #[.agg #[.int .i64 k, .int .i64 u, .string s, .slice a len pc], .slice la 4 lc] w fun e w' => ∃ xs v w1, e = .returned (.agg #[.int .i64 k, .int .i64 u, .string s, v]) ∧ Hid (PtP B D l n p w (.int .i64 k) (.int .i64 u) (.string s) len xs v w1 ∧ w1.grownBy w' (some (w.heap.size + 1))) := by
  obtain ⟨it, hit, htz0, htz1, htz2⟩ := info_parts infoTerm
  have HT := hide (⟨hit, htz0, htz1, htz2⟩ : _ ∧ _ ∧ _ ∧ _)
  clear hit htz0 htz1 htz2
  go_enter Try.func33, Try.ntmps33
  go_wp2_with fail
  go_loopw [26] (fun i wr => ∃ (kk : Nat) (v : Value), kk ≤ len ∧ i = .int .i64 kk ∧ wr.cell? ⟨w.heap.size + 2, 3, none⟩ = some v ∧ Hid (w.heap.size + 3 ≤ wr.heap.size ∧ Box4 (w.heap.size + 1) (.int .i64 0) (.int .i64 0) (.string .empty) (.slice none 0 0) wr ∧ ∃ xs, PtP B D l n p w (.int .i64 k) (.int .i64 u) (.string s) kk xs v wr)) (fun i _ => len - (intOf i).toNat)
  case atStart =>
    refine ⟨0, .slice none 0 0, by omega, rfl, by simp [go_sem], by simp, ?_, [], ?_, ?_, rfl, World.ownsRow_nil _ _ _ _, (fun y hy => by cases hy), (fun i y e _ he => by simp at he)⟩
    · exact (three_boxes w _ _ _).1
    · go_grown
    · exact (three_boxes w _ _ _).2
  case round =>
    obtain ⟨kk, v, hkk, rfl, hv3, HR⟩ := hrel
    obtain ⟨hsz, HRB, xs, HP⟩ : w.heap.size + 3 ≤ wr.heap.size ∧ Hid (Box4 (w.heap.size + 1) (.int .i64 0) (.int .i64 0) (.string .empty) (.slice none 0 0) wr) ∧ ∃ xs, Hid (PtP B D l n p w (.int .i64 k) (.int .i64 u) (.string s) kk xs v wr) := HR.out
    clear HR
    by_cases hlt : kk < len
    · obtain ⟨x, hx⟩ : ∃ x, p[kk]? = some x := ⟨p[kk]'(by rw [hpl.out]; exact hlt), List.getElem?_eq_getElem _⟩
      have HX := hide hx
      have HRX := hide (hrp.out x (List.mem_of_getElem? hx))
      rcases hp.out with hp | ⟨pb, po, rfl, hpb, hp⟩
      · subst hp; simp at hx
      obtain ⟨hx1, hx2⟩ := hp kk x hx
      have hbw : Below w.heap.size w wr := HP.out.1
      replace hx1 := hx1.below (hbw.mono hB) hpb
      replace hx2 := hx2.below (hbw.mono hB)
      have HL2 := hide (HL.out.below (hbw.mono hB))
      clear hp hx hbw HL hrp
      cases n with
      | zero => exact hx1.elim
      | succ n =>
      obtain ⟨x0, x1, x2, x3⟩ := hx1
      have hB' : B ≤ wr.heap.size := by omega
      have HC : Hid (∀ w1, Below wr.heap.size wr w1 → Calls Try.prog 33 #[.agg #[.int .i64 x.1.1, .int .i64 x.1.2.1, .string x.1.2.2, .slice x.2.1.1 x.2.2.length x.2.1.2], .slice la 4 lc] w1 fun e w' => ∃ X : Tm (D + n + 1), e = .returned (val (D + n + 1) X) ∧ Hid (Below w1.heap.size w1 w' ∧ In w'.heap.size w' (D + n + 1) X ∧ Off (fun b => b < B ∨ w1.heap.size ≤ b) (D + n + 1) X ∧ PutR D l (n + 1) x X)) :=
        fun w1 h1 => ih x B w1 la lc (hx2.below (h1.mono hB')) (HL2.out.below (h1.mono hB')) (Nat.le_trans hB' h1.size) HRX.out
      clear ih hx2 HRX HL2
      have hk1 : (0 : Int) ≤ (kk : Int) := by omega
      have hk2 : (kk : Int) < (len : Int) := by omega
      have hpw : pb < wr.heap.size := by omega
      have hqw : w.heap.size + 1 + 1 < wr.heap.size := by omega
      replace hv3 : wr.cell? ⟨w.heap.size + 1 + 1, 3, none⟩ = some v := hv3
      have hne9 : ¬ (w.heap.size + 1 + 1 = wr.heap.size) := by omega
      have hne8 : ¬ (wr.heap.size = w.heap.size + 1 + 1) := by omega
      have HQ : Hid (Box4 (w.heap.size + 2) (.int .i64 k) (.int .i64 u) (.string s) v wr) := HP.out.2.1
      have hf3 : wr.frozen? ⟨w.heap.size + 1 + 1, 3, none⟩ = false := HQ.out.cells.2 3
      have HRW : Hid (wr.ownsRow (w.heap.size + 3) 24 4 v kk (ndCells (xs.map (hdT (D + n + 1))))) := HP.out.2.2.2.1
      have HV3 : Hid (wr.cell? ⟨w.heap.size + 1 + 1, 3, none⟩ = some v) := hv3
      go_wp2_with fail
      go_region_law (first
          | (refine step_put rfl _ _ rfl (.agg #[.int .i64 x.1.1, .int .i64 x.1.2.1, .string x.1.2.2, .slice x.2.1.1 x.2.2.length x.2.1.2]) (.slice la 4 lc) (by simp [Act.eval]) (by simp [Act.eval]) _ (HC.out _ (((Below.refl _ _).alloc (Nat.le_refl _) _).drew)) ?_; rintro e w1 ⟨X, rfl, HY⟩; refine ⟨_, rfl, ?_⟩; obtain ⟨t0, t1, t2, t3⟩ := box_drew HY.out.1; have hq3 := put_q3 HV3.out hqw HY.out.1; have hfq := put_f3 hf3 hqw HY.out.1; have hw1 := put_lt hqw HY.out.1; have e3 : val (D + n + 1) X = .agg #[.int .i64 X.1.1, .int .i64 X.1.2.1, .string X.1.2.2, .slice X.2.1.1 X.2.2.length X.2.1.2] := rfl; rw [e3]; clear e3)
          | (refine step_append_lies _ rfl _ _ 22 rfl (w.heap.size + 3) 24 it _ 4 56 Try.underlying22 HT.out.1 HT.out.2.1 HT.out.2.2.1 HT.out.2.2.2 rfl (by decide) v kk _ (by simp [Act.eval]) (own_box1 HRW.out HY.out.1) ⟨w1.heap.size, 0, none⟩ 1 1 (nd4 (hdT (D + n + 1) X)) (by simp [Act.eval]) rfl (four_news w1 (hdT (D + n + 1) X)) (nd4_one _) (by decide) (by unfold maxLen; omega) (by omega) (put_base hsz HY.out.1) (w1.heap.size + 1) (by simp) ?_; intro g2 c2 w2 hown2 hgrow2 hat2 hlt2; obtain ⟨⟨s0, s1, s2, s3⟩, hq4, hf4⟩ := put_far HRW.out hqw (by omega) HY.out.1 hgrow2 ⟨t0, t1, t2, t3⟩ hq3 hfq))
      all_goals
        have HST := hide (HP.out.step hB (below_undrew HY.out.1) X HY.out.2.1 (HY.out.2.2.1.mono fun b hb => by simp [World.drew] at hb; omega) x HX.out HY.out.2.2.2 hown2 hgrow2 hat2)
        have HRB2 := hide (put_rb HRB.out HRW.out (by omega) HY.out.1 hgrow2 (.slice (some ⟨g2, 0, none⟩) (kk + 1) c2))
        have HSZ : Hid (w.heap.size + 3 ≤ (w2.setCell ⟨w.heap.size + 1 + 1, 3, none⟩ (.slice (some ⟨g2, 0, none⟩) (kk + 1) c2)).heap.size) := by have h1 := put_base (o1 := .cells #[] 0) hsz HY.out.1; have h2 := hgrow2.size; simp [World.setCell, Hid] at h1 h2 ⊢; omega
        clear HP HRB HRW HC HY hown2 hgrow2 hat2 hlt2 t0 t1 t2 t3 s0 s1 s2 s3 hq3 hfq hw1 hq4 hf4 hv3 hf3 HV3 HQ x0 x1 x2 x3
        go_wp2_with fail
        go_roundw
        case rel => exact ⟨kk + 1, _, by omega, by go_num, HST.out.2.1.cells.1.2.2.2, HSZ.out, HRB2.out, _, HST.out⟩
        case measure => simp [intOf]; omega
    · obtain rfl : kk = len := by omega
      obtain ⟨⟨c0, c1, c2, c3⟩, _⟩ := HP.out.2.1.cells
      obtain ⟨⟨r0, r1, r2, r3⟩, hrf⟩ := HRB.out.cells
      replace c0 : wr.cell? ⟨w.heap.size + 1 + 1, 0, none⟩ = _ := c0
      replace c1 : wr.cell? ⟨w.heap.size + 1 + 1, 1, none⟩ = _ := c1
      replace c2 : wr.cell? ⟨w.heap.size + 1 + 1, 2, none⟩ = _ := c2
      replace c3 : wr.cell? ⟨w.heap.size + 1 + 1, 3, none⟩ = _ := c3
      have HGR : Hid (∀ v0 v1 v2 v3, wr.grownBy ((((wr.setCell ⟨w.heap.size + 1, 0, none⟩ v0).setCell ⟨w.heap.size + 1, 1, none⟩ v1).setCell ⟨w.heap.size + 1, 2, none⟩ v2).setCell ⟨w.heap.size + 1, 3, none⟩ v3) (some (w.heap.size + 1))) := fun v0 v1 v2 v3 => put4_grown (w := wr) (g := w.heap.size + 1) (o := 0) v0 v1 v2 v3
      have HVO : Hid (v.oneCell' = true ∧ ∃ a2 c2, v = .slice a2 kk c2) := put_val HP.out.2.2.2.1
      obtain ⟨a2, c4, hv⟩ := HVO.out.2
      subst hv
      go_wp2_with fail
      exact bodyPost_ret (v := .agg #[.int .i64 k, .int .i64 u, .string s, .slice a2 kk c4]) (by simp [results, Try.results33, go_sem, r0, r1, r2, r3]) rfl ⟨xs, .slice a2 kk c4, wr, rfl, HP.out, HGR.out _ _ _ _⟩

theorem held_at {w : World} {base g c L B : Nat} {N : Nat} {l : List (Tm N)} (h : w.ownsRow base 24 4 (.slice (some ⟨g, 0, none⟩) L c) L (ndCells (l.map (hdT N)))) (k : Nat) (x : Tm N) (hx : l[k]? = some x) (hin : In B w N x) : Held w g (0 + k * 4) N x := by
  cases N with
  | zero => exact hin.elim
  | succ N => exact hd_held h k x hx
theorem put_row {B D : Nat} {l : List (Tm D)} {n : Nat} {p : Tm (n + 1)} {w w1 w' : World} {v : Value} {xs : List (Tm (D + n))} (hB : B ≤ w.heap.size) (hp : I64 p.1.1 ∧ I64 p.1.2.1 ∧ p.1.2.2.size ≤ maxLen) (h5 : ¬ p.1.1 = 5)
    (h : PtP B D l n p.2.2 w (.int .i64 p.1.1) (.int .i64 p.1.2.1) (.string p.1.2.2) p.2.2.length xs v w1) (hg : w1.grownBy w' (some (w.heap.size + 1))) :
    ∃ X : Tm (D + n + 1), .agg #[.int .i64 p.1.1, .int .i64 p.1.2.1, .string p.1.2.2, v] = val (D + n + 1) X ∧ Below w.heap.size w w' ∧ In w'.heap.size w' (D + n + 1) X ∧ Off (fun b => b < B ∨ w.heap.size ≤ b) (D + n + 1) X ∧ PutR D l (n + 1) p X := by
  obtain ⟨h1, h2, h3, h4, h6, h7⟩ := h
  have hs := h1.size
  have hgs := hg.size
  have hq := h2.lt
  have hblk : ∀ b, b < w1.heap.size → b ≠ w.heap.size + 1 → w'.heap[b]? = w1.heap[b]? := fun b hb hne => hg.block b hb (fun e => hne (Option.some.inj e))
  have hbl : Below w.heap.size w w' := ⟨hg.os.trans h1.os, hg.tape.trans h1.tape, hg.output.trans h1.output, by omega, fun b hb => (hblk b (by omega) (by omega)).trans (h1.block b hb)⟩
  have hin : ∀ y ∈ xs, In w'.heap.size w' (D + n) y ∧ Off (fun b => b < B ∨ w.heap.size ≤ b) (D + n) y := fun y hy => by
    obtain ⟨k1, k2⟩ := h6 y hy
    have k3 := In.offB k2 k1
    exact ⟨In.off (fun b hb => hblk b hb.2 (by have := hb.1.1; omega)) k3 (k1.mono hgs), k2.mono fun b hb => by have := hb.1; omega⟩
  have hput : ∀ a c, PutR D l (n + 1) p (p.1, (a, c), xs) := fun a c => by
    simp only [PutR]
    rw [if_neg h5]
    exact ⟨trivial, h3, h7⟩
  have h4' := World.ownsRow.kept h4 hg (Or.inr fun e => by have := (h4.lt _ e).1; omega)
  rcases h4'.2 with ⟨rfl, h0⟩ | ⟨g, cap, cur, hv, hgb, hh, hc, hm, _⟩
  · have hx0 : xs = [] := List.eq_nil_of_length_eq_zero (by omega)
    refine ⟨(p.1, (none, 0), xs), ?_, hbl, ⟨⟨hp.1, hp.2.1, hp.2.2, ?_, Nat.zero_le _⟩, Or.inl hx0⟩, Or.inl hx0, hput _ _⟩
    · simp [val, hx0]
    · simp [hx0]
  · subst hv
    refine ⟨(p.1, (some ⟨g, 0, none⟩, cap), xs), ?_, hbl, ⟨⟨hp.1, hp.2.1, hp.2.2, by simp only [h3]; exact hc, hm⟩, ?_⟩, ?_, hput _ _⟩
    · simp [val, h3]
    · refine Or.inr ⟨g, 0, rfl, (Array.getElem?_eq_some_iff.1 hh).1, fun i y hy => ⟨?_, (hin y (List.mem_of_getElem? hy)).1⟩⟩
      exact held_at h4' i y hy (hin y (List.mem_of_getElem? hy)).1
    · exact Or.inr ⟨g, 0, rfl, Or.inr (by omega), fun i y hy => (hin y (List.mem_of_getElem? hy)).2⟩

theorem put_any (D : Nat) (l : List (Tm D)) (hl4 : l.length = 4) (hlr : ∀ y ∈ l, RightA ⟨D, y⟩) (n : Nat) : FPut D l n := by
  induction n with
  | zero => intro p B w la lc hp; exact hp.elim
  | succ n ih =>
    intro p B w la lc hp hL hB hr
    have hp2 := hp
    obtain ⟨⟨x1, x2, hsz, hpl, hpc⟩, hpp⟩ := hp2
    have hg := hr (hdOf n p) (by simp [nodes, hdOf])
    have hlen : p.2.2.length ≤ 8 := good_len (hdOf n p) hg
    by_cases h5 : p.1.1 = 5
    · obtain ⟨k, hk, hu⟩ := var_at n p hr h5
      obtain ⟨z, hz⟩ : ∃ z, l[k]? = some z := ⟨l[k]'(by omega), List.getElem?_eq_getElem _⟩
      rcases hL with hL | ⟨lb, lo, rfl, hlb, hL⟩
      · rw [hL] at hl4; simp at hl4
      obtain ⟨hz1, hz2⟩ := hL k z hz
      have hzr := hlr z (List.mem_of_getElem? hz)
      cases D with
      | zero => exact hz1.elim
      | succ D =>
      obtain ⟨c0, c1, c2, c3⟩ := hz1
      have hw := put_var k p.1.2.1 p.1.2.2 p.2.1.1 p.2.2.length p.2.1.2 lb lo lc z.1.1 z.1.2.1 z.1.2.2 z.2.1.1 z.2.2.length z.2.1.2 w hk (by omega) hu c0 c1 c2 c3
      have e : val (n + 1) p = .agg #[.int .i64 5, .int .i64 p.1.2.1, .string p.1.2.2, .slice p.2.1.1 p.2.2.length p.2.1.2] := by rw [← h5]; rfl
      rw [e]
      refine hw.mono ?_
      rintro e w' ⟨rfl, hb⟩
      have hin := lift_in (D + 1 + n + 1) (D + 1) (by omega) z B w hz2
      refine ⟨lift (D + 1 + n + 1) (D + 1) z, ?_, hb, (hin.below (hb.mono hB)).mono (Nat.le_trans hB hb.size), hin.offAll.mono fun b hb => Or.inl hb, ?_⟩
      · exact congrArg Ending.returned (val_lift (D + 1 + n) D z).symm
      · simp only [PutR]
        rw [if_pos h5]
        exact ⟨z, by rw [hu]; exact hz, lift_same _ _ (by omega) z hzr⟩
    · refine (put_else D l n ih p.1.1 p.1.2.1 p.1.2.2 p.2.1.1 p.2.2 p.2.2.length p.2.1.2 lc la B w (by simpa using h5) rfl hlen hpp hL (fun y hy => parts_right n p y hr hy) hB).mono ?_
      rintro e w' ⟨xs, v, w1, rfl, H⟩
      obtain ⟨X, hX, hr⟩ := put_row hB ⟨x1, x2, hsz⟩ h5 H.out.1 H.out.2
      exact ⟨X, congrArg Ending.returned hX, hr⟩
end Go.Proofs.Ytpehdgbdinjbaab
namespace Go.Proofs.Ytpehdgbdinjbaab
open Go.RowKit

theorem run_copy_sz {P : Program} (w : World) (dT sT ty elem : TypeId) (size g o dLen dCap : Nat) (a : Addr) (sLen sCap : Nat) (cur : Array Value) (t : TypeId) (cs : List Value) (n : Nat)
    (hu : P.underlying dT = some (.slice elem)) (hs : (P.info? elem).map (·.size) = some size)
    (hg : w.heap[g]? = some (.cells cur t (0, 0))) (hn : Nat.min sLen dLen = n) (hl : cs.length = n * size)
    (hsrc : ∀ j v, cs[j]? = some v → w.cell? (a.add j) = some v) (hfit : o + cs.length ≤ cur.size) (h1 : ∀ v ∈ cs, v.oneCell' = true) :
    (Builtin.copy_ #[dT, sT] ty #[.slice (some ⟨g, o, none⟩) dLen dCap, .slice (some a) sLen sCap]).run P w =
      .ok (goInt n) (w.setRow g (cur.toList.take o ++ cs ++ cur.toList.drop (o + cs.length)).toArray) := by
  have hld := run_loadCells_list (P := P) w a cs hsrc
  have hst := run_storeCells_at P g o t cs 0 cur w hg (by simpa using hfit) h1
  cases hq : P.info? elem with
  | none => simp [hq] at hs
  | some i =>
    have hi : i.size = size := by simpa [hq] using hs
    rw [hl] at hld
    simp [Builtin.copy_, run_underlying hu, Builtin.lenOf, Builtin.firstCells, sizeOf, typeInfo, hq, hi, hn, hld, hst]

theorem Has.row {base g k : Nat} {l : List An} {w : World} (h : Has base g k l w) (hl : l.length = k) : w.heap[g]? = some (.cells (anCells l).toArray 24 (0, 0)) := by
  obtain ⟨h1, h2⟩ := h
  rcases h2 with ⟨h2, _⟩ | ⟨g', cap, cur, hv, hg, hh, hc, hm, hz, he⟩
  · simp at h2
  · injection hv with e1 e2 e3
    injection e1 with e1
    injection e1 with e1 _
    subst e1 e3
    rw [hh, ← he, List.take_of_length_le (by rw [Array.length_toList, hz, hl]; exact Nat.le_refl _)]
theorem Has.of_row {base g k : Nat} {l : List An} {w : World} (h : w.heap[g]? = some (.cells (anCells l).toArray 24 (0, 0))) (hl : l.length = k) (hg : base ≤ g) (hk : k ≤ maxLen) : Has base g k l w := by
  refine ⟨anCells_length l, Or.inr ⟨g, k, (anCells l).toArray, rfl, hg, h, by omega, hk, by simp [anCells_length, hl], ?_⟩⟩
  rw [List.take_of_length_le (by simp [anCells_length])]
theorem ndCells_take : (l : List Nd) → (i : Nat) → (ndCells l).take (i * 4) = ndCells (l.take i)
  | [], i => by simp [ndCells]
  | x :: l, 0 => by simp [ndCells]
  | x :: l, i + 1 => by
    have e : ndCells (x :: l) = nd4 x ++ ndCells l := rfl
    have hx : (nd4 x).length = 4 := rfl
    rw [e, List.take_append, hx, List.take_of_length_le (by rw [hx]; omega), show (i + 1) * 4 - 4 = i * 4 by omega, ndCells_take l i]
    rfl
theorem ndCells_drop : (l : List Nd) → (i : Nat) → (ndCells l).drop (i * 4) = ndCells (l.drop i)
  | [], i => by simp [ndCells]
  | x :: l, 0 => by simp [ndCells]
  | x :: l, i + 1 => by
    have e : ndCells (x :: l) = nd4 x ++ ndCells l := rfl
    have hx : (nd4 x).length = 4 := rfl
    rw [e, List.drop_append, hx, List.drop_eq_nil_of_le (by rw [hx]; omega), List.nil_append, show (i + 1) * 4 - 4 = i * 4 by omega, ndCells_drop l i]
    rfl
theorem sizeTerm : (Try.prog.info? 24).map (·.size) = some 4 := by
  obtain ⟨it, h1, h2, h3, h4⟩ := info_parts infoTerm
  rw [h1]; simp [h3]

/-- A copy into a row that is owned, of terms that lie there. -/
theorem run_copy_has {base g k : Nat} {l : List An} {w : World} (h : Has base g k l w) (hl : l.length = k) (hk : k ≤ maxLen) (ty : TypeId) (i n : Nat) (xs : List An) (ad : Addr) (dLen dCap sLen sCap : Nat) (hn : Nat.min sLen dLen = n) (hx : xs.length = n) (hi : i + n ≤ k)
    (hsrc : ∀ j v, (anCells xs)[j]? = some v → w.cell? (ad.add j) = some v) :
    ∃ w', (Builtin.copy_ #[22, 22] ty #[.slice (some ⟨g, i * 4, none⟩) dLen dCap, .slice (some ad) sLen sCap]).run Try.prog w = .ok (goInt n) w' ∧ Has base g k (l.take i ++ xs ++ l.drop (i + n)) w' ∧ w.grownBy w' (some g) := by
  have hr := h.row hl
  refine ⟨_, run_copy_sz w _ _ ty 24 4 g (i * 4) dLen dCap ad sLen sCap (anCells l).toArray 24 (anCells xs) n Try.underlying22 sizeTerm hr hn (by rw [anCells_length, hx]) hsrc (by simp [anCells_length]; omega) (anCells_one _), ?_, ?_⟩
  · have e : (anCells l).take (i * 4) ++ anCells xs ++ (anCells l).drop (i * 4 + (anCells xs).length) = anCells (l.take i ++ xs ++ l.drop (i + n)) := by
      rw [anCells_append, anCells_append, anCells_length, hx, ← Nat.add_mul]
      unfold anCells
      rw [ndCells_take, ndCells_drop, List.map_take, List.map_drop]
    refine Has.of_row ?_ (by simp; omega) h.lt.1 hk
    rw [← e]
    simp [World.setRow, Array.getElem?_modify, hr]
  · exact ⟨rfl, rfl, rfl, by simp [World.setRow], fun b _ hne => by
      have : g ≠ b := fun e => hne (by rw [e])
      simp [World.setRow, Array.getElem?_modify, this]⟩

theorem wp_copy_has {w : World} {o : Oper} {a : Act} {K : Act → World → Prop} {Q : Exit → Act → World → Prop} (d s : Operand) (ho : o.op = .call { callee := .builtin .copy, args := #[d, s], argTypes := #[22, 22] })
    {base g k : Nat} {l : List An} (h : Has base g k l w) (hl : l.length = k) (hk : k ≤ maxLen) (i n : Nat) (xs : List An) (ad : Addr) (dLen dCap sLen sCap : Nat) (hd : a.eval d = .slice (some ⟨g, i * 4, none⟩) dLen dCap) (hs : a.eval s = .slice (some ad) sLen sCap) (hn : Nat.min sLen dLen = n) (hx : xs.length = n) (hi : i + n ≤ k)
    (hsrc : ∀ j v, (anCells xs)[j]? = some v → w.cell? (ad.add j) = some v)
    (hK : ∀ w', Has base g k (l.take i ++ xs ++ l.drop (i + n)) w' → w.grownBy w' (some g) → K (a.put o.dst (goInt n)) w') : o.wp Try.prog a w K Q := by
  obtain ⟨w', hr, h2, h3⟩ := run_copy_has h hl hk o.type i n xs ad dLen dCap sLen sCap hn hx hi hsrc
  unfold Oper.wp execOp
  simp only [ho, resolve, invoke, builtin, Sem.run_bind, Sem.run_pure, Result.andThen_ok, List.map_toArray, List.map_cons, List.map_nil, hd, hs, hr]
  exact hK w' h2 h3
theorem wpList_copy_has {w : World} {ops : Array Oper} {rest : List Oper} {o : Oper} {a : Act} {Q : Exit → Act → World → Prop} (hgd : o.guard = none) (d s : Operand) (ho : o.op = .call { callee := .builtin .copy, args := #[d, s], argTypes := #[22, 22] })
    {base g k : Nat} {l : List An} (h : Has base g k l w) (hl : l.length = k) (hk : k ≤ maxLen) (i n : Nat) (xs : List An) (ad : Addr) (dLen dCap sLen sCap : Nat) (hd : a.eval d = .slice (some ⟨g, i * 4, none⟩) dLen dCap) (hs : a.eval s = .slice (some ad) sLen sCap) (hn : Nat.min sLen dLen = n) (hx : xs.length = n) (hi : i + n ≤ k)
    (hsrc : ∀ j v, (anCells xs)[j]? = some v → w.cell? (ad.add j) = some v)
    (hK : ∀ w', Has base g k (l.take i ++ xs ++ l.drop (i + n)) w' → w.grownBy w' (some g) → wpList Try.prog ops Q rest (a.put o.dst (goInt n)) w') : wpList Try.prog ops Q (o :: rest) a w :=
  wpList_plain hgd fun _ hK' => wp_copy_has d s ho h hl hk i n xs ad dLen dCap sLen sCap hd hs hn hx hi hsrc fun w' h2 h3 => hK' _ _ (hK w' h2 h3)
theorem step_copy_has {w : World} {ops : Array Oper} {o : Oper} {a : Act} {K : Act → World → Prop} {Q : Exit → Act → World → Prop} {E : Prop} (hgd : o.guard = none) (d s : Operand) (ho : o.op = .call { callee := .builtin .copy, args := #[d, s], argTypes := #[22, 22] })
    {base g k : Nat} {l : List An} (h : Has base g k l w) (hl : l.length = k) (hk : k ≤ maxLen) (i n : Nat) (xs : List An) (ad : Addr) (dLen dCap sLen sCap : Nat) (hd : a.eval d = .slice (some ⟨g, i * 4, none⟩) dLen dCap) (hs : a.eval s = .slice (some ad) sLen sCap) (hn : Nat.min sLen dLen = n) (hx : xs.length = n) (hi : i + n ≤ k)
    (hsrc : ∀ j v, (anCells xs)[j]? = some v → w.cell? (ad.add j) = some v)
    (hK : ∀ w', Has base g k (l.take i ++ xs ++ l.drop (i + n)) w' → w.grownBy w' (some g) → K (a.put o.dst (goInt n)) w') :
    if Region.wanted o (yielded ops a.tmps) = true then Oper.wp Try.prog o a w K Q else E := by
  have hw : Region.wanted o (yielded ops a.tmps) = true := by simp [Region.wanted, hgd]
  rw [if_pos hw]
  exact wp_copy_has d s ho h hl hk i n xs ad dLen dCap sLen sCap hd hs hn hx hi hsrc hK

theorem rep_first (k : Nat) (x : An) : (List.replicate k zA).take 0 ++ [x] ++ (List.replicate k zA).drop (0 + 1) = List.replicate 1 x ++ List.replicate (k - 1) zA := by simp [List.drop_replicate]
theorem rep_more (k n m : Nat) (x : An) : (List.replicate n x ++ List.replicate (k - n) zA).take n ++ List.replicate m x ++ (List.replicate n x ++ List.replicate (k - n) zA).drop (n + m) = List.replicate (n + m) x ++ List.replicate (k - (n + m)) zA := by
  rw [List.take_append, List.drop_append]
  simp [List.drop_replicate]
  rw [show k - n - m = k - (n + m) by omega]
end Go.Proofs.Ytpehdgbdinjbaab
namespace Go.Proofs.Ytpehdgbdinjbaab
open Go.RowKit

set_option maxRecDepth 100000 in
theorem mul_14 (w : World) : Calls Try.prog 59 #[.int .u64 1, .int .u64 4] w fun e w' => e = .returned (.tuple #[.int .u64 0, .int .u64 4]) ∧ w' = w := by
  go_enter Try.func59, Try.ntmps59
  go_wp2
  go_ret2
  exact ⟨rfl, rfl⟩

theorem rep_start (k : Nat) {w w1 : World} (h : w1.ownsRow w.heap.size 24 4 (.slice (some ⟨w.heap.size, 0, none⟩) k k) k (madeCells (Value.agg #[.int .i64 0, .int .i64 0, .string .empty, .slice none 0 0]).cells (k * 4)).toList) : Has w.heap.size w.heap.size k (List.replicate k zA) w1 := by
  have e : (madeCells (Value.agg #[.int .i64 0, .int .i64 0, .string .empty, .slice none 0 0]).cells (k * 4)).toList = anCells (List.replicate k zA) := made_zero k
  rw [e] at h
  unfold Has
  simpa using h
theorem rep_src {base g k : Nat} {l : List An} {w : World} (h : Has base g k l w) (n : Nat) : ∀ j v, (anCells (l.take n))[j]? = some v → w.cell? ((⟨g, 0, none⟩ : Addr).add j) = some v := by
  intro j v hj
  refine World.ownsRow.cells h rfl j v ?_
  have e : anCells (l.take n) = (anCells l).take (n * 4) := by unfold anCells; rw [ndCells_take, List.map_take]
  rw [e] at hj
  rw [List.getElem?_take] at hj
  split at hj
  · exact hj
  · cases hj

theorem rep_below {w w0 : World} (h : w.grownBy w0 none) : Below w.heap.size w w0 := ⟨h.os, h.tape, h.output, h.size, fun k hk => h.block k hk (by simp)⟩
theorem rep_kept {w w0 : World} {pb po : Nat} {x : An} (h : Below w.heap.size w w0) (hpb : pb < w.heap.size) (hx : ∀ j v, (anCells [x])[j]? = some v → w.cell? ((⟨pb, po, none⟩ : Addr).add j) = some v) : ∀ j v, (anCells [x])[j]? = some v → w0.cell? ((⟨pb, po, none⟩ : Addr).add j) = some v := fun j v hj => by
  have := hx j v hj
  rw [Addr.add_lit] at this ⊢
  exact (below_cells h pb _ hpb).trans this

theorem rep_take (n m k : Nat) (x : An) (h : m ≤ n) : (List.replicate n x ++ List.replicate k zA).take m = List.replicate m x := by
  rw [List.take_append]
  simp [List.take_replicate, Nat.min_eq_left h]
  omega

set_option maxHeartbeats 1000000 in
set_option maxRecDepth 100000 in
theorem repeat_any (x : An) (k : Nat) (h0 : 0 < k) (h8 : k ≤ 8) (pb : Nat) (po pc : Nat) (w : World) (hpb : pb < w.heap.size)
    (HX : Hid (∀ j v, (anCells [x])[j]? = some v → w.cell? ((⟨pb, po, none⟩ : Addr).add j) = some v))
    (HM : Hid (∀ w1, Calls Try.prog 59 #[.int .u64 1, .int .u64 k] w1 fun e w' => e = .returned (.tuple #[.int .u64 0, .int .u64 k]) ∧ w' = w1)) :
    Calls Try.prog 26 #[.slice (some ⟨pb, po, none⟩) 1 pc, .int .i64 k] w fun e w' => e = .returned (.slice (some ⟨w.heap.size, 0, none⟩) k k) ∧ Hid (Below w.heap.size w w' ∧ Has w.heap.size w.heap.size k (List.replicate k x) w') := by
  obtain ⟨it, hit, htz0, htz1, htz2⟩ := info_parts infoTerm
  have e1 : IntKind.u64.wrap (k : Int) = (k : Int) := by rw [IntKind.wrap]; simp [IntKind.bits, IntKind.signed]; omega
  have e2 : IntKind.i64.wrap (k : Int) = (k : Int) := by rw [IntKind.wrap]; simp [IntKind.bits, IntKind.signed]; omega
  have hk1 : ¬ ((k : Int) < 0) := by omega
  have hk2 : ¬ (9223372036854775807 < (k : Int)) := by omega
  go_enter Try.func26, Try.ntmps26
  go_wp2_with fail
  refine (HM.out w).mono ?_
  rintro e w' ⟨rfl, rfl⟩
  clear HM
  go_wp2_with (at_make; refine wpList_make_full _ rfl _ _ 22 rfl w'.heap.size 24 it _ 4 Try.underlying22 hit htz0 htz1 _ _ _ _ k rfl rfl (by first | rfl | simp [e2]) (by first | rfl | simp [e2]) (by rw [htz2]; omega) (by unfold maxLen; omega) (Nat.le_refl _) ?_; intro w0 hown0 hgrow0; have HS0 := hide (rep_start k hown0); have HB0 := hide (rep_below hgrow0); have HX0 := hide (rep_kept HB0.out hpb HX.out); clear hown0 hgrow0)
  obtain ⟨w1, hrun, hh1, hg1⟩ := run_copy_has HS0.out (by simp) (by unfold maxLen; omega) 3 0 1 [x] ⟨pb, po, none⟩ k k 1 pc (Nat.min_eq_left h0) rfl (by omega) HX0.out
  rw [Nat.zero_mul] at hrun
  rw [hrun]
  have HH1 : Hid (Has w'.heap.size w'.heap.size k (List.replicate 1 x ++ List.replicate (k - 1) zA) w1) := by rw [rep_first] at hh1; exact hh1
  have HB1 : Hid (Below w'.heap.size w' w1) := HB0.out.trans (grown_below hg1 (Nat.le_refl _) HS0.out.lt.2)
  clear hh1 hg1 HS0 HB0 HX0 hit htz0 htz1 htz2 HX
  go_wp2_with fail
  go_loopw [8] (fun i wr => ∃ n : Nat, 1 ≤ n ∧ n ≤ k ∧ i = .int .i64 n ∧ Hid (Below w'.heap.size w' wr ∧ Has w'.heap.size w'.heap.size k (List.replicate n x ++ List.replicate (k - n) zA) wr)) (fun i _ => k - (intOf i).toNat)
  case atStart => exact ⟨1, by omega, by omega, rfl, HB1.out, HH1.out⟩
  case round =>
    obtain ⟨n, hn1, hnk, rfl, HR⟩ := hrel
    clear HB1 HH1
    by_cases hlt : n < k
    · have hn2 : (0 : Int) ≤ (n : Int) := by omega
      have hn3 : (n : Int) < (k : Int) := by omega
      have hne : ¬ k = n := by omega
      have hle : (n : Int) ≤ (k : Int) := by omega
      obtain ⟨m, hm⟩ : ∃ m, Nat.min n (k - n) = m := ⟨_, rfl⟩
      have hm1 : 1 ≤ m ∧ m ≤ n ∧ n + m ≤ k := by have : m = min n (k - n) := hm.symm; omega
      have HMN := hide hm
      have HSR : Hid (∀ j v, (anCells (List.replicate m x))[j]? = some v → wr.drew.cell? ((⟨w'.heap.size, 0, none⟩ : Addr).add j) = some v) := by
        have := rep_src HR.out.2 m
        rw [rep_take n m _ x hm1.2.1] at this
        exact this
      have HHD : Hid (Has w'.heap.size w'.heap.size k (List.replicate n x ++ List.replicate (k - n) zA) wr.drew) := HR.out.2
      have HLN : Hid ((List.replicate n x ++ List.replicate (k - n) zA).length = k) := by simp [Hid]; omega
      clear hm
      go_wp2_with fail
      go_region_held3 (fun _ => True) (trivial) ((refine step_copy_has rfl _ _ rfl HHD.out HLN.out (by unfold maxLen; omega) n m (List.replicate m x) ⟨w'.heap.size, 0, none⟩ (k - n) (k - n) n k (by simp [Act.eval]) (by simp [Act.eval]) HMN.out (by simp) (by omega) HSR.out ?_; intro w2 hh2 hg2))
      have HH2 : Hid (Has w'.heap.size w'.heap.size k (List.replicate (n + m) x ++ List.replicate (k - (n + m)) zA) w2) := by rw [rep_more] at hh2; exact hh2
      have HB2 : Hid (Below w'.heap.size w' w2) := HR.out.1.trans (grown_below (grown_undrew hg2) (Nat.le_refl _) HR.out.2.lt.2)
      clear hh2 hg2 HSR HHD HLN HR
      have e3 : IntKind.i64.wrap ((n : Int) + (m : Int)) = ((n + m : Nat) : Int) := by rw [IntKind.wrap]; simp [IntKind.bits, IntKind.signed]; omega
      go_wp2_with fail
      go_roundw
      case rel => exact ⟨n + m, by omega, by omega, by first | rfl | rw [e3] | (simp; omega), HB2.out, HH2.out⟩
      case measure => simp [intOf]; omega
    · obtain rfl : n = k := by omega
      go_wp2_with fail
      go_ret
      have h2 := HR.out.2
      simp at h2
      exact ⟨rfl, HR.out.1, h2⟩

def anyA : An := ⟨1, ((6, 0, .empty), (none, 0), [])⟩
set_option maxRecDepth 100000 in
theorem free_any (w : World) : Calls Try.prog 29 #[] w fun e w' => ∃ g, e = .returned (.slice (some ⟨g, 0, none⟩) 4 4) ∧ Hid (Below w.heap.size w w' ∧ Has g g 4 (List.replicate 4 anyA) w' ∧ w.heap.size < g) := by
  have HR : Hid (Calls Try.prog 26 #[.slice (some ⟨w.heap.size, 0, none⟩) 1 1, .int .i64 4] (w.alloc (.cells #[.int .i64 6, .int .i64 0, .string ⟨#[]⟩, .slice none 0 0] 24)) fun e w' => e = .returned (.slice (some ⟨w.heap.size + 1, 0, none⟩) 4 4) ∧ Hid (Below (w.heap.size + 1) (w.alloc (.cells #[.int .i64 6, .int .i64 0, .string ⟨#[]⟩, .slice none 0 0] 24)) w' ∧ Has (w.heap.size + 1) (w.heap.size + 1) 4 (List.replicate 4 anyA) w')) := by
    have hs : (w.alloc (.cells #[.int .i64 6, .int .i64 0, .string ⟨#[]⟩, .slice none 0 0] 24)).heap.size = w.heap.size + 1 := by simp
    have h := repeat_any anyA 4 (by decide) (by decide) w.heap.size 0 1 (w.alloc (.cells #[.int .i64 6, .int .i64 0, .string ⟨#[]⟩, .slice none 0 0] 24)) (by simp) (fun j v hj => by
      rw [add_none]
      have : j < 4 := (List.getElem?_eq_some_iff.1 hj).1
      have h4 : j = 0 ∨ j = 1 ∨ j = 2 ∨ j = 3 := by omega
      rcases h4 with rfl | rfl | rfl | rfl <;> simp [anCells, ndCells, nd4, ndA, hdT, hdOf, anyA] at hj <;> subst hj <;> simp [go_sem] <;> rfl) (fun w1 => mul_14 w1)
    rw [hs] at h
    exact h
  go_enter Try.func29, Try.ntmps29
  go_wp2_with fail
  refine HR.out.mono ?_
  rintro e w' ⟨rfl, H⟩
  go_wp2_with fail
  go_ret
  exact ⟨_, rfl, ((Below.refl _ _).alloc (Nat.le_refl _) _).trans (H.out.1.mono (by omega)), H.out.2, by omega⟩
end Go.Proofs.Ytpehdgbdinjbaab
namespace Go.Proofs.Ytpehdgbdinjbaab
open Go.RowKit

theorem num_any (n : Int) (w : World) :
    Calls Try.prog 10 #[.int .i64 n] w fun e w' => e = .returned (.agg #[.int .i64 1, .int .i64 n, .string ⟨#[]⟩, .slice none 0 0]) ∧ Below w.heap.size w w' := by
  go_enter Try.func10, Try.ntmps10
  go_wp2_with fail
  exact bodyPost_ret (v := .agg #[.int .i64 1, .int .i64 n, .string ⟨#[]⟩, .slice none 0 0]) (by simp [results, Try.results10, go_sem]) rfl ⟨rfl, (Below.refl _ _).alloc (Nat.le_refl _) _⟩

theorem kword_any (s : ByteArray) (w : World) :
    Calls Try.prog 30 #[.string s] w fun e w' => e = .returned (.agg #[.int .i64 2, .int .i64 0, .string s, .slice none 0 0]) ∧ Below w.heap.size w w' := by
  go_enter Try.func30, Try.ntmps30
  go_wp2_with fail
  exact bodyPost_ret (v := .agg #[.int .i64 2, .int .i64 0, .string s, .slice none 0 0]) (by simp [results, Try.results30, go_sem]) rfl ⟨rfl, (Below.refl _ _).alloc (Nat.le_refl _) _⟩

theorem tuple_any (a : Option Addr) (l c : Nat) (w : World) :
    Calls Try.prog 28 #[.slice a l c] w fun e w' => e = .returned (.agg #[.int .i64 4, .int .i64 0, .string ⟨#[]⟩, .slice a l c]) ∧ Below w.heap.size w w' := by
  go_enter Try.func28, Try.ntmps28
  go_wp2_with fail
  exact bodyPost_ret (v := .agg #[.int .i64 4, .int .i64 0, .string ⟨#[]⟩, .slice a l c]) (by simp [results, Try.results28, go_sem]) rfl ⟨rfl, (Below.refl _ _).alloc (Nat.le_refl _) _⟩

def numT (n : Int) : Tm 1 := ((1, n, ⟨#[]⟩), (none, 0), [])
def wordT (s : ByteArray) : Tm 1 := ((2, 0, s), (none, 0), [])
def twoT (g : Nat) : Tm 2 := ((4, 0, ⟨#[]⟩), (some ⟨g, 0, none⟩, 2), [wordT ⟨#[97]⟩, numT 5])

theorem num_in (n : Int) (h : I64 n) (B : Nat) (w : World) : In B w 1 (numT n) := ⟨⟨by simp [numT, I64], h, Nat.zero_le _, by simp [numT], by simp [numT]⟩, Or.inl rfl⟩
theorem word_in (s : ByteArray) (h : s.size ≤ maxLen) (B : Nat) (w : World) : In B w 1 (wordT s) := ⟨⟨by simp [wordT, I64], by simp [wordT, I64], h, by simp [wordT], by simp [wordT]⟩, Or.inl rfl⟩

theorem two_in (g B : Nat) (w : World) (hg : g < B) (t : TypeId) (fr : Nat × Nat)
    (h : w.heap[g]? = some (.cells #[.int .i64 2, .int .i64 0, .string ⟨#[97]⟩, .slice none 0 0, .int .i64 1, .int .i64 5, .string ⟨#[]⟩, .slice none 0 0] t fr)) : In B w 2 (twoT g) := by
  have hc : ∀ j, w.cell? ⟨g, j, none⟩ = #[Value.int .i64 2, .int .i64 0, .string ⟨#[97]⟩, .slice none 0 0, .int .i64 1, .int .i64 5, .string ⟨#[]⟩, .slice none 0 0][j]? := fun j => by simp [World.cell?, h]
  refine ⟨⟨by simp [twoT, I64], by simp [twoT, I64], Nat.zero_le _, by simp [twoT], by simp [twoT, maxLen]⟩, Or.inr ⟨g, 0, rfl, hg, fun i y hy => ?_⟩⟩
  match i, hy with
  | 0, hy =>
    have : wordT ⟨#[97]⟩ = y := by simpa [twoT] using hy
    subst this
    exact ⟨⟨hc 0, hc 1, hc 2, hc 3⟩, word_in _ (by show (1 : Nat) ≤ 2 ^ 63 - 1; omega) B w⟩
  | 1, hy =>
    have : numT 5 = y := by simpa [twoT] using hy
    subst this
    exact ⟨⟨hc 4, hc 5, hc 6, hc 7⟩, num_in 5 (by simp [I64]) B w⟩
  | i + 2, hy => simp [twoT] at hy

theorem two_any (w : World) :
    Calls Try.prog 11 #[] w fun e w' => ∃ g, e = .returned (.agg #[.int .i64 4, .int .i64 0, .string ⟨#[]⟩, .slice (some ⟨g, 0, none⟩) 2 2]) ∧ Hid (Below w.heap.size w w' ∧ In w'.heap.size w' 2 (twoT g)) := by
  go_enter Try.func11, Try.ntmps11
  go_wp2_with fail
  refine (kword_any _ _).mono ?_
  rintro e w1 ⟨rfl, hb1⟩
  have HB1 := hide hb1
  clear hb1
  go_wp2_with fail
  refine (num_any _ _).mono ?_
  rintro e w2 ⟨rfl, hb2⟩
  have HB2 := hide (HB1.out.trans (hb2.mono HB1.out.size))
  clear hb2 HB1
  go_wp2_with fail
  refine (tuple_any _ _ _ _).mono ?_
  rintro e w3 ⟨rfl, hb3⟩
  have HB3 := hide ((HB2.out.alloc HB2.out.size _).trans (hb3.mono (Nat.le_trans HB2.out.size (by simp))))
  have HG : Hid (w3.heap[w2.heap.size]? = some (.cells #[.int .i64 2, .int .i64 0, .string ⟨#[97]⟩, .slice none 0 0, .int .i64 1, .int .i64 5, .string ⟨#[]⟩, .slice none 0 0] 24 (0, 0)) ∧ w2.heap.size < w3.heap.size ∧ w.heap.size < w2.heap.size) :=
    ⟨(hb3.block w2.heap.size (by simp)).trans (heap_alloc_new w2 _), by have := hb3.size; simp at this; omega, by have := HB2.out.size; simp at this; omega⟩
  clear hb3 HB2
  have hc := fun o => HB3.out.cell (p := ⟨w.heap.size, o, none⟩) (by simp)
  have hf := fun o => HB3.out.frozen (p := ⟨w.heap.size, o, none⟩) (by simp)
  have c0 := (hc 0).trans (by simp [go_sem] : _ = some (Value.int .i64 0))
  have c1 := (hc 1).trans (by simp [go_sem] : _ = some (Value.int .i64 0))
  have c2 := (hc 2).trans (by simp [go_sem] : _ = some (Value.string ⟨#[]⟩))
  have c3 := (hc 3).trans (by simp [go_sem] : _ = some (Value.slice none 0 0))
  have f0 := (hf 0).trans (by simp [go_sem] : _ = false)
  have f1 := (hf 1).trans (by simp [go_sem] : _ = false)
  have f2 := (hf 2).trans (by simp [go_sem] : _ = false)
  have f3 := (hf 3).trans (by simp [go_sem] : _ = false)
  clear hc hf
  go_wp2_with fail
  refine bodyPost_ret (v := .agg #[.int .i64 4, .int .i64 0, .string ⟨#[]⟩, .slice (some ⟨w2.heap.size, 0, none⟩) 2 2]) (by simp [results, Try.results11, go_sem, c0, c1, c2, c3]) rfl ⟨w2.heap.size, rfl, ?_⟩
  refine hide ⟨?_, ?_⟩
  · have hb : Below w.heap.size w w3 := ((Below.refl _ _).alloc (Nat.le_refl _) _).trans (HB3.out.mono (by simp))
    go_grown
  · refine two_in _ _ _ (by simp [World.setCell]; exact HG.out.2.1) 24 (0, 0) ?_
    have hne := HG.out.2.2
    rw [Below.heap_setCell _ _ _ _ (by simp; omega), Below.heap_setCell _ _ _ _ (by simp; omega), Below.heap_setCell _ _ _ _ (by simp; omega), Below.heap_setCell _ _ _ _ (by simp; omega)]
    exact HG.out.1
end Go.Proofs.Ytpehdgbdinjbaab
