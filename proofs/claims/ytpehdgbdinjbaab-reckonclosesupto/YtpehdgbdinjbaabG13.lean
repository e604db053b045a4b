/- What is proved here: plain facts and contracts that the claimed theorem stands on, several texts in one: plain facts on a row of values that the document's value appends to: how it grows, and what stays. No condition. clerkkeep.ReckonCloses of two terms, a list of terms that lie in memory, and a number returns true, and turns no memory that was there. Condition: at most 2097152 terms in each. -/
import Derived.Test.YtpehdgbdinjbaabG10
import Derived.Test.YtpehdgbdinjbaabG12
import Derived.Deep.RegionHeld3
namespace Go.Proofs.Ytpehdgbdinjbaab
open Go.RowKit

theorem alloc_kept (w : World) (o : Obj) {b : Nat} (h : b < w.heap.size) : (w.alloc o).heap[b]? = w.heap[b]? := (World.grownBy_alloc w o none).block b h (by simp)
/-- A box of the call's own. -/
def BoxT (q : Nat) (v0 v1 v2 v3 : Value) (w : World) : Prop := w.heap[q]? = some (.cells #[v0, v1, v2, v3] 24)
theorem BoxT.cells {q : Nat} {v0 v1 v2 v3 : Value} {w : World} (h : BoxT q v0 v1 v2 v3 w) :
    (w.cell? ⟨q, 0, none⟩ = some v0 ∧ w.cell? ⟨q, 1, none⟩ = some v1 ∧ w.cell? ⟨q, 2, none⟩ = some v2 ∧ w.cell? ⟨q, 3, none⟩ = some v3) ∧ ∀ j, w.frozen? ⟨q, j, none⟩ = false := by
  unfold BoxT at h
  refine ⟨⟨?_, ?_, ?_, ?_⟩, fun j => ?_⟩
  all_goals simp [World.cell?, World.frozen?, h]
theorem BoxT.lt {q : Nat} {v0 v1 v2 v3 : Value} {w : World} (h : BoxT q v0 v1 v2 v3 w) : q < w.heap.size := (Array.getElem?_eq_some_iff.1 h).1
theorem BoxT.set3 {q : Nat} {v0 v1 v2 v3 : Value} {w : World} (h : BoxT q v0 v1 v2 v3 w) (v : Value) : BoxT q v0 v1 v2 v (w.setCell ⟨q, 3, none⟩ v) := by
  unfold BoxT at *
  simp [World.setCell, Array.getElem?_modify, h]
theorem BoxT.below {q : Nat} {v0 v1 v2 v3 : Value} {w w' : World} (h : BoxT q v0 v1 v2 v3 w) (hb : Below w.heap.size w w') : BoxT q v0 v1 v2 v3 w' := (hb.block q h.lt).trans h

/-- What parts have come to: xs, in the row v; the box q holds it. -/
def RvP (B N q : Nat) {n : Nat} (Rel : Tm n → Tm N → Prop) (p : List (Tm n)) (w : World) (v0 v1 v2 : Value) (k : Nat) (xs : List (Tm N)) (v : Value) (wr : World) : Prop :=
  Below w.heap.size w wr ∧ BoxT (q) v0 v1 v2 v wr ∧ xs.length = k ∧ wr.ownsRow (q + 1) 24 4 v k (ndCells (xs.map (hdT N))) ∧
  (∀ y ∈ xs, In wr.heap.size wr N y ∧ Off (fun b => (b < B ∨ q < b) ∧ v.ownBlock ≠ some b) N y) ∧
  ∀ (i : Nat) (y : Tm n) (e : Tm N), p[i]? = some y → xs[i]? = some e → Rel y e

theorem RvP.step {B N q n : Nat} {Rel : Tm n → Tm N → Prop} {p : List (Tm n)} {w : World} {v0 v1 v2 : Value} {k : Nat} {xs : List (Tm N)} {v : Value} {wr w1 w2 : World} {o1 : Obj} {g c : Nat} (hB : B ≤ w.heap.size) (hq0 : w.heap.size ≤ q)
    (h : RvP B N q Rel p w v0 v1 v2 k xs v wr) (hb1 : Below wr.heap.size wr w1) (X : Tm N) (hX : In w1.heap.size w1 N X) (hoX : Off (fun b => b < B ∨ wr.heap.size ≤ b) N X) (x : Tm n) (hx : p[k]? = some x) (hp : Rel x X)
    (hown : w2.ownsRow (q + 1) 24 4 (.slice (some ⟨g, 0, none⟩) (k + 1) c) (k + 1) (ndCells (xs.map (hdT N)) ++ nd4 (hdT N X))) (hg : (w1.alloc o1).grownBy w2 v.ownBlock) (hat : v.ownBlock = some g ∨ g = w1.heap.size + 1) :
    RvP B N q Rel p w v0 v1 v2 (k + 1) (xs ++ [X]) (.slice (some ⟨g, 0, none⟩) (k + 1) c) (w2.setCell ⟨q, 3, none⟩ (.slice (some ⟨g, 0, none⟩) (k + 1) c)) ∧ w2.heap.size ≤ (w2.setCell ⟨q, 3, none⟩ (.slice (some ⟨g, 0, none⟩) (k + 1) c)).heap.size ∧
    ∀ r u0 u1 u2 u3, r < q → BoxT r u0 u1 u2 u3 wr → BoxT r u0 u1 u2 u3 (w2.setCell ⟨q, 3, none⟩ (.slice (some ⟨g, 0, none⟩) (k + 1) c)) := by
  obtain ⟨h1, h2, h3, h4, h5, h6⟩ := h
  have hs1 := h1.size
  have hs2 := h2.lt
  have es1 : (w1.alloc o1).heap.size = w1.heap.size + 1 := by simp
  have hb1s := hb1.size
  have hgs := hg.size
  -- blocks that the append leaves: all of w1's but the row's own
  have hold : ∀ b, b < w1.heap.size → v.ownBlock ≠ some b → w2.heap[b]? = w1.heap[b]? := fun b hb hne => (hg.block b (by omega) (fun e => hne e.symm)).trans (alloc_kept w1 o1 hb)
  have hvown : ∀ b, v.ownBlock = some b → q + 1 ≤ b ∧ b < wr.heap.size := fun b e => h4.lt b e
  have hg3 : q + 1 ≤ g := by
    rcases hat with e | e
    · exact (hvown g e).1
    · omega
  have hq : w2.heap[q]? = wr.heap[q]? := (hold _ (by omega) (fun e => by have := (hvown _ e).1; omega)).trans (hb1.block _ (by omega))
  have hbox : BoxT (q) v0 v1 v2 v w2 := hq.trans h2
  have hset : ∀ b, b ≠ q → (w2.setCell ⟨q, 3, none⟩ (.slice (some ⟨g, 0, none⟩) (k + 1) c)).heap[b]? = w2.heap[b]? := fun b hne => by
    have : q ≠ b := fun e => hne e.symm
    simp [World.setCell, Array.getElem?_modify, this]
  have hsz : (w2.setCell ⟨q, 3, none⟩ (.slice (some ⟨g, 0, none⟩) (k + 1) c)).heap.size = w2.heap.size := by simp [World.setCell]
  refine ⟨⟨⟨?_, ?_, ?_, ?_, ?_⟩, hbox.set3 _, by simp [h3], ?_, ?_, ?_⟩, Nat.le_of_eq hsz.symm, fun r u0 u1 u2 u3 hr hbq => ((hset r (by omega)).trans ((hold r (by have := hbq.lt; omega) (fun e => by have := (hvown _ e).1; omega)).trans (hb1.block r hbq.lt))).trans hbq⟩
  · exact (hg.os.trans (hb1.os)).trans h1.os
  · exact (hg.tape.trans (hb1.tape)).trans h1.tape
  · exact (hg.output.trans (hb1.output)).trans h1.output
  · rw [hsz]; omega
  · intro b hb'
    exact (hset b (by omega)).trans ((hold b (by omega) (fun e => by have := (hvown _ e).1; omega)).trans ((hb1.block b (by omega)).trans (h1.block b hb')))
  · have e : ndCells ((xs ++ [X]).map (hdT N)) = ndCells (xs.map (hdT N)) ++ nd4 (hdT N X) := by simp [ndCells]
    rw [e]
    refine World.ownsRow.kept hown (row := some (q)) ⟨rfl, rfl, rfl, Nat.le_of_eq hsz.symm, fun b _ hne => hset b (fun e => hne (by rw [e]))⟩ (Or.inr ?_)
    simp only [Value.ownBlock]
    intro e
    injection e with e
    omega
  · intro y hy
    rw [hsz]
    rcases List.mem_append.1 hy with hy | hy
    · obtain ⟨k1, k2⟩ := h5 y hy
      have k4 : Off (fun b => ((b < B ∨ q < b) ∧ v.ownBlock ≠ some b) ∧ b < wr.heap.size) N y := In.offB k2 k1
      refine ⟨?_, k4.mono fun b hb' => ⟨hb'.1.1, ?_⟩⟩
      · refine In.off (w := w1) (fun b hb' => ?_) k4 ((k1.below hb1).mono (by omega))
        exact (hset b (by have := hb'.1.1; omega)).trans (hold b (by have := hb'.2; omega) hb'.1.2)
      · simp only [Value.ownBlock]
        intro e
        injection e with e
        rcases hat with e2 | e2
        · exact hb'.1.2 (by rw [e2, e])
        · have := hb'.2
          omega
    · simp only [List.mem_singleton] at hy
      subst hy
      have k4 : Off (fun b => (b < B ∨ wr.heap.size ≤ b) ∧ b < w1.heap.size) N y := In.offB hoX hX
      refine ⟨?_, k4.mono fun b hb' => ⟨by rcases hb'.1 with h | h <;> omega, ?_⟩⟩
      · refine In.off (w := w1) (fun b hb' => ?_) k4 (hX.mono (by omega))
        exact (hset b (by have := hb'.1; omega)).trans (hold b hb'.2 (fun e => by have := hvown _ e; have := hb'.1; omega))
      · simp only [Value.ownBlock]
        intro e
        injection e with e
        rcases hat with e2 | e2
        · have := hvown g e2
          have := hb'.1
          omega
        · have := hb'.2
          omega
  · intro i y e hy he
    by_cases hi : i < xs.length
    · rw [List.getElem?_append_left hi] at he
      exact h6 i y e hy he
    · rw [List.getElem?_append_right (by omega)] at he
      have h0 : i - xs.length = 0 := by
        by_cases h0 : i - xs.length = 0
        · exact h0
        · rw [List.getElem?_eq_none (by simp; omega)] at he; cases he
      rw [h0] at he
      have e1 : X = e := by simpa using he
      have e2 : i = k := by omega
      rw [e2, hx] at hy
      obtain rfl := Option.some.inj hy
      rw [← e1]
      exact hp
end Go.Proofs.Ytpehdgbdinjbaab
namespace Go.Proofs.Ytpehdgbdinjbaab
open Go.RowKit

theorem tp3_in {B D g : Nat} {w : World} {e0 e1 e2 : Tm D} (hg : g < B) (h0 : Held w g 0 D e0 ∧ In B w D e0) (h1 : Held w g 4 D e1 ∧ In B w D e1) (h2 : Held w g 8 D e2 ∧ In B w D e2) : In B w (D + 1) (tp3 g D e0 e1 e2) := by
  refine ⟨⟨by simp [tp3, I64], by simp [tp3, I64], Nat.zero_le _, by simp [tp3], by simp [tp3, maxLen]⟩, Or.inr ⟨g, 0, rfl, hg, fun i y hy => ?_⟩⟩
  match i, hy with
  | 0, hy => have : e0 = y := by simpa [tp3] using hy
             subst this; exact h0
  | 1, hy => have : e1 = y := by simpa [tp3] using hy
             subst this; exact h1
  | 2, hy => have : e2 = y := by simpa [tp3] using hy
             subst this; exact h2
  | i + 3, hy => simp [tp3] at hy
theorem tp2_in {B D g : Nat} {w : World} {e0 e1 : Tm D} (hg : g < B) (h0 : Held w g 0 D e0 ∧ In B w D e0) (h1 : Held w g 4 D e1 ∧ In B w D e1) : In B w (D + 1) (tp2 g D e0 e1) := by
  refine ⟨⟨by simp [tp2, I64], by simp [tp2, I64], Nat.zero_le _, by simp [tp2], by simp [tp2, maxLen]⟩, Or.inr ⟨g, 0, rfl, hg, fun i y hy => ?_⟩⟩
  match i, hy with
  | 0, hy => have : e0 = y := by simpa [tp2] using hy
             subst this; exact h0
  | 1, hy => have : e1 = y := by simpa [tp2] using hy
             subst this; exact h1
  | i + 2, hy => simp [tp2] at hy

/-- The two boxes of the terms stand. -/
def StC (w : World) (X T : Nd) (wk : World) : Prop := Below w.heap.size w wk ∧ BoxT w.heap.size (.int .i64 X.1.1) (.int .i64 X.1.2.1) (.string X.1.2.2) (.slice X.2.1 X.2.2.1 X.2.2.2) wk ∧ BoxT (w.heap.size + 1) (.int .i64 T.1.1) (.int .i64 T.1.2.1) (.string T.1.2.2) (.slice T.2.1 T.2.2.1 T.2.2.2) wk
theorem StC.below {w : World} {X T : Nd} {wk w' : World} (h : StC w X T wk) (hb : Below wk.heap.size wk w') : StC w X T w' := ⟨h.1.trans (hb.mono h.1.size), h.2.1.below hb, h.2.2.below hb⟩
theorem StC.al {w : World} {X T : Nd} {wk : World} (h : StC w X T wk) (o : Obj) : StC w X T (wk.alloc o) := h.below ((Below.refl _ _).alloc (Nat.le_refl _) _)
theorem st_start (w : World) (X T : Nd) : StC w X T ((w.alloc (.cells #[.int .i64 X.1.1, .int .i64 X.1.2.1, .string X.1.2.2, .slice X.2.1 X.2.2.1 X.2.2.2] 24)).alloc (.cells #[.int .i64 T.1.1, .int .i64 T.1.2.1, .string T.1.2.2, .slice T.2.1 T.2.2.1 T.2.2.2] 24)) := by
  have e1 : (w.alloc (.cells #[.int .i64 X.1.1, .int .i64 X.1.2.1, .string X.1.2.2, .slice X.2.1 X.2.2.1 X.2.2.2] 24)).heap.size = w.heap.size + 1 := by simp
  have h2 : BoxT (w.alloc (.cells #[.int .i64 X.1.1, .int .i64 X.1.2.1, .string X.1.2.2, .slice X.2.1 X.2.2.1 X.2.2.2] 24)).heap.size _ _ _ _ _ := heap_alloc_new (w.alloc (.cells #[.int .i64 X.1.1, .int .i64 X.1.2.1, .string X.1.2.2, .slice X.2.1 X.2.2.1 X.2.2.2] 24)) (.cells #[.int .i64 T.1.1, .int .i64 T.1.2.1, .string T.1.2.2, .slice T.2.1 T.2.2.1 T.2.2.2] 24)
  rw [e1] at h2
  have h1 : BoxT w.heap.size _ _ _ _ _ := heap_alloc_new w (.cells #[.int .i64 X.1.1, .int .i64 X.1.2.1, .string X.1.2.2, .slice X.2.1 X.2.2.1 X.2.2.2] 24)
  exact ⟨((Below.refl _ _).alloc (Nat.le_refl _) _).alloc (by simp) _, h1.below ((Below.refl _ _).alloc (Nat.le_refl _) _), h2⟩

/-- A block of three terms. -/
def Blk3 (g : Nat) (a b c : Nd) (w : World) : Prop := w.heap[g]? = some (.cells #[.int .i64 a.1.1, .int .i64 a.1.2.1, .string a.1.2.2, .slice a.2.1 a.2.2.1 a.2.2.2, .int .i64 b.1.1, .int .i64 b.1.2.1, .string b.1.2.2, .slice b.2.1 b.2.2.1 b.2.2.2, .int .i64 c.1.1, .int .i64 c.1.2.1, .string c.1.2.2, .slice c.2.1 c.2.2.1 c.2.2.2] 24)
def Blk2 (g : Nat) (a b : Nd) (w : World) : Prop := w.heap[g]? = some (.cells #[.int .i64 a.1.1, .int .i64 a.1.2.1, .string a.1.2.2, .slice a.2.1 a.2.2.1 a.2.2.2, .int .i64 b.1.1, .int .i64 b.1.2.1, .string b.1.2.2, .slice b.2.1 b.2.2.1 b.2.2.2] 24)
theorem Blk3.below {g : Nat} {a b c : Nd} {w w' : World} (h : Blk3 g a b c w) (hb : Below w.heap.size w w') : Blk3 g a b c w' := (hb.block g (Array.getElem?_eq_some_iff.1 h).1).trans h
theorem Blk2.below {g : Nat} {a b : Nd} {w w' : World} (h : Blk2 g a b w) (hb : Below w.heap.size w w') : Blk2 g a b w' := (hb.block g (Array.getElem?_eq_some_iff.1 h).1).trans h
theorem Blk3.lt {g : Nat} {a b c : Nd} {w : World} (h : Blk3 g a b c w) : g < w.heap.size := (Array.getElem?_eq_some_iff.1 h).1
theorem Blk2.lt {g : Nat} {a b : Nd} {w : World} (h : Blk2 g a b w) : g < w.heap.size := (Array.getElem?_eq_some_iff.1 h).1
theorem Blk3.held {g : Nat} {w : World} {D : Nat} {a b c : Tm (D + 1)} (h : Blk3 g (hdOf D a) (hdOf D b) (hdOf D c) w) : Held w g 0 (D + 1) a ∧ Held w g 4 (D + 1) b ∧ Held w g 8 (D + 1) c := by
  unfold Blk3 at h
  refine ⟨⟨?_, ?_, ?_, ?_⟩, ⟨?_, ?_, ?_, ?_⟩, ⟨?_, ?_, ?_, ?_⟩⟩ <;> simp [World.cell?, h, hdOf]
theorem Blk2.held {g : Nat} {w : World} {D : Nat} {a b : Tm (D + 1)} (h : Blk2 g (hdOf D a) (hdOf D b) w) : Held w g 0 (D + 1) a ∧ Held w g 4 (D + 1) b := by
  unfold Blk2 at h
  refine ⟨⟨?_, ?_, ?_, ?_⟩, ⟨?_, ?_, ?_, ?_⟩⟩ <;> simp [World.cell?, h, hdOf]
def wdN (s : ByteArray) : Nd := ((2, 0, s), (none, 0, 0))
theorem wd_hd (D : Nat) (s : ByteArray) : hdOf D (wdD D s) = wdN s := rfl
theorem wd_in (D : Nat) (s : ByteArray) (hs : s.size ≤ maxLen) (B : Nat) (w : World) : In B w (D + 1) (wdD D s) := lift_in (D + 1) 1 (by omega) _ _ _ (word_in s hs B w)
theorem lift_hdO (N n : Nat) (x : Tm (n + 1)) : hdOf N (lift (N + 1) (n + 1) x) = hdOf n x := by simp [hdOf, lift]

theorem lies_up {B C : Nat} {w : World} {m : Nat} {b : List (Tm m)} {a : Option Addr} (h : Lies B w m b a) (hBC : B ≤ C) : Lies C w m b a := by
  rcases h with h | ⟨q, o, e, hq, h⟩
  · exact Or.inl h
  · exact Or.inr ⟨q, o, e, by omega, fun i y hy => ⟨(h i y hy).1, (h i y hy).2.mono hBC⟩⟩
theorem chk_addr3 (g g' D : Nat) (e0 e1 e2 : Tm D) : chk (D + 1) (tp3 g D e0 e1 e2) = chk (D + 1) (tp3 g' D e0 e1 e2) := (chk_swap g 0 D e0 e1 e2).trans (chk_swap 0 g' D e0 e2 e1)
theorem chk_addr2 (g g' D : Nat) (e0 e1 : Tm D) : chk (D + 1) (tp2 g D e0 e1) = chk (D + 1) (tp2 g' D e0 e1) := by
  rw [← tchk_chk, ← tchk_chk]
  rfl
/-- The sum of two terms, in whichever order they are told. -/
theorem val_add (D n k m : Nat) (hn : n ≤ D) (hk : k ≤ D) (x : Tm (n + 1)) (t : Tm (k + 1)) (b : List (Tm m)) (a : Option Addr) (c Bb g : Nat) (self : Int) (w : World) (hx : In w.heap.size w (n + 1) x) (ht : In w.heap.size w (k + 1) t) (hb : Lies Bb w m b a) (hB : Bb ≤ w.heap.size) (hNx : (nodes (n + 1) x).length ≤ 201) (hNt : (nodes (k + 1) t).length ≤ 201) (hbd : bndB m b = true)
    (hg : Blk3 g (wdN wAdd) (hdOf n x) (hdOf k t) w) :
    Calls Try.prog 35 #[.agg #[.int .i64 4, .int .i64 0, .string ⟨#[]⟩, .slice (some ⟨g, 0, none⟩) 3 3], .slice a 4 c, .int .i64 self] w
      (RvOut (m + (D + 1)) (rvE (chk (D + 1 + 1) (tp3 0 (D + 1) (wdD D wAdd) (lift (D + 1) (n + 1) x) (lift (D + 1) (k + 1) t))) true self) (sumO (vl m b self (D + 1) (lift (D + 1) (n + 1) x)) (vl m b self (D + 1) (lift (D + 1) (k + 1) t))) w) := by
  have hgt := hg.lt
  have hh := Blk3.held (D := D) (a := wdD D wAdd) (b := lift (D + 1) (n + 1) x) (c := lift (D + 1) (k + 1) t) (by rw [wd_hd, lift_hdO, lift_hdO]; exact hg)
  have hin : In w.heap.size w (D + 1 + 1) (tp3 g (D + 1) (wdD D wAdd) (lift (D + 1) (n + 1) x) (lift (D + 1) (k + 1) t)) :=
    tp3_in hgt ⟨hh.1, wd_in _ _ (by show (3 : Nat) ≤ 2 ^ 63 - 1; omega) _ _⟩ ⟨hh.2.1, lift_in _ _ (by omega) _ _ _ hx⟩ ⟨hh.2.2, lift_in _ _ (by omega) _ _ _ ht⟩
  have l1 := lift_nlen (D + 1) (n + 1) (by omega) x
  have l2 := lift_nlen (D + 1) (k + 1) (by omega) t
  have l3 := lift_nlen (D + 1) 1 (by omega) (wordT wAdd)
  have h := rvalue_any (D + 1) m (tp3 g (D + 1) (wdD D wAdd) (lift (D + 1) (n + 1) x) (lift (D + 1) (k + 1) t)) b a c w.heap.size self w hin (lies_up hb hB) (Nat.le_refl _) (by
      have e : (nodes (D + 1 + 1) (tp3 g (D + 1) (wdD D wAdd) (lift (D + 1) (n + 1) x) (lift (D + 1) (k + 1) t))).length = 1 + ((nodes (D + 1) (wdD D wAdd)).length + ((nodes (D + 1) (lift (D + 1) (n + 1) x)).length + (nodes (D + 1) (lift (D + 1) (k + 1) t)).length)) := by
        simp [nodes, tp3]; omega
      have l4 : (nodes 1 (wordT wAdd)).length = 1 := rfl
      have l5 : (nodes (D + 1) (wdD D wAdd)).length ≤ 1 := Nat.le_trans l3 (Nat.le_of_eq l4)
      omega) (by rw [(bnd_ok hbd).1]; decide) (fun y hy => Nat.le_trans (chk_nlen ((bnd_ok hbd).2 y hy).1) (by omega))
  rw [(bnd_ok hbd).1, hbd, vl_add, chk_addr3 g 0] at h
  exact h
/-- What is put. -/
theorem val_put (k m : Nat) (t : Tm (k + 1)) (b : List (Tm m)) (a : Option Addr) (c Bb g : Nat) (self : Int) (w : World) (ht : In w.heap.size w (k + 1) t) (hb : Lies Bb w m b a) (hB : Bb ≤ w.heap.size) (hNt : (nodes (k + 1) t).length ≤ 201) (hbd : bndB m b = true) (hcl : closedT (k + 1) t = true)
    (hg : Blk2 g (wdN wPut) (hdOf k t) w) :
    In w.heap.size w (k + 1 + 1) (tp2 g (k + 1) (wdD k wPut) t) ∧ (nodes (k + 1 + 1) (tp2 g (k + 1) (wdD k wPut) t)).length ≤ 2097152 ∧
    Calls Try.prog 35 #[.agg #[.int .i64 4, .int .i64 0, .string ⟨#[]⟩, .slice (some ⟨g, 0, none⟩) 2 2], .slice a 4 c, .int .i64 self] w
      (RvOut (m + (k + 1)) (rvE (chk (k + 1 + 1) (tp2 0 (k + 1) (wdD k wPut) t)) true self) (some (lift (m + (k + 1) + 1) (k + 1) t)) w) := by
  have hgt := hg.lt
  have hh := Blk2.held (D := k) (a := wdD k wPut) (b := t) (by rw [wd_hd]; exact hg)
  have hin : In w.heap.size w (k + 1 + 1) (tp2 g (k + 1) (wdD k wPut) t) :=
    tp2_in hgt ⟨hh.1, wd_in _ _ (by show (3 : Nat) ≤ 2 ^ 63 - 1; omega) _ _⟩ ⟨hh.2, ht⟩
  have l3 := lift_nlen (k + 1) 1 (by omega) (wordT wPut)
  have hN : (nodes (k + 1 + 1) (tp2 g (k + 1) (wdD k wPut) t)).length ≤ 2097152 := by
    have e : (nodes (k + 1 + 1) (tp2 g (k + 1) (wdD k wPut) t)).length = 1 + ((nodes (k + 1) (wdD k wPut)).length + (nodes (k + 1) t).length) := by
      simp [nodes, tp2]; omega
    have l4 : (nodes 1 (wordT wPut)).length = 1 := rfl
    have l5 : (nodes (k + 1) (wdD k wPut)).length ≤ 1 := Nat.le_trans l3 (Nat.le_of_eq l4)
    omega
  have h := rvalue_any (k + 1) m (tp2 g (k + 1) (wdD k wPut) t) b a c w.heap.size self w hin (lies_up hb hB) (Nat.le_refl _) hN (by rw [(bnd_ok hbd).1]; decide) (fun y hy => Nat.le_trans (chk_nlen ((bnd_ok hbd).2 y hy).1) (by omega))
  rw [(bnd_ok hbd).1, hbd, vl_put m b self g k t hcl, chk_addr2 g 0] at h
  exact ⟨hin, hN, h⟩
theorem num_right (u : Int) (h1 : -1099511627776 ≤ u) (h2 : u ≤ 1099511627776) : RightA ⟨1, numT u⟩ := right_formed.2 (f_num u h1 h2)
theorem vl_num (m : Nat) (b : List (Tm m)) (self u : Int) : vl m b self 1 (lift 1 1 (numT u)) = some (lift (m + 1) 1 (lift 1 1 (numT u))) := vl_leaf m b self 0 _ (by simp [lift, numT]) (by simp [lift, numT]) (by simp [lift, numT])
/-- Two and three are five. -/
theorem smoke_val (g q : Nat) (w : World) (hg : Blk3 g (wdN wAdd) (hdOf 0 (numT 2)) (hdOf 0 (numT 3)) w) (hq : Has q q 4 (List.replicate 4 anyA) w) :
    Calls Try.prog 35 #[.agg #[.int .i64 4, .int .i64 0, .string ⟨#[]⟩, .slice (some ⟨g, 0, none⟩) 3 3], .slice (some ⟨q, 0, none⟩) 4 4, .int .i64 1] w fun e w' => ∃ y : Tm 3, e = .returned (.tuple #[val 3 y, .int .i64 0]) ∧ Hid (Below w.heap.size w w' ∧ In w'.heap.size w' 3 y ∧ same 3 y 1 (numT 5) = true) := by
  have h := val_add 0 0 0 1 (Nat.le_refl _) (Nat.le_refl _) (numT 2) (numT 3) (List.replicate 4 anyT) (some ⟨q, 0, none⟩) 4 w.heap.size g 1 w (num_in 2 (by simp [I64]) _ _) (num_in 3 (by simp [I64]) _ _) (free_lies hq) (Nat.le_refl _) (by show (1 : Nat) ≤ 201; omega) (by show (1 : Nat) ≤ 201; omega) bnd_free hg
  have hc : chk 2 (tp3 0 1 (wdD 0 wAdd) (lift 1 1 (numT 2)) (lift 1 1 (numT 3))) = 0 := by kernel_rfl
  have hs : sumO (vl 1 (List.replicate 4 anyT) 1 1 (lift 1 1 (numT 2))) (vl 1 (List.replicate 4 anyT) 1 1 (lift 1 1 (numT 3))) = some (leafV 1 5 2) := by
    rw [vl_num, vl_num]
    rfl
  have hc5 : chk 3 (leafV 1 5 2) = 0 := by kernel_rfl
  have hE : rvE 0 true 1 = 0 := by decide
  rw [hc, hs, hE] at h
  refine Calls.mono h ?_
  rintro e w' ⟨y, rfl, H⟩
  have ho : rvO 0 (some (leafV 1 5 2)) = some (leafV 1 5 2) := by simp [rvO, hc5]
  obtain ⟨h1, h2, h3, h4⟩ := H.out
  rw [ho] at h4
  refine ⟨y, by rw [ho]; rfl, h1, h2, same_trans _ _ _ _ _ _ h4 ?_⟩
  exact same_mk rfl rfl
end Go.Proofs.Ytpehdgbdinjbaab
