/- What is proved here: plain facts for HeapAgain: two rows, of words and of terms, that are appended to in any order, and what they leave as it was. No condition. -/
import Derived.Test.YtfaoeccnhbcjgabKp2
import Derived.Test.YtfaoeccnhbcjgabFree
namespace Go.Proofs.Ytfaoeccnhbcjgab
open Go.RowKit Go.Maps

/-- Two rows that were appended to since wr; nothing else of wr is turned. -/
def App2 (base n : Nat) (wv0 tv0 : Value) (wr : World) (wv : Value) (vs : List Wd) (tv : Value) (ts : List (Tm n)) (w' : World) : Prop :=
  Keep (fun b => wv0.ownBlock = some b ∨ tv0.ownBlock = some b) wr w' ∧ w'.ownsRow base 37 2 wv vs.length (wCells vs) ∧ w'.ownsRow base 24 4 tv ts.length (ndCells (ts.map (hdT n))) ∧
  (∀ b, wv.ownBlock = some b → wv0.ownBlock = some b ∨ wr.heap.size ≤ b) ∧ (∀ b, tv.ownBlock = some b → tv0.ownBlock = some b ∨ wr.heap.size ≤ b)

theorem own_block {w : World} {base : Nat} {e : TypeId} {sz : Nat} {v : Value} {n : Nat} {xs : List Value} (h : w.ownsRow base e sz v n xs) (b : Nat) (hb : v.ownBlock = some b) : ∃ cur, w.heap[b]? = some (.cells cur e (0, 0)) := by
  rcases h.2 with ⟨rfl, _⟩ | ⟨g, cap, cur, rfl, _, hh, _⟩
  · simp [Value.ownBlock] at hb
  · simp [Value.ownBlock] at hb
    subst hb
    exact ⟨cur, hh⟩
theorem own_apart {w : World} {base base' : Nat} {sz sz' : Nat} {v v' : Value} {n n' : Nat} {xs xs' : List Value} (h : w.ownsRow base 37 sz v n xs) (h' : w.ownsRow base' 24 sz' v' n' xs') (b : Nat) (hb : v.ownBlock = some b) : ¬ v'.ownBlock = some b := by
  intro hb'
  obtain ⟨c1, e1⟩ := own_block h b hb
  obtain ⟨c2, e2⟩ := own_block h' b hb'
  rw [e1] at e2
  injection e2 with e2
  injection e2 with _ e3 _
  exact absurd e3 (by decide)

theorem App2.start {base n : Nat} {wr : World} {wv : Value} {vs : List Wd} {tv : Value} {ts : List (Tm n)} (h1 : wr.ownsRow base 37 2 wv vs.length (wCells vs)) (h2 : wr.ownsRow base 24 4 tv ts.length (ndCells (ts.map (hdT n)))) : App2 base n wv tv wr wv vs tv ts wr :=
  ⟨Keep.refl _ _, h1, h2, fun _ h => Or.inl h, fun _ h => Or.inl h⟩
theorem App2.later {base n : Nat} {wv0 tv0 : Value} {wr w' w2 : World} {wv : Value} {vs : List Wd} {tv : Value} {ts : List (Tm n)} (h : App2 base n wv0 tv0 wr wv vs tv ts w') (hb : Below w'.heap.size w' w2) : App2 base n wv0 tv0 wr wv vs tv ts w2 :=
  ⟨h.1.trans (keep_below hb (fun _ => False)) (fun _ _ hf => hf.elim), own_below h.2.1 hb, own_below h.2.2.1 hb, h.2.2.2.1, h.2.2.2.2⟩
theorem App2.word {base n : Nat} {wv0 tv0 : Value} {wr w' w2 : World} {wv : Value} {vs : List Wd} {tv : Value} {ts : List (Tm n)} (h : App2 base n wv0 tv0 wr wv vs tv ts w') {g c : Nat} {v : Wd}
    (ho : w2.ownsRow base 37 2 (.slice (some ⟨g, 0, none⟩) (vs.length + 1) c) (vs.length + 1) (wCells vs ++ wd2 v)) (hg : w'.grownBy w2 wv.ownBlock) (ha : wv.ownBlock = some g ∨ g = w'.heap.size) :
    App2 base n wv0 tv0 wr (.slice (some ⟨g, 0, none⟩) (vs.length + 1) c) (vs ++ [v]) tv ts w2 := by
  have hk := keep_grown hg
  refine ⟨h.1.trans hk fun b hb e => ?_, ?_, row_kept h.2.2.1 hk fun b e1 e2 => own_apart h.2.1 h.2.2.1 b e2 e1, fun b e => ?_, h.2.2.2.2⟩
  · rcases h.2.2.2.1 b e with e | e
    · exact Or.inl e
    · omega
  · have e : wCells (vs ++ [v]) = wCells vs ++ wd2 v := by simp [wCells]
    rw [e, List.length_append]
    exact ho
  · simp [Value.ownBlock] at e
    subst e
    rcases ha with e | e
    · exact h.2.2.2.1 g e
    · exact Or.inr (by rw [e]; exact h.1.size)
theorem App2.term {base n : Nat} {wv0 tv0 : Value} {wr w' w2 : World} {wv : Value} {vs : List Wd} {tv : Value} {ts : List (Tm n)} (h : App2 base n wv0 tv0 wr wv vs tv ts w') {g c : Nat} {x : Tm n}
    (ho : w2.ownsRow base 24 4 (.slice (some ⟨g, 0, none⟩) (ts.length + 1) c) (ts.length + 1) (ndCells (ts.map (hdT n)) ++ nd4 (hdT n x))) (hg : w'.grownBy w2 tv.ownBlock) (ha : tv.ownBlock = some g ∨ g = w'.heap.size) :
    App2 base n wv0 tv0 wr wv vs (.slice (some ⟨g, 0, none⟩) (ts.length + 1) c) (ts ++ [x]) w2 := by
  have hk := keep_grown hg
  refine ⟨h.1.trans hk fun b hb e => ?_, row_kept h.2.1 hk fun b e1 e2 => own_apart h.2.1 h.2.2.1 b e1 e2, ?_, h.2.2.2.1, fun b e => ?_⟩
  · rcases h.2.2.2.2 b e with e | e
    · exact Or.inr e
    · omega
  · have e : ndCells ((ts ++ [x]).map (hdT n)) = ndCells (ts.map (hdT n)) ++ nd4 (hdT n x) := by simp [ndCells]
    rw [e, List.length_append]
    exact ho
  · simp [Value.ownBlock] at e
    subst e
    rcases ha with e | e
    · exact h.2.2.2.2 g e
    · exact Or.inr (by rw [e]; exact h.1.size)
theorem grown_new {w' w2 : World} (row : Option Nat) (hg : w'.grownBy w2 row) (q : Nat) (hq : ∀ b, row = some b → b < q) : ∀ b, q ≤ b → b < w'.heap.size → w2.heap[b]? = w'.heap[b]? :=
  fun b hb hw => hg.block b hw fun e => by have := hq b e.symm; omega
/-- The heap beside the two rows. -/
theorem HpS.rows {n : Nat} {w : World} {hp : Nat} {room : Int} {ws : List Wd} {nm : List ByteArray} {M : Nat → Prop} {wv0 tv0 : Value} {wr w' : World} {wv : Value} {vs : List Wd} {tv : Value} {ts : List (Tm n)} (h : HpS w hp room ws nm M wr) (k : App2 w.heap.size n wv0 tv0 wr wv vs tv ts w')
    (h1 : ∀ b, wv0.ownBlock = some b → w.heap.size ≤ b ∧ ¬ M b) (h2 : ∀ b, tv0.ownBlock = some b → w.heap.size ≤ b ∧ ¬ M b) : HpS w hp room ws nm M w' ∧ (∀ b, wv.ownBlock = some b → w.heap.size ≤ b ∧ ¬ M b) ∧ ∀ b, tv.ownBlock = some b → w.heap.size ≤ b ∧ ¬ M b := by
  have hs := h.1.size
  refine ⟨⟨⟨k.1.os.trans h.1.os, k.1.tape.trans h.1.tape, k.1.output.trans h.1.output, Nat.le_trans hs k.1.size, fun b hb => (k.1.block b (by omega) ?_).trans (h.1.block b hb)⟩, h.2.1.kept k.1 fun b hm _ e => ?_, fun b hm => ⟨(h.2.2 b hm).1, Nat.lt_of_lt_of_le (h.2.2 b hm).2 k.1.size⟩⟩, fun b e => ?_, fun b e => ?_⟩
  · rintro (e | e)
    · have := (h1 b e).1; omega
    · have := (h2 b e).1; omega
  · rcases e with e | e
    · exact (h1 b e).2 hm
    · exact (h2 b e).2 hm
  · rcases k.2.2.2.1 b e with e | e
    · exact h1 b e
    · exact ⟨by omega, fun hm => by have := (h.2.2 b hm).2; omega⟩
  · rcases k.2.2.2.2 b e with e | e
    · exact h2 b e
    · exact ⟨by omega, fun hm => by have := (h.2.2 b hm).2; omega⟩
theorem App2.wordL {base n L : Nat} {wv0 tv0 : Value} {wr w' w2 : World} {wv : Value} {vs : List Wd} {tv : Value} {ts : List (Tm n)} (h : App2 base n wv0 tv0 wr wv vs tv ts w') (hL : vs.length = L) {g c : Nat} {v : Wd}
    (ho : w2.ownsRow base 37 2 (.slice (some ⟨g, 0, none⟩) (L + 1) c) (L + 1) (wCells vs ++ wd2 v)) (hg : w'.grownBy w2 wv.ownBlock) (ha : wv.ownBlock = some g ∨ g = w'.heap.size) :
    App2 base n wv0 tv0 wr (.slice (some ⟨g, 0, none⟩) (L + 1) c) (vs ++ [v]) tv ts w2 := by
  subst hL
  exact h.word ho hg ha
theorem App2.termL {base n L : Nat} {wv0 tv0 : Value} {wr w' w2 : World} {wv : Value} {vs : List Wd} {tv : Value} {ts : List (Tm n)} (h : App2 base n wv0 tv0 wr wv vs tv ts w') (hL : ts.length = L) {g c : Nat} {x : Tm n}
    (ho : w2.ownsRow base 24 4 (.slice (some ⟨g, 0, none⟩) (L + 1) c) (L + 1) (ndCells (ts.map (hdT n)) ++ nd4 (hdT n x))) (hg : w'.grownBy w2 tv.ownBlock) (ha : tv.ownBlock = some g ∨ g = w'.heap.size) :
    App2 base n wv0 tv0 wr wv vs (.slice (some ⟨g, 0, none⟩) (L + 1) c) (ts ++ [x]) w2 := by
  subst hL
  exact h.term ho hg ha
theorem App2.own1 {base n L : Nat} {wv0 tv0 : Value} {wr w' : World} {wv : Value} {vs : List Wd} {tv : Value} {ts : List (Tm n)} (h : App2 base n wv0 tv0 wr wv vs tv ts w') (hL : vs.length = L) {w2 : World} (hb : Below w'.heap.size w' w2) : w2.ownsRow base 37 2 wv L (wCells vs) := by
  subst hL
  exact (h.later hb).2.1
theorem App2.own2 {base n L : Nat} {wv0 tv0 : Value} {wr w' : World} {wv : Value} {vs : List Wd} {tv : Value} {ts : List (Tm n)} (h : App2 base n wv0 tv0 wr wv vs tv ts w') (hL : ts.length = L) {w2 : World} (hb : Below w'.heap.size w' w2) : w2.ownsRow base 24 4 tv L (ndCells (ts.map (hdT n))) := by
  subst hL
  exact (h.later hb).2.2.1
theorem nb_a (w : World) (c : Obj) : (w.alloc c).drew.heap[w.heap.size]? = some c := heap_alloc_new w c
theorem nb_b (w : World) (c d : Obj) : ((w.alloc c).alloc d).drew.heap[w.heap.size]? = some c :=
  (((Below.refl (w.alloc c).heap.size (w.alloc c)).alloc (Nat.le_refl _) d).block w.heap.size (by simp)).trans (heap_alloc_new w c)
theorem nb_c (w : World) (c d : Obj) : ((w.alloc d).alloc c).drew.heap[w.heap.size + 1]? = some c := by
  have h := heap_alloc_new (w.alloc d) c
  rwa [show (w.alloc d).heap.size = w.heap.size + 1 by simp] at h
theorem grown_box {W0 W w5 : World} {row : Option Nat} (hb : Below W0.heap.size W0 W) (hg : W.grownBy w5 row) (q : Nat) (hq : ∀ b, row = some b → b < q) (b : Nat) (hqb : q ≤ b) (hbw : b < W0.heap.size) : w5.heap[b]? = W0.heap[b]? :=
  (grown_new row hg q hq b hqb (Nat.lt_of_lt_of_le hbw hb.size)).trans (hb.block b hbw)
theorem box4 {w : World} {b : Nat} {v0 v1 v2 v3 : Value} {t : TypeId} (h : w.heap[b]? = some (.cells #[v0, v1, v2, v3] t)) : w.cell? ⟨b, 0, none⟩ = some v0 ∧ w.cell? ⟨b, 1, none⟩ = some v1 ∧ w.cell? ⟨b, 2, none⟩ = some v2 ∧ w.cell? ⟨b, 3, none⟩ = some v3 := by
  refine ⟨?_, ?_, ?_, ?_⟩ <;> simp [World.cell?, h]
theorem box2 {w : World} {b : Nat} {v0 v1 : Value} {t : TypeId} (h : w.heap[b]? = some (.cells #[v0, v1] t)) : w.cell? ⟨b, 0, none⟩ = some v0 ∧ w.cell? ⟨b, 1, none⟩ = some v1 := by
  refine ⟨?_, ?_⟩ <;> simp [World.cell?, h]
end Go.Proofs.Ytfaoeccnhbcjgab
