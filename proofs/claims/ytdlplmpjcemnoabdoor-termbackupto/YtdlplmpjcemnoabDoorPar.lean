/- What is proved here: the program's Parse: for every text: a text of more than 2048 signs is too long; else the words tell one term, whose check is told, or the place where they can't go on. Only new memory turns. -/
import Derived.Test.YtdlplmpjcemnoabDoorRtm3
import Derived.BigRegion
namespace Go.Proofs.YtdlplmpjcemnoabDoor
open Go.RowKit

def zeroT : Value := .agg #[.int .i64 0, .int .i64 0, .string ⟨#[]⟩, .slice none 0 0]
/-- What a reading of a whole text tells: a term, a place, an error. -/
def PRes (s : ByteArray) (w w' : World) (v : Value) (pos err : Int) : Prop :=
  (2048 < s.size ∧ v = zeroT ∧ pos = 0 ∧ err = 2) ∨ (∃ p : Nat, s.size ≤ 2048 ∧ exp s.size (toks s 0) 0 = some p ∧ v = zeroT ∧ pos = p ∧ err = 3) ∨
    (s.size ≤ 2048 ∧ exp s.size (toks s 0) 0 = none ∧ ∃ (n : Nat) (x : Tm n), Is n x (toks s 0) [] ∧ In w'.heap.size w' n x ∧ Off (fun q => w.heap.size ≤ q) n x ∧ pos = 0 ∧ err = chk n x ∧ ((chk n x ≠ 0 ∧ v = zeroT) ∨ (chk n x = 0 ∧ v = val n x)))
def POut (s : ByteArray) (w w' : World) (e : Ending) : Prop :=
  ∃ (k u : Int) (t : ByteArray) (a : Option Addr) (l c : Nat) (pos err : Int), e = .returned (.tuple #[.agg #[.int .i64 k, .int .i64 u, .string t, .slice a l c], .int .i64 pos, .int .i64 err]) ∧
    Hid (PRes s w w' (.agg #[.int .i64 k, .int .i64 u, .string t, .slice a l c]) pos err ∧ Below w.heap.size w w')

theorem set4_block {w : World} {q b : Nat} (h : b ≠ q) (v0 v1 v2 v3 : Value) : ((((w.setCell ⟨q, 0, none⟩ v0).setCell ⟨q, 1, none⟩ v1).setCell ⟨q, 2, none⟩ v2).setCell ⟨q, 3, none⟩ v3).heap[b]? = w.heap[b]? := by
  rw [Below.heap_setCell _ _ _ _ (by simpa using h), Below.heap_setCell _ _ _ _ (by simpa using h), Below.heap_setCell _ _ _ _ (by simpa using h), Below.heap_setCell _ _ _ _ (by simpa using h)]
theorem set4_size {w : World} {q : Nat} (v0 v1 v2 v3 : Value) : ((((w.setCell ⟨q, 0, none⟩ v0).setCell ⟨q, 1, none⟩ v1).setCell ⟨q, 2, none⟩ v2).setCell ⟨q, 3, none⟩ v3).heap.size = w.heap.size := by simp [World.setCell]

/-- The two boxes, behind the reading. -/
theorem par_boxes {s : ByteArray} {w w2 w3 : World} (g : ((w.alloc (.cells #[.int .i64 0, .int .i64 0, .string ⟨#[]⟩, .slice none 0 0] 24)).alloc (.cells #[.string s, .int .i64 0, .int .i64 0] 44)).grownBy w2 (some (w.heap.size + 1)))
    (g2 : w2.grownBy w3 (some (w.heap.size + 1))) : Bx w.heap.size (.int .i64 0) (.int .i64 0) (.string ⟨#[]⟩) (.slice none 0 0) w3 ∧ w.heap.size + 1 < w3.heap.size ∧ Below w.heap.size w w3 ∧ w.heap.size + 2 ≤ w2.heap.size := by
  have g3 := moved_trans g g2
  have z := g.size
  have z2 := g2.size
  simp at z
  refine ⟨((Bx.new w _ _ _ _).block (alloc_block _ _ (by simp))).block (g3.block _ (by simp; omega) (by simp)), by omega, ?_, by omega⟩
  exact (((Below.refl _ _).alloc (Nat.le_refl _) _).alloc (by simp) _).grown g3 (by simp; omega) (fun j e => by simp at e; omega)

theorem In.drewN {B : Nat} {w : World} {n : Nat} {x : Tm n} (m : Nat) {P : Nat → Prop} (k : Off P n x) (h : In B w n x) : In B (w.drewN m) n x := In.off (w := w) (w' := w.drewN m) (fun _ _ => rfl) k h

/-- The words tell one term: it lies there. -/
theorem par_tree {s : ByteArray} {w w2 w3 : World} {v : Value} {b e : Nat} {ts' : List Tok} {x : ByteArray} (hx : s.extract b e = x) (hc : (x.toList == []) = true) (hs : s.size ≤ 2048) (hat : At s b e ts') (z : w.heap.size + 2 ≤ w2.heap.size)
    (h : (∃ x : Tm 2049, val 2049 x = v ∧ Is 2049 x (toks s 0) ts' ∧ In w3.heap.size w3 2049 x ∧ Off (fun q => w2.heap.size ≤ q) 2049 x) ∧ ∀ d, exp s.size (toks s 0) d = scanD s.size ts' d) (o : Obj) (m : Nat) :
    ∃ y : Tm 2049, v = val 2049 y ∧ Is 2049 y (toks s 0) [] ∧ In ((w3.alloc o).drewN m).heap.size ((w3.alloc o).drewN m) 2049 y ∧ Off (fun q => w.heap.size + 2 ≤ q) 2049 y ∧ (nodes 2049 y).length ≤ 2097152 ∧ exp s.size (toks s 0) 0 = none := by
  obtain ⟨⟨y, h1, h2, h3, h4⟩, h5⟩ := h
  have e1 : ts' = [] := by
    cases ts' with
    | nil => rfl
    | cons t ts' =>
      have k := hat.cons.2.2
      rw [hx] at k
      have k2 : x.toList = [] := by simpa using hc
      rw [ByteArray.toList_eq] at k2
      have : x.data.toList.length = x.size := by simp
      rw [k2] at this
      simp at this
      omega
  subst e1
  have k1 := Is.nodes 2049 y (toks s 0) [] h2
  have k2 := toks_length s s.size 0 (by omega)
  refine ⟨y, h1.symm, h2, In.drewN m h4 ((In.off (fun b hb => alloc_block w3 o hb.2) (In.offB h4 h3) h3).mono (by simp)), h4.mono fun q hq => by omega, by simp at k1; omega, h5 0⟩

theorem par_last {w w3 w5 : World} {m : Nat} {v0 v1 v2 v3 : Value} (h : Bx w.heap.size (.int .i64 0) (.int .i64 0) (.string ⟨#[]⟩) (.slice none 0 0) w3)
    (b : Below ((w3.alloc (.cells #[v0, v1, v2, v3] 24)).drewN m).heap.size ((w3.alloc (.cells #[v0, v1, v2, v3] 24)).drewN m) w5) :
    Bx w.heap.size (.int .i64 0) (.int .i64 0) (.string ⟨#[]⟩) (.slice none 0 0) w5 ∧ Bx w3.heap.size v0 v1 v2 v3 w5 := by
  have hlt := h.lt
  exact ⟨(h.block (alloc_block _ _ hlt)).block (b.block _ (by simp; omega)), (Bx.new w3 v0 v1 v2 v3).block (b.block _ (by simp))⟩

theorem par_some {s : ByteArray} {b e : Nat} {ts' : List Tok} {x : ByteArray} (hx : s.extract b e = x) (hc : (x.toList == []) = false) (hat : At s b e ts') (h : exp s.size (toks s 0) 0 = scanD s.size ts' 0) : exp s.size (toks s 0) 0 = some b := by
  rw [h, ← hat.pos]
  cases ts' with
  | nil => rw [← hx] at hc; simp [hat.nil] at hc
  | cons t ts' => rfl
/-- The term still lies there when the result is laid down. -/
theorem par_in {w w4 w5 : World} {n : Nat} {y : Tm n} (h : In w4.heap.size w4 n y) (k : Off (fun q => w.heap.size + 2 ≤ q) n y) (b : Below w4.heap.size w4 w5) (v0 v1 v2 v3 : Value) :
    In ((((w5.setCell ⟨w.heap.size, 0, none⟩ v0).setCell ⟨w.heap.size, 1, none⟩ v1).setCell ⟨w.heap.size, 2, none⟩ v2).setCell ⟨w.heap.size, 3, none⟩ v3).heap.size ((((w5.setCell ⟨w.heap.size, 0, none⟩ v0).setCell ⟨w.heap.size, 1, none⟩ v1).setCell ⟨w.heap.size, 2, none⟩ v2).setCell ⟨w.heap.size, 3, none⟩ v3) n y := by
  rw [set4_size]
  exact In.off (fun q hq => set4_block (by omega) _ _ _ _) k ((h.below b).mono b.size)

theorem below_set4 {w w1 : World} (h : Below w.heap.size w w1) (v0 v1 v2 v3 : Value) : Below w.heap.size w ((((w1.setCell ⟨w.heap.size, 0, none⟩ v0).setCell ⟨w.heap.size, 1, none⟩ v1).setCell ⟨w.heap.size, 2, none⟩ v2).setCell ⟨w.heap.size, 3, none⟩ v3) :=
  ⟨h.os, h.tape, h.output, by rw [set4_size]; exact h.size, fun k hk => (set4_block (by omega) _ _ _ _).trans (h.block k hk)⟩
theorem below_drew {B : Nat} {w w1 : World} (h : Below B w w1) (m : Nat) : Below B w (w1.drewN m) := ⟨h.os, h.tape, h.output, h.size, h.block⟩
theorem below_new {w w1 : World} (h : Below w.heap.size w w1) (o : Obj) : Below w.heap.size w (w1.alloc o) := h.alloc h.size o

set_option maxHeartbeats 1000000 in
theorem parse_any (s : ByteArray) (w : World) (hs : s.size ≤ maxLen) :
    Calls Tryd.prog 6 #[.string s] w fun e w' => POut s w w' e := by
  unfold maxLen at hs
  by_cases hbig : 2048 < s.size
  · have hbig' : (2048 : Int) < s.size := by omega
    go_enter Tryd.func6, Tryd.ntmps6
    go_wp2_with fail
    exact bodyPost_ret (v := .tuple #[zeroT, .int .i64 0, .int .i64 2]) (by simp [results, Tryd.results6, go_sem, zeroT]) rfl ⟨0, 0, ⟨#[]⟩, none, 0, 0, 0, 2, rfl, Or.inl ⟨hbig, rfl, rfl, rfl⟩, by go_grown⟩
  · have hbig' : (s.size : Int) ≤ 2048 := by omega
    have hs2 : s.size ≤ 2048 := by omega
    clear hbig
    have HR0 : Hid (Rd (w.heap.size + 1) s 0 0 ((w.alloc (.cells #[.int .i64 0, .int .i64 0, .string ⟨#[]⟩, .slice none 0 0] 24)).alloc (.cells #[.string s, .int .i64 0, .int .i64 0] 44))) := by
      have := heap_alloc_new (w.alloc (.cells #[.int .i64 0, .int .i64 0, .string ⟨#[]⟩, .slice none 0 0] 24)) (.cells #[.string s, .int .i64 0, .int .i64 0] 44)
      simpa [Hid, Rd] using this
    go_enter Tryd.func6, Tryd.ntmps6
    go_wp2_with (first
      | (go_at_call 14; refine (next_any (w.heap.size + 1) s 0 0 _ HR0.out (Nat.zero_le _) hs2).mono ?_; rintro e' w2 ⟨rfl, HN⟩)
      | (go_at_call 15; refine (term_any 2048 (w.heap.size + 1) s _ _ (toks s 0) w2 HN.out.1 (At.next (Nat.zero_le _)) hs2 (Nat.le_trans (toks_length s s.size 0 (by omega)) (by omega))).mono ?_; rintro e' w3 ⟨k, u, t, a, l, c, ok, rfl, HR⟩; obtain ⟨q1, hl3, q3, q4⟩ := par_boxes HN.out.2 HR.out.1; obtain ⟨⟨x0, x1, x2, x3⟩, f0, f1, f2, f3⟩ := q1.cells; have hl4 : w.heap.size < w3.heap.size := (by omega); obtain ⟨_, b', e', ts', HQ⟩ := HR.out; replace HQ := hide HQ; obtain ⟨⟨c0, c1, c2⟩, j1, j2⟩ := HQ.out.1.cells; have HB := hide (⟨q3, q4⟩ : _ ∧ _); replace q1 := hide q1; clear q3 q4; obtain ⟨x, hx⟩ : ∃ x, s.extract b' e' = x := ⟨_, rfl⟩; have HX := hide hx; clear hx; cases ok)
      | (go_at_call 16; refine (word_is (w.heap.size + 1) s b' e' x _ (HQ.out.1.alloc _) HQ.out.2.1.1 HQ.out.2.1.2.1 HX.out).mono ?_; rintro e2 w4 ⟨rfl, m, rfl⟩; cases hc : (x.toList == []))
      | (go_at_call 11; obtain ⟨y, hv, HY⟩ := par_tree HX.out hc hs2 HQ.out.2.1 HB.out.2 (HQ.out.2.2.1 (by trivial)) _ m; replace HY := hide HY; refine (show Calls _ _ #[.agg #[.int .i64 k, .int .i64 u, .string t, .slice a l c]] _ _ from hv ▸ tcheck_any 2049 y _ _ HY.out.2.1 (Nat.le_refl _) HY.out.2.2.2.1).mono ?_; rintro e3 w5 ⟨rfl, hb5⟩; obtain ⟨r1, r2⟩ := par_last q1.out hb5; obtain ⟨⟨y0, y1, y2, y3⟩, g0, g1, g2, g3⟩ := r1.cells; obtain ⟨⟨z0, z1, z2, z3⟩, p0, p1, p2, p3⟩ := r2.cells; have HB5 := hide hb5; clear r1 r2 hb5; replace hv := hide hv; obtain ⟨E, hE⟩ : ∃ E, chk 2049 y = E := ⟨_, rfl⟩; rw [hE]; replace hE := hide hE; by_cases hE0 : E = 0))
    · go_region
      go_wp2_with fail
      have hb := HB.out.1
      exact bodyPost_ret (v := .tuple #[zeroT, .int .i64 b', .int .i64 3]) (by simp [results, Tryd.results6, go_sem, zeroT, hl4, x0, x1, x2, x3]) rfl ⟨0, 0, ⟨#[]⟩, none, 0, 0, b', 3, rfl, Or.inr (Or.inl ⟨b', hs2, by rw [← HQ.out.2.1.pos]; exact HQ.out.2.2.2 (by trivial) 0, rfl, rfl, rfl⟩), by go_grown⟩
    · go_region
      go_wp2_with fail
      have hb := HB.out.1
      exact bodyPost_ret (v := .tuple #[zeroT, .int .i64 b', .int .i64 3]) (by simp [results, Tryd.results6, go_sem, zeroT, hl4, x0, x1, x2, x3]) rfl ⟨0, 0, ⟨#[]⟩, none, 0, 0, b', 3, rfl, Or.inr (Or.inl ⟨b', hs2, par_some HX.out hc HQ.out.2.1 ((HQ.out.2.2.1 (by trivial)).2 0), rfl, rfl, rfl⟩), below_set4 (below_drew (below_new hb _) _) _ _ _ _⟩
    · have hb := HB.out.1
      have hb5 := HB5.out
      exact bodyPost_ret (v := .tuple #[.agg #[.int .i64 k, .int .i64 u, .string t, .slice a l c], .int .i64 0, .int .i64 0]) (by simp [results, Tryd.results6, go_sem, y0, y1, y2, y3]) rfl ⟨k, u, t, a, l, c, 0, 0, rfl, Or.inr (Or.inr ⟨hs2, HY.out.2.2.2.2, 2049, y, HY.out.1, par_in HY.out.2.1 HY.out.2.2.1 HB5.out _ _ _ _, HY.out.2.2.1.mono (fun q hq => by omega), rfl, (hE.out.trans hE0).symm, Or.inr ⟨hE.out.trans hE0, hv.out⟩⟩), below_set4 ((below_drew (below_new hb _) m).trans (hb5.mono (below_drew (below_new hb _) m).size)) _ _ _ _⟩
    · have hb := HB.out.1
      have hb5 := HB5.out
      exact bodyPost_ret (v := .tuple #[zeroT, .int .i64 0, .int .i64 E]) (by simp [results, Tryd.results6, go_sem, zeroT, y0, y1, y2, y3]) rfl ⟨0, 0, ⟨#[]⟩, none, 0, 0, 0, E, rfl, Or.inr (Or.inr ⟨hs2, HY.out.2.2.2.2, 2049, y, HY.out.1, par_in HY.out.2.1 HY.out.2.2.1 HB5.out _ _ _ _, HY.out.2.2.1.mono (fun q hq => by omega), rfl, hE.out.symm, Or.inl ⟨by rw [hE.out]; exact hE0, rfl⟩⟩), below_set4 ((below_drew (below_new hb _) m).trans (hb5.mono (below_drew (below_new hb _) m).size)) _ _ _ _⟩
end Go.Proofs.YtdlplmpjcemnoabDoor
