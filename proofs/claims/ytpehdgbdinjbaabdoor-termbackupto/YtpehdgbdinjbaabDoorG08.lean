/- What is proved here: plain facts and contracts that the claimed theorem stands on, several texts in one: the program's reader goes on to the next word. Only the reader's own block turns. Condition: the reader lies in memory, its places within the text. plain facts on terms that a call builds: which blocks they lie in (Off), that they stay where those blocks stay, and that a row of terms that is owned holds its terms. No condition. nothing: the texts that a reader of terms needs, together. No condition. the program's reader reads one term (term, tuple): for every text of at most 2048 signs: which term the words ahead begin with, or where they can't go on. Only the reader's own block and new memory turn. the program's reader reads a tuple (tuple), where its term is read as said. Only the reader's own block and new memory turn. the program's reader reads one term (term): for every text of at most 2048 signs: which term the words ahead begin with, or where they can't go on. Only the reader's own block and new memory turn. the program's Parse: for every text: a text of more than 2048 signs is too long; else the words tell one term, whose check is told, or the place where they can't go on. Only new memory turns. -/
import Derived.Test.YtpehdgbdinjbaabDoorG07
import Derived.Test.YtpehdgbdinjbaabDoorG04
import Derived.BigRegion
namespace Go.Proofs.YtpehdgbdinjbaabDoor
open Go.RowKit

theorem moved_heap {w w1 w2 : World} {q : Option Nat} (h : w.grownBy w1 q) (h1 : w2.os = w1.os) (h2 : w2.tape = w1.tape) (h3 : w2.output = w1.output) (h4 : w2.heap = w1.heap) : w.grownBy w2 q :=
  ⟨h1.trans h.os, h2.trans h.tape, h3.trans h.output, by rw [h4]; exact h.size, fun k hk hne => by rw [h4]; exact h.block k hk hne⟩
theorem ends_is (c : UInt8) (w : World) (b : Bool) (h : enB c = b) : Calls Tryd.prog 37 #[.int .u8 c.toNat] w fun e w' => e = .returned (.bool b) ∧ w' = w := by
  rw [← h]; exact ends_any c w

set_option maxHeartbeats 8000000 in
theorem next_any (r : Nat) (s : ByteArray) (b0 e0 : Nat) (w : World) (h : Rd r s b0 e0 w) (he : e0 ≤ s.size) (hs : s.size ≤ 2048) :
    Calls Tryd.prog 19 #[.pointer (some ⟨r, 0, none⟩)] w fun e' w' => e' = .returned (.tuple #[]) ∧ Hid (Rd r s (wordB s e0) (wordE s e0) w' ∧ w.grownBy w' (some r)) := by
  obtain ⟨⟨c0, c1, c2⟩, f1, f2⟩ := h.cells
  have H0 := hide (⟨h.set1 e0, moved_set w r 1 (.int .i64 e0)⟩ : _ ∧ _)
  clear h
  go_enter Tryd.func19, Tryd.ntmps19
  go_wp2_with fail
  go_loopw [] (fun wr => ∃ k : Nat, k ≤ s.size ∧ Hid (Rd r s k e0 wr ∧ w.grownBy wr (some r) ∧ skipTo blB s k = wordB s e0) ∧ True) (fun wr => s.size - (intOf ((wr.cell? ⟨r, 1, none⟩).getD undef)).toNat)
  case atStart => exact ⟨e0, he, ⟨H0.out.1, H0.out.2, rfl⟩, trivial⟩
  case round =>
    obtain ⟨k, hk, HR, _⟩ := hrel
    obtain ⟨⟨c0, c1, c2⟩, f1, f2⟩ := HR.out.1.cells
    by_cases hst : ∃ h : k < s.size, s[k] = 32
    · obtain ⟨hlt, hb⟩ := hst
      have hlt' : (k : Int) < s.size := by omega
      have hg : decide ((k : Int) < s.size) = true := by simp; omega
      have HS := hide (skip_step (p := blB) hlt (by simp [blB, hb]))
      go_wp2_with fail
      go_quiet (fail)
      go_wp2_with fail
      go_roundw
      case rel => exact ⟨k + 1, by omega, ⟨(HR.out.1.drew nq).set1 (k + 1), moved_trans HR.out.2.1 (moved_trans (moved_drew wr nq _) (moved_set _ _ _ _)), by rw [HS.out]; exact HR.out.2.2⟩, trivial⟩
      case measure => simp [go_sem, c1, intOf]; omega
    · have HK : Hid (wordB s e0 = k) := by
        rw [← HR.out.2.2]
        by_cases hlt : k < s.size
        · exact skip_stop (p := blB) hlt (by simp [blB]; exact fun h => hst ⟨hlt, h⟩)
        · exact skip_end (p := blB) hlt
      have hcase : ((¬ k < s.size) ∧ decide ((k : Int) < s.size) = false) ∨ ((k : Int) < s.size ∧ decide ((k : Int) < s.size) = true ∧ ∃ h : k < s.size, ((s[k].toNat : Int) == 32) = false) := by
        by_cases hlt : k < s.size
        · have hb' := byte_ne (k := 32) (d := 32) rfl (fun h => hst ⟨hlt, h⟩)
          exact Or.inr ⟨by omega, by simp; omega, hlt, by simp; omega⟩
        · exact Or.inl ⟨hlt, by simp; omega⟩
      clear hst
      rcases hcase with ⟨hlt, hg⟩ | ⟨hlt', hg, hlt, hbb⟩
      all_goals
        go_wp2_with fail
        go_quiet (fail)
        have HR2 := hide (show Rd r s k k ((wr.drewN nq).setCell ⟨r, 2, none⟩ (.int .i64 k)) ∧ w.grownBy ((wr.drewN nq).setCell ⟨r, 2, none⟩ (.int .i64 k)) (some r) from ⟨(HR.out.1.drew nq).set2 k, moved_trans HR.out.2.1 (moved_trans (moved_drew wr nq _) (moved_set _ _ _ _))⟩)
        go_wp2_with fail
        go_loopw [] (fun wq => ∃ q : Nat, q ≤ s.size ∧ k ≤ q ∧ Hid (Rd r s k q wq ∧ w.grownBy wq (some r) ∧ skipTo (fun c => !enB c) s q = skipTo (fun c => !enB c) s k) ∧ True) (fun wq => s.size - (intOf ((wq.cell? ⟨r, 2, none⟩).getD undef)).toNat)
        case atStart => exact ⟨k, hk, Nat.le_refl _, ⟨HR2.out.1, HR2.out.2, rfl⟩, trivial⟩
        case round =>
          obtain ⟨q, hq, hkq, HQ, _⟩ := hrel
          obtain ⟨⟨c0, c1, c2⟩, f1, f2⟩ := HQ.out.1.cells
          by_cases hst : ∃ h : q < s.size, enB s[q] = false
          · obtain ⟨qlt, qb⟩ := hst
            have hno : k < s.size := Nat.lt_of_le_of_lt hkq qlt
            first | exact absurd hno hlt | skip
            all_goals
              have qlt' : (q : Int) < s.size := by omega
              have qg : decide ((q : Int) < s.size) = true := by simp; omega
              have HS := hide (skip_step (p := fun c => !enB c) qlt (by simp [qb]))
              go_wp2_with fail
              go_quiet ((go_at_call 37; exact Calls.quiet_of_same (ends_is s[q] _ _ qb)))
              go_wp2_with fail
              go_roundw
              case rel => exact ⟨q + 1, by omega, by omega, ⟨(HQ.out.1.drew _).set2 (q + 1), moved_trans HQ.out.2.1 (moved_trans (moved_drew _ _ _) (moved_set _ _ _ _)), by rw [HS.out]; exact HQ.out.2.2⟩, trivial⟩
              case measure => simp [go_sem, c2, intOf]; omega
          · have HK2 : Hid (skipTo (fun c => !enB c) s k = q) := by
              rw [← HQ.out.2.2]
              by_cases hlt : q < s.size
              · exact skip_stop (p := fun c => !enB c) hlt (by simp; cases h : enB s[q]; exact absurd ⟨hlt, h⟩ hst; rfl)
              · exact skip_end (p := fun c => !enB c) hlt
            have qcase : ((¬ q < s.size) ∧ decide ((q : Int) < s.size) = false) ∨ ((q : Int) < s.size ∧ decide ((q : Int) < s.size) = true ∧ ∃ h : q < s.size, enB s[q] = true) := by
              by_cases hlt : q < s.size
              · exact Or.inr ⟨by omega, by simp; omega, hlt, by cases h : enB s[q]; exact absurd ⟨hlt, h⟩ hst; rfl⟩
              · exact Or.inl ⟨hlt, by simp; omega⟩
            clear hst
            rcases qcase with ⟨qlt, qg⟩ | ⟨qlt', qg, qlt, qb⟩
            · have HE : Hid (wordE s e0 = q) := by
                simp only [Hid, wordE, HK.out, HK2.out]
                rw [if_neg (by omega)]
              go_wp2_with fail
              go_quiet (fail)
              go_wp2_with fail
              by_cases hqk : q = k
              · first | exact absurd (show q < s.size by omega) qlt | skip
                all_goals
                  subst hqk
                  go_quiet (fail)
                  go_wp2_with fail
                  go_end0
                  refine ⟨rfl, ?_, moved_heap HQ.out.2.1 rfl rfl rfl rfl⟩
                  rw [HK.out, HE.out]
                  exact HQ.out.1
              · first | exact absurd (show q = k by omega) hqk | skip
                all_goals
                  have hq1 : ((q : Int) == k) = false := by simp; omega
                  have hq2 : (q == k) = false := by simp; omega
                  have hq3 : decide (q = k) = false := by simp; omega
                  have hq4 : decide ((q : Int) = k) = false := by simp; omega
                  clear hqk
                  go_quiet (fail)
                  go_wp2_with fail
                  go_end0
                  refine ⟨rfl, ?_, moved_heap HQ.out.2.1 rfl rfl rfl rfl⟩
                  rw [HK.out, HE.out]
                  exact HQ.out.1
            · have hno : k < s.size := Nat.lt_of_le_of_lt hkq qlt
              first | exact absurd hno hlt | skip
              all_goals
                go_wp2_with fail
                go_quiet ((go_at_call 37; exact Calls.quiet_of_same (ends_is s[q] _ _ qb)))
                go_wp2_with fail
                by_cases hqk : q = k
                · have HE : Hid (wordE s e0 = q + 1) := by
                    simp only [Hid, wordE, HK.out, HK2.out]
                    rw [if_pos ⟨hqk, by omega⟩]
                    omega
                  subst hqk
                  go_quiet (fail)
                  go_wp2_with fail
                  go_end0
                  refine ⟨rfl, ?_, moved_trans HQ.out.2.1 (moved_trans (moved_drew _ _ _) (moved_set _ _ _ _))⟩
                  rw [HK.out, HE.out]
                  exact Rd.set2 HQ.out.1 (q + 1)
                · have HE : Hid (wordE s e0 = q) := by
                    simp only [Hid, wordE, HK.out, HK2.out]
                    rw [if_neg (by omega)]
                  have hq1 : ((q : Int) == k) = false := by simp; omega
                  have hq2 : (q == k) = false := by simp; omega
                  have hq3 : decide (q = k) = false := by simp; omega
                  have hq4 : decide ((q : Int) = k) = false := by simp; omega
                  clear hqk
                  go_quiet (fail)
                  go_wp2_with fail
                  go_end0
                  refine ⟨rfl, ?_, moved_heap HQ.out.2.1 rfl rfl rfl rfl⟩
                  rw [HK.out, HE.out]
                  exact HQ.out.1
end Go.Proofs.YtpehdgbdinjbaabDoor
namespace Go.Proofs.YtpehdgbdinjbaabDoor
open Go.RowKit

/-- Every block that a term leads to is one of these. -/
def Off (P : Nat → Prop) : (n : Nat) → Tm n → Prop
  | 0, _ => False
  | n + 1, x => x.2.2 = [] ∨ ∃ b o, x.2.1.1 = some ⟨b, o, none⟩ ∧ P b ∧ ∀ (i : Nat) (y : Tm n), x.2.2[i]? = some y → Off P n y

theorem Off.mono {P Q : Nat → Prop} (h : ∀ b, P b → Q b) : {n : Nat} → {x : Tm n} → Off P n x → Off Q n x
  | 0, _, k => k
  | _ + 1, _, k => by
    rcases k with k | ⟨b, o, e, hb, k⟩
    · exact Or.inl k
    · exact Or.inr ⟨b, o, e, h b hb, fun i y hy => (k i y hy).mono h⟩

theorem block_cell {w w' : World} {b : Nat} (h : w'.heap[b]? = w.heap[b]?) (o : Nat) : w'.cell? ⟨b, o, none⟩ = w.cell? ⟨b, o, none⟩ := by
  simp [World.cell?, h]
theorem Held.block {w w' : World} {b o : Nat} (h : w'.heap[b]? = w.heap[b]?) : {n : Nat} → {x : Tm n} → Held w b o n x → Held w' b o n x
  | 0, _, k => k
  | _ + 1, _, k => by
    obtain ⟨k0, k1, k2, k3⟩ := k
    exact ⟨(block_cell h _).trans k0, (block_cell h _).trans k1, (block_cell h _).trans k2, (block_cell h _).trans k3⟩
theorem In.off {P : Nat → Prop} {w w' : World} (h : ∀ b, P b → w'.heap[b]? = w.heap[b]?) {B : Nat} : {n : Nat} → {x : Tm n} → Off P n x → In B w n x → In B w' n x
  | 0, _, _, k => k
  | _ + 1, _, p, k => by
    obtain ⟨k0, k1⟩ := k
    refine ⟨k0, ?_⟩
    rcases k1 with k1 | ⟨b, o, e, hb, k1⟩
    · exact Or.inl k1
    · rcases p with p | ⟨b', o', e', hb', p⟩
      · exact Or.inl p
      · rw [e] at e'
        injection e' with e'
        injection e' with e1 e2
        subst e1 e2
        exact Or.inr ⟨b, o, e, hb, fun i y hy => ⟨(k1 i y hy).1.block (h b hb'), (k1 i y hy).2.off h (p i y hy)⟩⟩
theorem In.offB {P : Nat → Prop} {B : Nat} {w : World} : {n : Nat} → {x : Tm n} → Off P n x → In B w n x → Off (fun b => P b ∧ b < B) n x
  | 0, _, p, _ => p
  | _ + 1, _, p, k => by
    obtain ⟨_, k1⟩ := k
    rcases p with p | ⟨b, o, e, hb, p⟩
    · exact Or.inl p
    · rcases k1 with k1 | ⟨b', o', e', hb', k1⟩
      · exact Or.inl k1
      · rw [e] at e'
        injection e' with e'
        injection e' with e1 e2
        subst e1 e2
        exact Or.inr ⟨b, o, e, ⟨hb, hb'⟩, fun i y hy => In.offB (p i y hy) (k1 i y hy).2⟩

/-- A term's own four cells. -/
def hdT : (n : Nat) → Tm n → Nd
  | 0, _ => ((0, 0, ⟨#[]⟩), (none, 0, 0))
  | n + 1, x => hdOf n x
theorem hd_held {w : World} {base g c L : Nat} {n : Nat} {l : List (Tm (n + 1))} (h : w.ownsRow base 24 4 (.slice (some ⟨g, 0, none⟩) L c) L (ndCells (l.map (hdT (n + 1))))) (k : Nat) (x : Tm (n + 1)) (hx : l[k]? = some x) :
    Held w g (0 + k * 4) (n + 1) x := by
  have h1 := own_nd h k (hdT (n + 1) x) (by simp [hx])
  rw [Nat.zero_add]
  exact h1

/-- What a tuple's reading has so far: terms l, in a row of blocks from base on; no term lies in the row's own block. -/
def RowOf (base : Nat) (n : Nat) (l : List (Tm n)) (v : Value) (w : World) : Prop :=
  w.ownsRow base 24 4 v l.length (ndCells (l.map (hdT n))) ∧ ∀ y ∈ l, In w.heap.size w n y ∧ Off (fun b => base ≤ b ∧ v.ownBlock ≠ some b) n y

/-- The row is a tuple. -/
theorem RowOf.tup {base n : Nat} {l : List (Tm (n + 1))} {v : Value} {w : World} (h : RowOf base (n + 1) l v w) : ∃ a c, v = .slice a l.length c ∧ Off (fun b => base ≤ b) (n + 2) ((4, 0, ⟨#[]⟩), (a, c), l) ∧ In w.heap.size w (n + 2) ((4, 0, ⟨#[]⟩), (a, c), l) := by
  obtain ⟨h1, h2⟩ := h
  have hI : I64 4 ∧ I64 0 ∧ (⟨#[]⟩ : ByteArray).size ≤ maxLen := ⟨⟨by omega, by omega⟩, ⟨by omega, by omega⟩, Nat.zero_le _⟩
  have h3 := h1
  obtain ⟨h3a, h3⟩ := h3
  rcases h3 with ⟨h3, h4⟩ | ⟨g, cap, cur, rfl, hg, hh, hc, hm, hz, he⟩
  · have : l = [] := List.eq_nil_of_length_eq_zero h4
    subst this
    refine ⟨none, 0, by rw [h3]; rfl, Or.inl rfl, ⟨hI.1, hI.2.1, hI.2.2, Nat.zero_le _, Nat.zero_le _⟩, Or.inl rfl⟩
  · have hlt : g < w.heap.size := (Array.getElem?_eq_some_iff.1 hh).1
    refine ⟨some ⟨g, 0, none⟩, cap, rfl, Or.inr ⟨g, 0, rfl, hg, fun i y hy => ((h2 y (List.mem_of_getElem? hy)).2).mono fun b hb => hb.1⟩, ⟨hI.1, hI.2.1, hI.2.2, hc, hm⟩, Or.inr ⟨g, 0, rfl, hlt, fun i y hy => ⟨hd_held h1 i y hy, (h2 y (List.mem_of_getElem? hy)).1⟩⟩⟩
end Go.Proofs.YtpehdgbdinjbaabDoor

namespace Go.Proofs.YtpehdgbdinjbaabDoor
open Go.RowKit

theorem moved_alloc {w w1 : World} {q : Option Nat} (h : w.grownBy w1 q) (o : Obj) : w.grownBy (w1.alloc o) q :=
  ⟨h.os, h.tape, h.output, by have := h.size; simp; omega, fun k hk hne => by
    exact (((Below.refl w1.heap.size w1).alloc (Nat.le_refl _) o).block k (Nat.lt_of_lt_of_le hk h.size)).trans (h.block k hk hne)⟩
theorem moved_new {w w1 : World} {q : Option Nat} (h : w.grownBy w1 q) {b : Nat} (hb : w.heap.size ≤ b) (o : Nat) (v : Value) : w.grownBy (w1.setCell ⟨b, o, none⟩ v) q :=
  ⟨h.os, h.tape, h.output, by simpa [World.setCell] using h.size, fun k hk hne => (Below.heap_setCell w1 ⟨b, o, none⟩ v k (by simp; omega)).trans (h.block k hk hne)⟩
theorem moved_far {w w1 w2 : World} {q : Option Nat} (h : w.grownBy w1 q) {g : Option Nat} (k : w1.grownBy w2 g) (hg : ∀ b, g = some b → w.heap.size ≤ b) : w.grownBy w2 q :=
  ⟨k.os.trans h.os, k.tape.trans h.tape, k.output.trans h.output, Nat.le_trans h.size k.size, fun i hi hne => (k.block i (Nat.lt_of_lt_of_le hi h.size) (fun e => by have := hg i e.symm; omega)).trans (h.block i hi hne)⟩
theorem moved_below {w w1 w2 : World} {q : Option Nat} (h : w.grownBy w1 q) (k : Below w1.heap.size w1 w2) : w.grownBy w2 q :=
  ⟨k.os.trans h.os, k.tape.trans h.tape, k.output.trans h.output, Nat.le_trans h.size k.size, fun i hi hne => (k.block i (Nat.lt_of_lt_of_le hi h.size)).trans (h.block i hi hne)⟩
theorem Rd.block {r : Nat} {s : ByteArray} {b e : Nat} {w w' : World} (h : Rd r s b e w) (k : w'.heap[r]? = w.heap[r]?) : Rd r s b e w' := k.trans h
theorem Rd.alloc {r : Nat} {s : ByteArray} {b e : Nat} {w : World} (h : Rd r s b e w) (o : Obj) : Rd r s b e (w.alloc o) :=
  h.block (((Below.refl w.heap.size w).alloc (Nat.le_refl _) o).block r h.lt)
theorem Rd.far {r : Nat} {s : ByteArray} {b e : Nat} {w : World} (h : Rd r s b e w) {g : Nat} (hg : r < g) (o : Nat) (v : Value) : Rd r s b e (w.setCell ⟨g, o, none⟩ v) :=
  h.block (Below.heap_setCell w ⟨g, o, none⟩ v r (by simp; omega))

/-- The words ahead of a reader, by its places. -/
def ahead (s : ByteArray) (b e : Nat) : List Tok := if b < s.size then (b, s.extract b e) :: toks s e else []
def msr (r : Nat) (s : ByteArray) (w : World) : Nat := (ahead s (intOf ((w.cell? ⟨r, 1, none⟩).getD undef)).toNat (intOf ((w.cell? ⟨r, 2, none⟩).getD undef)).toNat).length
theorem msr_of {r : Nat} {s : ByteArray} {b e : Nat} {w : World} {ts : List Tok} (h : Rd r s b e w) (k : At s b e ts) : msr r s w = ts.length := by
  obtain ⟨⟨c0, c1, c2⟩, f1, f2⟩ := h.cells
  simp only [msr, c1, c2, Option.getD_some, intOf, Int.toNat_natCast, ahead]
  rcases k.2.2 with ⟨h1, rfl⟩ | ⟨h1, rfl⟩
  · rw [if_neg (by omega)]
  · rw [if_pos (by have := k.2.1; omega)]

/-- What a reading of one term tells: v, ok; the words ts were ahead. -/
def RRes (n : Nat) (s : ByteArray) (r : Nat) (ts : List Tok) (w w' : World) (v : Value) (ok : Bool) : Prop :=
  w.grownBy w' (some r) ∧ ∃ b e ts', Rd r s b e w' ∧ At s b e ts' ∧
    (ok = true → (∃ x : Tm n, val n x = v ∧ Is n x ts ts' ∧ In w'.heap.size w' n x ∧ Off (fun q => w.heap.size ≤ q) n x) ∧ ∀ d, exp s.size ts d = scanD s.size ts' d) ∧
    (ok = false → ∀ d, exp s.size ts d = some (posOf s.size ts'))
def ROut (n : Nat) (s : ByteArray) (r : Nat) (ts : List Tok) (w w' : World) (e : Ending) : Prop :=
  ∃ (k u : Int) (t : ByteArray) (a : Option Addr) (l c : Nat) (ok : Bool), e = .returned (.tuple #[.agg #[.int .i64 k, .int .i64 u, .string t, .slice a l c], .bool ok]) ∧
    Hid (RRes n s r ts w w' (.agg #[.int .i64 k, .int .i64 u, .string t, .slice a l c]) ok)
def FTerm (n : Nat) : Prop := ∀ (r : Nat) (s : ByteArray) (b e : Nat) (ts : List Tok) (w : World), Rd r s b e w → At s b e ts → s.size ≤ 2048 → ts.length ≤ n →
  Calls Tryd.prog 20 #[.pointer (some ⟨r, 0, none⟩)] w fun e' w' => ROut (n + 1) s r ts w w' e'

theorem word_is (r : Nat) (s : ByteArray) (b e : Nat) (x : ByteArray) (w : World) (h : Rd r s b e w) (hb : b ≤ e) (he : e ≤ s.size) (hx : s.extract b e = x) :
    Calls Tryd.prog 21 #[.pointer (some ⟨r, 0, none⟩)] w fun e' w' => e' = .returned (.string x) ∧ ∃ n, w' = w.drewN n := by
  subst hx; exact word_any r s b e w h hb he

/-- Four cells of a term's box. -/
def Bx (q : Nat) (v0 v1 v2 v3 : Value) (w : World) : Prop := w.heap[q]? = some (.cells #[v0, v1, v2, v3] 24)
theorem Bx.cells {q : Nat} {v0 v1 v2 v3 : Value} {w : World} (h : Bx q v0 v1 v2 v3 w) :
    (w.cell? ⟨q, 0, none⟩ = some v0 ∧ w.cell? ⟨q, 1, none⟩ = some v1 ∧ w.cell? ⟨q, 2, none⟩ = some v2 ∧ w.cell? ⟨q, 3, none⟩ = some v3) ∧
    (w.frozen? ⟨q, 0, none⟩ = false ∧ w.frozen? ⟨q, 1, none⟩ = false ∧ w.frozen? ⟨q, 2, none⟩ = false ∧ w.frozen? ⟨q, 3, none⟩ = false) := by
  unfold Bx at h
  exact ⟨⟨by simp [World.cell?, h], by simp [World.cell?, h], by simp [World.cell?, h], by simp [World.cell?, h]⟩, by simp [World.frozen?, h], by simp [World.frozen?, h], by simp [World.frozen?, h], by simp [World.frozen?, h]⟩
theorem Bx.block {q : Nat} {v0 v1 v2 v3 : Value} {w w' : World} (h : Bx q v0 v1 v2 v3 w) (k : w'.heap[q]? = w.heap[q]?) : Bx q v0 v1 v2 v3 w' := k.trans h
theorem Bx.lt {q : Nat} {v0 v1 v2 v3 : Value} {w : World} (h : Bx q v0 v1 v2 v3 w) : q < w.heap.size := (Array.getElem?_eq_some_iff.1 h).1
theorem Bx.set3 {q : Nat} {v0 v1 v2 v3 : Value} {w : World} (h : Bx q v0 v1 v2 v3 w) (v : Value) : Bx q v0 v1 v2 v (w.setCell ⟨q, 3, none⟩ v) := by
  unfold Bx at *
  simp [World.setCell, Array.getElem?_modify, h]
theorem Bx.new (w : World) (v0 v1 v2 v3 : Value) : Bx w.heap.size v0 v1 v2 v3 (w.alloc (.cells #[v0, v1, v2, v3] 24)) := heap_alloc_new w _

/-- What holds in a tuple's reading, at the loop. -/
def TupQ (n : Nat) (r : Nat) (s : ByteArray) (ts1 : List Tok) (w : World) (b e : Nat) (v : Value) (wr : World) (l : List (Tm (n + 1))) (ts' : List Tok) : Prop :=
  Rd r s b e wr ∧ At s b e ts' ∧ (w.alloc (.cells #[.int .i64 0, .int .i64 0, .string ⟨#[]⟩, .slice none 0 0] 24)).grownBy wr (some r) ∧ RowOf (w.heap.size + 2) (n + 1) l v wr ∧
    Bx w.heap.size (.int .i64 0) (.int .i64 0) (.string ⟨#[]⟩) (.slice none 0 0) wr ∧ Bx (w.heap.size + 1) (.int .i64 4) (.int .i64 0) (.string ⟨#[]⟩) v wr ∧
    IsL (Is (n + 1)) l ts1 ts' ∧ ts'.length ≤ ts1.length ∧ ∀ d, scanD s.size ts1 (d + 1) = scanD s.size ts' (d + 1)
def TupP (n : Nat) (r : Nat) (s : ByteArray) (ts1 : List Tok) (w : World) (b e : Nat) (v : Value) (wr : World) : Prop :=
  ∃ (l : List (Tm (n + 1))) (ts' : List Tok), TupQ n r s ts1 w b e v wr l ts'

theorem alloc_block (w : World) (o : Obj) {q : Nat} (h : q < w.heap.size) : (w.alloc o).heap[q]? = w.heap[q]? := (World.grownBy_alloc w o none).block q h (by simp)

theorem tup_start {n r : Nat} {s : ByteArray} {b e : Nat} {t0 : Tok} {ts1 : List Tok} {w w1 : World} (h : Rd r s b e w) (hat : At s b e (t0 :: ts1)) (k : Rd r s (wordB s e) (wordE s e) w1)
    (g : ((w.alloc (.cells #[.int .i64 0, .int .i64 0, .string ⟨#[]⟩, .slice none 0 0] 24)).alloc (.cells #[.int .i64 4, .int .i64 0, .string ⟨#[]⟩, .slice none 0 0] 24)).grownBy w1 (some r)) :
    TupP n r s ts1 w (wordB s e) (wordE s e) (.slice none 0 0) w1 := by
  have hlt := h.lt
  have e1 := (At.cons hat).2.1
  refine ⟨[], ts1, k, by rw [e1]; exact At.next hat.2.1, moved_trans (World.grownBy_alloc _ _ _) g, ⟨⟨rfl, Or.inl ⟨rfl, rfl⟩⟩, by simp⟩, ?_, ?_, rfl, Nat.le_refl _, fun _ => rfl⟩
  · exact ((Bx.new w _ _ _ _).block (alloc_block _ _ (by simp))).block (g.block _ (by simp; omega) (by simp; omega))
  · have := Bx.new (w.alloc (.cells #[.int .i64 0, .int .i64 0, .string ⟨#[]⟩, .slice none 0 0] 24)) (.int .i64 4) (.int .i64 0) (.string ⟨#[]⟩) (.slice none 0 0)
    have e2 : (w.alloc (.cells #[.int .i64 0, .int .i64 0, .string ⟨#[]⟩, .slice none 0 0] 24)).heap.size = w.heap.size + 1 := by simp
    rw [e2] at this
    exact this.block (g.block _ (by simp) (by simp; omega))

theorem RowOf.kept {base n : Nat} {l : List (Tm n)} {v : Value} {w w' : World} (h : RowOf base n l v w) {r : Nat} (g : w.grownBy w' (some r)) (hr : r < base) : RowOf base n l v w' := by
  refine ⟨h.1.kept g (Or.inr fun e => by have := h.1.lt r e; omega), fun y hy => ⟨?_, (h.2 y hy).2⟩⟩
  obtain ⟨h1, h2⟩ := h.2 y hy
  have h3 := In.offB h2 h1
  exact (In.off (fun b hb => g.block b hb.2 (by simp; omega)) h3 h1).mono g.size

/-- One more term, behind an append. -/
theorem RowOf.snoc {base n : Nat} {l : List (Tm (n + 1))} {v : Value} {w0 w w2 : World} (h : RowOf base (n + 1) l v w0) {r : Nat} (g0 : w0.grownBy w (some r)) (hr : r < base) {x : Tm (n + 1)} (hx : In w.heap.size w (n + 1) x) (hf : Off (fun q => w0.heap.size ≤ q) (n + 1) x) (hb0 : base ≤ w0.heap.size)
    {w1 : World} (g1 : w.grownBy w1 none) {g c : Nat} (hown : w2.ownsRow base 24 4 (.slice (some ⟨g, 0, none⟩) (l.length + 1) c) (l.length + 1) (ndCells (l.map (hdT (n + 1))) ++ nd4 (hdT (n + 1) x)))
    (g2 : w1.grownBy w2 v.ownBlock) (hat : v.ownBlock = some g ∨ g = w1.heap.size) : RowOf base (n + 1) (l ++ [x]) (.slice (some ⟨g, 0, none⟩) (l.length + 1) c) w2 := by
  have hk := h.kept g0 hr
  have z0 := g0.size
  have z1 := g1.size
  have z2 := g2.size
  have hvb : ∀ b, v.ownBlock = some b → b < w0.heap.size := fun b e => (h.1.lt b e).2
  refine ⟨by simpa [ndCells] using hown, fun y hy => ?_⟩
  have key : ∀ y : Tm (n + 1), In w.heap.size w (n + 1) y → Off (fun b => base ≤ b ∧ v.ownBlock ≠ some b) (n + 1) y →
      In w2.heap.size w2 (n + 1) y ∧ Off (fun b => base ≤ b ∧ (Value.slice (some ⟨g, 0, none⟩) (l.length + 1) c).ownBlock ≠ some b) (n + 1) y := by
    intro y h1 h2
    have h3 := In.offB h2 h1
    refine ⟨(In.off (fun b hb => (g2.block b (by omega) (fun e => hb.1.2 e.symm)).trans (g1.block b hb.2 (by simp))) h3 h1).mono (by omega), h3.mono fun b hb => ⟨hb.1.1, ?_⟩⟩
    intro e
    have e' : g = b := by simpa [Value.ownBlock] using e
    rcases hat with h | h
    · exact hb.1.2 (by rw [h, e'])
    · omega
  rcases List.mem_append.1 hy with hy | hy
  · exact key y (hk.2 y hy).1 (hk.2 y hy).2
  · have e : y = x := by simpa using hy
    subst e
    exact key y hx (hf.mono fun b hb => ⟨by omega, fun e => by have := hvb b e; omega⟩)

/-- The tuple's end. -/
theorem tup_close {n r : Nat} {s : ByteArray} {t0 : Tok} {ts1 : List Tok} {w wr w2 : World} {b e : Nat} {a : Option Addr} {L c m : Nat} (hr : r < w.heap.size) (ho : isO t0.2 = true) (h : TupP n r s ts1 w b e (.slice a L c) wr)
    (hc : isC (s.extract b e) = true) (k : Rd r s (wordB s e) (wordE s e) w2) (g : (wr.drewN m).grownBy w2 (some r)) :
    RRes (n + 2) s r (t0 :: ts1) (w.alloc (.cells #[.int .i64 0, .int .i64 0, .string ⟨#[]⟩, .slice none 0 0] 24)) w2 (.agg #[.int .i64 4, .int .i64 0, .string ⟨#[]⟩, .slice a L c]) true ∧
      Bx w.heap.size (.int .i64 0) (.int .i64 0) (.string ⟨#[]⟩) (.slice none 0 0) w2 ∧ Bx (w.heap.size + 1) (.int .i64 4) (.int .i64 0) (.string ⟨#[]⟩) (.slice a L c) w2 := by
  obtain ⟨l, ts', h1, h2, h3, h4, h5, h6, h7, h8, h9⟩ := h
  have z3 := h3.size
  have z4 := h6.lt
  have g' : wr.grownBy w2 (some r) := moved_trans (moved_drew wr m _) g
  obtain ⟨a', c', ev, hoff, hin⟩ := (h4.kept g' (by omega)).tup
  injection ev with e1 e2 e3
  subst e1 e2 e3
  refine ⟨⟨moved_trans h3 g', wordB s e, wordE s e, toks s e, k, At.next h2.2.1, fun _ => ⟨⟨_, rfl, ?_, hin, hoff.mono fun q hq => by simp; omega⟩, ?_⟩, by simp⟩, h5.block (g'.block _ h5.lt (by simp; omega)), h6.block (g'.block _ z4 (by simp; omega))⟩
  · cases ts' with
    | nil => simp [isC, h2.nil] at hc
    | cons t ts' =>
      obtain ⟨e1, e2, _⟩ := h2.cons
      subst e1 e2
      exact ⟨t0, ts1, rfl, Or.inr ⟨ho, rfl, _, h7, hc⟩⟩
  · intro d
    cases ts' with
    | nil => simp [isC, h2.nil] at hc
    | cons t ts' =>
      obtain ⟨e1, e2, _⟩ := h2.cons
      subst e1 e2
      simp only [exp, ho, if_true]
      rw [h9 d, scan_close _ _ _ _ hc]

theorem RRes.box {n r : Nat} {s : ByteArray} {ts : List Tok} {w w1 : World} {o : Obj} {v : Value} {ok : Bool} (hr : r < w.heap.size) (h : RRes n s r ts (w.alloc o) w1 v ok) (v0 v1 v2 v3 : Value) :
    RRes n s r ts w ((((w1.setCell ⟨w.heap.size, 0, none⟩ v0).setCell ⟨w.heap.size, 1, none⟩ v1).setCell ⟨w.heap.size, 2, none⟩ v2).setCell ⟨w.heap.size, 3, none⟩ v3) v ok := by
  obtain ⟨h1, b, e, ts', h2, h3, h4, h5⟩ := h
  refine ⟨moved_new (moved_new (moved_new (moved_new (moved_trans (World.grownBy_alloc _ _ _) h1) (Nat.le_refl _) _ _) (Nat.le_refl _) _ _) (Nat.le_refl _) _ _) (Nat.le_refl _) _ _, b, e, ts', (((h2.far hr _ _).far hr _ _).far hr _ _).far hr _ _, h3, fun hk => ?_, h5⟩
  obtain ⟨⟨x, x1, x2, x3, x4⟩, x5⟩ := h4 hk
  have hb : ∀ b, (w.alloc o).heap.size ≤ b → ((((w1.setCell ⟨w.heap.size, 0, none⟩ v0).setCell ⟨w.heap.size, 1, none⟩ v1).setCell ⟨w.heap.size, 2, none⟩ v2).setCell ⟨w.heap.size, 3, none⟩ v3).heap[b]? = w1.heap[b]? := fun b hb => by
    have hb' : w.heap.size < b := by simp at hb; omega
    rw [Below.heap_setCell _ _ _ _ (by simp; omega), Below.heap_setCell _ _ _ _ (by simp; omega), Below.heap_setCell _ _ _ _ (by simp; omega), Below.heap_setCell _ _ _ _ (by simp; omega)]
  refine ⟨⟨x, x1, x2, (In.off hb x4 x3).mono (by simp [World.setCell]), x4.mono fun q hq => by simp at hq; omega⟩, x5⟩
theorem RRes.alloc {n r : Nat} {s : ByteArray} {ts : List Tok} {w w1 : World} {v : Value} {ok : Bool} (h : RRes n s r ts w w1 v ok) (o : Obj) : RRes n s r ts w (w1.alloc o) v ok := by
  obtain ⟨h1, b, e, ts', h2, h3, h4, h5⟩ := h
  refine ⟨moved_alloc h1 o, b, e, ts', h2.alloc o, h3, fun hk => ?_, h5⟩
  obtain ⟨⟨x, x1, x2, x3, x4⟩, x5⟩ := h4 hk
  exact ⟨⟨x, x1, x2, (In.off (fun b hb => alloc_block w1 o hb.2) (In.offB x4 x3) x3).mono (by simp), x4⟩, x5⟩
end Go.Proofs.YtpehdgbdinjbaabDoor
namespace Go.Proofs.YtpehdgbdinjbaabDoor
open Go.RowKit

theorem At.one {s : ByteArray} {b e : Nat} {ts ts' : List Tok} (h : At s b e ts) (k : At s b e ts') : ts = ts' := by
  rcases h.2.2 with ⟨h1, rfl⟩ | ⟨h1, rfl⟩ <;> rcases k.2.2 with ⟨k1, rfl⟩ | ⟨k1, rfl⟩
  · rfl
  · have := h.2.1; omega
  · have := h.2.1; omega
  · rfl
theorem At.no {s : ByteArray} {b e : Nat} {ts : List Tok} (h : At s b e ts) (hc : isC (s.extract b e) = false) : ∀ t ts', ts = t :: ts' → isC t.2 = false := by
  intro t ts' e
  subst e
  rw [h.cons.1]
  exact hc

theorem tup_boxes {n r : Nat} {s : ByteArray} {ts1 ts' : List Tok} {w wr w1 : World} {b e m : Nat} {v : Value} {l : List (Tm (n + 1))} (hr : r < w.heap.size) (h : TupQ n r s ts1 w b e v wr l ts') (g : (wr.drewN m).grownBy w1 (some r)) :
    Bx w.heap.size (.int .i64 0) (.int .i64 0) (.string ⟨#[]⟩) (.slice none 0 0) w1 ∧ Bx (w.heap.size + 1) (.int .i64 4) (.int .i64 0) (.string ⟨#[]⟩) v w1 ∧ w.heap.size + 1 < w1.heap.size := by
  obtain ⟨h1, h2, h3, h4, h5, h6, h7, h8, h9⟩ := h
  have h := h6.block (g.block _ h6.lt (by simp; omega))
  exact ⟨h5.block (g.block _ h5.lt (by simp; omega)), h, h.lt⟩

theorem tup_false {n r : Nat} {s : ByteArray} {t0 : Tok} {ts1 ts' : List Tok} {w wr w1 : World} {b e m : Nat} {v v' : Value} {l : List (Tm (n + 1))} (ho : isO t0.2 = true) (h : TupQ n r s ts1 w b e v wr l ts') (hc : isC (s.extract b e) = false)
    (R : RRes (n + 1) s r ts' (wr.drewN m) w1 v' false) (u : Value) :
    RRes (n + 2) s r (t0 :: ts1) (w.alloc (.cells #[.int .i64 0, .int .i64 0, .string ⟨#[]⟩, .slice none 0 0] 24)) w1 u false := by
  obtain ⟨h1, h2, h3, h4, h5, h6, h7, h8, h9⟩ := h
  obtain ⟨g, b', e', ts3, k1, k2, _, k4⟩ := R
  refine ⟨moved_trans h3 (moved_trans (moved_drew wr m _) g), b', e', ts3, k1, k2, by simp, fun _ d => ?_⟩
  simp only [exp, ho, if_true]
  rw [h9 d, scan_exp _ _ _ (h2.no hc)]
  exact k4 rfl (d + 1)

theorem isl_len {n : Nat} : (l : List (Tm n)) → (ts r : List Tok) → IsL (Is n) l ts r → l.length + r.length ≤ ts.length
  | [], ts, r, h => by have e : ts = r := h; subst e; simp
  | x :: l, ts, r, h => by
    obtain ⟨m, h1, h2⟩ := h
    have k1 := isl_len l m r h2
    have k2 := Is.nodes n x ts m h1
    have k3 : 0 < (nodes n x).length := by
      cases n with
      | zero => exact h1.elim
      | succ n => simp [nodes]
    simp only [List.length_cons]
    omega

/-- What the append of a round needs. -/
theorem tup_own {n r : Nat} {s : ByteArray} {ts1 ts' : List Tok} {w wr w1 : World} {b e m : Nat} {a : Option Addr} {L c : Nat} {l : List (Tm (n + 1))} (hr : r < w.heap.size) (h : TupQ n r s ts1 w b e (.slice a L c) wr l ts') (g : (wr.drewN m).grownBy w1 (some r)) (hl : ts1.length ≤ 2048) :
    l.length = L ∧ L ≤ 2048 ∧ ∀ o1 o2, ((w1.alloc o1).alloc o2).ownsRow (w.heap.size + 2) 24 4 (.slice a L c) L (ndCells (l.map (hdT (n + 1)))) := by
  obtain ⟨h1, h2, h3, h4, h5, h6, h7, h8, h9⟩ := h
  have g' : wr.grownBy w1 (some r) := moved_trans (moved_drew wr m _) g
  obtain ⟨a', c', ev, _⟩ := h4.tup
  injection ev with _ e2 _
  have := isl_len l ts1 ts' h7
  have h10 := (h4.kept g' (by omega)).1
  rw [← e2] at h10
  exact ⟨e2.symm, by omega, fun o1 o2 => (h10.alloc o1).alloc o2⟩

/-- A round's end: one more term stands. -/
theorem tup_round {n r : Nat} {s : ByteArray} {ts1 ts' : List Tok} {w wr w1 w3 : World} {b e m : Nat} {a : Option Addr} {L c : Nat} {l : List (Tm (n + 1))} (hr : r < w.heap.size) (h : TupQ n r s ts1 w b e (.slice a L c) wr l ts') (hc : isC (s.extract b e) = false)
    {k u : Int} {t : ByteArray} {a1 : Option Addr} {l1 c1 : Nat} (R : RRes (n + 1) s r ts' (wr.drewN m) w1 (.agg #[.int .i64 k, .int .i64 u, .string t, .slice a1 l1 c1]) true) {o1 o2 : Obj} {g c2 : Nat} (hL : l.length = L)
    (hown : w3.ownsRow (w.heap.size + 2) 24 4 (.slice (some ⟨g, 0, none⟩) (L + 1) c2) (L + 1) (ndCells (l.map (hdT (n + 1))) ++ [.int .i64 k, .int .i64 u, .string t, .slice a1 l1 c1]))
    (g2 : ((w1.alloc o1).alloc o2).grownBy w3 (Value.slice a L c).ownBlock) (hg : (Value.slice a L c).ownBlock = some g ∨ g = w1.heap.size + 2) :
    (Bx (w.heap.size + 1) (.int .i64 4) (.int .i64 0) (.string ⟨#[]⟩) (.slice a L c) w3 ∧
    ∃ b' e', TupP n r s ts1 w b' e' (.slice (some ⟨g, 0, none⟩) (L + 1) c2) (w3.setCell ⟨w.heap.size + 1, 3, none⟩ (.slice (some ⟨g, 0, none⟩) (L + 1) c2)) ∧ msr r s (w3.setCell ⟨w.heap.size + 1, 3, none⟩ (.slice (some ⟨g, 0, none⟩) (L + 1) c2)) < msr r s wr) := by
  subst hL
  obtain ⟨q1, q2, q3⟩ := tup_boxes hr h R.1
  obtain ⟨h1, h2, h3, h4, h5, h6, h7, h8, h9⟩ := h
  obtain ⟨g0, b', e', ts3, k1, k2, k3, _⟩ := R
  have g0' : wr.grownBy w1 (some r) := moved_trans (moved_drew wr m _) g0
  obtain ⟨⟨x, x1, x2, x3, x4⟩, x5⟩ := k3 rfl
  have hob : ∀ b, (Value.slice a l.length c).ownBlock = some b → w.heap.size + 2 ≤ b := fun b e => (h4.1.lt b e).1
  have hnd : nd4 (hdT (n + 1) x) = [.int .i64 k, .int .i64 u, .string t, .slice a1 l1 c1] := by
    have e1 : val (n + 1) x = .agg (nd4 (hdT (n + 1) x)).toArray := rfl
    rw [e1] at x1
    injection x1 with x1
    exact Array.toList_inj.2 x1
  rw [← hnd] at hown
  have hrow := h4.snoc g0' (by omega) x3 x4 (by have := h6.lt; simp; omega) (w1 := (w1.alloc o1).alloc o2) (moved_alloc (moved_alloc (moved_drew w1 0 _) _) _) hown g2 (by simpa using hg)
  have hne : ∀ q, q < w.heap.size + 2 → some q ≠ (Value.slice a l.length c).ownBlock := fun q hq e => by have := hob q e.symm; omega
  have z : ∀ q, q < w.heap.size + 2 → w3.heap[q]? = w1.heap[q]? := fun q hq => (g2.block q (by simp; omega) (hne q hq)).trans ((alloc_block _ _ (by simp; omega)).trans (alloc_block _ _ (by omega)))
  have q2' := q2.block (z (w.heap.size + 1) (by omega))
  have kr : Rd r s b' e' w3 := k1.block (z r (by omega))
  have z2 : w3.heap.size = (w3.setCell ⟨w.heap.size + 1, 3, none⟩ (.slice (some ⟨g, 0, none⟩) (l.length + 1) c2)).heap.size := by simp [World.setCell]
  have kr2 := kr.far (g := w.heap.size + 1) (by omega) 3 (.slice (some ⟨g, 0, none⟩) (l.length + 1) c2)
  have hn := Is.nodes (n + 1) x ts' ts3 x2
  have hn2 : 0 < (nodes (n + 1) x).length := by simp [nodes]
  refine ⟨q2', b', e', ⟨l ++ [x], ts3, kr2, k2, ?_, ?_, ?_, q2'.set3 _, h7.snoc x2, by omega, fun d => ?_⟩, ?_⟩
  · refine moved_new (moved_far (moved_alloc (moved_alloc (moved_trans h3 g0') _) _) g2 fun b hb => ?_) (by simp) _ _
    have := hob b hb; simp; omega
  · refine ⟨ownsRow_setCell_below (by simpa using hrow.1) (by simp) _, fun y hy => ?_⟩
    obtain ⟨y1, y2⟩ := hrow.2 y hy
    refine ⟨?_, y2⟩
    rw [← z2]
    exact In.off (fun b hb => Below.heap_setCell _ _ _ _ (by simp; omega)) y2 y1
  · exact (q1.block (z w.heap.size (by omega))).block (Below.heap_setCell _ _ _ _ (by simp))
  · rw [h9 d, scan_exp _ _ _ (h2.no hc)]
    exact x5 (d + 1)
  · rw [msr_of kr2 k2, msr_of h1 h2]
    omega

theorem four_new (w : World) (o : Obj) (v0 v1 v2 v3 : Value) (e : TypeId) : ∀ (j : Nat) (u : Value), [v0, v1, v2, v3][j]? = some u → ((w.alloc o).alloc (.cells #[v0, v1, v2, v3] e)).cell? ((⟨w.heap.size + 1, 0, none⟩ : Addr).add j) = some u := by
  intro j u h
  rw [add_none]
  rw [World.cell?_alloc_at _ _ _ _ (by simp)]
  simpa using h
theorem four_one (k u : Int) (t : ByteArray) (a : Option Addr) (l c : Nat) : ∀ v ∈ [Value.int .i64 k, .int .i64 u, .string t, .slice a l c], v.oneCell' = true := by
  intro v hv
  simp at hv
  rcases hv with rfl | rfl | rfl | rfl <;> rfl

set_option maxHeartbeats 1000000 in
theorem tuple_walk (n : Nat) (ih : FTerm n) (r : Nat) (s : ByteArray) (b e : Nat) (t0 : Tok) (ts1 : List Tok) (w : World) (h : Rd r s b e w) (hat : At s b e (t0 :: ts1)) (hs : s.size ≤ 2048) (hl : ts1.length ≤ n) (ho : isO t0.2 = true) :
    Calls Tryd.prog 38 #[.pointer (some ⟨r, 0, none⟩)] w fun e' w' => ROut (n + 2) s r (t0 :: ts1) w w' e' := by
  have hlt := h.lt
  obtain ⟨it, hit, htz0, htz1, htz2⟩ := info_parts infoTerm
  have HT := hide (⟨hit, htz0, htz1, htz2⟩ : _ ∧ _ ∧ _ ∧ _)
  clear hit htz0 htz1 htz2
  have H0 := hide (⟨h, hat, hs, hl, ho⟩ : _ ∧ _ ∧ _ ∧ _ ∧ _)
  have HI := hide ih
  clear h hat hl ho ih
  go_enter Tryd.func38, Tryd.ntmps38
  go_wp2_with (go_at_call 19; refine (next_any r s b e _ ((H0.out.1.alloc _).alloc _) H0.out.2.1.2.1 hs).mono ?_; rintro e' w1 ⟨rfl, HN⟩)
  go_loopw [] (fun wr => ∃ (b e : Nat) (a : Option Addr) (L c : Nat), Hid (TupP n r s ts1 w b e (.slice a L c) wr) ∧ True) (fun wr => msr r s wr)
  case atStart => exact ⟨_, _, _, _, _, tup_start H0.out.1 H0.out.2.1 HN.out.1 HN.out.2, trivial⟩
  case round =>
    obtain ⟨b1, e1, a, L, c, HP, _⟩ := hrel
    clear HN
    obtain ⟨l, ts', HQ⟩ := HP.out
    replace HQ := hide HQ
    obtain ⟨x, hx⟩ : ∃ x, s.extract b1 e1 = x := ⟨_, rfl⟩
    have HX := hide hx
    clear hx
    have HA : Hid (Rd r s b1 e1 wr ∧ At s b1 e1 ts' ∧ ts'.length ≤ n ∧ ts1.length ≤ 2048) := by
      obtain ⟨h1, h2, h3, h4, h5, h6, h7, h8, h9⟩ := HQ.out
      refine ⟨h1, h2, Nat.le_trans h8 H0.out.2.2.2.1, ?_⟩
      have := toks_length s (s.size - e) e (Nat.le_refl _)
      rw [← H0.out.2.1.cons.2.1] at this
      omega
    cases hc : (x.toList == [41])
    · have hc1 : (x.toList = [41]) = False := by simpa using hc
      have hc2 : (x.toList != [41]) = true := by simpa using hc
      have HC : Hid (isC (s.extract b1 e1) = false) := by rw [HX.out]; exact hc
      go_wp2_with (first
        | (go_at_call 21; refine (word_is r s b1 e1 x wr HA.out.1 HA.out.2.1.1 HA.out.2.1.2.1 HX.out).mono ?_; rintro e' w1 ⟨rfl, m, rfl⟩)
        | (go_at_call 20; refine (HI.out r s b1 e1 ts' (wr.drewN m) (HA.out.1.drew m) HA.out.2.1 hs HA.out.2.2.1).mono ?_; rintro e' w2 ⟨k, u, t, a1, l1, c1, ok, rfl, HR⟩; obtain ⟨q1, q2, hlt2⟩ := tup_boxes hlt HQ.out HR.out.1; have hlt3 : w.heap.size < w2.heap.size := (by omega); obtain ⟨⟨x0, x1, x2, x3⟩, f0, f1, f2, f3⟩ := q1.cells; obtain ⟨⟨y0, y1, y2, y3⟩, k0, k1, k2, k3⟩ := q2.cells; clear q1 q2; cases ok)
        | (at_builtin; have HO := hide (tup_own hlt HQ.out HR.out.1 HA.out.2.2.2); refine wpList_append_lies _ rfl _ _ 22 rfl (w.heap.size + 2) 24 it _ 4 56 Tryd.underlying22 HT.out.1 HT.out.2.1 HT.out.2.2.1 HT.out.2.2.2 rfl (by decide) _ L _ rfl (HO.out.2.2 _ _) ⟨w2.heap.size + 1, 0, none⟩ 1 1 [.int .i64 k, .int .i64 u, .string t, .slice a1 l1 c1] rfl rfl (four_new _ _ _ _ _ _ _) (four_one _ _ _ _ _ _) (by decide) (by have := HO.out.2.1; unfold maxLen; omega) (by have := HO.out.2.1; omega) (by simp; omega) (w2.heap.size + 2) (by simp) ?_; intro g2 c2 w3 hown2 hgrow2 hat2 hlt5; have H2 := hide (tup_round hlt HQ.out HC.out HR.out HO.out.1 hown2 hgrow2 hat2); obtain ⟨⟨z0, z1, z2, z3⟩, p0, p1, p2, p3⟩ := H2.out.1.cells; clear hown2 hgrow2 hat2 hlt5))
      · exact bodyPost_ret (v := .tuple #[.agg #[.int .i64 0, .int .i64 0, .string ⟨#[]⟩, .slice none 0 0], .bool false]) (by simp [results, Tryd.results38, go_sem, x0, x1, x2, x3, hlt3]) rfl ⟨0, 0, ⟨#[]⟩, none, 0, 0, false, rfl, (RRes.box hlt (tup_false H0.out.2.2.2.2 HQ.out HC.out HR.out _) _ _ _ _).alloc _⟩
      · obtain ⟨b', e', h1, h2⟩ := H2.out.2
        go_roundw
        case rel => exact ⟨b', e', _, _, _, h1, trivial⟩
        case measure => exact h2
    · go_wp2_with (first
        | (go_at_call 21; refine (word_is r s b1 e1 x wr HA.out.1 HA.out.2.1.1 HA.out.2.1.2.1 HX.out).mono ?_; rintro e' w1 ⟨rfl, m, rfl⟩)
        | (go_at_call 19; refine (next_any r s b1 e1 (wr.drewN m) (HA.out.1.drew m) HA.out.2.1.2.1 hs).mono ?_; rintro e' w2 ⟨rfl, HN⟩; obtain ⟨h1, h2, h3⟩ := tup_close hlt H0.out.2.2.2.2 HP.out (by rw [HX.out]; exact hc) HN.out.1 HN.out.2; obtain ⟨⟨x0, x1, x2, x3⟩, f0, f1, f2, f3⟩ := h2.cells; obtain ⟨⟨y0, y1, y2, y3⟩, k0, k1, k2, k3⟩ := h3.cells; have HF := hide (RRes.box hlt h1); clear h1 h2 h3))
      exact bodyPost_ret (v := .tuple #[.agg #[.int .i64 4, .int .i64 0, .string ⟨#[]⟩, .slice a L c], .bool true]) (by simp [results, Tryd.results38, go_sem, x0, x1, x2, x3]) rfl ⟨4, 0, ⟨#[]⟩, a, L, c, true, rfl, HF.out _ _ _ _⟩
end Go.Proofs.YtpehdgbdinjbaabDoor
namespace Go.Proofs.YtpehdgbdinjbaabDoor
open Go.RowKit

theorem leaf_nil {x : ByteArray} (h : x.toList = []) : leafB x = false := by
  rw [ByteArray.toList_eq] at h
  have hz : x.size = 0 := by
    have : x.data.toList.length = x.size := by simp
    rw [h] at this
    exact this.symm
  simp [leafB, ByteArray.toList_eq, isNum, h, hz]

theorem RRes.undrew {n r : Nat} {s : ByteArray} {ts : List Tok} {w w1 : World} {m : Nat} {v : Value} {ok : Bool} (h : RRes n s r ts (w.drewN m) w1 v ok) : RRes n s r ts w w1 v ok := by
  obtain ⟨h1, h2⟩ := h
  exact ⟨moved_trans (moved_drew w m _) h1, h2⟩

/-- A word that is a term by itself. -/
theorem leaf_res {n r : Nat} {s : ByteArray} {b e : Nat} {ts : List Tok} {w w1 w2 : World} {x : ByteArray} (hat : At s b e ts) (hx : s.extract b e = x) (hs : s.size ≤ 2048) (ho : isO x = false) {k u : Int} {t : ByteArray}
    (hl : leafB x = true) (hv : (k, u, t) = leafV x) (ht : t.size ≤ x.size) (hk : I64 k) (hu : I64 u) {o : Obj} (hb : Below w.heap.size w w1) (kr : Rd r s (wordB s e) (wordE s e) w2) (g : (w1.alloc o).grownBy w2 (some r)) :
    RRes (n + 1) s r ts w w2 (.agg #[.int .i64 k, .int .i64 u, .string t, .slice none 0 0]) true := by
  have hxs : x.size ≤ 2048 := by rw [← hx]; simp; have := hat.2.1; omega
  refine ⟨moved_trans (moved_alloc (moved_below (World.grownBy.refl w _) hb) o) g, wordB s e, wordE s e, toks s e, kr, At.next hat.2.1, fun _ => ?_, by simp⟩
  cases ts with
  | nil =>
    have := hat.nil
    rw [hx] at this
    rw [leaf_nil this] at hl
    exact absurd hl (by simp)
  | cons t0 ts =>
    obtain ⟨e1, e2, _⟩ := hat.cons
    subst e1 e2
    rw [hx]
    refine ⟨⟨((k, u, t), (none, 0), []), rfl, ⟨_, _, rfl, Or.inl ⟨ho, hl, hv, rfl, rfl⟩⟩, ⟨⟨hk, hu, by unfold maxLen; simp only; omega, Nat.zero_le _, Nat.zero_le _⟩, Or.inl rfl⟩, Or.inl rfl⟩, fun d => ?_⟩
    simp only [exp, ho, hl]
    simp
theorem leaf_no {n r : Nat} {s : ByteArray} {b e : Nat} {ts : List Tok} {w w1 : World} {x : ByteArray} (hat : At s b e ts) (hx : s.extract b e = x) (ho : isO x = false) (hl : leafB x = false) (h : Rd r s b e w) (hb : Below w.heap.size w w1) (v : Value) :
    RRes (n + 1) s r ts w w1 v false := by
  refine ⟨moved_below (World.grownBy.refl w _) hb, b, e, ts, h.block (hb.block r h.lt), hat, by simp, fun _ d => ?_⟩
  cases ts with
  | nil => rfl
  | cons t0 ts =>
    obtain ⟨e1, e2, _⟩ := hat.cons
    subst e1 e2
    simp only [exp, hx, ho, hl]
    simp [posOf]

theorem below_un2 {w w1 : World} {m : Nat} (h : Below (w.drewN m).heap.size (w.drewN m) w1) : Below w.heap.size w w1 := ⟨h.os, h.tape, h.output, h.size, h.block⟩
theorem box_kept {w w2 : World} {r : Nat} {v0 v1 v2 v3 : Value} (hr : r < w.heap.size) (g : (w.alloc (.cells #[v0, v1, v2, v3] 24)).grownBy w2 (some r)) : Bx w.heap.size v0 v1 v2 v3 w2 :=
  (Bx.new w v0 v1 v2 v3).block (g.block _ (by simp) (by simp; omega))

set_option maxHeartbeats 1000000 in
theorem term_walk (n : Nat) (r : Nat) (s : ByteArray) (b e : Nat) (ts : List Tok) (w : World) (h : Rd r s b e w) (hat : At s b e ts) (hs : s.size ≤ 2048)
    (ih : ∀ w' : World, Rd r s b e w' → isO (s.extract b e) = true → Calls Tryd.prog 38 #[.pointer (some ⟨r, 0, none⟩)] w' fun e' w'' => ROut (n + 1) s r ts w' w'' e') :
    Calls Tryd.prog 20 #[.pointer (some ⟨r, 0, none⟩)] w fun e' w' => ROut (n + 1) s r ts w w' e' := by
  have hlt := h.lt
  have H0 := hide (⟨h, hat⟩ : _ ∧ _)
  have HI := hide ih
  clear h hat ih
  obtain ⟨x, hx⟩ : ∃ x, s.extract b e = x := ⟨_, rfl⟩
  have HX := hide hx
  have hxs : x.size ≤ 2048 := by rw [← hx]; simp; have := H0.out.2.2.1; omega
  clear hx
  cases hc : (x.toList == [40])
  · have hc1 : (x.toList = [40]) = False := by simpa using hc
    have hc2 : (x.toList != [40]) = true := by simpa using hc
    go_enter Tryd.func20, Tryd.ntmps20
    go_wp2_with (first
      | (go_at_call 21; refine (word_is r s b e x _ (H0.out.1.alloc _) H0.out.2.1 H0.out.2.2.1 HX.out).mono ?_; rintro e' w1 ⟨rfl, m, rfl⟩)
      | (go_at_call 21; refine (word_is r s b e x _ ((H0.out.1.alloc _).drew m) H0.out.2.1 H0.out.2.2.1 HX.out).mono ?_; rintro e' w1 ⟨rfl, m2, rfl⟩)
      | (go_at_call 39; refine (plain_any x _ hxs).mono ?_; rintro e' w2 ⟨⟨k, u, t, ok, rfl, HV⟩, HB⟩; replace HB := below_un2 HB; obtain ⟨⟨x0, x1, x2, x3⟩, f0, f1, f2, f3⟩ := box_of HB; have hlt2 : w.heap.size < w2.heap.size := (by have := HB.size; simp at this; omega); have hlt4 : r < w2.heap.size := (by omega); replace HB := hide HB; cases ok)
      | (go_at_call 19; refine (next_any r s b e _ ((((H0.out.1.alloc _).block (HB.out.block r (by simp; omega)))).alloc _) H0.out.2.2.1 hs).mono ?_; rintro e' w3 ⟨rfl, HN⟩; have HG := hide (moved_trans (moved_alloc (moved_below (World.grownBy.refl _ _) HB.out) _) HN.out.2); obtain ⟨⟨z0, z1, z2, z3⟩, p0, p1, p2, p3⟩ := (box_kept hlt HG.out).cells; obtain ⟨⟨y0, y1, y2, y3⟩, k0, k1, k2, k3⟩ := (box_kept hlt4 HN.out.2).cells; obtain ⟨v1, v2, v3, v4, v5⟩ := HV.out; have HF := hide (RRes.box hlt (leaf_res (n := n) H0.out.2 HX.out hs hc v1.symm (v2 (by trivial)) v3 v4 v5 HB.out HN.out.1 HN.out.2)); clear v1 v2 v3 v4 v5))
    · exact bodyPost_ret (v := .tuple #[.agg #[.int .i64 k, .int .i64 u, .string t, .slice none 0 0], .bool false]) (by simp [results, Tryd.results20, go_sem, x0, x1, x2, x3, hlt2]) rfl ⟨k, u, t, none, 0, 0, false, rfl, (RRes.box hlt (leaf_no H0.out.2 HX.out hc HV.out.1.symm (H0.out.1.alloc _) HB.out _) _ _ _ _).alloc _⟩
    · exact bodyPost_ret (v := .tuple #[.agg #[.int .i64 k, .int .i64 u, .string t, .slice none 0 0], .bool true]) (by simp [results, Tryd.results20, go_sem, z0, z1, z2, z3]) rfl ⟨k, u, t, none, 0, 0, true, rfl, HF.out _ _ _ _⟩
  · go_enter Tryd.func20, Tryd.ntmps20
    go_wp2_with (first
      | (go_at_call 21; refine (word_is r s b e x _ (H0.out.1.alloc _) H0.out.2.1 H0.out.2.2.1 HX.out).mono ?_; rintro e' w1 ⟨rfl, m, rfl⟩)
      | (go_at_call 38; refine (HI.out _ ((H0.out.1.alloc _).drew m) (by rw [HX.out]; exact hc)).mono ?_; rintro e' w2 ⟨k, u, t, a1, l1, c1, ok, rfl, HR⟩; replace HR := hide HR.out.undrew; obtain ⟨⟨x0, x1, x2, x3⟩, f0, f1, f2, f3⟩ := (box_kept hlt HR.out.1).cells))
    exact bodyPost_ret (v := .tuple #[.agg #[.int .i64 k, .int .i64 u, .string t, .slice a1 l1 c1], .bool ok]) (by simp [results, Tryd.results20, go_sem, x0, x1, x2, x3]) rfl ⟨k, u, t, a1, l1, c1, ok, rfl, RRes.box hlt HR.out _ _ _ _⟩

theorem term_any (n : Nat) : FTerm n := by
  induction n with
  | zero =>
    intro r s b e ts w h hat hs hl
    refine term_walk 0 r s b e ts w h hat hs fun w' _ ho => ?_
    have e1 : ts = [] := List.eq_nil_of_length_eq_zero (by omega)
    subst e1
    simp [isO, hat.nil] at ho
  | succ n ih =>
    intro r s b e ts w h hat hs hl
    refine term_walk (n + 1) r s b e ts w h hat hs fun w' h' ho => ?_
    cases ts with
    | nil => simp [isO, hat.nil] at ho
    | cons t ts =>
      have e1 := hat.cons.1
      refine tuple_walk n ih r s b e t ts w' h' hat hs (by simp at hl; omega) ?_
      rw [e1]
      exact ho
end Go.Proofs.YtpehdgbdinjbaabDoor
namespace Go.Proofs.YtpehdgbdinjbaabDoor
open Go.RowKit

def zeroT : Value := .agg #[.int .i64 0, .int .i64 0, .string ⟨#[]⟩, .slice none 0 0]
/-- What a reading of a whole text tells: a term, a place, an error. -/
def PRes (s : ByteArray) (w w' : World) (v : Value) (pos err : Int) : Prop :=
  (2048 < s.size ∧ v = zeroT ∧ pos = 0 ∧ err = 2) ∨ (∃ p : Nat, s.size ≤ 2048 ∧ exp s.size (toks s 0) 0 = some p ∧ v = zeroT ∧ pos = p ∧ err = 3) ∨
    (s.size ≤ 2048 ∧ exp s.size (toks s 0) 0 = none ∧ ∃ (n : Nat) (x : Tm n), Is n x (toks s 0) [] ∧ In w'.heap.size w' n x ∧ Off (fun q => w.heap.size ≤ q) n x ∧ pos = 0 ∧ err = chk n x ∧ ((chk n x ≠ 0 ∧ v = zeroT) ∨ (chk n x = 0 ∧ v = val n x)))
def POut (s : ByteArray) (w w' : World) (e : Ending) : Prop :=
  ∃ (k u : Int) (t : ByteArray) (a : Option Addr) (l c : Nat) (pos err : Int), e = .returned (.tuple #[.agg #[.int .i64 k, .int .i64 u, .string t, .slice a l c], .int .i64 pos, .int .i64 err]) ∧
    Hid (PRes s w w' (.agg #[.int .i64 k, .int .i64 u, .string t, .slice a l c]) pos err ∧ Below w.heap.size w w')

theorem set4_block {w : World} {q b : Nat} (h : b ≠ q) (v0 v1 v2 v3 : Value) : ((((w.setCell ⟨q, 0, none⟩ v0).setCell ⟨q, 1, none⟩ v1).setCell ⟨q, 2, none⟩ v2).setCell ⟨q, 3, none⟩ v3).heap[b]? = w.heap[b]? := by
  rw [Below.heap_setCell _ _ _ _ (by simpa using h), Below.heap_setCell _ _ _ _ (by simpa using h), Below.heap_setCell _ _ _ _ (by simpa using h), Below.heap_setCell _ _ _ _ (by simpa using h)]
theorem set4_size {w : World} {q : Nat} (v0 v1 v2 v3 : Value) : ((((w.setCell ⟨q, 0, none⟩ v0).setCell ⟨q, 1, none⟩ v1).setCell ⟨q, 2, none⟩ v2).setCell ⟨q, 3, none⟩ v3).heap.size = w.heap.size := by simp [World.setCell]

/-- The two boxes, behind the reading. -/
theorem par_boxes {s : ByteArray} {w w2 w3 : World} (g : ((w.alloc (.cells #[.int .i64 0, .int .i64 0, .string ⟨#[]⟩, .slice none 0 0] 24)).alloc (.cells #[.string s, .int .i64 0, .int .i64 0] 51)).grownBy w2 (some (w.heap.size + 1)))
    (g2 : w2.grownBy w3 (some (w.heap.size + 1))) : Bx w.heap.size (.int .i64 0) (.int .i64 0) (.string ⟨#[]⟩) (.slice none 0 0) w3 ∧ w.heap.size + 1 < w3.heap.size ∧ Below w.heap.size w w3 ∧ w.heap.size + 2 ≤ w2.heap.size := by
  have g3 := moved_trans g g2
  have z := g.size
  have z2 := g2.size
  simp at z
  refine ⟨((Bx.new w _ _ _ _).block (alloc_block _ _ (by simp))).block (g3.block _ (by simp; omega) (by simp)), by omega, ?_, by omega⟩
  exact (((Below.refl _ _).alloc (Nat.le_refl _) _).alloc (by simp) _).grown g3 (by simp; omega) (fun j e => by simp at e; omega)

theorem In.drewN {B : Nat} {w : World} {n : Nat} {x : Tm n} (m : Nat) {P : Nat → Prop} (k : Off P n x) (h : In B w n x) : In B (w.drewN m) n x := In.off (w := w) (w' := w.drewN m) (fun _ _ => rfl) k h

/-- The words tell one term: it lies there. -/
theorem par_tree {s : ByteArray} {w w2 w3 : World} {v : Value} {b e : Nat} {ts' : List Tok} {x : ByteArray} (hx : s.extract b e = x) (hc : (x.toList == []) = true) (hs : s.size ≤ 2048) (hat : At s b e ts') (z : w.heap.size + 2 ≤ w2.heap.size)
    (h : (∃ x : Tm 2049, val 2049 x = v ∧ Is 2049 x (toks s 0) ts' ∧ In w3.heap.size w3 2049 x ∧ Off (fun q => w2.heap.size ≤ q) 2049 x) ∧ ∀ d, exp s.size (toks s 0) d = scanD s.size ts' d) (o : Obj) (m : Nat) :
    ∃ y : Tm 2049, v = val 2049 y ∧ Is 2049 y (toks s 0) [] ∧ In ((w3.alloc o).drewN m).heap.size ((w3.alloc o).drewN m) 2049 y ∧ Off (fun q => w.heap.size + 2 ≤ q) 2049 y ∧ (nodes 2049 y).length ≤ 2097152 ∧ exp s.size (toks s 0) 0 = none := by
  obtain ⟨⟨y, h1, h2, h3, h4⟩, h5⟩ := h
  have e1 : ts' = [] := by
    cases ts' with
    | nil => rfl
    | cons t ts' =>
      have k := hat.cons.2.2
      rw [hx] at k
      have k2 : x.toList = [] := by simpa using hc
      rw [ByteArray.toList_eq] at k2
      have : x.data.toList.length = x.size := by simp
      rw [k2] at this
      simp at this
      omega
  subst e1
  have k1 := Is.nodes 2049 y (toks s 0) [] h2
  have k2 := toks_length s s.size 0 (by omega)
  refine ⟨y, h1.symm, h2, In.drewN m h4 ((In.off (fun b hb => alloc_block w3 o hb.2) (In.offB h4 h3) h3).mono (by simp)), h4.mono fun q hq => by omega, by simp at k1; omega, h5 0⟩

theorem par_last {w w3 w5 : World} {m : Nat} {v0 v1 v2 v3 : Value} (h : Bx w.heap.size (.int .i64 0) (.int .i64 0) (.string ⟨#[]⟩) (.slice none 0 0) w3)
    (b : Below ((w3.alloc (.cells #[v0, v1, v2, v3] 24)).drewN m).heap.size ((w3.alloc (.cells #[v0, v1, v2, v3] 24)).drewN m) w5) :
    Bx w.heap.size (.int .i64 0) (.int .i64 0) (.string ⟨#[]⟩) (.slice none 0 0) w5 ∧ Bx w3.heap.size v0 v1 v2 v3 w5 := by
  have hlt := h.lt
  exact ⟨(h.block (alloc_block _ _ hlt)).block (b.block _ (by simp; omega)), (Bx.new w3 v0 v1 v2 v3).block (b.block _ (by simp))⟩

theorem par_some {s : ByteArray} {b e : Nat} {ts' : List Tok} {x : ByteArray} (hx : s.extract b e = x) (hc : (x.toList == []) = false) (hat : At s b e ts') (h : exp s.size (toks s 0) 0 = scanD s.size ts' 0) : exp s.size (toks s 0) 0 = some b := by
  rw [h, ← hat.pos]
  cases ts' with
  | nil => rw [← hx] at hc; simp [hat.nil] at hc
  | cons t ts' => rfl
/-- The term still lies there when the result is laid down. -/
theorem par_in {w w4 w5 : World} {n : Nat} {y : Tm n} (h : In w4.heap.size w4 n y) (k : Off (fun q => w.heap.size + 2 ≤ q) n y) (b : Below w4.heap.size w4 w5) (v0 v1 v2 v3 : Value) :
    In ((((w5.setCell ⟨w.heap.size, 0, none⟩ v0).setCell ⟨w.heap.size, 1, none⟩ v1).setCell ⟨w.heap.size, 2, none⟩ v2).setCell ⟨w.heap.size, 3, none⟩ v3).heap.size ((((w5.setCell ⟨w.heap.size, 0, none⟩ v0).setCell ⟨w.heap.size, 1, none⟩ v1).setCell ⟨w.heap.size, 2, none⟩ v2).setCell ⟨w.heap.size, 3, none⟩ v3) n y := by
  rw [set4_size]
  exact In.off (fun q hq => set4_block (by omega) _ _ _ _) k ((h.below b).mono b.size)

theorem below_set4 {w w1 : World} (h : Below w.heap.size w w1) (v0 v1 v2 v3 : Value) : Below w.heap.size w ((((w1.setCell ⟨w.heap.size, 0, none⟩ v0).setCell ⟨w.heap.size, 1, none⟩ v1).setCell ⟨w.heap.size, 2, none⟩ v2).setCell ⟨w.heap.size, 3, none⟩ v3) :=
  ⟨h.os, h.tape, h.output, by rw [set4_size]; exact h.size, fun k hk => (set4_block (by omega) _ _ _ _).trans (h.block k hk)⟩
theorem below_drew {B : Nat} {w w1 : World} (h : Below B w w1) (m : Nat) : Below B w (w1.drewN m) := ⟨h.os, h.tape, h.output, h.size, h.block⟩
theorem below_new {w w1 : World} (h : Below w.heap.size w w1) (o : Obj) : Below w.heap.size w (w1.alloc o) := h.alloc h.size o

set_option maxHeartbeats 1000000 in
theorem parse_any (s : ByteArray) (w : World) (hs : s.size ≤ maxLen) :
    Calls Tryd.prog 7 #[.string s] w fun e w' => POut s w w' e := by
  unfold maxLen at hs
  by_cases hbig : 2048 < s.size
  · have hbig' : (2048 : Int) < s.size := by omega
    go_enter Tryd.func7, Tryd.ntmps7
    go_wp2_with fail
    exact bodyPost_ret (v := .tuple #[zeroT, .int .i64 0, .int .i64 2]) (by simp [results, Tryd.results7, go_sem, zeroT]) rfl ⟨0, 0, ⟨#[]⟩, none, 0, 0, 0, 2, rfl, Or.inl ⟨hbig, rfl, rfl, rfl⟩, by go_grown⟩
  · have hbig' : (s.size : Int) ≤ 2048 := by omega
    have hs2 : s.size ≤ 2048 := by omega
    clear hbig
    have HR0 : Hid (Rd (w.heap.size + 1) s 0 0 ((w.alloc (.cells #[.int .i64 0, .int .i64 0, .string ⟨#[]⟩, .slice none 0 0] 24)).alloc (.cells #[.string s, .int .i64 0, .int .i64 0] 51))) := by
      have := heap_alloc_new (w.alloc (.cells #[.int .i64 0, .int .i64 0, .string ⟨#[]⟩, .slice none 0 0] 24)) (.cells #[.string s, .int .i64 0, .int .i64 0] 51)
      simpa [Hid, Rd] using this
    go_enter Tryd.func7, Tryd.ntmps7
    go_wp2_with (first
      | (go_at_call 19; refine (next_any (w.heap.size + 1) s 0 0 _ HR0.out (Nat.zero_le _) hs2).mono ?_; rintro e' w2 ⟨rfl, HN⟩)
      | (go_at_call 20; refine (term_any 2048 (w.heap.size + 1) s _ _ (toks s 0) w2 HN.out.1 (At.next (Nat.zero_le _)) hs2 (Nat.le_trans (toks_length s s.size 0 (by omega)) (by omega))).mono ?_; rintro e' w3 ⟨k, u, t, a, l, c, ok, rfl, HR⟩; obtain ⟨q1, hl3, q3, q4⟩ := par_boxes HN.out.2 HR.out.1; obtain ⟨⟨x0, x1, x2, x3⟩, f0, f1, f2, f3⟩ := q1.cells; have hl4 : w.heap.size < w3.heap.size := (by omega); obtain ⟨_, b', e', ts', HQ⟩ := HR.out; replace HQ := hide HQ; obtain ⟨⟨c0, c1, c2⟩, j1, j2⟩ := HQ.out.1.cells; have HB := hide (⟨q3, q4⟩ : _ ∧ _); replace q1 := hide q1; clear q3 q4; obtain ⟨x, hx⟩ : ∃ x, s.extract b' e' = x := ⟨_, rfl⟩; have HX := hide hx; clear hx; cases ok)
      | (go_at_call 21; refine (word_is (w.heap.size + 1) s b' e' x _ (HQ.out.1.alloc _) HQ.out.2.1.1 HQ.out.2.1.2.1 HX.out).mono ?_; rintro e2 w4 ⟨rfl, m, rfl⟩; cases hc : (x.toList == []))
      | (go_at_call 16; obtain ⟨y, hv, HY⟩ := par_tree HX.out hc hs2 HQ.out.2.1 HB.out.2 (HQ.out.2.2.1 (by trivial)) _ m; replace HY := hide HY; refine (show Calls _ _ #[.agg #[.int .i64 k, .int .i64 u, .string t, .slice a l c]] _ _ from hv ▸ tcheck_any 2049 y _ _ HY.out.2.1 (Nat.le_refl _) HY.out.2.2.2.1).mono ?_; rintro e3 w5 ⟨rfl, hb5⟩; obtain ⟨r1, r2⟩ := par_last q1.out hb5; obtain ⟨⟨y0, y1, y2, y3⟩, g0, g1, g2, g3⟩ := r1.cells; obtain ⟨⟨z0, z1, z2, z3⟩, p0, p1, p2, p3⟩ := r2.cells; have HB5 := hide hb5; clear r1 r2 hb5; replace hv := hide hv; obtain ⟨E, hE⟩ : ∃ E, chk 2049 y = E := ⟨_, rfl⟩; rw [hE]; replace hE := hide hE; by_cases hE0 : E = 0))
    · go_region
      go_wp2_with fail
      have hb := HB.out.1
      exact bodyPost_ret (v := .tuple #[zeroT, .int .i64 b', .int .i64 3]) (by simp [results, Tryd.results7, go_sem, zeroT, hl4, x0, x1, x2, x3]) rfl ⟨0, 0, ⟨#[]⟩, none, 0, 0, b', 3, rfl, Or.inr (Or.inl ⟨b', hs2, by rw [← HQ.out.2.1.pos]; exact HQ.out.2.2.2 (by trivial) 0, rfl, rfl, rfl⟩), by go_grown⟩
    · go_region
      go_wp2_with fail
      have hb := HB.out.1
      exact bodyPost_ret (v := .tuple #[zeroT, .int .i64 b', .int .i64 3]) (by simp [results, Tryd.results7, go_sem, zeroT, hl4, x0, x1, x2, x3]) rfl ⟨0, 0, ⟨#[]⟩, none, 0, 0, b', 3, rfl, Or.inr (Or.inl ⟨b', hs2, par_some HX.out hc HQ.out.2.1 ((HQ.out.2.2.1 (by trivial)).2 0), rfl, rfl, rfl⟩), below_set4 (below_drew (below_new hb _) _) _ _ _ _⟩
    · have hb := HB.out.1
      have hb5 := HB5.out
      exact bodyPost_ret (v := .tuple #[.agg #[.int .i64 k, .int .i64 u, .string t, .slice a l c], .int .i64 0, .int .i64 0]) (by simp [results, Tryd.results7, go_sem, y0, y1, y2, y3]) rfl ⟨k, u, t, a, l, c, 0, 0, rfl, Or.inr (Or.inr ⟨hs2, HY.out.2.2.2.2, 2049, y, HY.out.1, par_in HY.out.2.1 HY.out.2.2.1 HB5.out _ _ _ _, HY.out.2.2.1.mono (fun q hq => by omega), rfl, (hE.out.trans hE0).symm, Or.inr ⟨hE.out.trans hE0, hv.out⟩⟩), below_set4 ((below_drew (below_new hb _) m).trans (hb5.mono (below_drew (below_new hb _) m).size)) _ _ _ _⟩
    · have hb := HB.out.1
      have hb5 := HB5.out
      exact bodyPost_ret (v := .tuple #[zeroT, .int .i64 0, .int .i64 E]) (by simp [results, Tryd.results7, go_sem, zeroT, y0, y1, y2, y3]) rfl ⟨0, 0, ⟨#[]⟩, none, 0, 0, 0, E, rfl, Or.inr (Or.inr ⟨hs2, HY.out.2.2.2.2, 2049, y, HY.out.1, par_in HY.out.2.1 HY.out.2.2.1 HB5.out _ _ _ _, HY.out.2.2.1.mono (fun q hq => by omega), rfl, hE.out.symm, Or.inl ⟨by rw [hE.out]; exact hE0, rfl⟩⟩), below_set4 ((below_drew (below_new hb _) m).trans (hb5.mono (below_drew (below_new hb _) m).size)) _ _ _ _⟩
end Go.Proofs.YtpehdgbdinjbaabDoor
