/- What is proved here: the program's reader reads one term (term, tuple): for every text of at most 2048 signs: which term the words ahead begin with, or where they can't go on. Only the reader's own block and new memory turn. -/
import Derived.Test.YtdlplmpjcemnoabDoorRtm0
namespace Go.Proofs.YtdlplmpjcemnoabDoor
open Go.RowKit

theorem moved_alloc {w w1 : World} {q : Option Nat} (h : w.grownBy w1 q) (o : Obj) : w.grownBy (w1.alloc o) q :=
  ⟨h.os, h.tape, h.output, by have := h.size; simp; omega, fun k hk hne => by
    exact (((Below.refl w1.heap.size w1).alloc (Nat.le_refl _) o).block k (Nat.lt_of_lt_of_le hk h.size)).trans (h.block k hk hne)⟩
theorem moved_new {w w1 : World} {q : Option Nat} (h : w.grownBy w1 q) {b : Nat} (hb : w.heap.size ≤ b) (o : Nat) (v : Value) : w.grownBy (w1.setCell ⟨b, o, none⟩ v) q :=
  ⟨h.os, h.tape, h.output, by simpa [World.setCell] using h.size, fun k hk hne => (Below.heap_setCell w1 ⟨b, o, none⟩ v k (by simp; omega)).trans (h.block k hk hne)⟩
theorem moved_far {w w1 w2 : World} {q : Option Nat} (h : w.grownBy w1 q) {g : Option Nat} (k : w1.grownBy w2 g) (hg : ∀ b, g = some b → w.heap.size ≤ b) : w.grownBy w2 q :=
  ⟨k.os.trans h.os, k.tape.trans h.tape, k.output.trans h.output, Nat.le_trans h.size k.size, fun i hi hne => (k.block i (Nat.lt_of_lt_of_le hi h.size) (fun e => by have := hg i e.symm; omega)).trans (h.block i hi hne)⟩
theorem moved_below {w w1 w2 : World} {q : Option Nat} (h : w.grownBy w1 q) (k : Below w1.heap.size w1 w2) : w.grownBy w2 q :=
  ⟨k.os.trans h.os, k.tape.trans h.tape, k.output.trans h.output, Nat.le_trans h.size k.size, fun i hi hne => (k.block i (Nat.lt_of_lt_of_le hi h.size)).trans (h.block i hi hne)⟩
theorem Rd.block {r : Nat} {s : ByteArray} {b e : Nat} {w w' : World} (h : Rd r s b e w) (k : w'.heap[r]? = w.heap[r]?) : Rd r s b e w' := k.trans h
theorem Rd.alloc {r : Nat} {s : ByteArray} {b e : Nat} {w : World} (h : Rd r s b e w) (o : Obj) : Rd r s b e (w.alloc o) :=
  h.block (((Below.refl w.heap.size w).alloc (Nat.le_refl _) o).block r h.lt)
theorem Rd.far {r : Nat} {s : ByteArray} {b e : Nat} {w : World} (h : Rd r s b e w) {g : Nat} (hg : r < g) (o : Nat) (v : Value) : Rd r s b e (w.setCell ⟨g, o, none⟩ v) :=
  h.block (Below.heap_setCell w ⟨g, o, none⟩ v r (by simp; omega))

/-- The words ahead of a reader, by its places. -/
def ahead (s : ByteArray) (b e : Nat) : List Tok := if b < s.size then (b, s.extract b e) :: toks s e else []
def msr (r : Nat) (s : ByteArray) (w : World) : Nat := (ahead s (intOf ((w.cell? ⟨r, 1, none⟩).getD undef)).toNat (intOf ((w.cell? ⟨r, 2, none⟩).getD undef)).toNat).length
theorem msr_of {r : Nat} {s : ByteArray} {b e : Nat} {w : World} {ts : List Tok} (h : Rd r s b e w) (k : At s b e ts) : msr r s w = ts.length := by
  obtain ⟨⟨c0, c1, c2⟩, f1, f2⟩ := h.cells
  simp only [msr, c1, c2, Option.getD_some, intOf, Int.toNat_natCast, ahead]
  rcases k.2.2 with ⟨h1, rfl⟩ | ⟨h1, rfl⟩
  · rw [if_neg (by omega)]
  · rw [if_pos (by have := k.2.1; omega)]

/-- What a reading of one term tells: v, ok; the words ts were ahead. -/
def RRes (n : Nat) (s : ByteArray) (r : Nat) (ts : List Tok) (w w' : World) (v : Value) (ok : Bool) : Prop :=
  w.grownBy w' (some r) ∧ ∃ b e ts', Rd r s b e w' ∧ At s b e ts' ∧
    (ok = true → (∃ x : Tm n, val n x = v ∧ Is n x ts ts' ∧ In w'.heap.size w' n x ∧ Off (fun q => w.heap.size ≤ q) n x) ∧ ∀ d, exp s.size ts d = scanD s.size ts' d) ∧
    (ok = false → ∀ d, exp s.size ts d = some (posOf s.size ts'))
def ROut (n : Nat) (s : ByteArray) (r : Nat) (ts : List Tok) (w w' : World) (e : Ending) : Prop :=
  ∃ (k u : Int) (t : ByteArray) (a : Option Addr) (l c : Nat) (ok : Bool), e = .returned (.tuple #[.agg #[.int .i64 k, .int .i64 u, .string t, .slice a l c], .bool ok]) ∧
    Hid (RRes n s r ts w w' (.agg #[.int .i64 k, .int .i64 u, .string t, .slice a l c]) ok)
def FTerm (n : Nat) : Prop := ∀ (r : Nat) (s : ByteArray) (b e : Nat) (ts : List Tok) (w : World), Rd r s b e w → At s b e ts → s.size ≤ 2048 → ts.length ≤ n →
  Calls Tryd.prog 15 #[.pointer (some ⟨r, 0, none⟩)] w fun e' w' => ROut (n + 1) s r ts w w' e'

theorem word_is (r : Nat) (s : ByteArray) (b e : Nat) (x : ByteArray) (w : World) (h : Rd r s b e w) (hb : b ≤ e) (he : e ≤ s.size) (hx : s.extract b e = x) :
    Calls Tryd.prog 16 #[.pointer (some ⟨r, 0, none⟩)] w fun e' w' => e' = .returned (.string x) ∧ ∃ n, w' = w.drewN n := by
  subst hx; exact word_any r s b e w h hb he

/-- Four cells of a term's box. -/
def Bx (q : Nat) (v0 v1 v2 v3 : Value) (w : World) : Prop := w.heap[q]? = some (.cells #[v0, v1, v2, v3] 24)
theorem Bx.cells {q : Nat} {v0 v1 v2 v3 : Value} {w : World} (h : Bx q v0 v1 v2 v3 w) :
    (w.cell? ⟨q, 0, none⟩ = some v0 ∧ w.cell? ⟨q, 1, none⟩ = some v1 ∧ w.cell? ⟨q, 2, none⟩ = some v2 ∧ w.cell? ⟨q, 3, none⟩ = some v3) ∧
    (w.frozen? ⟨q, 0, none⟩ = false ∧ w.frozen? ⟨q, 1, none⟩ = false ∧ w.frozen? ⟨q, 2, none⟩ = false ∧ w.frozen? ⟨q, 3, none⟩ = false) := by
  unfold Bx at h
  exact ⟨⟨by simp [World.cell?, h], by simp [World.cell?, h], by simp [World.cell?, h], by simp [World.cell?, h]⟩, by simp [World.frozen?, h], by simp [World.frozen?, h], by simp [World.frozen?, h], by simp [World.frozen?, h]⟩
theorem Bx.block {q : Nat} {v0 v1 v2 v3 : Value} {w w' : World} (h : Bx q v0 v1 v2 v3 w) (k : w'.heap[q]? = w.heap[q]?) : Bx q v0 v1 v2 v3 w' := k.trans h
theorem Bx.lt {q : Nat} {v0 v1 v2 v3 : Value} {w : World} (h : Bx q v0 v1 v2 v3 w) : q < w.heap.size := (Array.getElem?_eq_some_iff.1 h).1
theorem Bx.set3 {q : Nat} {v0 v1 v2 v3 : Value} {w : World} (h : Bx q v0 v1 v2 v3 w) (v : Value) : Bx q v0 v1 v2 v (w.setCell ⟨q, 3, none⟩ v) := by
  unfold Bx at *
  simp [World.setCell, Array.getElem?_modify, h]
theorem Bx.new (w : World) (v0 v1 v2 v3 : Value) : Bx w.heap.size v0 v1 v2 v3 (w.alloc (.cells #[v0, v1, v2, v3] 24)) := heap_alloc_new w _

/-- What holds in a tuple's reading, at the loop. -/
def TupQ (n : Nat) (r : Nat) (s : ByteArray) (ts1 : List Tok) (w : World) (b e : Nat) (v : Value) (wr : World) (l : List (Tm (n + 1))) (ts' : List Tok) : Prop :=
  Rd r s b e wr ∧ At s b e ts' ∧ (w.alloc (.cells #[.int .i64 0, .int .i64 0, .string ⟨#[]⟩, .slice none 0 0] 24)).grownBy wr (some r) ∧ RowOf (w.heap.size + 2) (n + 1) l v wr ∧
    Bx w.heap.size (.int .i64 0) (.int .i64 0) (.string ⟨#[]⟩) (.slice none 0 0) wr ∧ Bx (w.heap.size + 1) (.int .i64 4) (.int .i64 0) (.string ⟨#[]⟩) v wr ∧
    IsL (Is (n + 1)) l ts1 ts' ∧ ts'.length ≤ ts1.length ∧ ∀ d, scanD s.size ts1 (d + 1) = scanD s.size ts' (d + 1)
def TupP (n : Nat) (r : Nat) (s : ByteArray) (ts1 : List Tok) (w : World) (b e : Nat) (v : Value) (wr : World) : Prop :=
  ∃ (l : List (Tm (n + 1))) (ts' : List Tok), TupQ n r s ts1 w b e v wr l ts'

theorem alloc_block (w : World) (o : Obj) {q : Nat} (h : q < w.heap.size) : (w.alloc o).heap[q]? = w.heap[q]? := (World.grownBy_alloc w o none).block q h (by simp)

theorem tup_start {n r : Nat} {s : ByteArray} {b e : Nat} {t0 : Tok} {ts1 : List Tok} {w w1 : World} (h : Rd r s b e w) (hat : At s b e (t0 :: ts1)) (k : Rd r s (wordB s e) (wordE s e) w1)
    (g : ((w.alloc (.cells #[.int .i64 0, .int .i64 0, .string ⟨#[]⟩, .slice none 0 0] 24)).alloc (.cells #[.int .i64 4, .int .i64 0, .string ⟨#[]⟩, .slice none 0 0] 24)).grownBy w1 (some r)) :
    TupP n r s ts1 w (wordB s e) (wordE s e) (.slice none 0 0) w1 := by
  have hlt := h.lt
  have e1 := (At.cons hat).2.1
  refine ⟨[], ts1, k, by rw [e1]; exact At.next hat.2.1, moved_trans (World.grownBy_alloc _ _ _) g, ⟨⟨rfl, Or.inl ⟨rfl, rfl⟩⟩, by simp⟩, ?_, ?_, rfl, Nat.le_refl _, fun _ => rfl⟩
  · exact ((Bx.new w _ _ _ _).block (alloc_block _ _ (by simp))).block (g.block _ (by simp; omega) (by simp; omega))
  · have := Bx.new (w.alloc (.cells #[.int .i64 0, .int .i64 0, .string ⟨#[]⟩, .slice none 0 0] 24)) (.int .i64 4) (.int .i64 0) (.string ⟨#[]⟩) (.slice none 0 0)
    have e2 : (w.alloc (.cells #[.int .i64 0, .int .i64 0, .string ⟨#[]⟩, .slice none 0 0] 24)).heap.size = w.heap.size + 1 := by simp
    rw [e2] at this
    exact this.block (g.block _ (by simp) (by simp; omega))

theorem RowOf.kept {base n : Nat} {l : List (Tm n)} {v : Value} {w w' : World} (h : RowOf base n l v w) {r : Nat} (g : w.grownBy w' (some r)) (hr : r < base) : RowOf base n l v w' := by
  refine ⟨h.1.kept g (Or.inr fun e => by have := h.1.lt r e; omega), fun y hy => ⟨?_, (h.2 y hy).2⟩⟩
  obtain ⟨h1, h2⟩ := h.2 y hy
  have h3 := In.offB h2 h1
  exact (In.off (fun b hb => g.block b hb.2 (by simp; omega)) h3 h1).mono g.size

/-- One more term, behind an append. -/
theorem RowOf.snoc {base n : Nat} {l : List (Tm (n + 1))} {v : Value} {w0 w w2 : World} (h : RowOf base (n + 1) l v w0) {r : Nat} (g0 : w0.grownBy w (some r)) (hr : r < base) {x : Tm (n + 1)} (hx : In w.heap.size w (n + 1) x) (hf : Off (fun q => w0.heap.size ≤ q) (n + 1) x) (hb0 : base ≤ w0.heap.size)
    {w1 : World} (g1 : w.grownBy w1 none) {g c : Nat} (hown : w2.ownsRow base 24 4 (.slice (some ⟨g, 0, none⟩) (l.length + 1) c) (l.length + 1) (ndCells (l.map (hdT (n + 1))) ++ nd4 (hdT (n + 1) x)))
    (g2 : w1.grownBy w2 v.ownBlock) (hat : v.ownBlock = some g ∨ g = w1.heap.size) : RowOf base (n + 1) (l ++ [x]) (.slice (some ⟨g, 0, none⟩) (l.length + 1) c) w2 := by
  have hk := h.kept g0 hr
  have z0 := g0.size
  have z1 := g1.size
  have z2 := g2.size
  have hvb : ∀ b, v.ownBlock = some b → b < w0.heap.size := fun b e => (h.1.lt b e).2
  refine ⟨by simpa [ndCells] using hown, fun y hy => ?_⟩
  have key : ∀ y : Tm (n + 1), In w.heap.size w (n + 1) y → Off (fun b => base ≤ b ∧ v.ownBlock ≠ some b) (n + 1) y →
      In w2.heap.size w2 (n + 1) y ∧ Off (fun b => base ≤ b ∧ (Value.slice (some ⟨g, 0, none⟩) (l.length + 1) c).ownBlock ≠ some b) (n + 1) y := by
    intro y h1 h2
    have h3 := In.offB h2 h1
    refine ⟨(In.off (fun b hb => (g2.block b (by omega) (fun e => hb.1.2 e.symm)).trans (g1.block b hb.2 (by simp))) h3 h1).mono (by omega), h3.mono fun b hb => ⟨hb.1.1, ?_⟩⟩
    intro e
    have e' : g = b := by simpa [Value.ownBlock] using e
    rcases hat with h | h
    · exact hb.1.2 (by rw [h, e'])
    · omega
  rcases List.mem_append.1 hy with hy | hy
  · exact key y (hk.2 y hy).1 (hk.2 y hy).2
  · have e : y = x := by simpa using hy
    subst e
    exact key y hx (hf.mono fun b hb => ⟨by omega, fun e => by have := hvb b e; omega⟩)

/-- The tuple's end. -/
theorem tup_close {n r : Nat} {s : ByteArray} {t0 : Tok} {ts1 : List Tok} {w wr w2 : World} {b e : Nat} {a : Option Addr} {L c m : Nat} (hr : r < w.heap.size) (ho : isO t0.2 = true) (h : TupP n r s ts1 w b e (.slice a L c) wr)
    (hc : isC (s.extract b e) = true) (k : Rd r s (wordB s e) (wordE s e) w2) (g : (wr.drewN m).grownBy w2 (some r)) :
    RRes (n + 2) s r (t0 :: ts1) (w.alloc (.cells #[.int .i64 0, .int .i64 0, .string ⟨#[]⟩, .slice none 0 0] 24)) w2 (.agg #[.int .i64 4, .int .i64 0, .string ⟨#[]⟩, .slice a L c]) true ∧
      Bx w.heap.size (.int .i64 0) (.int .i64 0) (.string ⟨#[]⟩) (.slice none 0 0) w2 ∧ Bx (w.heap.size + 1) (.int .i64 4) (.int .i64 0) (.string ⟨#[]⟩) (.slice a L c) w2 := by
  obtain ⟨l, ts', h1, h2, h3, h4, h5, h6, h7, h8, h9⟩ := h
  have z3 := h3.size
  have z4 := h6.lt
  have g' : wr.grownBy w2 (some r) := moved_trans (moved_drew wr m _) g
  obtain ⟨a', c', ev, hoff, hin⟩ := (h4.kept g' (by omega)).tup
  injection ev with e1 e2 e3
  subst e1 e2 e3
  refine ⟨⟨moved_trans h3 g', wordB s e, wordE s e, toks s e, k, At.next h2.2.1, fun _ => ⟨⟨_, rfl, ?_, hin, hoff.mono fun q hq => by simp; omega⟩, ?_⟩, by simp⟩, h5.block (g'.block _ h5.lt (by simp; omega)), h6.block (g'.block _ z4 (by simp; omega))⟩
  · cases ts' with
    | nil => simp [isC, h2.nil] at hc
    | cons t ts' =>
      obtain ⟨e1, e2, _⟩ := h2.cons
      subst e1 e2
      exact ⟨t0, ts1, rfl, Or.inr ⟨ho, rfl, _, h7, hc⟩⟩
  · intro d
    cases ts' with
    | nil => simp [isC, h2.nil] at hc
    | cons t ts' =>
      obtain ⟨e1, e2, _⟩ := h2.cons
      subst e1 e2
      simp only [exp, ho, if_true]
      rw [h9 d, scan_close _ _ _ _ hc]

theorem RRes.box {n r : Nat} {s : ByteArray} {ts : List Tok} {w w1 : World} {o : Obj} {v : Value} {ok : Bool} (hr : r < w.heap.size) (h : RRes n s r ts (w.alloc o) w1 v ok) (v0 v1 v2 v3 : Value) :
    RRes n s r ts w ((((w1.setCell ⟨w.heap.size, 0, none⟩ v0).setCell ⟨w.heap.size, 1, none⟩ v1).setCell ⟨w.heap.size, 2, none⟩ v2).setCell ⟨w.heap.size, 3, none⟩ v3) v ok := by
  obtain ⟨h1, b, e, ts', h2, h3, h4, h5⟩ := h
  refine ⟨moved_new (moved_new (moved_new (moved_new (moved_trans (World.grownBy_alloc _ _ _) h1) (Nat.le_refl _) _ _) (Nat.le_refl _) _ _) (Nat.le_refl _) _ _) (Nat.le_refl _) _ _, b, e, ts', (((h2.far hr _ _).far hr _ _).far hr _ _).far hr _ _, h3, fun hk => ?_, h5⟩
  obtain ⟨⟨x, x1, x2, x3, x4⟩, x5⟩ := h4 hk
  have hb : ∀ b, (w.alloc o).heap.size ≤ b → ((((w1.setCell ⟨w.heap.size, 0, none⟩ v0).setCell ⟨w.heap.size, 1, none⟩ v1).setCell ⟨w.heap.size, 2, none⟩ v2).setCell ⟨w.heap.size, 3, none⟩ v3).heap[b]? = w1.heap[b]? := fun b hb => by
    have hb' : w.heap.size < b := by simp at hb; omega
    rw [Below.heap_setCell _ _ _ _ (by simp; omega), Below.heap_setCell _ _ _ _ (by simp; omega), Below.heap_setCell _ _ _ _ (by simp; omega), Below.heap_setCell _ _ _ _ (by simp; omega)]
  refine ⟨⟨x, x1, x2, (In.off hb x4 x3).mono (by simp [World.setCell]), x4.mono fun q hq => by simp at hq; omega⟩, x5⟩
theorem RRes.alloc {n r : Nat} {s : ByteArray} {ts : List Tok} {w w1 : World} {v : Value} {ok : Bool} (h : RRes n s r ts w w1 v ok) (o : Obj) : RRes n s r ts w (w1.alloc o) v ok := by
  obtain ⟨h1, b, e, ts', h2, h3, h4, h5⟩ := h
  refine ⟨moved_alloc h1 o, b, e, ts', h2.alloc o, h3, fun hk => ?_, h5⟩
  obtain ⟨⟨x, x1, x2, x3, x4⟩, x5⟩ := h4 hk
  exact ⟨⟨x, x1, x2, (In.off (fun b hb => alloc_block w1 o hb.2) (In.offB x4 x3) x3).mono (by simp), x4⟩, x5⟩
end Go.Proofs.YtdlplmpjcemnoabDoor
