/- What is proved here: plain facts and contracts that the claimed theorem stands on, several texts in one: the document's Open tells the ways that have messages, rising, among those from 1 to 99. No condition but that the system's ways lie in memory. for WayPlays: ways and the document's ways, side by side, and what each call leaves of them. No condition but that all lies in memory. for WayPlays: what a Take leaves, and what All, Open and Equal tell of ways and of the document's. No condition but that all lies in memory. plain facts for WayRows: ways, what was sent and what was taken, side by side, and what a Send and a Take leave of them. No condition. for WayRows: what was taken and what is on its way is what was sent, in that order, behind each call; what a Send and a Take, and what is written down of them, leave. No condition but that all lies in memory. the small terms that the statements make for themselves (num, word, two): what they return, and that it lies in new memory. No condition. -/
import Derived.Test.YtfginhifgljnmaaG15
import Derived.Test.YtfginhifgljnmaaG13
import Derived.Test.YtfginhifgljnmaaG01
import Derived.Handy
namespace Go.Proofs.Ytfginhifgljnmaa
open Go.RowKit Go.Maps

def pCells (l : List (Int × Int)) : List Value := l.flatMap encP
theorem pCells_length (l : List (Int × Int)) : (pCells l).length = l.length * 2 := by
  induction l with
  | nil => rfl
  | cons a l ih => simp only [pCells, List.flatMap_cons, List.length_append, List.length_cons] at ih ⊢; rw [ih]; simp [encP]; omega
theorem pCells_snoc (l : List (Int × Int)) (k : Int × Int) : pCells (l ++ [k]) = pCells l ++ [.int .i64 k.1, .int .i64 k.2] := by simp [pCells, encP]
theorem pCells_at : (l : List (Int × Int)) → (i : Nat) → (k : Int × Int) → l[i]? = some k → (pCells l)[i * 2]? = some (.int .i64 k.1) ∧ (pCells l)[i * 2 + 1]? = some (.int .i64 k.2)
  | [], i, k, h => by simp at h
  | a :: l, 0, k, h => by
    simp at h
    subst h
    exact ⟨rfl, rfl⟩
  | a :: l, i + 1, k, h => by
    have ih := pCells_at l i k (by simpa using h)
    have e : pCells (a :: l) = [.int .i64 a.1, .int .i64 a.2] ++ pCells l := rfl
    rw [e, show (i + 1) * 2 = 2 + i * 2 by omega, List.getElem?_append_right (by simp), List.getElem?_append_right (by simp; omega)]
    have e2 : 2 + i * 2 - [Value.int .i64 a.1, Value.int .i64 a.2].length = i * 2 := by simp
    have e3 : 2 + i * 2 + 1 - [Value.int .i64 a.1, Value.int .i64 a.2].length = i * 2 + 1 := by simp; omega
    rw [e2, e3]
    exact ih
theorem prow_of {base : Nat} {v : Value} {l : List (Int × Int)} {w : World} (h : w.ownsRow base 88 2 v l.length (pCells l)) : PRow v l w := by
  have h' := h
  rcases h.2 with ⟨rfl, e⟩ | ⟨g, cap, cur, rfl, _, hh, _⟩
  · exact ⟨none, 0, by rw [e], Or.inl (List.eq_nil_of_length_eq_zero e)⟩
  · refine ⟨some ⟨g, 0, none⟩, cap, rfl, Or.inr ⟨g, rfl, (Array.getElem?_eq_some_iff.1 hh).1, fun i k hk => ?_⟩⟩
    obtain ⟨p1, p2⟩ := pCells_at l i k hk
    have c1 := h'.cells (g := g) rfl _ _ p1
    have c2 := h'.cells (g := g) rfl _ _ p2
    rw [Addr.add_lit, Nat.zero_add] at c1 c2
    exact ⟨c1, c2⟩
def Grid (k : Int × Int) : Prop := 1 ≤ k.1 ∧ k.1 ≤ 99 ∧ 1 ≤ k.2 ∧ k.2 ≤ 99
/-- Those that were come to. -/
def OpenTo {N : Nat} (f : Int × Int → List (Tm N)) (p : Int × Int) (l : List (Int × Int)) : Prop := l.Pairwise ltP ∧ (∀ k, k ∈ l ↔ Grid k ∧ f k ≠ [] ∧ ltP k p) ∧ l.length ≤ (p.1 - 1).toNat * 99 + (p.2 - 1).toNat
theorem OpenTo.skip {N : Nat} {f : Int × Int → List (Tm N)} {a b : Int} {l : List (Int × Int)} (h : OpenTo f (a, b) l) (hb : 1 ≤ b) (h0 : f (a, b) = []) : OpenTo f (a, b + 1) l := by
  refine ⟨h.1, fun k => ?_, ?_⟩
  · rw [h.2.1 k]
    constructor
    · rintro ⟨h1, h2, h3⟩
      exact ⟨h1, h2, by unfold ltP at *; simp at *; omega⟩
    · rintro ⟨h1, h2, h3⟩
      refine ⟨h1, h2, ?_⟩
      have hne : k ≠ (a, b) := fun e => h2 (by rw [e]; exact h0)
      have : ¬ (k.1 = a ∧ k.2 = b) := fun e => hne (Prod.ext e.1 e.2)
      unfold ltP at *
      simp at *
      omega
  · have := h.2.2
    simp at this ⊢
    omega
theorem OpenTo.snoc {N : Nat} {f : Int × Int → List (Tm N)} {a b : Int} {l : List (Int × Int)} (h : OpenTo f (a, b) l) (hg : Grid (a, b)) (h0 : f (a, b) ≠ []) : OpenTo f (a, b + 1) (l ++ [(a, b)]) := by
  refine ⟨List.pairwise_append.2 ⟨h.1, List.pairwise_singleton _ _, fun x hx y hy => ?_⟩, fun k => ?_, ?_⟩
  · simp only [List.mem_singleton] at hy
    subst hy
    exact ((h.2.1 x).1 hx).2.2
  · rw [List.mem_append, List.mem_singleton, h.2.1 k]
    constructor
    · rintro (⟨h1, h2, h3⟩ | rfl)
      · exact ⟨h1, h2, by unfold ltP at *; simp at *; omega⟩
      · exact ⟨hg, h0, by unfold ltP; simp; omega⟩
    · rintro ⟨h1, h2, h3⟩
      by_cases e : k = (a, b)
      · exact Or.inr e
      · refine Or.inl ⟨h1, h2, ?_⟩
        have : ¬ (k.1 = a ∧ k.2 = b) := fun e' => e (Prod.ext e'.1 e'.2)
        unfold ltP at *
        simp at *
        omega
  · have := h.2.2
    have := hg.2.2.1
    simp at this ⊢
    have h3 := h.2.2
    simp at h3
    omega
theorem OpenTo.line {N : Nat} {f : Int × Int → List (Tm N)} {a : Int} {l : List (Int × Int)} (h : OpenTo f (a, 100) l) (ha : 1 ≤ a) : OpenTo f (a + 1, 1) l := by
  refine ⟨h.1, fun k => ?_, ?_⟩
  · rw [h.2.1 k]
    constructor
    · rintro ⟨h1, h2, h3⟩
      exact ⟨h1, h2, by unfold ltP Grid at *; simp at *; omega⟩
    · rintro ⟨h1, h2, h3⟩
      exact ⟨h1, h2, by unfold ltP Grid at *; simp at *; omega⟩
  · have := h.2.2
    simp at this ⊢
    omega
theorem OpenTo.start {N : Nat} (f : Int × Int → List (Tm N)) : OpenTo f (1, 1) [] := by
  refine ⟨List.Pairwise.nil, fun k => ⟨fun h => (by cases h), fun ⟨h1, _, h3⟩ => ?_⟩, by simp⟩
  unfold ltP Grid at *
  simp at *
  omega
theorem OpenTo.risen {N M : Nat} {f : Int × Int → List (Tm N)} {g : Int × Int → List (Tm M)} {l : List (Int × Int)} (h : OpenTo f (100, 1) l) (hg : ∀ k, I2 k → g k ≠ [] → Grid k) (hfg : ∀ k, I2 k → (f k = [] ↔ g k = [])) : Risen g l := by
  refine ⟨h.1, fun k => ?_⟩
  rw [h.2.1 k]
  constructor
  · rintro ⟨h1, h2, _⟩
    have hi : I2 k := by
      unfold Grid at h1
      exact ⟨by unfold I64; omega, by unfold I64; omega⟩
    exact ⟨hi, fun e => h2 ((hfg k hi).2 e)⟩
  · rintro ⟨h1, h2⟩
    have hgr := hg k h1 h2
    refine ⟨hgr, fun e => h2 ((hfg k h1).1 e), ?_⟩
    unfold ltP Grid at *
    simp
    omega
theorem below_grown {base e sz n : Nat} {v : Value} {xs : List Value} {w w5 : World} {o : Obj} (h : w.ownsRow base e sz v n xs) (hg : (w.alloc o).grownBy w5 v.ownBlock) (hb : base ≤ w.heap.size) : Below base w w5 := by
  have h0 : Below base w (w.alloc o) := (Below.refl _ _).alloc hb _
  refine ⟨hg.os.trans h0.os, hg.tape.trans h0.tape, hg.output.trans h0.output, Nat.le_trans h0.size hg.size, fun b hb' => (hg.block b (by simp; omega) fun e => ?_).trans (h0.block b hb')⟩
  have := (h.lt b e.symm).1
  omega
set_option maxRecDepth 100000 in
set_option maxHeartbeats 2000000 in
theorem open_walk {N : Nat} (f : Int × Int → List (Tm N)) (sp ms : Nat) (w : World) (hsp : sp < w.heap.size) (HC : Hid (w.cell? ⟨sp, 4, none⟩ = some (.map (some ms))))
    (HL : Hid (∀ a b : Int, I2 (a, b) → ∀ W, Below w.heap.size w W → ∃ x c, (Instr.lookup 90 (.map (some ms)) (.agg #[.int .i64 a, .int .i64 b]) false).run Try.prog W = .ok (.slice x (f (a, b)).length c) W)) (HM : Hid (∀ a b : Int, (f (a, b)).length ≤ 1000)) :
    Calls Try.prog 48 #[.pointer (some ⟨sp, 0, none⟩)] w fun e w' => ∃ v l, e = .returned v ∧ Hid (OpenTo f (100, 1) l ∧ PRow v l w' ∧ Below w.heap.size w w') := by
  obtain ⟨it, hit, htz0, htz1, htz2⟩ := info_parts infoPair
  have HIT : Hid (Try.prog.info? 88 = some it ∧ it.zero = some (.agg #[.int .i64 0, .int .i64 0]) ∧ it.size = 2 ∧ it.bytes = 16) := ⟨hit, htz0, htz1, htz2⟩
  clear hit htz0 htz1 htz2
  go_enter Try.func48, Try.ntmps48
  go_wp2_with fail
  go_loopw [3, 4] (fun v i wr => ∃ (a : Nat) (l : List (Int × Int)), 1 ≤ a ∧ a ≤ 100 ∧ i = .int .i64 a ∧ (∃ x L c, v = .slice x L c ∧ l.length = L ∧ L ≤ 10000 ∧ Hid (OpenTo f ((a : Int), 1) l ∧ wr.ownsRow w.heap.size 88 2 (.slice x L c) L (pCells l) ∧ Below w.heap.size w wr))) (fun _ i _ => 100 - (intOf i).toNat)
  case atStart => exact ⟨1, [], by omega, by omega, rfl, none, 0, 0, rfl, rfl, by omega, OpenTo.start f, ⟨by simp [pCells], Or.inl ⟨rfl, rfl⟩⟩, Below.refl _ _⟩
  case round =>
    obtain ⟨a, l, ha1, ha2, rfl, x, L, c, rfl, hL, hLb, HR⟩ := hrel
    by_cases ha : a ≤ 99
    · have ha' : (a : Int) ≤ 99 := by omega
      go_wp2_with fail
      obtain ⟨wq, hwq⟩ : ∃ wq, wq = wr := ⟨_, rfl⟩
      subst hwq
      go_loopw [3, 5] (fun v i wr => ∃ (b : Nat) (l : List (Int × Int)), 1 ≤ b ∧ b ≤ 100 ∧ i = .int .i64 b ∧ (∃ x L c, v = .slice x L c ∧ l.length = L ∧ L ≤ 10000 ∧ Hid (OpenTo f ((a : Int), (b : Int)) l ∧ wr.ownsRow w.heap.size 88 2 (.slice x L c) L (pCells l) ∧ Below w.heap.size w wr))) (fun _ i _ => 100 - (intOf i).toNat)
      case atStart => exact ⟨1, l, by omega, by omega, rfl, x, L, c, rfl, hL, hLb, HR.out⟩
      case round =>
        clear HR hL hLb
        obtain ⟨b, l, hb1, hb2, rfl, x, L, c, rfl, hL, hLb, HR⟩ := hrel
        by_cases hb : b ≤ 99
        · have hb' : (b : Int) ≤ 99 := by omega
          have hI : I2 ((a : Int), (b : Int)) := ⟨by unfold I64; simp; omega, by unfold I64; simp; omega⟩
          have hLB : L ≤ 9801 := by
            have := HR.out.1.2.2
            simp at this
            omega
          obtain ⟨x', c', hl⟩ := HL.out a b hI wr HR.out.2.2
          have c4 : wr.cell? ⟨sp, 4, none⟩ = some (.map (some ms)) := (HR.out.2.2.cell (p := ⟨sp, 4, none⟩) hsp).trans HC.out
          have hml := HM.out a b
          obtain ⟨m, hm⟩ : ∃ m, m = (f ((a : Int), (b : Int))).length := ⟨_, rfl⟩
          rw [← hm] at hl hml
          replace hm := hide hm
          by_cases h0 : m = 0
          · subst h0
            have HN := hide (HR.out.1.skip (by omega) (List.eq_nil_of_length_eq_zero hm.out.symm))
            have HO := hide HR.out.2
            go_wp2_with fail
            go_roundw
            case rel => exact ⟨b + 1, l, by omega, by omega, by go_num, x, L, c, rfl, hL, hLb, by simpa using HN.out, HO.out⟩
            case measure => simp [intOf]; omega
          · have h0' : (0 : Int) < (m : Int) := by omega
            have HN := hide (HR.out.1.snoc (a := a) (b := b) ⟨by simp; omega, by simp; omega, by simp; omega, by simp; omega⟩ (fun e => h0 (by rw [hm.out, e]; rfl)))
            have HO := hide HR.out.2.1
            have HB := hide HR.out.2.2
            have HZ := hide HR.out.2.2.size
            go_wp2_with (first
              | (at_builtin; refine wpList_append_lies _ rfl _ _ 98 rfl w.heap.size 88 it _ 2 16 Try.underlying98 HIT.out.1 HIT.out.2.1 HIT.out.2.2.1 HIT.out.2.2.2 rfl (by decide) (.slice x L c) L (pCells l) rfl (HO.out.alloc _) ⟨wr.heap.size, 0, none⟩ 1 1 [.int .i64 a, .int .i64 b] rfl rfl (World.news_of_block (cs := #[.int .i64 a, .int .i64 b]) (t := 88) (fr := (0, 0)) (heap_alloc_new wr _)) (by simp [Value.oneCell']) (by decide) (by unfold maxLen; omega) (by omega) (by have := HZ.out; simp; omega) _ rfl ?_; intro g5 c5 w5 hown5 hgrow5 hat5 hlt5; have HO5 := hide hown5; have HB5 := hide (HB.out.trans (below_grown HO.out hgrow5 HB.out.size)); clear hown5 hgrow5 hat5 hlt5))
            go_roundw
            case rel =>
              refine ⟨b + 1, l ++ [((a : Int), (b : Int))], by omega, by omega, by go_num, some ⟨g5, 0, none⟩, L + 1, c5, rfl, by simp [hL], by omega, by simpa using HN.out, ?_, HB5.out⟩
              rw [pCells_snoc]
              exact HO5.out
            case measure => simp [intOf]; omega
        · obtain rfl : b = 100 := by omega
          have HN := hide (HR.out.1.line (by omega))
          have HO := hide HR.out.2
          go_wp2_with fail
          go_roundw
          case rel => exact ⟨a + 1, l, by omega, by omega, by go_num, x, L, c, rfl, hL, hLb, by simpa using HN.out, HO.out⟩
          case measure => simp [intOf]; omega
    · obtain rfl : a = 100 := by omega
      have hR := HR.out
      go_wp2_with fail
      go_ret
      refine ⟨_, l, rfl, hR.1, ?_, hR.2.2⟩
      subst hL
      exact prow_of hR.2.1
end Go.Proofs.Ytfginhifgljnmaa
namespace Go.Proofs.Ytfginhifgljnmaa
open Go.RowKit Go.Maps

theorem kee_lowP {S : Nat → Prop} {w wr w' : World} (h : Below w.heap.size w wr) (k : Kee S wr w') (hS : ∀ b, S b → w.heap.size ≤ b) : Below w.heap.size w w' :=
  h.trans ⟨k.os, k.tape, k.output, k.size, fun b hb => k.block b (Nat.lt_of_lt_of_le hb h.size) fun hs => by have := hS b hs; omega⟩
theorem WyAt.monoP {base wp n N : Nat} {mo : Option Nat} {f : Int × Int → List (Tm N)} {sl : Int × Int → Value} {w : World} (h : WyAt base wp mo n N f sl w) {m : Nat} (hm : n ≤ m) : WyAt base wp mo m N f sl w := by
  obtain ⟨h1, h2, h3⟩ := h
  refine ⟨h1, h2, ?_⟩
  rcases h3 with h3 | ⟨mb, e, hg⟩
  · exact Or.inl h3
  · exact Or.inr ⟨mb, e, hg.mono hm⟩
/-- The system's box: its ways are in the map ms. -/
def SysAt (sp ms : Nat) (w : World) : Prop := ∃ c0 c1 c2 c3 c5 c6, w.heap[sp]? = some (.cells #[c0, c1, c2, c3, .map (some ms), c5, c6] 94 (0, 0))
theorem SysAt.cell {sp ms : Nat} {w : World} (h : SysAt sp ms w) : w.cell? ⟨sp, 4, none⟩ = some (.map (some ms)) ∧ sp < w.heap.size := by
  obtain ⟨c0, c1, c2, c3, c5, c6, h⟩ := h
  exact ⟨cell_row h 4, (Array.getElem?_eq_some_iff.1 h).1⟩
theorem SysAt.kept {sp ms : Nat} {w w' : World} (h : SysAt sp ms w) (hk : w'.heap[sp]? = w.heap[sp]?) : SysAt sp ms w' := by
  obtain ⟨c0, c1, c2, c3, c5, c6, h⟩ := h
  exact ⟨c0, c1, c2, c3, c5, c6, hk.trans h⟩
/-- What holds behind each call. -/
structure PlS (w : World) (wp : Nat) (mo : Option Nat) (sp ms n N : Nat) (fw fs : Int × Int → List (Tm (N + 1))) (sw ss : Int × Int → Value) (wr : World) : Prop where
  below : Below w.heap.size w wr
  ways : WyAt w.heap.size wp mo n (N + 1) fw sw wr
  sys : SysAt sp ms wr
  lo : w.heap.size ≤ sp
  doc : GO w.heap.size ms n (N + 1) fs ss wr
  d1 : ∀ b, wyM wp mo sw b → ¬ gmM ms ss b
  d2 : ¬ wyM wp mo sw sp
  d3 : ¬ gmM ms ss sp
  eqv : ∀ k, I2 k → sameL (fun a b => same (N + 1) a (N + 1) b) (fw k) (fs k) = true
  grid : ∀ k, I2 k → fw k ≠ [] → Grid k
  len : ∀ k, I2 k → (fw k).length ≤ 20
  arg : ∀ k, I2 k → ∀ y ∈ fs k, In w.heap.size w (N + 1) y
  own : ∀ k, I2 k → ∀ y ∈ fw k, In wr.heap.size wr (N + 1) y ∧ Off (fun b => ¬ wyM wp mo sw b ∧ ¬ gmM ms ss b) (N + 1) y
def PS (w : World) (wp sp ms N n : Nat) (wr : World) : Prop := ∃ mo fw fs sw ss, PlS w wp mo sp ms n N fw fs sw ss wr
theorem psL_length {α β : Type} (f : α → β → Bool) : (p : List α) → (q : List β) → sameL f p q = true → p.length = q.length
  | [], [], _ => rfl
  | [], _ :: _, h => by simp [sameL] at h
  | _ :: _, [], h => by simp [sameL] at h
  | a :: p, b :: q, h => by
    simp only [sameL, Bool.and_eq_true] at h
    simp [psL_length f p q h.2]
theorem psL_snoc {α β : Type} (f : α → β → Bool) {a : α} {b : β} (hab : f a b = true) : (p : List α) → (q : List β) → sameL f p q = true → sameL f (p ++ [a]) (q ++ [b]) = true
  | [], [], _ => by simp [sameL, hab]
  | [], _ :: _, h => by simp [sameL] at h
  | _ :: _, [], h => by simp [sameL] at h
  | a' :: p, b' :: q, h => by
    simp only [sameL, Bool.and_eq_true] at h
    simp [sameL, h.1, psL_snoc f hab p q h.2]
variable {w wr : World} {wp sp ms n N : Nat} {mo : Option Nat} {fw fs : Int × Int → List (Tm (N + 1))} {sw ss : Int × Int → Value}
theorem PlS.later (h : PlS w wp mo sp ms n N fw fs sw ss wr) {w' : World} (hb : Below wr.heap.size wr w') : PlS w wp mo sp ms n N fw fs sw ss w' :=
  ⟨h.below.trans (hb.mono h.below.size), h.ways.later hb, h.sys.kept (hb.block sp h.sys.cell.2), h.lo, h.doc.kee (kee_below hb fun _ => False) fun _ _ hf => hf, h.d1, h.d2, h.d3, h.eqv, h.grid, h.len, h.arg,
    fun k hk y hy => ⟨(h.own k hk y hy).1.kee (kee_below hb fun _ => False) ((h.own k hk y hy).2.mono fun _ _ hf => hf), (h.own k hk y hy).2⟩⟩
theorem PlS.lens (h : PlS w wp mo sp ms n N fw fs sw ss wr) {k : Int × Int} (hk : I2 k) : (fw k).length = (fs k).length ∧ (fw k).length ≤ 20 := ⟨psL_length _ _ _ (h.eqv k hk), h.len k hk⟩
theorem PlS.look (h : PlS w wp mo sp ms n N fw fs sw ss wr) {k : Int × Int} (hk : I2 k) {W : World} (hW : Below wr.heap.size wr W) : (Instr.lookup 90 (.map (some ms)) (pk k) false).run Try.prog W = .ok (ss k) W := (h.later hW).doc.look hk
/-- What the document says that Send answers. -/
def docE (N : Nat) (a b : Int) (x : Tm (N + 1)) (L : Nat) : Int := if inB a 1 99 = false ∨ inB b 1 99 = false then 1 else if gputC (N + 1) x = 0 ∧ L = 20 then 2 else gputC (N + 1) x
theorem doc_send (a b : Int) (x : Tm (N + 1)) (L : Nat) (hL : L ≤ 20) : sendE N a b x L = docE N a b x L := by
  have e1 : pidB a = inB a 1 99 := by unfold pidB inB; rfl
  have e2 : pidB b = inB b 1 99 := by unfold pidB inB; rfl
  unfold sendE sendC docE gputC
  rw [e1, e2]
  by_cases h1 : inB a 1 99 = false ∨ inB b 1 99 = false
  · rw [if_pos h1, if_pos h1]
  · rw [if_neg h1, if_neg h1]
    by_cases h2 : chk (N + 1) x = 0
    · simp only [h2, ne_eq, not_true_eq_false, if_false]
      cases closedT (N + 1) x
      · simp
      · by_cases h3 : 20 ≤ L
        · have : L = 20 := by omega
          simp [this]
        · have : L ≠ 20 := by omega
          simp [h3, this]
    · simp [h2]
/-- The document's row is appended to: the worlds that it goes through. -/
def Ready (w : World) (wp sp ms N n : Nat) (k : Int × Int) (y4 : Array Value) (wr W : World) : Prop :=
  ∃ (a : Option Addr) (L cap st : Nat) (W1 : World) (a' : Option Addr) (cap' : Nat) (w5 w6 : World), (Instr.mapEntry 90 (.map (some ms)) (.agg #[.int .i64 k.1, .int .i64 k.2])).run Try.prog (W.alloc (.cells y4 24)).drew = .ok (.tuple #[.slice a L cap, .int .i64 st]) W1 ∧
    (∀ ty, (Builtin.append_ #[22, 22] ty #[.slice a L cap, .slice (some ⟨W.heap.size, 0, none⟩) 1 1]).run Try.prog W1 = .ok (.slice a' (L + 1) cap') w5) ∧ (Instr.entryStore 90 (.map (some ms)) (.int .i64 st) (.slice a' (L + 1) cap')).run Try.prog w5 = .ok () w6 ∧
    Hid ((∀ b, b < W.heap.size → wr.heap.size ≤ b ∨ b = sp → W1.heap[b]? = W.heap[b]? ∧ w5.heap[b]? = W.heap[b]? ∧ w6.heap[b]? = W.heap[b]?) ∧ PS w wp sp ms N (n + 2) w6)
theorem PlS.send (h : PlS w wp mo sp ms n N fw fs sw ss wr) {W : World} (hW : Below wr.heap.size wr W) {a b : Int} (hk : I2 (a, b)) (x : Tm (N + 1)) (hx : In w.heap.size w (N + 1) x) (hN : (nodes (N + 1) x).length ≤ 2097152) (hn : n ≤ 900) :
    Calls Try.prog 44 #[.pointer (some ⟨wp, 0, none⟩), .int .i64 a, .int .i64 b, val (N + 1) x] W fun e w' => e = .returned (.int .i64 (docE N a b x (fs (a, b)).length)) ∧ Hid ((docE N a b x (fs (a, b)).length ≠ 0 → PS w wp sp ms N n w' ∧ Below W.heap.size W w') ∧
      (docE N a b x (fs (a, b)).length = 0 → (∀ q, q < W.heap.size → wr.heap.size ≤ q ∨ q = sp → w'.heap[q]? = W.heap[q]?) ∧ Ready w wp sp ms N n (a, b) #[.int .i64 x.1.1, .int .i64 x.1.2.1, .string x.1.2.2, .slice x.2.1.1 x.2.2.length x.2.1.2] wr w')) := by
  have h1 := h.later hW
  have hl := h1.lens hk
  have hb := h1.below
  have hsE : sendE N a b x (fw (a, b)).length = docE N a b x (fs (a, b)).length := by rw [doc_send a b x _ hl.2, hl.1]
  have hc := send_any h1.ways hk x ((hx.below hb).mono hb.size) hN (by omega) (by omega)
  rw [hsE] at hc
  refine hc.mono ?_
  rintro e w' ⟨rfl, g1, g2⟩
  refine ⟨rfl, fun he => ⟨⟨mo, fw, fs, sw, ss, h1.later (g1 he)⟩, g1 he⟩, fun he => ?_⟩
  obtain ⟨y, mo', sw', hs, hwy, hkee, hloc, hin, hoff⟩ := g2 he
  have hdoc : GO w.heap.size ms n (N + 1) fs ss w' := h1.doc.kee hkee fun q hb hs => h.d1 q hs hb
  have hsys : SysAt sp ms w' := h1.sys.kept (hkee.block sp h1.sys.cell.2 h.d2)
  refine ⟨fun q hq hq2 => hkee.block q hq fun hm => ?_, ?_⟩
  · rcases hq2 with hq2 | hq2
    · have := (h.ways.lt q hm).2
      omega
    · rw [hq2] at hm
      exact h.d2 hm
  · have hbel : Below w'.heap.size w' (w'.alloc (.cells #[.int .i64 x.1.1, .int .i64 x.1.2.1, .string x.1.2.2, .slice x.2.1.1 x.2.2.length x.2.1.2] 24)).drew := ((Below.refl _ _).alloc (Nat.le_refl _) _).drew
    have hms := hdoc.lt ms (Or.inl rfl)
    have hnew : (w'.alloc (.cells #[.int .i64 x.1.1, .int .i64 x.1.2.1, .string x.1.2.2, .slice x.2.1.1 x.2.2.length x.2.1.2] 24)).drew.heap[w'.heap.size]? = some (.cells #[.int .i64 x.1.1, .int .i64 x.1.2.1, .string x.1.2.2, .slice x.2.1.1 x.2.2.length x.2.1.2] 24) := heap_alloc_new w' _
    obtain ⟨a1, L, cap, st, W1, a', cap', w5, w6, hsl, r1, r2, r3, k1, k5, k6, hG, hM⟩ := hdoc.append hk (by omega) (by omega) x hbel ⟨w'.heap.size, 0, none⟩ 1 (fun j u hj => by
      rw [val_nd4] at hj
      rw [Addr.add_lit, cell_row hnew, Nat.zero_add]
      exact hj) (by simp; omega) (by simp [World.drew])
    have hzw := hkee.size
    have hzd : (w'.alloc (.cells #[.int .i64 x.1.1, .int .i64 x.1.2.1, .string x.1.2.2, .slice x.2.1.1 x.2.2.length x.2.1.2] 24)).drew.heap.size = w'.heap.size + 1 := by simp [World.drew]
    have hnM : ∀ q, wr.heap.size ≤ q ∨ q = sp → ¬ gmM ms ss q := fun q hq hm => by
      rcases hq with hq | hq
      · have := (h.doc.lt q hm).2
        omega
      · rw [hq] at hm
        exact h.d3 hm
    refine ⟨a1, L, cap, st, W1, a', cap', w5, w6, r1, r2, r3, fun q hq hq2 => ?_, ?_⟩
    · have hb0 := hbel.block q hq
      have hm := hnM q hq2
      exact ⟨(k1.block q (by omega) fun e => hm (Or.inl e)).trans hb0, (k5.block q (by omega) hm).trans hb0, (k6.block q (by omega) hm).trans hb0⟩
    · have hk6 : Kee (gmM ms ss) w' w6 := Kee.trans (kee_below hbel _) k6 fun _ _ e => e
      have hMw : ∀ q, gmM ms (upd ss (a, b) (.slice a' (L + 1) cap')) q → gmM ms ss q ∨ w'.heap.size ≤ q := fun q hq => by
        rcases hM q hq with e | e
        · exact Or.inl e
        · exact Or.inr (by omega)
      have hinw : ∀ k, I2 k → ∀ z ∈ fw k, In w'.heap.size w' (N + 1) z ∧ Off (fun q => q < W.heap.size ∧ ¬ wyM wp mo' sw' q ∧ ¬ gmM ms ss q) (N + 1) z := fun k hk2 z hz => by
        have hz1 := h1.own k hk2 z hz
        refine ⟨hz1.1.kee hkee (hz1.2.mono fun q hq => hq.1), (In.offB hz1.2 hz1.1).mono fun q hq => ⟨hq.2, fun hm => ?_, hq.1.2⟩⟩
        rcases hloc q hm with e | e
        · exact hq.1.1 e
        · omega
      have hyy : In w'.heap.size w' (N + 1) y ∧ Off (fun q => ¬ wyM wp mo' sw' q ∧ ¬ gmM ms ss q) (N + 1) y := ⟨hin, hoff.mono fun q hq => ⟨hq.2, fun hm => by have := (h1.doc.lt q hm).2; omega⟩⟩
      have fin : ∀ z, In w'.heap.size w' (N + 1) z → Off (fun q => ¬ wyM wp mo' sw' q ∧ ¬ gmM ms ss q) (N + 1) z → In w6.heap.size w6 (N + 1) z ∧ Off (fun q => ¬ wyM wp mo' sw' q ∧ ¬ gmM ms (upd ss (a, b) (.slice a' (L + 1) cap')) q) (N + 1) z := fun z hz1 hz2 => by
        refine ⟨hz1.kee hk6 (hz2.mono fun q hq => hq.2), (In.offB hz2 hz1).mono fun q hq => ⟨hq.1.1, fun hm => ?_⟩⟩
        rcases hMw q hm with e | e
        · exact hq.1.2 e
        · omega
      have hpid : Grid (a, b) := by
        have hz : docE N a b x (fs (a, b)).length = 0 := he
        unfold docE at hz
        split at hz
        · cases hz
        · rename_i hno
          simp only [not_or, Bool.not_eq_false] at hno
          unfold inB at hno
          simp at hno
          exact ⟨by simp; omega, by simp; omega, by simp; omega, by simp; omega⟩
      have hlt : (fw (a, b)).length < 20 := by
        have hz : docE N a b x (fs (a, b)).length = 0 := he
        unfold docE at hz
        split at hz
        · cases hz
        · split at hz
          · cases hz
          · rename_i hno
            have : (fs (a, b)).length ≠ 20 := fun e => hno ⟨hz, e⟩
            omega
      refine ⟨mo', _, _, sw', _, ⟨kee_lowP (kee_lowP hb hkee fun q hm => (h1.ways.lt q hm).1) hk6 fun q hm => (hdoc.lt q hm).1, (hwy.kee hk6 fun q hq hm => ?_).monoP (Nat.le_succ _), hsys.kept (hk6.block sp hsys.cell.2 h.d3), h.lo, hG.mono (Nat.le_succ _), fun q hq hm => ?_, fun hm => ?_, fun hm => ?_, fun k hk2 => ?_, fun k hk2 hf => ?_, fun k hk2 => ?_, fun k hk2 z hz => ?_, fun k hk2 z hz => ?_⟩⟩
      · rcases hloc q hq with e | e
        · exact h.d1 q e hm
        · have := (h1.doc.lt q hm).2
          omega
      · rcases hMw q hm with e | e
        · rcases hloc q hq with e2 | e2
          · exact h.d1 q e2 e
          · have := (h1.doc.lt q e).2
            omega
        · have := (hwy.lt q hq).2
          omega
      · rcases hloc sp hm with e | e
        · exact h.d2 e
        · have := h1.sys.cell.2
          omega
      · rcases hMw sp hm with e | e
        · exact h.d3 e
        · have := hsys.cell.2
          omega
      · by_cases e : k = (a, b)
        · subst e
          rw [upd_same, upd_same]
          exact psL_snoc (fun a b => same (N + 1) a (N + 1) b) hs _ _ (h.eqv _ hk2)
        · rw [upd_other _ _ e, upd_other _ _ e]
          exact h.eqv k hk2
      · by_cases e : k = (a, b)
        · subst e
          exact hpid
        · rw [upd_other _ _ e] at hf
          exact h.grid k hk2 hf
      · by_cases e : k = (a, b)
        · subst e
          rw [upd_same, List.length_append]
          simp
          omega
        · rw [upd_other _ _ e]
          exact h.len k hk2
      · by_cases e : k = (a, b)
        · subst e
          rw [upd_same, List.mem_append, List.mem_singleton] at hz
          rcases hz with hz | rfl
          · exact h.arg _ hk2 z hz
          · exact hx
        · rw [upd_other _ _ e] at hz
          exact h.arg k hk2 z hz
      · by_cases e : k = (a, b)
        · subst e
          rw [upd_same, List.mem_append, List.mem_singleton] at hz
          rcases hz with hz | rfl
          · exact fin z (hinw _ hk2 z hz).1 ((hinw _ hk2 z hz).2.mono fun q hq => hq.2)
          · exact fin _ hyy.1 hyy.2
        · rw [upd_other _ _ e] at hz
          exact fin z (hinw _ hk2 z hz).1 ((hinw _ hk2 z hz).2.mono fun q hq => hq.2)
end Go.Proofs.Ytfginhifgljnmaa
namespace Go.Proofs.Ytfginhifgljnmaa
open Go.RowKit Go.Maps

variable {w wr : World} {wp sp ms n N : Nat} {mo : Option Nat} {fw fs : Int × Int → List (Tm (N + 1))} {sw ss : Int × Int → Value}
/-- What a Take leaves to be done: the document's first one is the same, and is left out. -/
def Taken (w : World) (wp sp ms N n : Nat) (k : Int × Int) (y : Tm (N + 1)) (wr w' : World) : Prop :=
  ∃ (y0 : Tm (N + 1)) (g o L cap : Nat) (v' : Value), L ≤ 20 ∧ g < w'.heap.size ∧ L + 1 ≤ cap ∧
    Hid (∀ W2, Below w'.heap.size w' W2 → (Instr.lookup 90 (.map (some ms)) (.agg #[.int .i64 k.1, .int .i64 k.2]) false).run Try.prog W2 = .ok (.slice (some ⟨g, o, none⟩) (L + 1) cap) W2) ∧
    Hid (∀ W2, Below w'.heap.size w' W2 → W2.cell? ⟨g, o, none⟩ = some (.int .i64 y0.1.1) ∧ W2.cell? ⟨g, o + 1, none⟩ = some (.int .i64 y0.1.2.1) ∧ W2.cell? ⟨g, o + 2, none⟩ = some (.string y0.1.2.2) ∧ W2.cell? ⟨g, o + 3, none⟩ = some (.slice y0.2.1.1 y0.2.2.length y0.2.1.2)) ∧
    Hid (∀ W2, Below w'.heap.size w' W2 → Calls Try.prog 15 #[.agg #[.int .i64 y.1.1, .int .i64 y.1.2.1, .string y.1.2.2, .slice y.2.1.1 y.2.2.length y.2.1.2], .agg #[.int .i64 y0.1.1, .int .i64 y0.1.2.1, .string y0.1.2.2, .slice y0.2.1.1 y0.2.2.length y0.2.1.2]] W2 fun e w3 => e = .returned (.bool true) ∧ Below W2.heap.size W2 w3) ∧
    Hid (∀ W2 : World, (Instr.slice 22 (.slice (some ⟨g, o, none⟩) (L + 1) cap) (some (.int .i64 1)) none none).run Try.prog W2 = .ok v' W2) ∧
    Hid (∀ W2, Below w'.heap.size w' W2 → ∃ w6, (Instr.mapUpdate 90 (.map (some ms)) (.agg #[.int .i64 k.1, .int .i64 k.2]) v').run Try.prog W2 = .ok () w6 ∧ Hid ((∀ b, b < W2.heap.size → wr.heap.size ≤ b ∨ b = sp → w6.heap[b]? = W2.heap[b]?) ∧ PS w wp sp ms N (n + 2) w6))
theorem PlS.take (h : PlS w wp mo sp ms n N fw fs sw ss wr) {W : World} (hW : Below wr.heap.size wr W) {a b : Int} (hk : I2 (a, b)) (hn : n ≤ 900) :
    Calls Try.prog 45 #[.pointer (some ⟨wp, 0, none⟩), .int .i64 a, .int .i64 b] W fun e w' =>
      (fs (a, b) = [] → e = .returned (.tuple #[.agg #[.int .i64 0, .int .i64 0, .string ⟨#[]⟩, .slice none 0 0], .int .i64 4]) ∧ Hid (PlS w wp mo sp ms n N fw fs sw ss w' ∧ Below W.heap.size W w')) ∧
      (fs (a, b) ≠ [] → ∃ y : Tm (N + 1), e = .returned (.tuple #[.agg #[.int .i64 y.1.1, .int .i64 y.1.2.1, .string y.1.2.2, .slice y.2.1.1 y.2.2.length y.2.1.2], .int .i64 0]) ∧ Hid ((∀ q, q < W.heap.size → wr.heap.size ≤ q ∨ q = sp → w'.heap[q]? = W.heap[q]?) ∧ Taken w wp sp ms N n (a, b) y wr w')) := by
  have h1 := h.later hW
  have hl := h1.lens hk
  refine (take_any h1.ways hk (by omega) (by omega)).mono ?_
  rintro e w' ⟨g1, g2⟩
  refine ⟨fun hf => ?_, fun hf => ?_⟩
  · have hw0 : fw (a, b) = [] := List.eq_nil_of_length_eq_zero (by rw [hl.1, hf]; rfl)
    obtain ⟨rfl, hb⟩ := g1 hw0
    exact ⟨rfl, h1.later hb, hb⟩
  · obtain ⟨y0, l0, hfs⟩ : ∃ y0 l0, fs (a, b) = y0 :: l0 := by
      cases hc : fs (a, b) with
      | nil => exact absurd hc hf
      | cons y l => exact ⟨y, l, rfl⟩
    obtain ⟨y, l, hfw⟩ : ∃ y l, fw (a, b) = y :: l := by
      cases hc : fw (a, b) with
      | nil =>
        rw [hc, hfs] at hl
        simp at hl
      | cons y l => exact ⟨y, l, rfl⟩
    obtain ⟨rfl, sw', hwy, hkee, hloc⟩ := g2 y l hfw
    have heq := h.eqv _ hk
    rw [hfw, hfs] at heq
    simp only [sameL, Bool.and_eq_true] at heq
    have hdoc : GO w.heap.size ms n (N + 1) fs ss w' := h1.doc.kee hkee fun q hb hs => h.d1 q hs hb
    have hsys : SysAt sp ms w' := h1.sys.kept (hkee.block sp h1.sys.cell.2 h.d2)
    have hbw : Below w.heap.size w w' := kee_lowP h1.below hkee fun q hm => (h1.ways.lt q hm).1
    have hrow := hdoc.row (a, b) hk
    rw [hfs] at hrow
    obtain ⟨g, o, cap, hsl, _⟩ := orow_first hrow
    have hgl : g < w'.heap.size := (hrow.lt g (by rw [hsl]; rfl)).2
    have hcap : l0.length + 1 ≤ cap := by
      rcases hrow with ⟨_, e⟩ | ⟨g', o', cap', cur, e, _, _, e4, _⟩
      · cases e
      · rw [hsl] at e
        simp at e
        simp at e4
        omega
    obtain ⟨v', hsv, htl, hown⟩ := orow_tail hrow
    rw [hsl] at hsv hown
    have hyin := h1.own (a, b) hk y (by rw [hfw]; simp)
    have hy' : In w'.heap.size w' (N + 1) y := hyin.1.kee hkee (hyin.2.mono fun q hq => hq.1)
    have hy0 : In w.heap.size w (N + 1) y0 := h.arg _ hk y0 (by rw [hfs]; simp)
    refine ⟨y, rfl, fun q hq hq2 => hkee.block q hq fun hm => ?_, y0, g, o, l0.length, cap, v', ?_, hgl, hcap, fun W2 hW2 => ?_, fun W2 hW2 => ?_, fun W2 hW2 => ?_, hsv, fun W2 hW2 => ?_⟩
    · rcases hq2 with hq2 | hq2
      · have := (h.ways.lt q hm).2
        omega
      · rw [hq2] at hm
        exact h.d2 hm
    · have := hl.2
      rw [hl.1, hfs] at this
      simp at this
      omega
    · have := (hdoc.kee (kee_below hW2 fun _ => False) fun _ _ hf => hf).look hk
      rw [hsl] at this
      exact this
    · obtain ⟨g', o', cap', e, r⟩ := orow_first (hrow.kee (kee_below hW2 fun _ => False) fun _ _ hf => hf)
      rw [hsl] at e
      simp at e
      obtain ⟨⟨rfl, rfl⟩, _⟩ := e
      exact r
    · have hb2 := hbw.trans (hW2.mono hbw.size)
      have hs := same_any (N + 1) y (N + 1) y0 W2.heap.size W2 ((hy'.below hW2).mono hW2.size) ((hy0.below hb2).mono hb2.size) (Nat.le_refl _)
      rw [heq.1] at hs
      exact hs
    · have hdoc2 : GO w.heap.size ms n (N + 1) fs ss W2 := hdoc.kee (kee_below hW2 fun _ => False) fun _ _ hf => hf
      have htl2 : ORow w.heap.size (N + 1) v' l0 W2 := htl.kee (kee_below hW2 fun _ => False) fun _ _ hf => hf
      have hob : v'.ownBlock = (ss (a, b)).ownBlock := by rw [hown, hsl]
      obtain ⟨w6, hr, hG, hk6, hs6⟩ := hdoc2.store hk (Kee.refl _ _) htl2 (fun q hq => Or.inl (by rw [← hob]; exact hq)) (by omega)
      have hMw : ∀ q, gmM ms (upd ss (a, b) v') q → gmM ms ss q := fun q hq => by
        rcases hq with hq | ⟨j, hj, hq⟩
        · exact Or.inl hq
        · by_cases e : j = (a, b)
          · subst e
            rw [upd_same, hob] at hq
            exact Or.inr ⟨_, hj, hq⟩
          · rw [upd_other _ _ e] at hq
            exact Or.inr ⟨j, hj, hq⟩
      have hwy2 := hwy.later hW2
      have hms := hdoc2.lt ms (Or.inl rfl)
      refine ⟨w6, hr, fun q hq hq2 => hk6.block q hq fun e => ?_, mo, _, _, sw', _, ⟨?_, (hwy2.kee hk6 fun q hq e => ?_).monoP (Nat.le_succ _), ?_, h.lo, hG.mono (Nat.le_succ _), fun q hq hm => h.d1 q (hloc q hq) (hMw q hm), fun hm => h.d2 (hloc _ hm), fun hm => h.d3 (hMw _ hm), fun k hk2 => ?_, fun k hk2 hf2 => ?_, fun k hk2 => ?_, fun k hk2 z hz => ?_, fun k hk2 z hz => ?_⟩⟩
      · subst e
        rcases hq2 with hq2 | hq2
        · have := (h.doc.lt q (Or.inl rfl)).2
          omega
        · rw [← hq2] at h
          exact h.d3 (Or.inl rfl)
      · exact kee_lowP (hbw.trans (hW2.mono hbw.size)) hk6 fun q e => by rw [e]; exact hms.1
      · exact h.d1 q (hloc q hq) (Or.inl e)
      · have hs2 := hsys.kept (hW2.block sp hsys.cell.2)
        exact hs2.kept (hk6.block sp hs2.cell.2 fun e => h.d3 (Or.inl e))
      · by_cases e : k = (a, b)
        · subst e
          rw [upd_same, upd_same]
          exact heq.2
        · rw [upd_other _ _ e, upd_other _ _ e]
          exact h.eqv k hk2
      · by_cases e : k = (a, b)
        · subst e
          exact h.grid _ hk2 (by rw [hfw]; simp)
        · rw [upd_other _ _ e] at hf2
          exact h.grid k hk2 hf2
      · by_cases e : k = (a, b)
        · subst e
          rw [upd_same]
          have := h.len _ hk2
          rw [hfw] at this
          simp at this
          omega
        · rw [upd_other _ _ e]
          exact h.len k hk2
      · by_cases e : k = (a, b)
        · subst e
          rw [upd_same] at hz
          exact h.arg _ hk2 z (by rw [hfs]; simp [hz])
        · rw [upd_other _ _ e] at hz
          exact h.arg k hk2 z hz
      · have hz0 : z ∈ fw k := by
          by_cases e : k = (a, b)
          · subst e
            rw [upd_same] at hz
            rw [hfw]
            simp [hz]
          · rw [upd_other _ _ e] at hz
            exact hz
        have hz1 := h1.own k hk2 z hz0
        have hz2 : In w'.heap.size w' (N + 1) z := hz1.1.kee hkee (hz1.2.mono fun q hq => hq.1)
        have hz3 : In W2.heap.size W2 (N + 1) z := (hz2.below hW2).mono hW2.size
        exact ⟨hz3.kee hk6 (hz1.2.mono fun q hq e => hq.2 (Or.inl e)), hz1.2.mono fun q hq => ⟨fun hm => hq.1 (hloc q hm), fun hm => hq.2 (hMw q hm)⟩⟩
theorem PlS.all (h : PlS w wp mo sp ms n N fw fs sw ss wr) {W : World} (hW : Below wr.heap.size wr W) (hn : n ≤ 900) : Calls Try.prog 47 #[.pointer (some ⟨wp, 0, none⟩)] W fun e w' => ∃ v, e = .returned v ∧ Hid (Below W.heap.size W w' ∧ ∃ l, Risen fw l ∧ PRow v l w') := by
  refine (wall_any (h.later hW).ways (by omega)).mono ?_
  rintro e w' ⟨v, l, rfl, h1, h2, h3⟩
  exact ⟨v, rfl, h3, l, h1, h2⟩
theorem PlS.opens (h : PlS w wp mo sp ms n N fw fs sw ss wr) {W : World} (hW : Below wr.heap.size wr W) : Calls Try.prog 48 #[.pointer (some ⟨sp, 0, none⟩)] W fun e w' => ∃ u, e = .returned u ∧ Hid (Below W.heap.size W w' ∧ ∃ l, Risen fw l ∧ l.length ≤ 1000000 ∧ PRow u l w') := by
  have h1 := h.later hW
  obtain ⟨f', hf'⟩ : ∃ f' : Int × Int → List (Tm (N + 1)), (∀ k, I2 k → f' k = fs k) ∧ ∀ k, (f' k).length ≤ 1000 := by
    refine ⟨fun k => if (fs k).length ≤ 20 then fs k else [], fun k hk => ?_, fun k => ?_⟩
    · have := h.lens hk
      simp only
      rw [if_pos (by omega)]
    · simp only
      split
      · omega
      · simp
  refine (open_walk f' sp ms W h1.sys.cell.2 h1.sys.cell.1 (fun a b hI W2 hW2 => ?_) (fun a b => hf'.2 (a, b))).mono ?_
  · have hlk := h1.look hI hW2
    obtain ⟨x, c, e⟩ := ((h1.later hW2).doc.row (a, b) hI).sliced
    rw [e] at hlk
    rw [hf'.1 _ hI]
    exact ⟨x, c, hlk⟩
  · rintro e w' ⟨v, l, rfl, g1, g2, g3⟩
    refine ⟨v, rfl, g3, l, g1.risen (fun k hk hne => h.grid k hk hne) (fun k hk => ?_), ?_, g2⟩
    · rw [hf'.1 k hk]
      have hl := (h.lens hk).1
      constructor
      · intro e
        rw [e] at hl
        exact List.eq_nil_of_length_eq_zero hl
      · intro e
        rw [e] at hl
        exact List.eq_nil_of_length_eq_zero hl.symm
    · have := g1.2.2
      simp at this
      omega
theorem risen_same {M : Nat} {f : Int × Int → List (Tm M)} {v u : Value} {W : World} (h1 : ∃ l, Risen f l ∧ PRow v l W) (h2 : ∃ l, Risen f l ∧ l.length ≤ 1000000 ∧ PRow u l W) : Calls Try.prog 46 #[v, u] W fun e w' => e = .returned (.bool true) ∧ Below W.heap.size W w' := by
  obtain ⟨l, a1, a2⟩ := h1
  obtain ⟨r, b1, b2, b3⟩ := h2
  have e := risen_unique (f := f) (g := f) l r a1.1 b1.1 fun k => (a1.2 k).trans (b1.2 k).symm
  subst e
  exact equal_any a2 b3 b2
theorem PlS.many (h : PlS w wp mo sp ms n N fw fs sw ss wr) {W : World} (hW : Below wr.heap.size wr W) {a b : Int} (hk : I2 (a, b)) : Calls Try.prog 49 #[.pointer (some ⟨wp, 0, none⟩), .int .i64 a, .int .i64 b] W fun e w' => e = .returned (.int .i64 (fs (a, b)).length) ∧ w' = W := by
  have := wmany_any (h.later hW).ways hk
  rw [(h.lens hk).1] at this
  exact this
end Go.Proofs.Ytfginhifgljnmaa
namespace Go.Proofs.Ytfginhifgljnmaa
open Go.RowKit Go.Maps

theorem WyAt.mono {base wp n N : Nat} {mo : Option Nat} {f : Int × Int → List (Tm N)} {sl : Int × Int → Value} {w : World} (h : WyAt base wp mo n N f sl w) {m : Nat} (hm : n ≤ m) : WyAt base wp mo m N f sl w := by
  obtain ⟨h1, h2, h3⟩ := h
  refine ⟨h1, h2, ?_⟩
  rcases h3 with h3 | ⟨mb, e, hg⟩
  · exact Or.inl h3
  · exact Or.inr ⟨mb, e, hg.mono hm⟩
/-- Ways and two maps of rows, side by side; T: terms that lie apart from them. -/
structure RwM (w : World) (wp : Nat) (mo : Option Nat) (ms mt n N : Nat) (fw fs ft : Int × Int → List (Tm N)) (sw ss st : Int × Int → Value) (T : Tm N → Prop) (wr : World) : Prop where
  below : Below w.heap.size w wr
  ways : WyAt w.heap.size wp mo n N fw sw wr
  sent : GM w.heap.size ms n N fs ss wr
  took : GM w.heap.size mt n N ft st wr
  d1 : ∀ b, wyM wp mo sw b → ¬ gmM ms ss b
  d2 : ∀ b, wyM wp mo sw b → ¬ gmM mt st b
  d3 : ∀ b, gmM ms ss b → ¬ gmM mt st b
  own : ∀ y, T y → In wr.heap.size wr N y ∧ Off (fun b => ¬ wyM wp mo sw b ∧ ¬ gmM ms ss b ∧ ¬ gmM mt st b) N y
variable {w wr : World} {wp : Nat} {mo : Option Nat} {ms mt n N : Nat} {fw fs ft : Int × Int → List (Tm N)} {sw ss st : Int × Int → Value} {T : Tm N → Prop}
theorem RwM.later (h : RwM w wp mo ms mt n N fw fs ft sw ss st T wr) {w' : World} (hb : Below wr.heap.size wr w') : RwM w wp mo ms mt n N fw fs ft sw ss st T w' :=
  ⟨h.below.trans (hb.mono h.below.size), h.ways.later hb, h.sent.kee (kee_below hb fun _ => False) fun _ _ hf => hf, h.took.kee (kee_below hb fun _ => False) fun _ _ hf => hf, h.d1, h.d2, h.d3,
    fun y hy => ⟨(h.own y hy).1.kee (kee_below hb fun _ => False) ((h.own y hy).2.mono fun _ _ hf => hf), (h.own y hy).2⟩⟩
theorem RwM.less (h : RwM w wp mo ms mt n N fw fs ft sw ss st T wr) {T' : Tm N → Prop} (hT : ∀ y, T' y → T y) : RwM w wp mo ms mt n N fw fs ft sw ss st T' wr :=
  ⟨h.below, h.ways, h.sent, h.took, h.d1, h.d2, h.d3, fun y hy => h.own y (hT y hy)⟩
theorem RwM.up (h : RwM w wp mo ms mt n N fw fs ft sw ss st T wr) {m : Nat} (hm : n ≤ m) : RwM w wp mo ms mt m N fw fs ft sw ss st T wr :=
  ⟨h.below, h.ways.mono hm, h.sent.mono hm, h.took.mono hm, h.d1, h.d2, h.d3, h.own⟩
theorem kee_low {S : Nat → Prop} {w wr w' : World} (h : Below w.heap.size w wr) (k : Kee S wr w') (hS : ∀ b, S b → w.heap.size ≤ b) : Below w.heap.size w w' :=
  h.trans ⟨k.os, k.tape, k.output, k.size, fun b hb => k.block b (Nat.lt_of_lt_of_le hb h.size) fun hs => by have := hS b hs; omega⟩
/-- The ways turn. -/
theorem RwM.way (h : RwM w wp mo ms mt n N fw fs ft sw ss st T wr) {w' : World} {mo' : Option Nat} {fw' : Int × Int → List (Tm N)} {sw' : Int × Int → Value} (k : Kee (wyM wp mo sw) wr w') (hw : WyAt w.heap.size wp mo' n N fw' sw' w') (hl : ∀ b, wyM wp mo' sw' b → wyM wp mo sw b ∨ wr.heap.size ≤ b) :
    RwM w wp mo' ms mt n N fw' fs ft sw' ss st T w' := by
  refine ⟨kee_low h.below k fun b hb => (h.ways.lt b hb).1, hw, h.sent.kee k fun b hb hs => h.d1 b hs hb, h.took.kee k fun b hb hs => h.d2 b hs hb, fun b hb hs => ?_, fun b hb hs => ?_, h.d3, fun y hy => ⟨(h.own y hy).1.kee k ((h.own y hy).2.mono fun b hb => hb.1), ?_⟩⟩
  · rcases hl b hb with e | e
    · exact h.d1 b e hs
    · have := (h.sent.lt b hs).2
      omega
  · rcases hl b hb with e | e
    · exact h.d2 b e hs
    · have := (h.took.lt b hs).2
      omega
  · refine (In.offB (h.own y hy).2 (h.own y hy).1).mono fun b hb => ⟨fun hm => ?_, hb.1.2⟩
    rcases hl b hm with e | e
    · exact hb.1.1 e
    · omega
/-- What was sent turns. -/
theorem RwM.send (h : RwM w wp mo ms mt n N fw fs ft sw ss st T wr) {w' : World} {fs' : Int × Int → List (Tm N)} {ss' : Int × Int → Value} (k : Kee (gmM ms ss) wr w') (hw : GM w.heap.size ms n N fs' ss' w') (hl : ∀ b, gmM ms ss' b → gmM ms ss b ∨ wr.heap.size ≤ b) :
    RwM w wp mo ms mt n N fw fs' ft sw ss' st T w' := by
  refine ⟨kee_low h.below k fun b hb => (h.sent.lt b hb).1, h.ways.kee k fun b hb hs => h.d1 b hb hs, hw, h.took.kee k fun b hb hs => h.d3 b hs hb, fun b hb hs => ?_, h.d2, fun b hb hs => ?_, fun y hy => ⟨(h.own y hy).1.kee k ((h.own y hy).2.mono fun b hb => hb.2.1), ?_⟩⟩
  · rcases hl b hs with e | e
    · exact h.d1 b hb e
    · have := (h.ways.lt b hb).2
      omega
  · rcases hl b hb with e | e
    · exact h.d3 b e hs
    · have := (h.took.lt b hs).2
      omega
  · refine (In.offB (h.own y hy).2 (h.own y hy).1).mono fun b hb => ⟨hb.1.1, fun hm => ?_, hb.1.2.2⟩
    rcases hl b hm with e | e
    · exact hb.1.2.1 e
    · omega
/-- What was taken turns. -/
theorem RwM.take (h : RwM w wp mo ms mt n N fw fs ft sw ss st T wr) {w' : World} {ft' : Int × Int → List (Tm N)} {st' : Int × Int → Value} (k : Kee (gmM mt st) wr w') (hw : GM w.heap.size mt n N ft' st' w') (hl : ∀ b, gmM mt st' b → gmM mt st b ∨ wr.heap.size ≤ b) :
    RwM w wp mo ms mt n N fw fs ft' sw ss st' T w' := by
  refine ⟨kee_low h.below k fun b hb => (h.took.lt b hb).1, h.ways.kee k fun b hb hs => h.d2 b hb hs, h.sent.kee k fun b hb hs => h.d3 b hb hs, hw, h.d1, fun b hb hs => ?_, fun b hb hs => ?_, fun y hy => ⟨(h.own y hy).1.kee k ((h.own y hy).2.mono fun b hb => hb.2.2), ?_⟩⟩
  · rcases hl b hs with e | e
    · exact h.d2 b hb e
    · have := (h.ways.lt b hb).2
      omega
  · rcases hl b hs with e | e
    · exact h.d3 b hb e
    · have := (h.sent.lt b hb).2
      omega
  · refine (In.offB (h.own y hy).2 (h.own y hy).1).mono fun b hb => ⟨hb.1.1, hb.1.2.1, fun hm => ?_⟩
    rcases hl b hm with e | e
    · exact hb.1.2.2 e
    · omega
theorem RwM.add (h : RwM w wp mo ms mt n N fw fs ft sw ss st T wr) {z : Tm N} (hz : In wr.heap.size wr N z ∧ Off (fun b => ¬ wyM wp mo sw b ∧ ¬ gmM ms ss b ∧ ¬ gmM mt st b) N z) : RwM w wp mo ms mt n N fw fs ft sw ss st (fun y => T y ∨ y = z) wr :=
  ⟨h.below, h.ways, h.sent, h.took, h.d1, h.d2, h.d3, fun y hy => by
    rcases hy with hy | rfl
    · exact h.own y hy
    · exact hz⟩
end Go.Proofs.Ytfginhifgljnmaa
namespace Go.Proofs.Ytfginhifgljnmaa
open Go.RowKit Go.Maps

/-- A term is appended to the row at a key, by the map's entry. -/
def Appends (base m : Nat) (k : Int × Int) (y4 : List Value) (R : World → Prop) (W : World) : Prop :=
  ∃ (sa : Option Addr) (L sc : Nat) (xs : List Value), L ≤ 1000 ∧ m < W.heap.size ∧ base ≤ W.heap.size ∧ ∀ W2, Below W.heap.size W W2 → ∃ (st : Nat) (W1 : World), (Instr.mapEntry 90 (.map (some m)) (pk k)).run Try.prog W2 = .ok (.tuple #[.slice sa L sc, goInt st]) W1 ∧ Kee (fun b => b = m) W2 W1 ∧ W1.heap.size = W2.heap.size ∧
    W1.ownsRow base 24 4 (.slice sa L sc) L xs ∧ ∀ g c w5, W1.grownBy w5 (Value.slice sa L sc).ownBlock → w5.ownsRow base 24 4 (.slice (some ⟨g, 0, none⟩) (L + 1) c) (L + 1) (xs ++ y4) → ((Value.slice sa L sc).ownBlock = some g ∨ g = W1.heap.size) →
      ∃ w6, (Instr.entryStore 90 (.map (some m)) (goInt st) (.slice (some ⟨g, 0, none⟩) (L + 1) c)).run Try.prog w5 = .ok () w6 ∧ R w6
theorem appends_of {base m n N : Nat} {f : Int × Int → List (Tm N)} {sl : Int × Int → Value} {W : World} (h : GM base m n N f sl W) {k : Int × Int} (hk : I2 k) (hn : n < 999999) (hl : (f k).length ≤ 1000) {y : Tm N} {R : World → Prop} (hR : ∀ w6, Grew base m n N f sl k y W w6 → R w6) : Appends base m k (nd4 (hdT N y)) R W := by
  obtain ⟨sa, sc, hs⟩ := (h.row k hk).sliced
  have hm := h.lt m (Or.inl rfl)
  refine ⟨sa, (f k).length, sc, tCells N (f k), hl, hm.2, by omega, fun W2 hW2 => ?_⟩
  obtain ⟨st, W1, hrun, k1, hs1, he⟩ := h.open hk (by omega) hW2
  rw [hs] at hrun
  have hrow : W1.ownsRow base 24 4 (.slice sa (f k).length sc) (f k).length (tCells N (f k)) := by
    have h1 := row_kee (row_kee (h.row k hk) (kee_below hW2 fun _ => False) fun _ _ hf => hf) k1 fun b hb e => h.ne hk (by rw [hb, e])
    rwa [hs] at h1
  refine ⟨st, W1, hrun, k1, hs1, hrow, fun g c w5 hgr ho hat => ?_⟩
  rw [← hs] at hgr hat
  obtain ⟨w6, hr, hg, _⟩ := Ent.done h hk he hW2 k1 hs1 (Below.refl _ _) hgr (y := y) (L := (f k).length) rfl ho hat
  exact ⟨w6, hr, hR w6 hg⟩

theorem Appends.step {base m : Nat} {k : Int × Int} {v0 v1 v2 v3 : Value} {R : World → Prop} {W : World} (h : Appends base m k [v0, v1, v2, v3] R W) : ∃ (sa : Option Addr) (L sc : Nat) (xs : List Value) (st : Nat) (W1 : World), L ≤ 1000 ∧ base ≤ W1.heap.size ∧ (Instr.mapEntry 90 (.map (some m)) (.agg #[.int .i64 k.1, .int .i64 k.2])).run Try.prog (W.alloc (.cells #[v0, v1, v2, v3] 24)) = .ok (.tuple #[.slice sa L sc, .int .i64 st]) W1 ∧
    Hid (W1.ownsRow base 24 4 (.slice sa L sc) L xs ∧ W1.heap[W.heap.size]? = some (.cells #[v0, v1, v2, v3] 24) ∧ ∀ g c w5, W1.grownBy w5 (Value.slice sa L sc).ownBlock → w5.ownsRow base 24 4 (.slice (some ⟨g, 0, none⟩) (L + 1) c) (L + 1) (xs ++ [v0, v1, v2, v3]) → ((Value.slice sa L sc).ownBlock = some g ∨ g = W1.heap.size) →
      ∃ w6, (Instr.entryStore 90 (.map (some m)) (.int .i64 st) (.slice (some ⟨g, 0, none⟩) (L + 1) c)).run Try.prog w5 = .ok () w6 ∧ R w6) := by
  obtain ⟨sa, L, sc, xs, hL, hm, hb, h⟩ := h
  obtain ⟨st, W1, hrun, k1, hs1, hrow, hst⟩ := h (W.alloc (.cells #[v0, v1, v2, v3] 24)) ((Below.refl _ _).alloc (Nat.le_refl _) _)
  have hz : (W.alloc (.cells #[v0, v1, v2, v3] 24)).heap.size = W.heap.size + 1 := by simp
  exact ⟨sa, L, sc, xs, st, W1, hL, by omega, hrun, hrow, (k1.block W.heap.size (by omega) (by omega)).trans (heap_alloc_new W _), hst⟩
theorem wsL_length {α β : Type} (f : α → β → Bool) : (p : List α) → (q : List β) → sameL f p q = true → p.length = q.length
  | [], [], _ => rfl
  | [], _ :: _, h => by simp [sameL] at h
  | _ :: _, [], h => by simp [sameL] at h
  | a :: p, b :: q, h => by
    simp only [sameL, Bool.and_eq_true] at h
    simp [wsL_length f p q h.2]
theorem wsL_snoc {α β : Type} (f : α → β → Bool) {a : α} {b : β} (hab : f a b = true) : (p : List α) → (q : List β) → sameL f p q = true → sameL f (p ++ [a]) (q ++ [b]) = true
  | [], [], _ => by simp [sameL, hab]
  | [], _ :: _, h => by simp [sameL] at h
  | _ :: _, [], h => by simp [sameL] at h
  | a' :: p, b' :: q, h => by
    simp only [sameL, Bool.and_eq_true] at h
    simp [sameL, h.1, wsL_snoc f hab p q h.2]
theorem wsL_take {α β : Type} (f : α → β → Bool) : (p r : List α) → (q : List β) → sameL f (p ++ r) q = true → sameL f p (q.take p.length) = true
  | [], r, q, _ => by simp [sameL]
  | a :: p, r, [], h => by simp [sameL] at h
  | a :: p, r, b :: q, h => by
    simp only [List.cons_append, sameL, Bool.and_eq_true] at h
    simp [sameL, h.1, wsL_take f p r q h.2]

/-- What holds behind each call. -/
structure RwS (w : World) (wp : Nat) (mo : Option Nat) (ms mt n N : Nat) (fw fs ft : Int × Int → List (Tm (N + 1))) (sw ss st : Int × Int → Value) (wr : World) : Prop where
  mem : RwM w wp mo ms mt n (N + 1) fw fs ft sw ss st (fun y => ∃ k, I2 k ∧ y ∈ ft k ++ fw k) wr
  eqv : ∀ k, I2 k → sameL (fun a b => same (N + 1) a (N + 1) b) (ft k ++ fw k) (fs k) = true
  len : ∀ k, I2 k → (fs k).length ≤ n
  arg : ∀ k, I2 k → ∀ y ∈ fs k, In w.heap.size w (N + 1) y
def RS (w : World) (wp ms mt N n : Nat) (wr : World) : Prop := ∃ mo fw fs ft sw ss st, RwS w wp mo ms mt n N fw fs ft sw ss st wr
variable {w wr : World} {wp ms mt n N : Nat}
theorem RwS.later {mo : Option Nat} {fw fs ft : Int × Int → List (Tm (N + 1))} {sw ss st : Int × Int → Value} (h : RwS w wp mo ms mt n N fw fs ft sw ss st wr) {w' : World} (hb : Below wr.heap.size wr w') : RwS w wp mo ms mt n N fw fs ft sw ss st w' := ⟨h.mem.later hb, h.eqv, h.len, h.arg⟩
theorem RS.later (h : RS w wp ms mt N n wr) {w' : World} (hb : Below wr.heap.size wr w') : RS w wp ms mt N n w' := by
  obtain ⟨mo, fw, fs, ft, sw, ss, st, h⟩ := h
  exact ⟨mo, fw, fs, ft, sw, ss, st, h.later hb⟩
theorem RS.below (h : RS w wp ms mt N n wr) : Below w.heap.size w wr := by
  obtain ⟨mo, fw, fs, ft, sw, ss, st, h⟩ := h
  exact h.mem.below
theorem RwS.lens {mo : Option Nat} {fw fs ft : Int × Int → List (Tm (N + 1))} {sw ss st : Int × Int → Value} (h : RwS w wp mo ms mt n N fw fs ft sw ss st wr) {k : Int × Int} (hk : I2 k) : (ft k).length + (fw k).length = (fs k).length ∧ (fs k).length ≤ n := by
  have h1 := wsL_length _ _ _ (h.eqv k hk)
  rw [List.length_append] at h1
  exact ⟨h1, h.len k hk⟩
/-- What a Send leaves to be done: what was sent is written down. -/
theorem RS.send (h : RS w wp ms mt N n wr) {W : World} (hW : Below wr.heap.size wr W) {a b : Int} (hk : I2 (a, b)) (x : Tm (N + 1)) (hx : In w.heap.size w (N + 1) x) (hN : (nodes (N + 1) x).length ≤ 2097152) (hn : n ≤ 900) :
    Calls Try.prog 44 #[.pointer (some ⟨wp, 0, none⟩), .int .i64 a, .int .i64 b, val (N + 1) x] W fun e w' => ∃ err : Int, e = .returned (.int .i64 err) ∧ Hid ((err ≠ 0 → RS w wp ms mt N n w') ∧
      (err = 0 → (∀ q, wr.heap.size ≤ q → q < W.heap.size → w'.heap[q]? = W.heap[q]?) ∧ Appends w.heap.size ms (a, b) (nd4 (hdT (N + 1) x)) (RS w wp ms mt N (n + 2)) w')) := by
  obtain ⟨mo, fw, fs, ft, sw, ss, st, h⟩ := h
  have h1 := h.later hW
  have hl := h1.lens hk
  have hb := h1.mem.below
  refine (send_any h1.mem.ways hk x ((hx.below hb).mono hb.size) hN (by omega) (by omega)).mono ?_
  rintro e w' ⟨rfl, g1, g2⟩
  refine ⟨_, rfl, fun he => ⟨mo, fw, fs, ft, sw, ss, st, h1.later (g1 he)⟩, fun he => ?_⟩
  obtain ⟨y, mo', sw', hs, hwy, hkee, hloc, hin, hoff⟩ := g2 he
  have hm := (h1.mem.up (Nat.le_succ n)).way hkee hwy hloc
  refine ⟨fun q hq1 hq2 => hkee.block q hq2 fun hm => ?_, ?_⟩
  · have := (h.mem.ways.lt q hm).2
    omega
  · refine appends_of hm.sent hk (by omega) (by omega) fun w6 hg => ?_
    obtain ⟨v, hG, hk6, hl6⟩ := hg
    have hoff' : Off (fun b => ¬ wyM wp mo' sw' b ∧ ¬ gmM ms ss b ∧ ¬ gmM mt st b) (N + 1) y := hoff.mono fun q hq => ⟨hq.2, fun hm => by have := (h1.mem.sent.lt q hm).2; omega, fun hm => by have := (h1.mem.took.lt q hm).2; omega⟩
    have hm2 := ((hm.add ⟨hin, hoff'⟩).up (Nat.le_succ _)).send hk6 hG hl6
    refine ⟨mo', _, _, ft, sw', _, st, hm2.less ?_, fun k hk2 => ?_, fun k hk2 => ?_, fun k hk2 z hz => ?_⟩
    · rintro z ⟨k, hk2, hz⟩
      by_cases e : k = (a, b)
      · subst e
        rw [upd_same] at hz
        simp only [List.mem_append, List.mem_singleton] at hz
        rcases hz with hz | hz | hz
        · exact Or.inl ⟨_, hk2, by simp [hz]⟩
        · exact Or.inl ⟨_, hk2, by simp [hz]⟩
        · exact Or.inr hz
      · rw [upd_other _ _ e] at hz
        exact Or.inl ⟨k, hk2, hz⟩
    · by_cases e : k = (a, b)
      · subst e
        rw [upd_same, upd_same, ← List.append_assoc]
        exact wsL_snoc (fun a b => same (N + 1) a (N + 1) b) hs _ _ (h.eqv _ hk2)
      · rw [upd_other _ _ e, upd_other _ _ e]
        exact h.eqv k hk2
    · by_cases e : k = (a, b)
      · subst e
        rw [upd_same, List.length_append]
        have := h.len _ hk2
        simp
        omega
      · rw [upd_other _ _ e]
        have := h.len k hk2
        omega
    · by_cases e : k = (a, b)
      · subst e
        rw [upd_same, List.mem_append, List.mem_singleton] at hz
        rcases hz with hz | rfl
        · exact h.arg _ hk2 z hz
        · exact hx
      · rw [upd_other _ _ e] at hz
        exact h.arg k hk2 z hz
/-- What a Take leaves to be done: what was taken is written down. -/
theorem RS.take (h : RS w wp ms mt N n wr) {W : World} (hW : Below wr.heap.size wr W) {a b : Int} (hk : I2 (a, b)) (hn : n ≤ 900) :
    Calls Try.prog 45 #[.pointer (some ⟨wp, 0, none⟩), .int .i64 a, .int .i64 b] W fun e w' => ∃ (z0 z1 : Int) (zs : ByteArray) (za : Option Addr) (zl zc : Nat) (err : Int), e = .returned (.tuple #[.agg #[.int .i64 z0, .int .i64 z1, .string zs, .slice za zl zc], .int .i64 err]) ∧ Hid ((err ≠ 0 → RS w wp ms mt N n w') ∧
      (err = 0 → (∀ q, wr.heap.size ≤ q → q < W.heap.size → w'.heap[q]? = W.heap[q]?) ∧ ∀ w2, Below w'.heap.size w' w2 → Appends w.heap.size mt (a, b) [.int .i64 z0, .int .i64 z1, .string zs, .slice za zl zc] (RS w wp ms mt N (n + 2)) w2)) := by
  obtain ⟨mo, fw, fs, ft, sw, ss, st, h⟩ := h
  have h1 := h.later hW
  have hl := h1.lens hk
  refine (take_any h1.mem.ways hk (by omega) (by omega)).mono ?_
  rintro e w' ⟨g1, g2⟩
  cases hf : fw (a, b) with
  | nil =>
    obtain ⟨rfl, hb⟩ := g1 hf
    exact ⟨_, _, _, _, _, _, _, rfl, fun _ => ⟨mo, fw, fs, ft, sw, ss, st, h1.later hb⟩, fun e => by cases e⟩
  | cons y l =>
    obtain ⟨rfl, sw', hwy, hkee, hloc⟩ := g2 y l hf
    refine ⟨y.1.1, y.1.2.1, y.1.2.2, y.2.1.1, y.2.2.length, y.2.1.2, 0, rfl, fun e => absurd rfl e, fun _ => ?_⟩
    have hm := (h1.mem.up (Nat.le_succ n)).way hkee hwy fun b hb => Or.inl (hloc b hb)
    refine ⟨fun q hq1 hq2 => hkee.block q hq2 fun hm => ?_, fun w2 hb2 => ?_⟩
    · have := (h.mem.ways.lt q hm).2
      omega
    · have hm2 := hm.later hb2
      refine appends_of (y := y) hm2.took hk (by omega) (by omega) fun w6 hg => ?_
      obtain ⟨v, hG, hk6, hl6⟩ := hg
      have hm3 := (hm2.up (Nat.le_succ _)).take hk6 hG hl6
      have hc : ∀ k, (upd ft (a, b) (ft (a, b) ++ [y]) k) ++ (upd fw (a, b) l k) = ft k ++ fw k := fun k => by
        by_cases e : k = (a, b)
        · subst e
          rw [upd_same, upd_same, hf, List.append_assoc]
          rfl
        · rw [upd_other _ _ e, upd_other _ _ e]
      refine ⟨mo, _, fs, _, sw', ss, _, hm3.less ?_, fun k hk2 => ?_, fun k hk2 => ?_, h.arg⟩
      · rintro z ⟨k, hk2, hz⟩
        rw [hc] at hz
        exact ⟨k, hk2, hz⟩
      · rw [hc]
        exact h.eqv k hk2
      · have := h.len k hk2
        omega
end Go.Proofs.Ytfginhifgljnmaa
namespace Go.Proofs.Ytfginhifgljnmaa
open Go.RowKit

theorem tuple_any (a : Option Addr) (l c : Nat) (w : World) :
    Calls Try.prog 89 #[.slice a l c] w fun e w' => e = .returned (.agg #[.int .i64 4, .int .i64 0, .string ⟨#[]⟩, .slice a l c]) ∧ Below w.heap.size w w' := by
  go_enter Try.func89, Try.ntmps89
  go_wp2_with fail
  exact bodyPost_ret (v := .agg #[.int .i64 4, .int .i64 0, .string ⟨#[]⟩, .slice a l c]) (by simp [results, Try.results89, go_sem]) rfl ⟨rfl, (Below.refl _ _).alloc (Nat.le_refl _) _⟩

def numT (n : Int) : Tm 1 := ((1, n, ⟨#[]⟩), (none, 0), [])
def wordT (s : ByteArray) : Tm 1 := ((2, 0, s), (none, 0), [])
def twoT (g : Nat) : Tm 2 := ((4, 0, ⟨#[]⟩), (some ⟨g, 0, none⟩, 2), [wordT ⟨#[97]⟩, numT 5])

theorem num_in (n : Int) (h : I64 n) (B : Nat) (w : World) : In B w 1 (numT n) := ⟨⟨by simp [numT, I64], h, Nat.zero_le _, by simp [numT], by simp [numT]⟩, Or.inl rfl⟩
theorem word_in (s : ByteArray) (h : s.size ≤ maxLen) (B : Nat) (w : World) : In B w 1 (wordT s) := ⟨⟨by simp [wordT, I64], by simp [wordT, I64], h, by simp [wordT], by simp [wordT]⟩, Or.inl rfl⟩

theorem two_in (g B : Nat) (w : World) (hg : g < B) (t : TypeId) (fr : Nat × Nat)
    (h : w.heap[g]? = some (.cells #[.int .i64 2, .int .i64 0, .string ⟨#[97]⟩, .slice none 0 0, .int .i64 1, .int .i64 5, .string ⟨#[]⟩, .slice none 0 0] t fr)) : In B w 2 (twoT g) := by
  have hc : ∀ j, w.cell? ⟨g, j, none⟩ = #[Value.int .i64 2, .int .i64 0, .string ⟨#[97]⟩, .slice none 0 0, .int .i64 1, .int .i64 5, .string ⟨#[]⟩, .slice none 0 0][j]? := fun j => by simp [World.cell?, h]
  refine ⟨⟨by simp [twoT, I64], by simp [twoT, I64], Nat.zero_le _, by simp [twoT], by simp [twoT, maxLen]⟩, Or.inr ⟨g, 0, rfl, hg, fun i y hy => ?_⟩⟩
  match i, hy with
  | 0, hy =>
    have : wordT ⟨#[97]⟩ = y := by simpa [twoT] using hy
    subst this
    exact ⟨⟨hc 0, hc 1, hc 2, hc 3⟩, word_in _ (by show (1 : Nat) ≤ 2 ^ 63 - 1; omega) B w⟩
  | 1, hy =>
    have : numT 5 = y := by simpa [twoT] using hy
    subst this
    exact ⟨⟨hc 4, hc 5, hc 6, hc 7⟩, num_in 5 (by simp [I64]) B w⟩
  | i + 2, hy => simp [twoT] at hy

end Go.Proofs.Ytfginhifgljnmaa
