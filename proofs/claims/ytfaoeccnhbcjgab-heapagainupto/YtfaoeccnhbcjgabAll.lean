/- What is proved here: the document's list of all terms in a term ('all'): for every term that lies in memory, with at most 2097152 terms in it, it returns two new slices, of the terms and of how deep they stand, and turns no memory that was there. -/
import Derived.Test.YtfaoeccnhbcjgabTree
import Derived.Deep.AppendLies
namespace Go.Proofs.Ytfaoeccnhbcjgab
open Go.RowKit

/-- One term of the list: its own cells, its Args as a slice. -/
abbrev Nd : Type := (Int × Int × ByteArray) × (Option Addr × Nat × Nat)
def nd4 (x : Nd) : List Value := [.int .i64 x.1.1, .int .i64 x.1.2.1, .string x.1.2.2, .slice x.2.1 x.2.2.1 x.2.2.2]
def ndCells (l : List Nd) : List Value := l.flatMap nd4
def ints (l : List Int) : List Value := l.map fun d => .int .i64 d

def nodes : (n : Nat) → Tm n → List Nd
  | 0, _ => [((0, 0, .empty), (none, 0, 0))]
  | n + 1, x => (x.1, (x.2.1.1, x.2.2.length, x.2.1.2)) :: x.2.2.flatMap fun y => nodes n y
def deeps : (n : Nat) → Tm n → Int → List Int
  | 0, _, d => [d]
  | n + 1, x, d => d :: x.2.2.flatMap fun y => deeps n y (d + 1)

theorem flat_length {α β γ : Type} (f : α → List β) (g : α → List γ) (h : ∀ a, (f a).length = (g a).length) (l : List α) : (l.flatMap f).length = (l.flatMap g).length := by
  induction l with
  | nil => rfl
  | cons a l ih => simp only [List.flatMap_cons, List.length_append, ih, h]
theorem deeps_length : (n : Nat) → (x : Tm n) → (d : Int) → (deeps n x d).length = (nodes n x).length
  | 0, _, _ => rfl
  | n + 1, x, d => by
    simp only [deeps, nodes, List.length_cons]
    rw [flat_length (fun y => deeps n y (d + 1)) (fun y => nodes n y) (fun y => deeps_length n y (d + 1))]
theorem ndCells_length (l : List Nd) : (ndCells l).length = l.length * 4 := by
  induction l with
  | nil => rfl
  | cons a l ih => simp only [ndCells, List.flatMap_cons, List.length_append, List.length_cons] at ih ⊢; rw [ih]; simp [nd4]; omega
theorem ndCells_append (l r : List Nd) : ndCells (l ++ r) = ndCells l ++ ndCells r := by simp [ndCells]
theorem ints_append (l r : List Int) : ints (l ++ r) = ints l ++ ints r := by simp [ints]
theorem ndCells_one (l : List Nd) : ∀ u ∈ ndCells l, u.oneCell' = true := by
  intro u hu
  simp only [ndCells, List.mem_flatMap, nd4] at hu
  obtain ⟨a, _, hu⟩ := hu
  simp at hu
  rcases hu with rfl | rfl | rfl | rfl <;> rfl
theorem ints_one (l : List Int) : ∀ u ∈ ints l, u.oneCell' = true := by
  intro u hu
  simp only [ints, List.mem_map] at hu
  obtain ⟨a, _, rfl⟩ := hu
  rfl
theorem take_flat {α β : Type} (f : α → List β) (l : List α) (k : Nat) (x : α) (h : l[k]? = some x) : (l.take (k + 1)).flatMap f = (l.take k).flatMap f ++ f x := by
  obtain ⟨h1, e1⟩ := List.getElem?_eq_some_iff.1 h
  rw [List.take_succ_eq_append_getElem h1, e1]
  simp
theorem take_le {α β : Type} (f : α → List β) (l : List α) (k : Nat) : ((l.take k).flatMap f).length ≤ (l.flatMap f).length := by
  conv => rhs; rw [← List.take_append_drop k l]
  rw [List.flatMap_append, List.length_append]
  omega

theorem own_one {w : World} {base e size : Nat} (cs : Array Value) (hb : base ≤ w.heap.size) (hs : cs.size = size) :
    (w.alloc (.cells cs e)).ownsRow base e size (.slice (some ⟨w.heap.size, 0, none⟩) 1 1) 1 cs.toList :=
  ⟨by simp [hs], .inr ⟨w.heap.size, 1, cs, rfl, hb, heap_alloc_new w _, Nat.le_refl _, by unfold maxLen; omega, by omega, by rw [List.take_of_length_le]; simp [hs]⟩⟩
theorem own_below {w w' : World} {base e size : Nat} {v : Value} {n : Nat} {xs : List Value} (h : w.ownsRow base e size v n xs) (hb : Below w.heap.size w w') : w'.ownsRow base e size v n xs :=
  h.kept (row := none) ⟨hb.os, hb.tape, hb.output, hb.size, fun k hk _ => hb.block k hk⟩ (by cases v.ownBlock <;> simp)
theorem own_base {w : World} {base base' e size : Nat} {v : Value} {n : Nat} {xs : List Value} (h : w.ownsRow base e size v n xs) (hb : base' ≤ base) : w.ownsRow base' e size v n xs := by
  obtain ⟨h1, h2⟩ := h
  refine ⟨h1, ?_⟩
  rcases h2 with h2 | ⟨g, cap, cur, hv, hg, hh, r⟩
  · exact Or.inl h2
  · exact Or.inr ⟨g, cap, cur, hv, by omega, hh, r⟩
theorem own_lt {w : World} {base e size : Nat} {g n cap : Nat} {xs : List Value} (h : w.ownsRow base e size (.slice (some ⟨g, 0, none⟩) n cap) n xs) : base ≤ g ∧ g < w.heap.size := h.lt g rfl

def F14 (n : Nat) : Prop := ∀ (x : Tm n) (d : Int) (B : Nat) (w : World), In B w n x → B ≤ w.heap.size → 0 ≤ d → d + (nodes n x).length ≤ 2097152 →
  Calls Try.prog 38 #[val n x, .int .i64 d] w fun e w' => ∃ g c h c', e = .returned (.tuple #[.slice (some ⟨g, 0, none⟩) (nodes n x).length c, .slice (some ⟨h, 0, none⟩) (nodes n x).length c']) ∧
    Hid (g ≠ h ∧ Below w.heap.size w w' ∧ w'.ownsRow w.heap.size 24 4 (.slice (some ⟨g, 0, none⟩) (nodes n x).length c) (nodes n x).length (ndCells (nodes n x)) ∧
      w'.ownsRow w.heap.size 3 1 (.slice (some ⟨h, 0, none⟩) (nodes n x).length c') (nodes n x).length (ints (deeps n x d)))

theorem infoTerm : (Try.prog.info? 24).map (fun i => (i.zero, i.size, i.bytes)) = some (some (.agg #[.int .i64 0, .int .i64 0, .string .empty, .slice none 0 0]), 4, 56) := by kernel_rfl
theorem infoInt : (Try.prog.info? 3).map (fun i => (i.zero, i.size, i.bytes)) = some (some (.int .i64 0), 1, 8) := by kernel_rfl

/-- What holds behind k rounds. -/
def AllP (n : Nat) (p : List (Tm n)) (hd : Nd) (d : Int) (w : World) (k g c h c' L : Nat) (wr : World) : Prop :=
  L = 1 + ((p.take k).flatMap fun y => nodes n y).length ∧ g ≠ h ∧ Below w.heap.size w wr ∧
    wr.ownsRow (w.heap.size + 1) 24 4 (.slice (some ⟨g, 0, none⟩) L c) L (ndCells (hd :: (p.take k).flatMap fun y => nodes n y)) ∧
    wr.ownsRow (w.heap.size + 1) 3 1 (.slice (some ⟨h, 0, none⟩) L c') L (ints (d :: (p.take k).flatMap fun y => deeps n y (d + 1)))

theorem all_start (n : Nat) (p : List (Tm n)) (hd : Nd) (d : Int) (w : World) (o : Obj) :
    AllP n p hd d w 0 (w.heap.size + 1) 1 (w.heap.size + 1 + 1) 1 1 (((w.alloc o).alloc (.cells (nd4 hd).toArray 24)).alloc (.cells #[.int .i64 d] 3)) := by
  refine ⟨by simp, by omega, (((Below.refl _ _).alloc (Nat.le_refl _) _).alloc (by simp) _).alloc (by simp; omega) _, ?_, ?_⟩
  · have h := own_one (w := w.alloc o) (base := w.heap.size + 1) (e := 24) (size := 4) (nd4 hd).toArray (by simp) (by simp [nd4])
    have h2 := h.alloc (.cells #[.int .i64 d] 3)
    have e : (w.alloc o).heap.size = w.heap.size + 1 := by simp
    rw [e] at h2
    simpa [ndCells] using h2
  · have h := own_one (w := (w.alloc o).alloc (.cells (nd4 hd).toArray 24)) (base := w.heap.size + 1) (e := 3) (size := 1) #[.int .i64 d] (by simp) (by simp)
    have e : ((w.alloc o).alloc (.cells (nd4 hd).toArray 24)).heap.size = w.heap.size + 1 + 1 := by simp
    rw [e] at h
    simpa [ints] using h

/-- Behind the call of itself, and behind the first append: what the second append needs. -/
theorem all_mid {n : Nat} {p : List (Tm n)} {hd : Nd} {d : Int} {w wr w1 w2 : World} {k g c h c' L : Nat} (H : AllP n p hd d w k g c h c' L wr) (hb : Below wr.heap.size wr w1) {h1 M c1 : Nat} {zs : List Value}
    (hr : w1.ownsRow wr.heap.size 3 1 (.slice (some ⟨h1, 0, none⟩) M c1) M zs) (hg : w1.grownBy w2 (some g)) :
    w2.ownsRow (w.heap.size + 1) 3 1 (.slice (some ⟨h, 0, none⟩) L c') L (ints (d :: (p.take k).flatMap fun y => deeps n y (d + 1))) ∧
      w2.ownsRow wr.heap.size 3 1 (.slice (some ⟨h1, 0, none⟩) M c1) M zs := by
  obtain ⟨_, hne, _, o1, o2⟩ := H
  have l1 := own_lt o1
  have l3 := own_lt hr
  refine ⟨(own_below o2 hb).kept hg (Or.inr (by simp [Value.ownBlock]; omega)), hr.kept hg (Or.inr (by simp [Value.ownBlock]; omega))⟩

/-- A round's end. -/
theorem all_end {n : Nat} {p : List (Tm n)} {hd : Nd} {d : Int} {w wr w1 w2 w3 : World} {k g c h c' L : Nat} (H : AllP n p hd d w k g c h c' L wr) (hb : Below wr.heap.size wr w1) (x : Tm n) (hx : p[k]? = some x)
    {g2 c2 g3 c3 : Nat} (h2 : w2.ownsRow (w.heap.size + 1) 24 4 (.slice (some ⟨g2, 0, none⟩) (L + (nodes n x).length) c2) (L + (nodes n x).length) (ndCells (hd :: (p.take k).flatMap fun y => nodes n y) ++ ndCells (nodes n x)))
    (gr2 : w1.grownBy w2 (some g)) (at2 : some g = some g2 ∨ g2 = w1.heap.size) (lt2 : g2 < w2.heap.size)
    (h3 : w3.ownsRow (w.heap.size + 1) 3 1 (.slice (some ⟨g3, 0, none⟩) (L + (nodes n x).length) c3) (L + (nodes n x).length) (ints (d :: (p.take k).flatMap fun y => deeps n y (d + 1)) ++ ints (deeps n x (d + 1))))
    (gr3 : w2.grownBy w3 (some h)) (at3 : some h = some g3 ∨ g3 = w2.heap.size) :
    AllP n p hd d w (k + 1) g2 c2 g3 c3 (L + (nodes n x).length) w3 ∧ (∀ o, w3.cell? ⟨w.heap.size, o, none⟩ = wr.cell? ⟨w.heap.size, o, none⟩) := by
  obtain ⟨hL, hne, hb0, o1, o2⟩ := H
  have l1 := own_lt o1
  have l2 := own_lt o2
  have z1 := hb.size
  have z2 := gr2.size
  have z3 := gr3.size
  have hg2h : g2 ≠ h := by
    rcases at2 with e | e
    · have : g = g2 := by simpa using e
      omega
    · omega
  have hne2 : g2 ≠ g3 := by
    rcases at3 with e | e
    · have : h = g3 := by simpa using e
      omega
    · omega
  refine ⟨⟨?_, hne2, ?_, ?_, ?_⟩, ?_⟩
  · rw [take_flat _ p k x hx, List.length_append]; omega
  · have r2 : ∀ j, some g = some j → w.heap.size ≤ j := fun j e => by
      have e' : g = j := by simpa using e
      omega
    have r3 : ∀ j, some h = some j → w.heap.size ≤ j := fun j e => by
      have e' : h = j := by simpa using e
      omega
    have z0 := hb0.size
    exact ((hb0.trans (hb.mono z0)).grown gr2 (by omega) r2).grown gr3 (by omega) r3
  · have e : ndCells (hd :: (p.take (k + 1)).flatMap fun y => nodes n y) = ndCells (hd :: (p.take k).flatMap fun y => nodes n y) ++ ndCells (nodes n x) := by
      rw [take_flat _ p k x hx, ← ndCells_append]; rfl
    rw [e]
    exact h2.kept gr3 (Or.inr (by simp [Value.ownBlock]; omega))
  · have e : ints (d :: (p.take (k + 1)).flatMap fun y => deeps n y (d + 1)) = ints (d :: (p.take k).flatMap fun y => deeps n y (d + 1)) ++ ints (deeps n x (d + 1)) := by
      rw [take_flat _ p k x hx, ← ints_append]; rfl
    rw [e]
    exact h3
  · intro o
    rw [gr3.cell_far _ (by simp; omega) (by simp; omega), gr2.cell_far _ (by simp; omega) (by simp; omega)]
    exact hb.cell (p := ⟨w.heap.size, o, none⟩) (by simp; omega)

set_option maxHeartbeats 1000000 in
theorem all_loop (n : Nat) (ih : F14 n) (k0 u0 : Int) (s : ByteArray) (a : Option Addr) (pc len : Nat) (p : List (Tm n)) (hpl : Hid (p.length = len)) (d : Int) (B : Nat) (w : World)
    (hp : Hid (p = [] ∨ ∃ b o, a = some ⟨b, o, none⟩ ∧ b < B ∧ ∀ (i : Nat) (y : Tm n), p[i]? = some y → Held w b (o + i * 4) n y ∧ In B w n y))
    (hlen : len ≤ 9223372036854775807) (hB : B ≤ w.heap.size) (hd0 : 0 ≤ d) (hsum : Hid (d + (1 + (p.flatMap fun y => nodes n y).length : Nat) ≤ 2097152)) :
    Calls Try.prog 38 #[.agg #[.int .i64 k0, .int .i64 u0, .string s, .slice a len pc], .int .i64 d] w fun e w' =>
      ∃ g c h c' L, e = .returned (.tuple #[.slice (some ⟨g, 0, none⟩) L c, .slice (some ⟨h, 0, none⟩) L c']) ∧ Hid (L = 1 + (p.flatMap fun y => nodes n y).length) ∧
        Hid (g ≠ h ∧ Below w.heap.size w w' ∧ w'.ownsRow w.heap.size 24 4 (.slice (some ⟨g, 0, none⟩) L c) L (ndCells ((((k0, u0, s), (a, len, pc)) : Nd) :: p.flatMap fun y => nodes n y)) ∧
          w'.ownsRow w.heap.size 3 1 (.slice (some ⟨h, 0, none⟩) L c') L (ints (d :: p.flatMap fun y => deeps n y (d + 1)))) := by
  obtain ⟨it, hit, htz0, htz1, htz2⟩ := info_parts infoTerm
  obtain ⟨ii, hii, hiz0, hiz1, hiz2⟩ := info_parts infoInt
  have HT := hide (⟨hit, htz0, htz1, htz2⟩ : _ ∧ _ ∧ _ ∧ _)
  have HI := hide (⟨hii, hiz0, hiz1, hiz2⟩ : _ ∧ _ ∧ _ ∧ _)
  clear hit htz0 htz1 htz2 hii hiz0 hiz1 hiz2
  have hd1 : d ≤ 2097152 := by have := hsum.out; omega
  go_enter Try.func38, Try.ntmps38
  go_wp2_with fail
  go_loopw [6, 7, 8] (fun v1 v2 i wr => ∃ k g c h c' L : Nat, k ≤ len ∧ i = .int .i64 k ∧ v1 = .slice (some ⟨g, 0, none⟩) L c ∧ v2 = .slice (some ⟨h, 0, none⟩) L c' ∧ wr.cell? ⟨w.heap.size, 3, none⟩ = some (.slice a len pc) ∧ Hid (AllP n p ((k0, u0, s), (a, len, pc)) d w k g c h c' L wr)) (fun _ _ i _ => len - (intOf i).toNat)
  case atStart => exact ⟨0, _, _, _, _, _, by omega, rfl, rfl, rfl, by simp [go_sem], all_start n p ((k0, u0, s), (a, len, pc)) d w _⟩
  case round =>
    obtain ⟨k, g, c, h, c', L, hk, rfl, rfl, rfl, ha0, HA⟩ := hrel
    by_cases hlt : k < len
    · obtain ⟨x, hx⟩ : ∃ x, p[k]? = some x := ⟨p[k]'(by rw [hpl.out]; exact hlt), List.getElem?_eq_getElem _⟩
      have hb := HA.out.2.2.1
      have hLx : L + (nodes n x).length ≤ 2097152 ∧ d + 1 + (nodes n x).length ≤ 2097152 := by
        have e1 := HA.out.1
        have e2 := take_le (fun y => nodes n y) p (k + 1)
        rw [take_flat _ p k x hx, List.length_append] at e2
        have e3 := hsum.out
        omega
      rcases hp.out with hp | ⟨pb, po, rfl, hpb, hp⟩
      · subst hp; simp at hx
      obtain ⟨hx1, hx2⟩ := hp k x hx
      replace hx1 := hx1.below (hb.mono hB) hpb
      replace hx2 := hx2.below (hb.mono hB)
      have HX := hide hx
      clear hp hx
      cases n with
      | zero => exact hx1.elim
      | succ n =>
      obtain ⟨x0, x1, x2, x3⟩ := hx1
      have hB' : B ≤ wr.heap.size := Nat.le_trans hB hb.size
      have hM : 0 < (nodes (n + 1) x).length := by simp [nodes]
      have HC := hide (show Calls Try.prog 38 #[.agg #[.int .i64 x.1.1, .int .i64 x.1.2.1, .string x.1.2.2, .slice x.2.1.1 x.2.2.length x.2.1.2], .int .i64 (d + 1)] wr _ from ih x (d + 1) B wr hx2 hB' (by omega) hLx.2)
      clear ih hx2 hb
      generalize x.2.2.length = xl at *
      have HM := hide hM
      have HL := hide hLx.1
      clear hM hLx
      have hk1 : (0 : Int) ≤ (k : Int) := by omega
      have hk2 : (k : Int) < (len : Int) := by omega
      go_wp2_with fail
      refine HC.out.mono ?_
      rintro e w1 ⟨g1, c1, h1, c1', rfl, HR⟩
      have HW : Hid (w1.heap.size = w1.heap.size) := rfl
      go_wp2_with (first
        | (at_builtin; refine wpList_append_lies _ rfl _ _ 22 rfl (w.heap.size + 1) 24 it _ 4 56 Try.underlying22 HT.out.1 HT.out.2.1 HT.out.2.2.1 HT.out.2.2.2 rfl (by decide) _ L _ rfl (own_below HA.out.2.2.2.1 HR.out.2.1) ⟨g1, 0, none⟩ _ _ (ndCells (nodes (n + 1) x)) rfl (ndCells_length _) (HR.out.2.2.1.cells rfl) (ndCells_one _) HM.out (by have := HL.out; unfold maxLen; omega) (by have := HL.out; omega) (by have := HA.out.2.2.1.size; have := HR.out.2.1.size; have := own_lt HA.out.2.2.2.1; omega) _ rfl ?_; intro g2 c2 w2 hown2 hgrow2 hat2 hlt2; have H2 := hide (⟨hown2, hgrow2, hat2, hlt2⟩ : _ ∧ _ ∧ _ ∧ _); clear hown2 hgrow2 hat2 hlt2)
        | (at_builtin; refine wpList_append_lies _ rfl _ _ 54 rfl (w.heap.size + 1) 3 ii _ 1 8 Try.underlying54 HI.out.1 HI.out.2.1 HI.out.2.2.1 HI.out.2.2.2 rfl (by decide) _ L _ rfl (all_mid HA.out HR.out.2.1 HR.out.2.2.2 H2.out.2.1).1 ⟨h1, 0, none⟩ _ _ (ints (deeps (n + 1) x (d + 1))) rfl (by simp [ints, deeps_length]) ((all_mid HA.out HR.out.2.1 HR.out.2.2.2 H2.out.2.1).2.cells rfl) (ints_one _) HM.out (by have := HL.out; unfold maxLen; omega) (by have := HL.out; omega) (by have := HA.out.2.2.1.size; have := HR.out.2.1.size; have := own_lt HA.out.2.2.2.1; have := H2.out.2.1.size; omega) _ rfl ?_; intro g3 c3 w3 hown3 hgrow3 hat3 hlt3; have H3 := hide (⟨hown3, hgrow3, hat3, hlt3⟩ : _ ∧ _ ∧ _ ∧ _); clear hown3 hgrow3 hat3 hlt3))
      have HE := all_end HA.out HR.out.2.1 x HX.out H2.out.1 H2.out.2.1 H2.out.2.2.1 H2.out.2.2.2 H3.out.1 H3.out.2.1 H3.out.2.2.1
      go_roundw
      case rel => exact ⟨k + 1, _, _, _, _, _, by omega, by go_num, rfl, rfl, (HE.2 3).trans ha0, HE.1⟩
      case measure => simp [intOf]; omega
    · go_wp2_with fail
      go_ret2
      have ht : p.take k = p := List.take_of_length_le (by rw [hpl.out]; omega)
      obtain ⟨e1, e2, e3, e4, e5⟩ := HA.out
      rw [ht] at e1 e4 e5
      exact ⟨g, c, h, c', L, rfl, e1, e2, e3, own_base e4 (by omega), own_base e5 (by omega)⟩

theorem all_any (n : Nat) : F14 n := by
  induction n with
  | zero => intro x d B w hx; exact hx.elim
  | succ n ih =>
    intro x d B w hx hB hd hsum
    obtain ⟨⟨k, u, s⟩, ⟨a, pc⟩, p⟩ := x
    obtain ⟨⟨hk, hu, hs, hpl, hpc⟩, hp⟩ := hx
    simp only at hpl hpc hp
    unfold maxLen at hpc
    have hL : (nodes (n + 1) ((k, u, s), (a, pc), p)).length = 1 + (p.flatMap fun y => nodes n y).length := by simp only [nodes, List.length_cons]; omega
    rw [hL] at hsum
    refine (all_loop n ih k u s a pc p.length p rfl d B w hp (by omega) hB hd hsum).mono ?_
    rintro e w' ⟨g, c, h, c', L, rfl, hL', H⟩
    rw [hL, ← hL'.out]
    exact ⟨g, c, h, c', rfl, H⟩
end Go.Proofs.Ytfaoeccnhbcjgab
