/- What is proved here: plain facts and contracts that the claimed theorem stands on, several texts in one: code.open of a term that lies in memory: the atom with which it begins, and what stands behind it; code.readSpawn. Condition: at most 8 parts. code.readSpawn and code.readAct of right terms that lie in memory return what rdA says, in new memory. No condition but that. -/
import Derived.Test.YtpehdgbdinjbaaaG12
import Derived.Laws.Tables
namespace Go.Proofs.Ytpehdgbdinjbaaa
open Go.RowKit

theorem open_kind (k u : Int) (s : ByteArray) (a : Option Addr) (l c : Nat) (w : World) (h : (k != 4) = true) :
    Calls Try.prog 99 #[.agg #[.int .i64 k, .int .i64 u, .string s, .slice a l c]] w fun e w' => e = .returned (.tuple #[.string ⟨#[]⟩, .slice none 0 0]) ∧ Below w.heap.size w w' := by
  go_enter Try.func99, Try.ntmps99
  go_wp2_with fail
  exact bodyPost_ret (v := .tuple #[.string ⟨#[]⟩, .slice none 0 0]) (by simp [results, Try.results99, go_sem]) rfl ⟨rfl, one_alloc⟩
theorem open_nil (u : Int) (s : ByteArray) (a : Option Addr) (c : Nat) (w : World) :
    Calls Try.prog 99 #[.agg #[.int .i64 4, .int .i64 u, .string s, .slice a 0 c]] w fun e w' => e = .returned (.tuple #[.string ⟨#[]⟩, .slice none 0 0]) ∧ Below w.heap.size w w' := by
  go_enter Try.func99, Try.ntmps99
  go_wp2_with fail
  exact bodyPost_ret (v := .tuple #[.string ⟨#[]⟩, .slice none 0 0]) (by simp [results, Try.results99, go_sem]) rfl ⟨rfl, one_alloc⟩
theorem open_other (u : Int) (s : ByteArray) (b o l c : Nat) (hl : 0 < l) (y0 : Int) (hy : (y0 != 2) = true) (w : World) (hb : b < w.heap.size) (c0 : w.cell? ⟨b, o, none⟩ = some (.int .i64 y0)) :
    Calls Try.prog 99 #[.agg #[.int .i64 4, .int .i64 u, .string s, .slice (some ⟨b, o, none⟩) l c]] w fun e w' => e = .returned (.tuple #[.string ⟨#[]⟩, .slice none 0 0]) ∧ Below w.heap.size w w' := by
  have hl0 : ((l : Int) == 0) = false := by simp; omega
  have hl1 : (0 : Int) < (l : Int) := by omega
  go_enter Try.func99, Try.ntmps99
  go_wp2_with fail
  exact bodyPost_ret (v := .tuple #[.string ⟨#[]⟩, .slice none 0 0]) (by simp [results, Try.results99, go_sem]) rfl ⟨rfl, one_alloc⟩
set_option maxHeartbeats 1000000 in
theorem open_atom (u : Int) (s : ByteArray) (b o l c : Nat) (hl : 0 < l) (hlc : l ≤ c) (hc : c ≤ 9223372036854775807) (y2 : ByteArray) (w : World) (hb : b < w.heap.size) (c0 : w.cell? ⟨b, o, none⟩ = some (.int .i64 2)) (c2 : w.cell? ⟨b, o + 2, none⟩ = some (.string y2)) :
    Calls Try.prog 99 #[.agg #[.int .i64 4, .int .i64 u, .string s, .slice (some ⟨b, o, none⟩) l c]] w fun e w' => e = .returned (.tuple #[.string y2, .slice (if c = 1 then some ⟨b, o, none⟩ else some ⟨b, o + 4, none⟩) (l - 1) (c - 1)]) ∧ Below w.heap.size w w' := by
  have hl0 : ((l : Int) == 0) = false := by simp; omega
  have hl1 : (0 : Int) < (l : Int) := by omega
  have hl2 : (1 : Int) ≤ (l : Int) := by omega
  have hl3 : (l : Int) ≤ (c : Int) := by omega
  by_cases h1 : c = 1
  · rw [if_pos h1]
    obtain rfl : l = 1 := by omega
    subst h1
    go_enter Try.func99, Try.ntmps99
    go_wp2_with fail
    go_region
    all_goals go_wp2_with fail
    all_goals exact bodyPost_ret (v := .tuple #[.string y2, .slice (some ⟨b, o, none⟩) 0 0]) (by simp [results, Try.results99, go_sem]) rfl ⟨rfl, one_alloc.drew⟩
  · rw [if_neg h1]
    go_enter Try.func99, Try.ntmps99
    go_wp2_with fail
    go_region
    all_goals go_wp2_with fail
    all_goals exact bodyPost_ret (v := .tuple #[.string y2, .slice (some ⟨b, o + 4, none⟩) (l - 1) (c - 1)]) (by simp [results, Try.results99, go_sem]) rfl ⟨rfl, one_alloc.drew⟩

/-- What open leaves. -/
def OpOut (B n : Nat) (wd : ByteArray) (q : List (Tm n)) (w : World) (e : Ending) (w' : World) : Prop :=
  ∃ a len c, e = .returned (.tuple #[.string wd, .slice a len c]) ∧ Hid (Below w.heap.size w w' ∧ Lies B w n q a ∧ len = q.length ∧ q.length ≤ c ∧ c ≤ 9223372036854775807)
theorem open_any (n : Nat) (x : Tm (n + 1)) (B : Nat) (w : World) (hx : In B w (n + 1) x) (hB : B ≤ w.heap.size) :
    Calls Try.prog 99 #[.agg #[.int .i64 x.1.1, .int .i64 x.1.2.1, .string x.1.2.2, .slice x.2.1.1 x.2.2.length x.2.1.2]] w (OpOut B n (wordT n x) (partsT n x) w) := by
  obtain ⟨⟨k, u, s⟩, ⟨a, c⟩, p⟩ := x
  obtain ⟨⟨_, _, _, hl, hc⟩, hp⟩ := hx
  simp only at hl hc hp ⊢
  have hc' : c ≤ 9223372036854775807 := by unfold maxLen at hc; omega
  have none_ : ∀ (e : Ending) (w' : World), (e = .returned (.tuple #[.string ⟨#[]⟩, .slice none 0 0]) ∧ Below w.heap.size w w') → OpOut B n ⟨#[]⟩ [] w e w' := fun e w' h => ⟨none, 0, 0, h.1, h.2, Or.inl rfl, rfl, Nat.le_refl _, Nat.zero_le _⟩
  by_cases k4 : k = 4
  · subst k4
    rcases hp with hp | ⟨b, o, rfl, hb, hp⟩
    · subst hp
      have e1 : wordT n ((4, u, s), (a, c), []) = ⟨#[]⟩ := rfl
      have e2 : partsT n ((4, u, s), (a, c), []) = [] := rfl
      rw [e1, e2]
      exact (open_nil u s a c w).mono none_
    · cases p with
      | nil =>
        have e1 : wordT n ((4, u, s), (some ⟨b, o, none⟩, c), []) = ⟨#[]⟩ := rfl
        have e2 : partsT n ((4, u, s), (some ⟨b, o, none⟩, c), []) = [] := rfl
        rw [e1, e2]
        exact (open_nil u s _ c w).mono none_
      | cons h p =>
        obtain ⟨h1, h2⟩ := hp 0 h rfl
        cases n with
        | zero => exact h1.elim
        | succ n =>
        obtain ⟨c0, c1, c2, c3⟩ := h1
        by_cases hk : h.1.1 = 2
        · have e1 : wordT (n + 1) ((4, u, s), (some ⟨b, o, none⟩, c), h :: p) = h.1.2.2 := by simp [wordT, kindA, hk, hdT, hdOf]
          have e2 : partsT (n + 1) ((4, u, s), (some ⟨b, o, none⟩, c), h :: p) = p := by simp [partsT, kindA, hk]
          rw [e1, e2]
          refine (open_atom u s b o (h :: p).length c (by simp) hl hc' h.1.2.2 w (by omega) (by rw [hk] at c0; simpa using c0) (by simpa using c2)).mono ?_
          rintro e w' ⟨rfl, hb1⟩
          refine ⟨_, (h :: p).length - 1, _, rfl, hb1, ?_, by simp, by simp at hl; omega, by omega⟩
          by_cases h1 : c = 1
          · exact Or.inl (List.eq_nil_of_length_eq_zero (by simp at hl; omega))
          · rw [if_neg h1]
            refine Or.inr ⟨b, o + 4, rfl, hb, fun i y hy => ?_⟩
            have := hp (i + 1) y (by simpa using hy)
            rw [show o + 4 + i * 4 = o + (i + 1) * 4 by omega]
            exact this
        · have e1 : wordT (n + 1) ((4, u, s), (some ⟨b, o, none⟩, c), h :: p) = ⟨#[]⟩ := by simp [wordT, kindA, hk]; rfl
          have e2 : partsT (n + 1) ((4, u, s), (some ⟨b, o, none⟩, c), h :: p) = [] := by simp [partsT, kindA, hk]
          rw [e1, e2]
          exact (open_other u s b o (h :: p).length c (by simp) h.1.1 (by simpa using hk) w (by omega) (by simpa using c0)).mono none_
  · have e1 : wordT n ((k, u, s), (a, c), p) = ⟨#[]⟩ := by simp [wordT, k4]; rfl
    have e2 : partsT n ((k, u, s), (a, c), p) = [] := by simp [partsT, k4]
    rw [e1, e2]
    exact (open_kind k u s a p.length c w (by simpa using k4)).mono none_

/-- All but one block stay. -/
def Keeps (g : Nat) (w w' : World) : Prop := (w'.os = w.os ∧ w'.tape = w.tape ∧ w'.output = w.output) ∧ w'.heap.size = w.heap.size ∧ ∀ b, b ≠ g → w'.heap[b]? = w.heap[b]?
theorem Keeps.refl (g : Nat) (w : World) : Keeps g w w := ⟨⟨rfl, rfl, rfl⟩, rfl, fun _ _ => rfl⟩
theorem Keeps.set {g : Nat} {w w' : World} (h : Keeps g w w') (o : Nat) (v : Value) : Keeps g w (w'.setCell ⟨g, o, none⟩ v) :=
  ⟨h.1, by simpa [World.setCell] using h.2.1, fun b hb => by
    have : g ≠ b := fun e => hb e.symm
    rw [← h.2.2 b hb]
    simp [World.setCell, Array.getElem?_modify, this]⟩
theorem Keeps.below {g : Nat} {w0 w w' : World} (h : Keeps g w w') (hb : Below w0.heap.size w0 w) (hg : w0.heap.size ≤ g) : Below w0.heap.size w0 w' :=
  ⟨h.1.1.trans hb.os, h.1.2.1.trans hb.tape, h.1.2.2.trans hb.output, by rw [h.2.1]; exact hb.size, fun b hb' => (h.2.2 b (by omega)).trans (hb.block b hb')⟩
theorem Keeps.stays {α : Type} {I : Nat → World → α → Prop} {O : (Nat → Prop) → α → Prop} (hS : Stays I O) {g : Nat} {w w' : World} (h : Keeps g w w') {P : Nat → Prop} (hP : ¬ P g) {x : α} (ho : O P x) (hi : I w.heap.size w x) : I w'.heap.size w' x := by
  rw [h.2.1]
  exact hS.2.2.1 P _ w w' x (fun b hb => h.2.2 b (fun e => hP (e ▸ hb))) ho hi
end Go.Proofs.Ytpehdgbdinjbaaa
namespace Go.Proofs.Ytpehdgbdinjbaaa
open Go.RowKit

abbrev RdAct (M : Nat) (o : Option (Ac (M + 1))) (w : World) (e : Ending) (w' : World) : Prop := RdOut (ac11 (M + 1)) (AcIn (M + 1)) (AcOff (M + 1)) (acS (M + 1)) o w e w'
/-- No act. -/
def zAc (M : Nat) : Ac (M + 1) := (0, (zT M, zT M), (.empty, 0))
theorem zAc_in (M B : Nat) (w : World) : AcIn (M + 1) B w (zAc M) := ⟨by simp [zAc, I64], zT_in _ _ _, zT_in _ _ _, Nat.zero_le _, by simp [zAc, I64]⟩
theorem rdAct_none {M : Nat} {o : Option (Ac (M + 1))} {w w' : World} (ho : o = none) (hb : Below w.heap.size w w') : RdAct M o w (.returned (.tuple #[.agg #[.int .i64 0, .int .i64 0, .int .i64 0, .string .empty, .slice none 0 0, .int .i64 0, .int .i64 0, .string .empty, .slice none 0 0, .string .empty, .int .i64 0], .bool false])) w' := by
  subst ho
  exact ⟨zAc M, false, rfl, hb, rfl, zAc_in _ _ _, ⟨Or.inl rfl, Or.inl rfl⟩, fun z hz => by cases hz⟩
theorem off_lift {P : Nat → Prop} : (N n : Nat) → n ≤ N → (x : Tm n) → Off P n x → Off P N (lift N n x)
  | _, 0, _, _, k => k.elim
  | 0, n + 1, h, _, _ => by omega
  | N + 1, n + 1, h, x, k => by
    rcases k with k | ⟨b, o, e, hb, k⟩
    · exact Or.inl (by simp [lift, k])
    · refine Or.inr ⟨b, o, e, hb, fun i y hy => ?_⟩
      simp only [lift, List.getElem?_map] at hy
      obtain ⟨z, hz, rfl⟩ := Option.map_eq_some_iff.1 hy
      exact off_lift N n (by omega) z (k i z hz)
/-- A copy, at a greater depth: in new memory, and the same as the term. -/
theorem lift_copy {M n : Nat} (hn : n ≤ M + 1) {b y : Tm n} {w' : World} {P : Nat → Prop} (h1 : In w'.heap.size w' n y) (h2 : Off P n y) (h3 : same n y n b = true) : In w'.heap.size w' (M + 1) (lift (M + 1) n y) ∧ Off P (M + 1) (lift (M + 1) n y) ∧ same (M + 1) (lift (M + 1) n y) (M + 1) (lift (M + 1) n b) = true :=
  ⟨lift_in _ _ hn _ _ _ h1, off_lift _ _ hn _ h2, lift_both hn hn h3⟩

theorem four_new (w : World) (o1 o2 o3 o4 : Obj) : (((((w.alloc o1).alloc o2).alloc o3).alloc o4).heap[w.heap.size]? = some o1 ∧ ((((w.alloc o1).alloc o2).alloc o3).alloc o4).heap[w.heap.size + 1]? = some o2 ∧ ((((w.alloc o1).alloc o2).alloc o3).alloc o4).heap[w.heap.size + 1 + 1]? = some o3 ∧ ((((w.alloc o1).alloc o2).alloc o3).alloc o4).heap[w.heap.size + 1 + 1 + 1]? = some o4) ∧ Below w.heap.size w ((((w.alloc o1).alloc o2).alloc o3).alloc o4) ∧ ((((w.alloc o1).alloc o2).alloc o3).alloc o4).heap.size = w.heap.size + 1 + 1 + 1 + 1 := by
  have h12 := two_new w o1 o2
  have h34 := two_new ((w.alloc o1).alloc o2) o3 o4
  have e : ((w.alloc o1).alloc o2).heap.size = w.heap.size + 1 + 1 := by simp
  rw [e] at h34
  refine ⟨⟨?_, ?_, h34.1, h34.2⟩, by go_grown, by simp⟩
  · exact (alloc_keep _ o4 (by simp; omega)).trans ((alloc_keep _ o3 (by simp; omega)).trans h12.1)
  · exact (alloc_keep _ o4 (by simp)).trans ((alloc_keep _ o3 (by simp)).trans h12.2)
/-- An act's box, and that it may be written. -/
theorem act_box0 {w : World} {q : Nat} {c0 c1 c2 c3 c4 c5 c6 c7 c8 c9 c10 : Value} {t : TypeId} (h : w.heap[q]? = some (.cells #[c0, c1, c2, c3, c4, c5, c6, c7, c8, c9, c10] t)) :
    (w.cell? ⟨q, 0, none⟩ = some c0 ∧ w.cell? ⟨q, 1, none⟩ = some c1 ∧ w.cell? ⟨q, 2, none⟩ = some c2 ∧ w.cell? ⟨q, 3, none⟩ = some c3 ∧ w.cell? ⟨q, 4, none⟩ = some c4 ∧ w.cell? ⟨q, 5, none⟩ = some c5 ∧ w.cell? ⟨q, 6, none⟩ = some c6 ∧ w.cell? ⟨q, 7, none⟩ = some c7 ∧ w.cell? ⟨q, 8, none⟩ = some c8 ∧ w.cell? ⟨q, 9, none⟩ = some c9 ∧ w.cell? ⟨q, 10, none⟩ = some c10) ∧ (∀ j, w.frozen? ⟨q, j, none⟩ = false) ∧ q < w.heap.size :=
  ⟨⟨box_cell h 0, box_cell h 1, box_cell h 2, box_cell h 3, box_cell h 4, box_cell h 5, box_cell h 6, box_cell h 7, box_cell h 8, box_cell h 9, box_cell h 10⟩, fun j => box_free h j, (Array.getElem?_eq_some_iff.1 h).1⟩
/-- An act that was read, told. -/
theorem rdAct_some {M : Nat} {o : Option (Ac (M + 1))} {w w2 w' : World} {g : Nat} (y z : Ac (M + 1)) (ho : o = some z) (hk : Keeps g w2 w') (hb : Below w.heap.size w w2) (hg : w.heap.size ≤ g) (hi : AcIn (M + 1) w2.heap.size w2 y) (hf : AcOff (M + 1) (fun b => g < b) y) (hs : acS (M + 1) y z) : RdAct M o w (.returned (.tuple #[.agg (ac11 (M + 1) y).toArray, .bool true])) w' := by
  subst ho
  exact ⟨y, true, rfl, hk.below hb hg, rfl, hk.stays (ac_stays _) (P := fun b => g < b) (by omega) hf hi, (ac_stays _).1 _ _ _ (fun b hb => by omega) hf, fun z' hz => by obtain rfl := Option.some.inj hz; exact hs⟩

section
variable {P : Program}
/-- A store of a whole box, at a step of a region that draws its order. -/
theorem step_store_row {ops : Array Oper} {o : Oper} {a : Act} {w : World} {K : Act → World → Prop} {Q : Exit → Act → World → Prop} {E : Prop} (hgd : o.guard = none) (ty : TypeId) (x y : Operand) (ho : o.op = .store ty x y)
    (g : Nat) (cells : Array Value) (hx : a.eval x = .pointer (some ⟨g, 0, none⟩)) (hy : a.eval y = .agg cells) (t : TypeId) (old : Array Value) (hg : w.heap[g]? = some (.cells old t (0, 0))) (hi : (P.info? ty).map (·.size) = some cells.size)
    (hold : old.size = cells.size) (h1 : cells.toList.all (fun u => u.oneCell') = true) (h : ∀ w', Keeps g w w' → w'.heap[g]? = some (.cells cells t) → K (a.put o.dst undef) w') :
    if Region.wanted o (yielded ops a.tmps) = true then Oper.wp P o a w K Q else E := by
  have hw : Region.wanted o (yielded ops a.tmps) = true := by simp [Region.wanted, hgd]
  rw [if_pos hw]
  exact wp_store_row ty x y ho g cells hx hy t old hg hi hold (by rw [← Array.all_toList]; exact h1) (h _ ⟨⟨rfl, rfl, rfl⟩, setRow_size _ _ _, fun b hb => setRow_other _ _ _ _ hb⟩ (setRow_heap _ _ _ _ _ _ hg))
theorem list_store_row {ops : Array Oper} {rest : List Oper} {o : Oper} {a : Act} {w : World} {Q : Exit → Act → World → Prop} (hgd : o.guard = none) (ty : TypeId) (x y : Operand) (ho : o.op = .store ty x y)
    (g : Nat) (cells : Array Value) (hx : a.eval x = .pointer (some ⟨g, 0, none⟩)) (hy : a.eval y = .agg cells) (t : TypeId) (old : Array Value) (hg : w.heap[g]? = some (.cells old t (0, 0))) (hi : (P.info? ty).map (·.size) = some cells.size)
    (hold : old.size = cells.size) (h1 : cells.toList.all (fun u => u.oneCell') = true) (h : ∀ w', Keeps g w w' → w'.heap[g]? = some (.cells cells t) → wpList P ops Q rest (a.put o.dst undef) w') : wpList P ops Q (o :: rest) a w :=
  wpList_store_row hgd ty x y ho g cells hx hy t old hg hi hold (by rw [← Array.all_toList]; exact h1) (h _ ⟨⟨rfl, rfl, rfl⟩, setRow_size _ _ _, fun b hb => setRow_other _ _ _ _ hb⟩ (setRow_heap _ _ _ _ _ _ hg))
end
theorem sizeAct : (Try.prog.info? 137).map (·.size) = some 11 := by kernel_rfl
theorem sizeClause : (Try.prog.info? 135).map (·.size) = some 13 := by kernel_rfl
theorem sizeBehaviour : (Try.prog.info? 127).map (·.size) = some 2 := by kernel_rfl
theorem act_store {w : World} {g : Nat} {c0 c1 c2 c3 c4 c5 c6 c7 c8 c9 c10 : Value} (h : w.heap[g]? = some (.cells #[c0, c1, c2, c3, c4, c5, c6, c7, c8, c9, c10] 137)) (k0 t0 t1 x0 x1 nn : Int) (s0 s1 s2 : ByteArray) (p0 p1 : Option Addr) (l0 l1 r0 r1 : Nat) :
    (storeVar 137 ⟨g, 0, none⟩ (.agg #[.int .i64 k0, .int .i64 t0, .int .i64 t1, .string s0, .slice p0 l0 r0, .int .i64 x0, .int .i64 x1, .string s1, .slice p1 l1 r1, .string s2, .int .i64 nn])).run Try.prog w = .ok () (w.setRow g #[.int .i64 k0, .int .i64 t0, .int .i64 t1, .string s0, .slice p0 l0 r0, .int .i64 x0, .int .i64 x1, .string s1, .slice p1 l1 r1, .string s2, .int .i64 nn]) :=
  run_storeVar_row w g 137 137 _ _ h sizeAct rfl (by rw [← Array.all_toList]; rfl)
theorem row_keeps (w : World) (g : Nat) (cs : Array Value) : Keeps g w (w.setRow g cs) := ⟨⟨rfl, rfl, rfl⟩, setRow_size _ _ _, fun _b hb => setRow_other _ _ _ _ hb⟩
theorem keep_cell {g : Nat} {w w' : World} (h : Keeps g w w') {b : Nat} (hb : b ≠ g) (o : Nat) : w'.cell? ⟨b, o, none⟩ = w.cell? ⟨b, o, none⟩ := block_cell (h.2.2 b hb) o
theorem sp_keep {q : Nat} {w w' : World} {v0 v1 v2 v3 v4 v5 : Value} (h : Keeps (q + 1 + 1 + 1) w w')
    (k : (w.cell? ⟨q, 2, none⟩ = some v0 ∧ w.cell? ⟨q + 1 + 1, 1, none⟩ = some v1) ∧ w.cell? ⟨q + 1, 0, none⟩ = some v2 ∧ w.cell? ⟨q + 1, 1, none⟩ = some v3 ∧ w.cell? ⟨q + 1, 2, none⟩ = some v4 ∧ w.cell? ⟨q + 1, 3, none⟩ = some v5) :
    (w'.cell? ⟨q, 2, none⟩ = some v0 ∧ w'.cell? ⟨q + 1 + 1, 1, none⟩ = some v1) ∧ w'.cell? ⟨q + 1, 0, none⟩ = some v2 ∧ w'.cell? ⟨q + 1, 1, none⟩ = some v3 ∧ w'.cell? ⟨q + 1, 2, none⟩ = some v4 ∧ w'.cell? ⟨q + 1, 3, none⟩ = some v5 :=
  ⟨⟨(keep_cell h (by omega) _).trans k.1.1, (keep_cell h (by omega) _).trans k.1.2⟩, (keep_cell h (by omega) _).trans k.2.1, (keep_cell h (by omega) _).trans k.2.2.1, (keep_cell h (by omega) _).trans k.2.2.2.1, (keep_cell h (by omega) _).trans k.2.2.2.2⟩

set_option maxHeartbeats 400000 in
set_option maxRecDepth 100000 in
theorem readSpawn_any (M n : Nat) (hn : n + 1 ≤ M + 1) (a b c : Tm (n + 1)) (B : Nat) (w : World) (ha : In B w (n + 1) a) (hb : In B w (n + 1) b) (hc : In B w (n + 1) c) (hra : RightA ⟨n + 1, a⟩) (hrb : RightA ⟨n + 1, b⟩) (hB : B ≤ w.heap.size) :
    Calls Try.prog 127 #[.agg #[.int .i64 a.1.1, .int .i64 a.1.2.1, .string a.1.2.2, .slice a.2.1.1 a.2.2.length a.2.1.2], .agg #[.int .i64 b.1.1, .int .i64 b.1.2.1, .string b.1.2.2, .slice b.2.1.1 b.2.2.length b.2.1.2], .agg #[.int .i64 c.1.1, .int .i64 c.1.2.1, .string c.1.2.2, .slice c.2.1.1 c.2.2.length c.2.1.2]] w (RdAct M (rdSp M (n + 1) a b c) w) := by
  obtain ⟨o, ho⟩ : ∃ o, o = rdSp M (n + 1) a b c := ⟨_, rfl⟩
  rw [← ho]
  by_cases h2 : a.1.1 = 2
  · by_cases h5 : c.1.1 = 5
    · have HR : Hid (o = some (2, (zT M, lift (M + 1) (n + 1) b), (a.1.2.2, c.1.2.1))) := by
        show _ = _
        rw [ho]
        simp [rdSp, kindA, h2, h5, nameA, numA, hdT, hdOf]
      clear ho
      have e2 : (a.1.1 != 2) = false := by simp [h2]
      have e5 : (c.1.1 != 5) = false := by simp [h5]
      have hs : a.1.2.2.size ≤ 2048 := by
        have := hra (hdOf n a) (by simp [nodes, hdOf])
        have hg : nameB a.1.2.2 = true := by
          simp only [good, hdOf, h2] at this
          simp at this
          exact this.1.1
        simp only [nameB, inB, Bool.and_eq_true, decide_eq_true_eq] at hg
        omega
      have HCP : Hid (∀ w1, Below w.heap.size w w1 → Calls Try.prog 77 #[.agg #[.int .i64 b.1.1, .int .i64 b.1.2.1, .string b.1.2.2, .slice b.2.1.1 b.2.2.length b.2.1.2]] w1 fun e w' => ∃ z : Tm (n + 1), e = .returned (.agg #[.int .i64 z.1.1, .int .i64 z.1.2.1, .string z.1.2.2, .slice z.2.1.1 z.2.2.length z.2.1.2]) ∧ Hid (Below w1.heap.size w1 w' ∧ In w'.heap.size w' (n + 1) z ∧ Off (fun q => w1.heap.size ≤ q) (n + 1) z ∧ same (n + 1) z (n + 1) b = true)) :=
        fun w1 h1 => copy_any (n + 1) b B w1 (hb.below (h1.mono hB)) (Nat.le_trans hB h1.size) hrb
      have HSZ : Hid (a.1.2.2.size ≤ maxLen ∧ I64 c.1.2.1) := ⟨ha.1.2.2.1, hc.1.2.1⟩
      clear ha hb hc hra hrb h2 h5
      go_enter Try.func127, Try.ntmps127
      go_wp2_with fail
      have HN := hide (four_new w (.cells #[.int .i64 a.1.1, .int .i64 a.1.2.1, .string a.1.2.2, .slice a.2.1.1 a.2.2.length a.2.1.2] 24) (.cells #[.int .i64 b.1.1, .int .i64 b.1.2.1, .string b.1.2.2, .slice b.2.1.1 b.2.2.length b.2.1.2] 24) (.cells #[.int .i64 c.1.1, .int .i64 c.1.2.1, .string c.1.2.2, .slice c.2.1.1 c.2.2.length c.2.1.2] 24) (.cells #[.int .i64 0, .int .i64 0, .int .i64 0, .string ⟨#[]⟩, .slice none 0 0, .int .i64 0, .int .i64 0, .string ⟨#[]⟩, .slice none 0 0, .string ⟨#[]⟩, .int .i64 0] 137))
      generalize hW0 : (((w.alloc _).alloc _).alloc _).alloc _ = W0
      rw [hW0] at HN
      clear hW0
      have HK : Hid (∀ w', Below W0.heap.size W0 w' → (w'.cell? ⟨w.heap.size, 2, none⟩ = some (.string a.1.2.2) ∧ w'.cell? ⟨w.heap.size + 1 + 1, 1, none⟩ = some (.int .i64 c.1.2.1)) ∧ w'.cell? ⟨w.heap.size + 1, 0, none⟩ = some (.int .i64 b.1.1) ∧ w'.cell? ⟨w.heap.size + 1, 1, none⟩ = some (.int .i64 b.1.2.1) ∧ w'.cell? ⟨w.heap.size + 1, 2, none⟩ = some (.string b.1.2.2) ∧ w'.cell? ⟨w.heap.size + 1, 3, none⟩ = some (.slice b.2.1.1 b.2.2.length b.2.1.2)) := fun w' h => by
        have e := HN.out.2.2
        have h1 := (h.block w.heap.size (by omega)).trans HN.out.1.1
        have h2 := (h.block (w.heap.size + 1) (by omega)).trans HN.out.1.2.1
        have h3 := (h.block (w.heap.size + 1 + 1) (by omega)).trans HN.out.1.2.2.1
        exact ⟨⟨box_cell h1 2, box_cell h3 1⟩, box_cell h2 0, box_cell h2 1, box_cell h2 2, box_cell h2 3⟩
      obtain ⟨⟨a2, c1⟩, b0, b1, b2, b3⟩ := HK.out W0 (Below.refl _ _)
      go_region_held3 (fun w' => (w'.cell? ⟨w.heap.size, 2, none⟩ = some (.string a.1.2.2) ∧ w'.cell? ⟨w.heap.size + 1 + 1, 1, none⟩ = some (.int .i64 c.1.2.1)) ∧ w'.cell? ⟨w.heap.size + 1, 0, none⟩ = some (.int .i64 b.1.1) ∧ w'.cell? ⟨w.heap.size + 1, 1, none⟩ = some (.int .i64 b.1.2.1) ∧ w'.cell? ⟨w.heap.size + 1, 2, none⟩ = some (.string b.1.2.2) ∧ w'.cell? ⟨w.heap.size + 1, 3, none⟩ = some (.slice b.2.1.1 b.2.2.length b.2.1.2)) (first | with_reducible assumption | with_reducible exact HK.out _ HB2.out | with_reducible exact HK.out _ HB1.out | with_reducible exact HKS.out _ _ _ _ _ _ _ _ _ _ _ | exact HK.out _ (Below.refl _ _).drew)
        ((first
          | (go_at_call 77; refine (HCP.out _ HN.out.2.1.drew).mono ?_; rintro e w1 ⟨z, rfl, HZ⟩; have HB1 := hide (below_undrew HZ.out.1))
          | (go_at_call 107; refine (strcopy_any _ _ hs).mono ?_; rintro e w2 ⟨rfl, hb2⟩; have HB12 := hide hb2; have HB2 := hide (HB1.out.trans (hb2.mono HB1.out.size)); have HX2 := hide ((HB2.out.block (w.heap.size + 1 + 1 + 1) (by have := HN.out.2.2; omega)).trans HN.out.1.2.2.2); clear hb2; obtain ⟨⟨d0, d1, d2, d3, d4, d5, d6, d7, d8, d9, d10⟩, f0, hq2⟩ := act_box0 HX2.out; have HKS : Hid (∀ v0 v1 v2 v3 v4 v5 v6 v7 v8 v9 v10 : Value, ((((((((((((w2.setCell ⟨w.heap.size + 1 + 1 + 1, 0, none⟩ v0).setCell ⟨w.heap.size + 1 + 1 + 1, 1, none⟩ v1).setCell ⟨w.heap.size + 1 + 1 + 1, 2, none⟩ v2).setCell ⟨w.heap.size + 1 + 1 + 1, 3, none⟩ v3).setCell ⟨w.heap.size + 1 + 1 + 1, 4, none⟩ v4).setCell ⟨w.heap.size + 1 + 1 + 1, 5, none⟩ v5).setCell ⟨w.heap.size + 1 + 1 + 1, 6, none⟩ v6).setCell ⟨w.heap.size + 1 + 1 + 1, 7, none⟩ v7).setCell ⟨w.heap.size + 1 + 1 + 1, 8, none⟩ v8).setCell ⟨w.heap.size + 1 + 1 + 1, 9, none⟩ v9).setCell ⟨w.heap.size + 1 + 1 + 1, 10, none⟩ v10).cell? ⟨w.heap.size, 2, none⟩ = some (.string a.1.2.2) ∧ (((((((((((w2.setCell ⟨w.heap.size + 1 + 1 + 1, 0, none⟩ v0).setCell ⟨w.heap.size + 1 + 1 + 1, 1, none⟩ v1).setCell ⟨w.heap.size + 1 + 1 + 1, 2, none⟩ v2).setCell ⟨w.heap.size + 1 + 1 + 1, 3, none⟩ v3).setCell ⟨w.heap.size + 1 + 1 + 1, 4, none⟩ v4).setCell ⟨w.heap.size + 1 + 1 + 1, 5, none⟩ v5).setCell ⟨w.heap.size + 1 + 1 + 1, 6, none⟩ v6).setCell ⟨w.heap.size + 1 + 1 + 1, 7, none⟩ v7).setCell ⟨w.heap.size + 1 + 1 + 1, 8, none⟩ v8).setCell ⟨w.heap.size + 1 + 1 + 1, 9, none⟩ v9).setCell ⟨w.heap.size + 1 + 1 + 1, 10, none⟩ v10).cell? ⟨w.heap.size + 1 + 1, 1, none⟩ = some (.int .i64 c.1.2.1)) ∧ (((((((((((w2.setCell ⟨w.heap.size + 1 + 1 + 1, 0, none⟩ v0).setCell ⟨w.heap.size + 1 + 1 + 1, 1, none⟩ v1).setCell ⟨w.heap.size + 1 + 1 + 1, 2, none⟩ v2).setCell ⟨w.heap.size + 1 + 1 + 1, 3, none⟩ v3).setCell ⟨w.heap.size + 1 + 1 + 1, 4, none⟩ v4).setCell ⟨w.heap.size + 1 + 1 + 1, 5, none⟩ v5).setCell ⟨w.heap.size + 1 + 1 + 1, 6, none⟩ v6).setCell ⟨w.heap.size + 1 + 1 + 1, 7, none⟩ v7).setCell ⟨w.heap.size + 1 + 1 + 1, 8, none⟩ v8).setCell ⟨w.heap.size + 1 + 1 + 1, 9, none⟩ v9).setCell ⟨w.heap.size + 1 + 1 + 1, 10, none⟩ v10).cell? ⟨w.heap.size + 1, 0, none⟩ = some (.int .i64 b.1.1) ∧ (((((((((((w2.setCell ⟨w.heap.size + 1 + 1 + 1, 0, none⟩ v0).setCell ⟨w.heap.size + 1 + 1 + 1, 1, none⟩ v1).setCell ⟨w.heap.size + 1 + 1 + 1, 2, none⟩ v2).setCell ⟨w.heap.size + 1 + 1 + 1, 3, none⟩ v3).setCell ⟨w.heap.size + 1 + 1 + 1, 4, none⟩ v4).setCell ⟨w.heap.size + 1 + 1 + 1, 5, none⟩ v5).setCell ⟨w.heap.size + 1 + 1 + 1, 6, none⟩ v6).setCell ⟨w.heap.size + 1 + 1 + 1, 7, none⟩ v7).setCell ⟨w.heap.size + 1 + 1 + 1, 8, none⟩ v8).setCell ⟨w.heap.size + 1 + 1 + 1, 9, none⟩ v9).setCell ⟨w.heap.size + 1 + 1 + 1, 10, none⟩ v10).cell? ⟨w.heap.size + 1, 1, none⟩ = some (.int .i64 b.1.2.1) ∧ (((((((((((w2.setCell ⟨w.heap.size + 1 + 1 + 1, 0, none⟩ v0).setCell ⟨w.heap.size + 1 + 1 + 1, 1, none⟩ v1).setCell ⟨w.heap.size + 1 + 1 + 1, 2, none⟩ v2).setCell ⟨w.heap.size + 1 + 1 + 1, 3, none⟩ v3).setCell ⟨w.heap.size + 1 + 1 + 1, 4, none⟩ v4).setCell ⟨w.heap.size + 1 + 1 + 1, 5, none⟩ v5).setCell ⟨w.heap.size + 1 + 1 + 1, 6, none⟩ v6).setCell ⟨w.heap.size + 1 + 1 + 1, 7, none⟩ v7).setCell ⟨w.heap.size + 1 + 1 + 1, 8, none⟩ v8).setCell ⟨w.heap.size + 1 + 1 + 1, 9, none⟩ v9).setCell ⟨w.heap.size + 1 + 1 + 1, 10, none⟩ v10).cell? ⟨w.heap.size + 1, 2, none⟩ = some (.string b.1.2.2) ∧ (((((((((((w2.setCell ⟨w.heap.size + 1 + 1 + 1, 0, none⟩ v0).setCell ⟨w.heap.size + 1 + 1 + 1, 1, none⟩ v1).setCell ⟨w.heap.size + 1 + 1 + 1, 2, none⟩ v2).setCell ⟨w.heap.size + 1 + 1 + 1, 3, none⟩ v3).setCell ⟨w.heap.size + 1 + 1 + 1, 4, none⟩ v4).setCell ⟨w.heap.size + 1 + 1 + 1, 5, none⟩ v5).setCell ⟨w.heap.size + 1 + 1 + 1, 6, none⟩ v6).setCell ⟨w.heap.size + 1 + 1 + 1, 7, none⟩ v7).setCell ⟨w.heap.size + 1 + 1 + 1, 8, none⟩ v8).setCell ⟨w.heap.size + 1 + 1 + 1, 9, none⟩ v9).setCell ⟨w.heap.size + 1 + 1 + 1, 10, none⟩ v10).cell? ⟨w.heap.size + 1, 3, none⟩ = some (.slice b.2.1.1 b.2.2.length b.2.1.2)) := (fun v0 v1 v2 v3 v4 v5 v6 v7 v8 v9 v10 => sp_keep (Keeps.set (Keeps.set (Keeps.set (Keeps.set (Keeps.set (Keeps.set (Keeps.set (Keeps.set (Keeps.set (Keeps.set (Keeps.set (Keeps.refl _ _) _ _) _ _) _ _) _ _) _ _) _ _) _ _) _ _) _ _) _ _) _ _) (HK.out _ HB2.out)))))
      go_wp2_with fail
      have HL := lift_copy (M := M) hn ((HZ.out.2.1.below HB12.out).mono HB12.out.size) (HZ.out.2.2.1.mono fun q (hq : W0.heap.size ≤ q) => (show w.heap.size + 1 + 1 + 1 < q by have := HN.out.2.2; omega)) HZ.out.2.2.2
      refine bodyPost_ret (v := .tuple #[.agg #[.int .i64 2, .int .i64 0, .int .i64 0, .string ⟨#[]⟩, .slice none 0 0, .int .i64 z.1.1, .int .i64 z.1.2.1, .string z.1.2.2, .slice z.2.1.1 z.2.2.length z.2.1.2, .string a.1.2.2, .int .i64 c.1.2.1], .bool true]) (by simp [results, Try.results127, go_sem, d0, d1, d2, d3, d4, d5, d6, d7, d8, d9, d10]) rfl ?_
      have e : ac11 (M + 1) (2, (zT M, lift (M + 1) (n + 1) z), (a.1.2.2, c.1.2.1)) = [.int .i64 2, .int .i64 0, .int .i64 0, .string ⟨#[]⟩, .slice none 0 0, .int .i64 z.1.1, .int .i64 z.1.2.1, .string z.1.2.2, .slice z.2.1.1 z.2.2.length z.2.1.2, .string a.1.2.2, .int .i64 c.1.2.1] := by
        show .int .i64 2 :: (tm4 (M + 1) (zT M) ++ tm4 (M + 1) (lift (M + 1) (n + 1) z) ++ [.string a.1.2.2, .int .i64 c.1.2.1]) = _
        rw [tm4_lift]
        rfl
      have k := fun (w' : World) (hk : Keeps (w.heap.size + 1 + 1 + 1) w2 w') => rdAct_some (g := w.heap.size + 1 + 1 + 1) (w2 := w2) (2, (zT M, lift (M + 1) (n + 1) z), (a.1.2.2, c.1.2.1)) (2, (zT M, lift (M + 1) (n + 1) b), (a.1.2.2, c.1.2.1)) HR.out (w := w) hk (HN.out.2.1.trans (HB2.out.mono HN.out.2.1.size)) (by omega) ⟨by simp [I64], zT_in _ _ _, HL.1, HSZ.out.1, HSZ.out.2⟩ ⟨Or.inl rfl, HL.2.1⟩ ⟨rfl, in_self (zT_in _ 0 w), HL.2.2, rfl⟩
      rw [e] at k
      exact k _ (Keeps.set (Keeps.set (Keeps.set (Keeps.set (Keeps.set (Keeps.set (Keeps.set (Keeps.set (Keeps.set (Keeps.set (Keeps.set (Keeps.refl _ _) _ _) _ _) _ _) _ _) _ _) _ _) _ _) _ _) _ _) _ _) _ _)
    · have e2 : (a.1.1 != 2) = false := by simp [h2]
      have e5 : (c.1.1 != 5) = true := by simp [h5]
      have HR : Hid (o = none) := by
        show _ = _
        rw [ho]
        simp [rdSp, kindA, h5]
      clear ho
      clear ha hb hc hra hrb h2 h5
      go_enter Try.func127, Try.ntmps127
      go_wp2_with fail
      exact bodyPost_ret (v := .tuple #[.agg #[.int .i64 0, .int .i64 0, .int .i64 0, .string .empty, .slice none 0 0, .int .i64 0, .int .i64 0, .string .empty, .slice none 0 0, .string .empty, .int .i64 0], .bool false]) (by simp [results, Try.results127, go_sem]; rfl) rfl (rdAct_none HR.out (by go_grown))
  · have e2 : (a.1.1 != 2) = true := by simp [h2]
    have HR : Hid (o = none) := by
      show _ = _
      rw [ho]
      simp [rdSp, kindA, h2]
    clear ho
    clear ha hb hc hra hrb h2
    go_enter Try.func127, Try.ntmps127
    go_wp2_with fail
    exact bodyPost_ret (v := .tuple #[.agg #[.int .i64 0, .int .i64 0, .int .i64 0, .string .empty, .slice none 0 0, .int .i64 0, .int .i64 0, .string .empty, .slice none 0 0, .string .empty, .int .i64 0], .bool false]) (by simp [results, Try.results127, go_sem]; rfl) rfl (rdAct_none HR.out (by go_grown))
end Go.Proofs.Ytpehdgbdinjbaaa
