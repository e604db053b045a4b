/- What is proved here: plain facts and contracts that the claimed theorem stands on, several texts in one: told as a term, a program in form is of no more terms than its bulk and 2897. No condition beside its form. whatever reads as a list of terms is a list of trees that lies in memory, no larger than the reading's bulk. No condition. whatever reads as a list of numbers is a row of numbers in memory. No condition. -/
import Derived.Test.YtbmjfnicfpdjfaaG34
import Derived.Test.YtbmjfnicfpdjfaaG06
namespace Go.Proofs.Ytbmjfnicfpdjfaa

theorem wt_lift : (N n : Nat) → n ≤ N → (x : Tm n) → wt N (lift N n x) = wt n x
  | 0, 0, _, _ => rfl
  | N + 1, 0, _, _ => by simp [lift, wt]
  | N + 1, n + 1, h, x => by
    simp only [lift, wt, List.map_map]
    congr 2
    refine List.map_congr_left fun y _ => ?_
    exact wt_lift N n (by omega) y
theorem wt_pos : (n : Nat) → (x : Tm n) → 1 ≤ wt n x
  | 0, _ => by simp [wt]
  | n + 1, x => by simp only [wt]; omega
theorem sum_more {α : Type} (f g : α → Nat) (c : Nat) : (l : List α) → (∀ y ∈ l, f y ≤ g y + c) → (l.map f).sum ≤ (l.map g).sum + l.length * c
  | [], _ => by simp
  | y :: l, h => by
    have h1 := h y (by simp)
    have h2 := sum_more f g c l fun z hz => h z (by simp [hz])
    simp only [List.map_cons, List.sum_cons, List.length_cons, Nat.add_mul, Nat.one_mul]
    omega
theorem wt_atom (s : ByteArray) (N : Nat) : wt (N + 1) (atomV s N) = 1 + s.size := by simp [wt, atomV]
theorem wt_tup (N : Nat) (l : List (Tm N)) : wt (N + 1) (tupV N l) = 1 + (l.map (wt N)).sum := by simp [wt, tupV]
theorem wt_leaf (k u : Int) (N : Nat) : wt (N + 1) (leafV k u N) = 1 := by simp [wt, leafV]
theorem wt_tellA (n : Nat) (a : Ac (n + 1)) : wt (n + 2) (tellA n a) ≤ wtA (n + 1) a + 8 := by
  have h1 := wt_pos (n + 1) a.2.1.1
  have h2 := wt_pos (n + 1) a.2.1.2
  have e1 : wSend.size = 4 := rfl
  have e2 : wSpawn.size = 5 := rfl
  have e3 : wLink.size = 4 := rfl
  have e4 : wStop.size = 4 := rfl
  unfold tellA wtA
  split
  · rw [wt_tup]; simp only [List.map_cons, List.map_nil, List.sum_cons, List.sum_nil, wt_atom]; omega
  · split
    · rw [wt_tup]; simp only [List.map_cons, List.map_nil, List.sum_cons, List.sum_nil, wt_atom, wt_leaf]; omega
    · split
      · rw [wt_tup]; simp only [List.map_cons, List.map_nil, List.sum_cons, List.sum_nil, wt_atom]; omega
      · rw [wt_tup]; simp only [List.map_cons, List.map_nil, List.sum_cons, List.sum_nil, wt_atom]; omega
theorem wt_tellC (n : Nat) (c : Cl (n + 1)) (h : clB (n + 1) c = true) : wt (n + 4) (tellC n c) ≤ wtC (n + 1) c + 68 := by
  have e1 : wOn.size = 2 := rfl
  have hl : c.2.2.length ≤ 8 := by
    simp only [clB, Bool.and_eq_true, decide_eq_true_eq] at h
    omega
  have hs := sum_more (fun a => wt (n + 2) (tellA n a)) (wtA (n + 1)) 8 c.2.2 fun a _ => wt_tellA n a
  have l1 := wt_lift (n + 3) (n + 1) (by omega) c.1.1
  have l2 := wt_lift (n + 3) (n + 1) (by omega) c.1.2.1
  have l3 := wt_lift (n + 3) (n + 1) (by omega) c.1.2.2
  unfold tellC wtC
  rw [wt_tup]
  simp only [List.map_cons, List.map_nil, List.sum_cons, List.sum_nil, wt_atom, wt_tup, List.map_map, l1, l2, l3]
  have hs' : (c.2.2.map (wt (n + 2) ∘ tellA n)).sum ≤ (c.2.2.map (wtA (n + 1))).sum + c.2.2.length * 8 := hs
  omega
theorem wt_tellB (n : Nat) (b : Bh (n + 1)) (h : bhB (n + 1) b = true) : wt (n + 5) (tellB n b) ≤ wtB (n + 1) b + 413 := by
  have e1 : wBeh.size = 3 := rfl
  simp only [bhB, Bool.and_eq_true, decide_eq_true_eq, List.all_eq_true] at h
  have hs : (b.2.2.map (wt (n + 4) ∘ tellC n)).sum ≤ (b.2.2.map (wtC (n + 1))).sum + b.2.2.length * 68 := sum_more (fun a => wt (n + 4) (tellC n a)) (wtC (n + 1)) 68 b.2.2 fun a ha => wt_tellC n a (h.2 a ha)
  have hl : b.2.2.length ≤ 6 := by omega
  unfold tellB wtB
  rw [wt_tup]
  simp only [List.map_cons, List.sum_cons, wt_atom, List.map_map]
  omega
/-- Told as a term, a program in form is hardly larger. -/
theorem wt_tellP (n : Nat) (p : List (Bh (n + 1))) (h : pgB (n + 1) p = true) : wt (n + 6) (tellP n p) ≤ (p.map (wtB (n + 1))).sum + 2897 := by
  have e1 : wCode.size = 4 := rfl
  simp only [pgB, Bool.and_eq_true, decide_eq_true_eq, List.all_eq_true] at h
  have hs : (p.map (wt (n + 5) ∘ tellB n)).sum ≤ (p.map (wtB (n + 1))).sum + p.length * 413 := sum_more (fun a => wt (n + 5) (tellB n a)) (wtB (n + 1)) 413 p fun a ha => wt_tellB n a (h.2 a ha)
  have hl : p.length ≤ 7 := by omega
  unfold tellP
  rw [wt_tup]
  simp only [List.map_cons, List.sum_cons, wt_atom, List.map_map]
  omega
theorem nodes_tellP (n : Nat) (p : List (Bh (n + 1))) (h : pgB (n + 1) p = true) (hb : (p.map (wtB (n + 1))).sum ≤ 1048576) : (nodes (n + 6) (tellP n p)).length ≤ 2097152 := by
  have h1 := nodes_wt (n + 6) (tellP n p)
  have h2 := wt_tellP n p h
  omega
end Go.Proofs.Ytbmjfnicfpdjfaa
namespace Go.Proofs.Ytbmjfnicfpdjfaa
open Go.ChangeShapes Go.WideShapes Go.ChangeAt Go.RowKit

set_option maxRecDepth 100000 in
theorem open_terms {H : Type} {enc : TypeId × Value → H} {W : World} {r : Reach} {b0 : Nat} {v : Value} {d : DataW H} {p : List MemPlace} (hv : Value.okWide Try.prog W r b0 23 v)
    (h : DataW.Trod enc Try.prog W 0 (fun _ => true) true 23 v d p) : ∃ n, ∃ q : List (Tm (n + 1)), ∃ a c, v = .slice a q.length c ∧ Lies W.heap.size W (n + 1) q a ∧ q.length ≤ c ∧ c ≤ maxLen ∧ (q.map fun y => wt (n + 1) y).sum ≤ Rows.uptoBulk d := by
  obtain ⟨a, len, cap, rfl⟩ := okWide_slice Try.underlying23 hv
  obtain ⟨f, hf⟩ := h
  have hf' : DataW.trod enc Try.prog W 0 (fun _ => true) true f 23 [.slice a len cap] = some (d, p) := hf
  rcases DataW.trod_slice Try.underlying23 hf' with ⟨e, e2⟩ | ⟨a, len, cap, elems, rest, m, rfl, e, e2, _, hlc, hcm, hel, hat, _, _⟩
  · simp at e e2
    obtain ⟨rfl, rfl, rfl⟩ := e
    exact ⟨0, [], none, 0, rfl, Or.inl rfl, Nat.le_refl _, Nat.zero_le _, Nat.zero_le _⟩
  · simp at e e2
    obtain ⟨rfl, rfl, rfl⟩ := e
    obtain ⟨rfl, rfl⟩ := e2
    simp only [cellsTerm] at hat
    have key : ∀ i, i < len → ∃ t : Tm (m + 1), (∃ b o, a = ⟨b, o, none⟩ ∧ b < W.heap.size ∧ Held W b (o + i * 4) (m + 1) t) ∧ In W.heap.size W (m + 1) t ∧ ∀ e, (elems.map (·.1))[i]? = some e → wt (m + 1) t ≤ Rows.uptoBulk e := by
      intro i hi
      have hi' := hat i hi
      have hi0 := hat 0 (by omega)
      rw [List.getElem?_eq_getElem (by omega)] at hi' hi0
      obtain ⟨cs', hcs, htr⟩ := Option.bind_eq_some_iff.1 hi'
      obtain ⟨cs0, hcs0, htr0⟩ := Option.bind_eq_some_iff.1 hi0
      obtain ⟨_, hlen, hcell⟩ := World.cells?_some hcs
      obtain ⟨_, hlen0, hcell0⟩ := World.cells?_some hcs0
      obtain ⟨t, rfl, hin, hb⟩ := tree_of enc W (fun _ => true) m m (by omega) cs' _ htr
      have ha := spot_none (w := W) (a := a) (v := cs0[0]'(by omega)) (by have := hcell0 0 (by omega); rw [List.getElem?_eq_getElem (by omega)] at this; simpa using this)
      have hadd : ∀ j, (a.add (i * 4)).add j = ⟨a.block, a.off + i * 4 + j, none⟩ := fun j => by
        have := add_add a.block a.off (i * 4) j
        rw [← ha] at this
        exact this
      have c0 := hcell 0 (by omega)
      have c1 := hcell 1 (by omega)
      have c2 := hcell 2 (by omega)
      have c3 := hcell 3 (by omega)
      rw [hadd] at c0 c1 c2 c3
      simp at c0 c1 c2 c3
      refine ⟨t, ⟨a.block, a.off, ha, World.block_lt_of_cell? W ⟨a.block, a.off + i * 4, none⟩ c0, c0, c1, c2, c3⟩, hin, fun e he => ?_⟩
      rw [List.getElem?_map, List.getElem?_eq_getElem (by omega)] at he
      have : (elems[i]).1 = e := by simpa using he
      rw [← this]
      exact hb
    obtain ⟨q, hpl, hp⟩ := list_of len key
    refine ⟨m, q, some a, cap, by rw [hpl], ?_, by omega, hcm, ?_⟩
    · rcases Nat.eq_zero_or_pos len with h | h
      · exact Or.inl (List.eq_nil_of_length_eq_zero (hpl.trans h))
      · obtain ⟨⟨b, o, rfl, hb, _⟩, _, _⟩ := hp 0 (q[0]'(by rw [hpl]; exact h)) (List.getElem?_eq_getElem (by rw [hpl]; exact h))
        refine Or.inr ⟨b, o, rfl, hb, fun i y hy => ?_⟩
        obtain ⟨⟨b', o', e, _, hh⟩, hin, _⟩ := hp i y hy
        simp at e
        obtain ⟨rfl, rfl⟩ := e
        exact ⟨hh, hin⟩
    · have hs := wt_le q (elems.map (·.1)) (fun i y e hy he => (hp i y hy).2.2 e he) (by simp; omega)
      simp only [Rows.uptoBulk]
      omega
theorem sum_mem {n : Nat} (q : List (Tm n)) (y : Tm n) (h : y ∈ q) : wt n y ≤ (q.map fun y => wt n y).sum := by
  induction q with
  | nil => cases h
  | cons z q ih =>
    simp only [List.map_cons, List.sum_cons]
    rcases List.mem_cons.1 h with rfl | h
    · omega
    · have := ih h
      omega
end Go.Proofs.Ytbmjfnicfpdjfaa
namespace Go.Proofs.Ytbmjfnicfpdjfaa
open Go.ChangeShapes Go.WideShapes Go.ChangeAt Go.RowKit

set_option maxRecDepth 100000 in
theorem open_nums {H : Type} {enc : TypeId × Value → H} {W : World} {r : Reach} {b0 : Nat} {v : Value} {d : DataW H} {p : List MemPlace} (hv : Value.okWide Try.prog W r b0 27 v)
    (h : DataW.Trod enc Try.prog W 0 (fun _ => true) true 27 v d p) : ∃ a len cap, v = .slice a len cap ∧ len ≤ cap ∧ cap ≤ maxLen ∧ (len = 0 ∨ ∃ b o, a = some ⟨b, o, none⟩ ∧ b < W.heap.size ∧ ∀ i, i < len → ∃ u, W.cell? ⟨b, o + i, none⟩ = some (.int .i64 u)) := by
  obtain ⟨a, len, cap, rfl⟩ := okWide_slice Try.underlying27 hv
  obtain ⟨f, hf⟩ := h
  have hf' : DataW.trod enc Try.prog W 0 (fun _ => true) true f 27 [.slice a len cap] = some (d, p) := hf
  rcases DataW.trod_slice Try.underlying27 hf' with ⟨e, e2⟩ | ⟨a, len, cap, elems, rest, m, rfl, e, e2, _, hlc, hcm, hel, hat, _, _⟩
  · simp at e e2
    obtain ⟨rfl, rfl, rfl⟩ := e
    exact ⟨none, 0, 0, rfl, Nat.le_refl _, Nat.zero_le _, Or.inl rfl⟩
  · simp at e e2
    obtain ⟨rfl, rfl, rfl⟩ := e
    simp only [cellsInt] at hat
    refine ⟨some a, len, cap, rfl, by omega, hcm, ?_⟩
    rcases Nat.eq_zero_or_pos len with h0 | h0
    · exact Or.inl h0
    · have key : ∀ i, i < len → ∃ u, W.cell? (a.add i) = some (.int .i64 u) := by
        intro i hi
        have hi' := hat i hi
        rw [List.getElem?_eq_getElem (by omega)] at hi'
        obtain ⟨cs', hcs, htr⟩ := Option.bind_eq_some_iff.1 hi'
        obtain ⟨_, hlen, hcell⟩ := World.cells?_some hcs
        obtain ⟨u, rfl, _, _⟩ := DataW.trod_int Try.underlying3 htr
        have c0 := hcell 0 (by omega)
        simp at c0
        exact ⟨u, c0⟩
      obtain ⟨u0, hu0⟩ := key 0 h0
      have ha := spot_none (w := W) (a := a) (v := .int .i64 u0) (by have h9 := hu0; unfold Addr.add at h9 ⊢; simpa using h9)
      have hadd : ∀ j, a.add j = ⟨a.block, a.off + j, none⟩ := fun j => by
        have := Addr.add_lit a.block a.off j
        rw [← ha] at this
        exact this
      refine Or.inr ⟨a.block, a.off, by rw [← ha], World.block_lt_of_cell? W ⟨a.block, a.off, none⟩ (u := .int .i64 u0) (by have := hu0; rw [hadd] at this; simpa using this), fun i hi => ?_⟩
      obtain ⟨u, hu⟩ := key i hi
      rw [hadd] at hu
      exact ⟨u, hu⟩
end Go.Proofs.Ytbmjfnicfpdjfaa
