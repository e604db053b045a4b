/- What is proved here: whatever reads as a list of terms is a list of trees that lies in memory, no larger than the reading's bulk. No condition. -/
import Derived.Test.YtfaoeccnhbcjgabOpen
import Derived.Test.YtfaoeccnhbcjgabBnd
namespace Go.Proofs.Ytfaoeccnhbcjgab
open Go.ChangeShapes Go.WideShapes Go.ChangeAt Go.RowKit

set_option maxRecDepth 100000 in
theorem open_terms {H : Type} {enc : TypeId × Value → H} {W : World} {r : Reach} {b0 : Nat} {v : Value} {d : DataW H} {p : List MemPlace} (hv : Value.okWide Try.prog W r b0 22 v)
    (h : DataW.Trod enc Try.prog W 0 (fun _ => true) true 22 v d p) : ∃ n, ∃ q : List (Tm (n + 1)), ∃ a c, v = .slice a q.length c ∧ Lies W.heap.size W (n + 1) q a ∧ q.length ≤ c ∧ c ≤ maxLen ∧ (q.map fun y => wt (n + 1) y).sum ≤ Rows.uptoBulk d := by
  obtain ⟨a, len, cap, rfl⟩ := okWide_slice Try.underlying22 hv
  obtain ⟨f, hf⟩ := h
  have hf' : DataW.trod enc Try.prog W 0 (fun _ => true) true f 22 [.slice a len cap] = some (d, p) := hf
  rcases DataW.trod_slice Try.underlying22 hf' with ⟨e, e2⟩ | ⟨a, len, cap, elems, rest, m, rfl, e, e2, _, hlc, hcm, hel, hat, _, _⟩
  · simp at e e2
    obtain ⟨rfl, rfl, rfl⟩ := e
    exact ⟨0, [], none, 0, rfl, Or.inl rfl, Nat.le_refl _, Nat.zero_le _, Nat.zero_le _⟩
  · simp at e e2
    obtain ⟨rfl, rfl, rfl⟩ := e
    obtain ⟨rfl, rfl⟩ := e2
    simp only [cellsTerm] at hat
    have key : ∀ i, i < len → ∃ t : Tm (m + 1), (∃ b o, a = ⟨b, o, none⟩ ∧ b < W.heap.size ∧ Held W b (o + i * 4) (m + 1) t) ∧ In W.heap.size W (m + 1) t ∧ ∀ e, (elems.map (·.1))[i]? = some e → wt (m + 1) t ≤ Rows.uptoBulk e := by
      intro i hi
      have hi' := hat i hi
      have hi0 := hat 0 (by omega)
      rw [List.getElem?_eq_getElem (by omega)] at hi' hi0
      obtain ⟨cs', hcs, htr⟩ := Option.bind_eq_some_iff.1 hi'
      obtain ⟨cs0, hcs0, htr0⟩ := Option.bind_eq_some_iff.1 hi0
      obtain ⟨_, hlen, hcell⟩ := World.cells?_some hcs
      obtain ⟨_, hlen0, hcell0⟩ := World.cells?_some hcs0
      obtain ⟨t, rfl, hin, hb⟩ := tree_of enc W (fun _ => true) m m (by omega) cs' _ htr
      have ha := spot_none (w := W) (a := a) (v := cs0[0]'(by omega)) (by have := hcell0 0 (by omega); rw [List.getElem?_eq_getElem (by omega)] at this; simpa using this)
      have hadd : ∀ j, (a.add (i * 4)).add j = ⟨a.block, a.off + i * 4 + j, none⟩ := fun j => by
        have := add_add a.block a.off (i * 4) j
        rw [← ha] at this
        exact this
      have c0 := hcell 0 (by omega)
      have c1 := hcell 1 (by omega)
      have c2 := hcell 2 (by omega)
      have c3 := hcell 3 (by omega)
      rw [hadd] at c0 c1 c2 c3
      simp at c0 c1 c2 c3
      refine ⟨t, ⟨a.block, a.off, ha, World.block_lt_of_cell? W ⟨a.block, a.off + i * 4, none⟩ c0, c0, c1, c2, c3⟩, hin, fun e he => ?_⟩
      rw [List.getElem?_map, List.getElem?_eq_getElem (by omega)] at he
      have : (elems[i]).1 = e := by simpa using he
      rw [← this]
      exact hb
    obtain ⟨q, hpl, hp⟩ := list_of len key
    refine ⟨m, q, some a, cap, by rw [hpl], ?_, by omega, hcm, ?_⟩
    · rcases Nat.eq_zero_or_pos len with h | h
      · exact Or.inl (List.eq_nil_of_length_eq_zero (hpl.trans h))
      · obtain ⟨⟨b, o, rfl, hb, _⟩, _, _⟩ := hp 0 (q[0]'(by rw [hpl]; exact h)) (List.getElem?_eq_getElem (by rw [hpl]; exact h))
        refine Or.inr ⟨b, o, rfl, hb, fun i y hy => ?_⟩
        obtain ⟨⟨b', o', e, _, hh⟩, hin, _⟩ := hp i y hy
        simp at e
        obtain ⟨rfl, rfl⟩ := e
        exact ⟨hh, hin⟩
    · have hs := wt_le q (elems.map (·.1)) (fun i y e hy he => (hp i y hy).2.2 e he) (by simp; omega)
      simp only [Rows.uptoBulk]
      omega
theorem sum_mem {n : Nat} (q : List (Tm n)) (y : Tm n) (h : y ∈ q) : wt n y ≤ (q.map fun y => wt n y).sum := by
  induction q with
  | nil => cases h
  | cons z q ih =>
    simp only [List.map_cons, List.sum_cons]
    rcases List.mem_cons.1 h with rfl | h
    · omega
    · have := ih h
      omega
end Go.Proofs.Ytfaoeccnhbcjgab
