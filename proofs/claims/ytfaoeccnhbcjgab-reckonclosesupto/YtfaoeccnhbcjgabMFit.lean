/- What is proved here: match.Fits of two terms and a list of terms that lie in memory returns what the plain functions say: the error of what isn't right, or whether the pattern fits, and then copies of what is bound; it turns no memory that was there. Condition: at most 2097152 terms in each. -/
import Derived.Test.YtfaoeccnhbcjgabBnd
import Derived.Test.YtfaoeccnhbcjgabCpy
import Derived.Test.YtfaoeccnhbcjgabFit4
import Derived.Lib.SliceRun
namespace Go.Proofs.Ytfaoeccnhbcjgab
open Go.RowKit

def anL (n : Nat) (q : List (Tm n)) : List An := q.map fun x => ⟨n, x⟩
theorem anL_length (n : Nat) (q : List (Tm n)) : (anL n q).length = q.length := by simp [anL]
theorem held_cells {n : Nat} {q : List (Tm n)} {w : World} {pb po : Nat} (hp : ∀ (i : Nat) (y : Tm n), q[i]? = some y → Held w pb (po + i * 4) n y) :
    ∀ j u, (anCells (anL n q))[j]? = some u → w.cell? ((⟨pb, po, none⟩ : Addr).add j) = some u := by
  intro j u h
  have hl := anCells_length (anL n q)
  have hj : j < q.length * 4 := by
    rw [anL_length] at hl
    rw [← hl]
    exact (List.getElem?_eq_some_iff.1 h).1
  obtain ⟨k, i, hi, rfl⟩ : ∃ k i, i < 4 ∧ j = k * 4 + i := ⟨j / 4, j % 4, Nat.mod_lt _ (by decide), by omega⟩
  obtain ⟨y, hy⟩ : ∃ y, q[k]? = some y := ⟨q[k]'(by omega), List.getElem?_eq_getElem _⟩
  have e : (anCells (anL n q))[k * 4 + i]? = (nd4 (ndA ⟨n, y⟩))[i]? := ndCells_at _ k (ndA ⟨n, y⟩) (by simp [anL, hy]) i hi
  rw [e] at h
  have hh := hp k y hy
  cases n with
  | zero => exact hh.elim
  | succ n =>
  obtain ⟨h0, h1, h2, h3⟩ := hh
  rw [Addr.add_lit, ← Nat.add_assoc]
  have : i = 0 ∨ i = 1 ∨ i = 2 ∨ i = 3 := by omega
  rcases this with rfl | rfl | rfl | rfl
  all_goals simp [nd4, ndA, hdT, hdOf] at h; subst h
  · exact h0
  · exact h1
  · exact h2
  · exact h3

set_option maxHeartbeats 1000000 in
theorem clone_list (n : Nat) (q : List (Tm n)) (len pb po pc : Nat) (w : World) (hl : Hid (q.length = len)) (h0 : 0 < len) (h1 : len ≤ 1048576) (HP : Hid (∀ w1, Below w.heap.size w w1 → ∀ j u, (anCells (anL n q))[j]? = some u → w1.cell? ((⟨pb, po, none⟩ : Addr).add j) = some u)) :
    Calls Try.prog 54 #[.slice (some ⟨pb, po, none⟩) len pc] w fun e w' => ∃ g c, e = .returned (.slice (some ⟨g, 0, none⟩) len c) ∧ Hid (Below w.heap.size w w' ∧ Has w.heap.size g c (anL n q) w') := by
  obtain ⟨it, hit, htz0, htz1, htz2⟩ := info_parts infoTerm
  have HT := hide (⟨hit, htz0, htz1, htz2⟩ : _ ∧ _ ∧ _ ∧ _)
  clear hit htz0 htz1 htz2
  have hq : ∀ (w : World) (a : Option Addr) (n c n' c' : Nat), (binOp .eql 22 (.slice a n c) (.slice none n' c')).run Try.prog w = .ok (.bool a.isNone) w := fun w a n c n' c' => Lib.run_eql_slice_nil w _ _ a n c n' c' Try.underlying22
  go_enter Try.func54, Try.ntmps54
  go_wp2_with (at_builtin; refine wpList_append_own _ rfl _ _ 22 rfl w.heap.size 24 it _ 4 56 Try.underlying22 HT.out.1 HT.out.2.1 HT.out.2.2.1 HT.out.2.2.2 rfl (by decide) _ _ _ rfl (World.ownsRow_made w #[] 0 (Nat.le_refl _) (Nat.zero_le _) (by simp)) ⟨pb, po, none⟩ len pc (anCells (anL n q)) rfl ?qc1 ?qc2 ?qc3 ?qc4 ?qc5 ?qc6 ?_)
  case qc1 => rw [anCells_length, anL_length, hl.out]
  case qc2 => exact HP.out _ ((Below.refl _ _).alloc (Nat.le_refl _) _)
  case qc3 => exact anCells_one _
  case qc4 => unfold maxLen; omega
  case qc5 => omega
  case qc6 => simp
  intro v1 w1 hown hgrow hnil
  have HF : Hid (∃ g c, v1 = .slice (some ⟨g, 0, none⟩) len c ∧ Below w.heap.size w w1 ∧ Has w.heap.size g c (anL n q) w1) := by
    have hb : Below w.heap.size w w1 := Below.grown ((Below.refl _ _).alloc (Nat.le_refl _) _) hgrow (by simp) (by intro k hk; simp [Value.ownBlock] at hk; omega)
    have ho := hown
    obtain ⟨_, ho⟩ := ho
    rcases ho with ⟨_, ho⟩ | ⟨g, cap, cur, rfl, hg, _⟩
    · omega
    · refine ⟨g, cap, rfl, hb, ?_⟩
      unfold Has
      rw [anL_length, hl.out]
      exact hown
  clear hown hgrow hnil
  obtain ⟨g, c, rfl, HF2⟩ := HF.out
  go_wp2_with fail
  go_ret
  exact ⟨g, c, rfl, HF2⟩
end Go.Proofs.Ytfaoeccnhbcjgab
