/- What is proved here: slices.Repeat of one term: so many of it, in new memory. Condition: at most eight. -/
import Derived.Test.YtfaoeccnhbcjgabCpy0
import Derived.Laws.CopyRow
import Derived.Deep.RegionHeld3
namespace Go.Proofs.Ytfaoeccnhbcjgab
open Go.RowKit

theorem run_copy_sz {P : Program} (w : World) (dT sT ty elem : TypeId) (size g o dLen dCap : Nat) (a : Addr) (sLen sCap : Nat) (cur : Array Value) (t : TypeId) (cs : List Value) (n : Nat)
    (hu : P.underlying dT = some (.slice elem)) (hs : (P.info? elem).map (·.size) = some size)
    (hg : w.heap[g]? = some (.cells cur t (0, 0))) (hn : Nat.min sLen dLen = n) (hl : cs.length = n * size)
    (hsrc : ∀ j v, cs[j]? = some v → w.cell? (a.add j) = some v) (hfit : o + cs.length ≤ cur.size) (h1 : ∀ v ∈ cs, v.oneCell' = true) :
    (Builtin.copy_ #[dT, sT] ty #[.slice (some ⟨g, o, none⟩) dLen dCap, .slice (some a) sLen sCap]).run P w =
      .ok (goInt n) (w.setRow g (cur.toList.take o ++ cs ++ cur.toList.drop (o + cs.length)).toArray) := by
  have hld := run_loadCells_list (P := P) w a cs hsrc
  have hst := run_storeCells_at P g o t cs 0 cur w hg (by simpa using hfit) h1
  cases hq : P.info? elem with
  | none => simp [hq] at hs
  | some i =>
    have hi : i.size = size := by simpa [hq] using hs
    rw [hl] at hld
    simp [Builtin.copy_, run_underlying hu, Builtin.lenOf, Builtin.firstCells, sizeOf, typeInfo, hq, hi, hn, hld, hst]

theorem Has.row {base g k : Nat} {l : List An} {w : World} (h : Has base g k l w) (hl : l.length = k) : w.heap[g]? = some (.cells (anCells l).toArray 24 (0, 0)) := by
  obtain ⟨h1, h2⟩ := h
  rcases h2 with ⟨h2, _⟩ | ⟨g', cap, cur, hv, hg, hh, hc, hm, hz, he⟩
  · simp at h2
  · injection hv with e1 e2 e3
    injection e1 with e1
    injection e1 with e1 _
    subst e1 e3
    rw [hh, ← he, List.take_of_length_le (by rw [Array.length_toList, hz, hl]; exact Nat.le_refl _)]
theorem Has.of_row {base g k : Nat} {l : List An} {w : World} (h : w.heap[g]? = some (.cells (anCells l).toArray 24 (0, 0))) (hl : l.length = k) (hg : base ≤ g) (hk : k ≤ maxLen) : Has base g k l w := by
  refine ⟨anCells_length l, Or.inr ⟨g, k, (anCells l).toArray, rfl, hg, h, by omega, hk, by simp [anCells_length, hl], ?_⟩⟩
  rw [List.take_of_length_le (by simp [anCells_length])]
theorem ndCells_take : (l : List Nd) → (i : Nat) → (ndCells l).take (i * 4) = ndCells (l.take i)
  | [], i => by simp [ndCells]
  | x :: l, 0 => by simp [ndCells]
  | x :: l, i + 1 => by
    have e : ndCells (x :: l) = nd4 x ++ ndCells l := rfl
    have hx : (nd4 x).length = 4 := rfl
    rw [e, List.take_append, hx, List.take_of_length_le (by rw [hx]; omega), show (i + 1) * 4 - 4 = i * 4 by omega, ndCells_take l i]
    rfl
theorem ndCells_drop : (l : List Nd) → (i : Nat) → (ndCells l).drop (i * 4) = ndCells (l.drop i)
  | [], i => by simp [ndCells]
  | x :: l, 0 => by simp [ndCells]
  | x :: l, i + 1 => by
    have e : ndCells (x :: l) = nd4 x ++ ndCells l := rfl
    have hx : (nd4 x).length = 4 := rfl
    rw [e, List.drop_append, hx, List.drop_eq_nil_of_le (by rw [hx]; omega), List.nil_append, show (i + 1) * 4 - 4 = i * 4 by omega, ndCells_drop l i]
    rfl
theorem sizeTerm : (Try.prog.info? 24).map (·.size) = some 4 := by
  obtain ⟨it, h1, h2, h3, h4⟩ := info_parts infoTerm
  rw [h1]; simp [h3]

/-- A copy into a row that is owned, of terms that lie there. -/
theorem run_copy_has {base g k : Nat} {l : List An} {w : World} (h : Has base g k l w) (hl : l.length = k) (hk : k ≤ maxLen) (ty : TypeId) (i n : Nat) (xs : List An) (ad : Addr) (dLen dCap sLen sCap : Nat) (hn : Nat.min sLen dLen = n) (hx : xs.length = n) (hi : i + n ≤ k)
    (hsrc : ∀ j v, (anCells xs)[j]? = some v → w.cell? (ad.add j) = some v) :
    ∃ w', (Builtin.copy_ #[22, 22] ty #[.slice (some ⟨g, i * 4, none⟩) dLen dCap, .slice (some ad) sLen sCap]).run Try.prog w = .ok (goInt n) w' ∧ Has base g k (l.take i ++ xs ++ l.drop (i + n)) w' ∧ w.grownBy w' (some g) := by
  have hr := h.row hl
  refine ⟨_, run_copy_sz w _ _ ty 24 4 g (i * 4) dLen dCap ad sLen sCap (anCells l).toArray 24 (anCells xs) n Try.underlying22 sizeTerm hr hn (by rw [anCells_length, hx]) hsrc (by simp [anCells_length]; omega) (anCells_one _), ?_, ?_⟩
  · have e : (anCells l).take (i * 4) ++ anCells xs ++ (anCells l).drop (i * 4 + (anCells xs).length) = anCells (l.take i ++ xs ++ l.drop (i + n)) := by
      rw [anCells_append, anCells_append, anCells_length, hx, ← Nat.add_mul]
      unfold anCells
      rw [ndCells_take, ndCells_drop, List.map_take, List.map_drop]
    refine Has.of_row ?_ (by simp; omega) h.lt.1 hk
    rw [← e]
    simp [World.setRow, Array.getElem?_modify, hr]
  · exact ⟨rfl, rfl, rfl, by simp [World.setRow], fun b _ hne => by
      have : g ≠ b := fun e => hne (by rw [e])
      simp [World.setRow, Array.getElem?_modify, this]⟩

theorem wp_copy_has {w : World} {o : Oper} {a : Act} {K : Act → World → Prop} {Q : Exit → Act → World → Prop} (d s : Operand) (ho : o.op = .call { callee := .builtin .copy, args := #[d, s], argTypes := #[22, 22] })
    {base g k : Nat} {l : List An} (h : Has base g k l w) (hl : l.length = k) (hk : k ≤ maxLen) (i n : Nat) (xs : List An) (ad : Addr) (dLen dCap sLen sCap : Nat) (hd : a.eval d = .slice (some ⟨g, i * 4, none⟩) dLen dCap) (hs : a.eval s = .slice (some ad) sLen sCap) (hn : Nat.min sLen dLen = n) (hx : xs.length = n) (hi : i + n ≤ k)
    (hsrc : ∀ j v, (anCells xs)[j]? = some v → w.cell? (ad.add j) = some v)
    (hK : ∀ w', Has base g k (l.take i ++ xs ++ l.drop (i + n)) w' → w.grownBy w' (some g) → K (a.put o.dst (goInt n)) w') : o.wp Try.prog a w K Q := by
  obtain ⟨w', hr, h2, h3⟩ := run_copy_has h hl hk o.type i n xs ad dLen dCap sLen sCap hn hx hi hsrc
  unfold Oper.wp execOp
  simp only [ho, resolve, invoke, builtin, Sem.run_bind, Sem.run_pure, Result.andThen_ok, List.map_toArray, List.map_cons, List.map_nil, hd, hs, hr]
  exact hK w' h2 h3
theorem wpList_copy_has {w : World} {ops : Array Oper} {rest : List Oper} {o : Oper} {a : Act} {Q : Exit → Act → World → Prop} (hgd : o.guard = none) (d s : Operand) (ho : o.op = .call { callee := .builtin .copy, args := #[d, s], argTypes := #[22, 22] })
    {base g k : Nat} {l : List An} (h : Has base g k l w) (hl : l.length = k) (hk : k ≤ maxLen) (i n : Nat) (xs : List An) (ad : Addr) (dLen dCap sLen sCap : Nat) (hd : a.eval d = .slice (some ⟨g, i * 4, none⟩) dLen dCap) (hs : a.eval s = .slice (some ad) sLen sCap) (hn : Nat.min sLen dLen = n) (hx : xs.length = n) (hi : i + n ≤ k)
    (hsrc : ∀ j v, (anCells xs)[j]? = some v → w.cell? (ad.add j) = some v)
    (hK : ∀ w', Has base g k (l.take i ++ xs ++ l.drop (i + n)) w' → w.grownBy w' (some g) → wpList Try.prog ops Q rest (a.put o.dst (goInt n)) w') : wpList Try.prog ops Q (o :: rest) a w :=
  wpList_plain hgd fun _ hK' => wp_copy_has d s ho h hl hk i n xs ad dLen dCap sLen sCap hd hs hn hx hi hsrc fun w' h2 h3 => hK' _ _ (hK w' h2 h3)
theorem step_copy_has {w : World} {ops : Array Oper} {o : Oper} {a : Act} {K : Act → World → Prop} {Q : Exit → Act → World → Prop} {E : Prop} (hgd : o.guard = none) (d s : Operand) (ho : o.op = .call { callee := .builtin .copy, args := #[d, s], argTypes := #[22, 22] })
    {base g k : Nat} {l : List An} (h : Has base g k l w) (hl : l.length = k) (hk : k ≤ maxLen) (i n : Nat) (xs : List An) (ad : Addr) (dLen dCap sLen sCap : Nat) (hd : a.eval d = .slice (some ⟨g, i * 4, none⟩) dLen dCap) (hs : a.eval s = .slice (some ad) sLen sCap) (hn : Nat.min sLen dLen = n) (hx : xs.length = n) (hi : i + n ≤ k)
    (hsrc : ∀ j v, (anCells xs)[j]? = some v → w.cell? (ad.add j) = some v)
    (hK : ∀ w', Has base g k (l.take i ++ xs ++ l.drop (i + n)) w' → w.grownBy w' (some g) → K (a.put o.dst (goInt n)) w') :
    if Region.wanted o (yielded ops a.tmps) = true then Oper.wp Try.prog o a w K Q else E := by
  have hw : Region.wanted o (yielded ops a.tmps) = true := by simp [Region.wanted, hgd]
  rw [if_pos hw]
  exact wp_copy_has d s ho h hl hk i n xs ad dLen dCap sLen sCap hd hs hn hx hi hsrc hK

theorem rep_first (k : Nat) (x : An) : (List.replicate k zA).take 0 ++ [x] ++ (List.replicate k zA).drop (0 + 1) = List.replicate 1 x ++ List.replicate (k - 1) zA := by simp [List.drop_replicate]
theorem rep_more (k n m : Nat) (x : An) : (List.replicate n x ++ List.replicate (k - n) zA).take n ++ List.replicate m x ++ (List.replicate n x ++ List.replicate (k - n) zA).drop (n + m) = List.replicate (n + m) x ++ List.replicate (k - (n + m)) zA := by
  rw [List.take_append, List.drop_append]
  simp [List.drop_replicate]
  rw [show k - n - m = k - (n + m) by omega]
end Go.Proofs.Ytfaoeccnhbcjgab
