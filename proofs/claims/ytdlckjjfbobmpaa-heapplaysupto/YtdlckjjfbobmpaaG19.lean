/- What is proved here: plain facts and contracts that the claimed theorem stands on, several texts in one: plain facts: what is collected has no more words than the heap had. No condition but that the words stand for right terms. the statements' own kept() returns true, and turns no memory that was there. No condition. slices.Repeat of one term: so many of it, in new memory. Condition: at most eight. match.bindings' fitAll and fits, of right terms that lie in memory and four right terms that are owned: they return whether the plain functions find something, leave that in the owned row, and turn no other memory that was there. No condition but those. slices.Repeat of one word, at most eight times: so many of it, in new memory. No other condition. plain facts and small contracts for HeapShares: the document's Putable; rows of two and three words; how many words a tuple that is joined often has when it is copied. No condition but sizes. slices.Repeat of one term, at most eight times: so many of it, in new memory; the statements' own free(): four wild terms, in new memory. No other condition. plain facts for HeapAgain: two rows, of words and of terms, that are appended to in any order, and what they leave as it was. No condition. -/
import Derived.Test.YtdlckjjfbobmpaaG15
import Derived.Test.YtdlckjjfbobmpaaG18
import Derived.Deep.RegionHeld3
import Derived.Test.YtdlckjjfbobmpaaG06
import Derived.Laws.CopyRow
import Derived.Test.YtdlckjjfbobmpaaG05
import Derived.Test.YtdlckjjfbobmpaaG14
import Derived.Test.YtdlckjjfbobmpaaG09
namespace Go.Proofs.Ytdlckjjfbobmpaa

/-- A tuple in the words: its head, and its parts, none of which is a head. -/
def Head (ws : List Wd) (p : Nat) : Prop := ∃ m : Nat, ws[p]? = some (0, (m : Int)) ∧ p + 1 + m ≤ ws.length ∧ ∀ i, i < m → ∃ u, ws[p + 1 + i]? = some u ∧ u.1 ≠ 0
theorem right_kind {n : Nat} {x : Tm (n + 1)} (h : RightA ⟨n + 1, x⟩) : x.1.1 ≠ 0 := by
  have hg := h (hdOf n x) (by simp [nodes, hdOf])
  intro e
  simp [good, hdOf, e] at hg
theorem word_kind {ws : List Wd} {nm : List ByteArray} {n : Nat} {x : Tm n} {v : Wd} (h : Stands ws nm n x v) (hr : RightA ⟨n, x⟩) : v.1 ≠ 0 := by
  cases n with
  | zero => exact h.elim
  | succ n =>
    have hk := right_kind hr
    obtain ⟨h2, h4, h0⟩ := h
    by_cases e2 : x.1.1 = 2
    · obtain ⟨i, rfl, _⟩ := h2 e2
      show (2 : Int) ≠ 0
      decide
    · by_cases e4 : x.1.1 = 4
      · obtain ⟨p, rfl, _⟩ := h4 e4
        show (4 : Int) ≠ 0
        decide
      · rw [h0 e2 e4]
        exact hk
theorem head_of {ws : List Wd} {nm : List ByteArray} {n p : Nat} {x : Tm n} (h : Stands ws nm n x (4, (p : Int))) (hr : RightA ⟨n, x⟩) : Head ws p := by
  cases n with
  | zero => exact h.elim
  | succ n =>
    have h4 : x.1.1 = 4 := Classical.byContradiction fun e => leaf_not4 h e rfl
    obtain ⟨_, k4, _⟩ := h
    obtain ⟨q, e, k1, k2, k3⟩ := k4 h4
    have e : p = q := by
      have := (Prod.mk.inj e).2
      omega
    subst e
    refine ⟨x.2.2.length, k1, k2, fun i hi => ?_⟩
    have hy : x.2.2[i]? = some x.2.2[i] := List.getElem?_eq_getElem hi
    obtain ⟨u, u1, u2⟩ := k3 i _ hy
    exact ⟨u, u1, word_kind u2 (parts_right n x _ hr (List.mem_of_getElem? hy))⟩
def span (ws : List Wd) (p : Nat) : List Nat := List.range' p (wtP ws p)
theorem span_mem {ws : List Wd} {p m t : Nat} (h : ws[p]? = some (0, (m : Int))) : t ∈ span ws p ↔ p ≤ t ∧ t < p + 1 + m := by
  unfold span
  rw [wtP_at h, List.mem_range'_1]
  omega
theorem heads_apart {ws : List Wd} {p q t : Nat} (hp : Head ws p) (hq : Head ws q) (hlt : p < q) (h1 : t ∈ span ws p) (h2 : t ∈ span ws q) : False := by
  obtain ⟨m, a1, a2, a3⟩ := hp
  obtain ⟨k, b1, b2, b3⟩ := hq
  rw [span_mem a1] at h1
  rw [span_mem b1] at h2
  obtain ⟨u, u1, u2⟩ := a3 (q - p - 1) (by omega)
  rw [show p + 1 + (q - p - 1) = q by omega, b1] at u1
  rw [← Option.some.inj u1] at u2
  exact u2 rfl
theorem spans_nodup {ws : List Wd} : (l : List Nat) → l.Nodup → (∀ p ∈ l, Head ws p) → (l.flatMap (span ws)).Nodup
  | [], _, _ => List.nodup_nil
  | p :: l, hn, hh => by
    rw [List.nodup_cons] at hn
    rw [List.flatMap_cons, List.nodup_append]
    refine ⟨List.nodup_range' .., spans_nodup l hn.2 fun q hq => hh q (List.mem_cons_of_mem _ hq), fun t ht u hu e => ?_⟩
    subst e
    obtain ⟨q, hq, hm⟩ := List.mem_flatMap.1 hu
    have hp := hh p (by simp)
    have hqq := hh q (List.mem_cons_of_mem _ hq)
    rcases Nat.lt_trichotomy p q with h | h | h
    · exact heads_apart hp hqq h ht hm
    · subst h
      exact hn.1 hq
    · exact heads_apart hqq hp h hm ht
theorem spans_len (ws : List Wd) : (l : List Nat) → (l.flatMap (span ws)).length = (l.map (wtP ws)).sum
  | [] => rfl
  | p :: l => by
    rw [List.flatMap_cons, List.length_append, spans_len ws l, List.map_cons, List.sum_cons]
    simp [span]
theorem CGd.less {ws : List Wd} {nm : List ByteArray} {S : List Wd × Went} (h : CGd ws nm S) : S.1.length ≤ ws.length := by
  have hh : ∀ p ∈ S.2.map (·.1), Head ws p := fun p hp => by
    obtain ⟨e, he, rfl⟩ := List.mem_map.1 hp
    obtain ⟨k, y, hy, hr⟩ := h.2 e he
    exact head_of hy hr
  have h1 := spans_nodup _ h.1.nodup hh
  have h2 := nodup_lt (n := ws.length) h1 fun t ht => by
    obtain ⟨p, hp, hm⟩ := List.mem_flatMap.1 ht
    obtain ⟨m, a1, a2, _⟩ := hh p hp
    rw [span_mem a1] at hm
    omega
  rw [spans_len, List.map_map] at h2
  rw [h.1.len]
  exact h2
theorem roots_less {ws : List Wd} {nm : List ByteArray} {n : Nat} {us : List Wd} {qs : List (Tm n)} (hs : StandL ws nm n us qs) (hr : ∀ y ∈ qs, RightA ⟨n, y⟩) : (rootsR ws n us).2.1.length ≤ ws.length := ((CGd.nil ws nm).list hs hr).less
end Go.Proofs.Ytdlckjjfbobmpaa
namespace Go.Proofs.Ytdlckjjfbobmpaa
open Go.RowKit Go.Maps

theorem cells_two {w1 w2 : World} {o : Obj} {q : Nat} {u0 u1 u2 u3 : Value} (hq : q < w1.heap.size) (h : Below (w1.alloc o).heap.size (w1.alloc o) w2)
    (k : w1.cell? ⟨q, 0, none⟩ = some u0 ∧ w1.cell? ⟨q, 1, none⟩ = some u1 ∧ w1.cell? ⟨q, 2, none⟩ = some u2 ∧ w1.cell? ⟨q, 3, none⟩ = some u3) :
    w2.cell? ⟨q, 0, none⟩ = some u0 ∧ w2.cell? ⟨q, 1, none⟩ = some u1 ∧ w2.cell? ⟨q, 2, none⟩ = some u2 ∧ w2.cell? ⟨q, 3, none⟩ = some u3 :=
  cells_nx hq (((Below.refl w1.heap.size w1).alloc (Nat.le_refl _) o).trans (h.mono (by simp))) k

end Go.Proofs.Ytdlckjjfbobmpaa
namespace Go.Proofs.Ytdlckjjfbobmpaa
open Go.RowKit

theorem run_copy_sz {P : Program} (w : World) (dT sT ty elem : TypeId) (size g o dLen dCap : Nat) (a : Addr) (sLen sCap : Nat) (cur : Array Value) (t : TypeId) (cs : List Value) (n : Nat)
    (hu : P.underlying dT = some (.slice elem)) (hs : (P.info? elem).map (·.size) = some size)
    (hg : w.heap[g]? = some (.cells cur t (0, 0))) (hn : Nat.min sLen dLen = n) (hl : cs.length = n * size)
    (hsrc : ∀ j v, cs[j]? = some v → w.cell? (a.add j) = some v) (hfit : o + cs.length ≤ cur.size) (h1 : ∀ v ∈ cs, v.oneCell' = true) :
    (Builtin.copy_ #[dT, sT] ty #[.slice (some ⟨g, o, none⟩) dLen dCap, .slice (some a) sLen sCap]).run P w =
      .ok (goInt n) (w.setRow g (cur.toList.take o ++ cs ++ cur.toList.drop (o + cs.length)).toArray) := by
  have hld := run_loadCells_list (P := P) w a cs hsrc
  have hst := run_storeCells_at P g o t cs 0 cur w hg (by simpa using hfit) h1
  cases hq : P.info? elem with
  | none => simp [hq] at hs
  | some i =>
    have hi : i.size = size := by simpa [hq] using hs
    rw [hl] at hld
    simp [Builtin.copy_, run_underlying hu, Builtin.lenOf, Builtin.firstCells, sizeOf, typeInfo, hq, hi, hn, hld, hst]

theorem Has.row {base g k : Nat} {l : List An} {w : World} (h : Has base g k l w) (hl : l.length = k) : w.heap[g]? = some (.cells (anCells l).toArray 32 (0, 0)) := by
  obtain ⟨h1, h2⟩ := h
  rcases h2 with ⟨h2, _⟩ | ⟨g', cap, cur, hv, hg, hh, hc, hm, hz, he⟩
  · simp at h2
  · injection hv with e1 e2 e3
    injection e1 with e1
    injection e1 with e1 _
    subst e1 e3
    rw [hh, ← he, List.take_of_length_le (by rw [Array.length_toList, hz, hl]; exact Nat.le_refl _)]
theorem Has.of_row {base g k : Nat} {l : List An} {w : World} (h : w.heap[g]? = some (.cells (anCells l).toArray 32 (0, 0))) (hl : l.length = k) (hg : base ≤ g) (hk : k ≤ maxLen) : Has base g k l w := by
  refine ⟨anCells_length l, Or.inr ⟨g, k, (anCells l).toArray, rfl, hg, h, by omega, hk, by simp [anCells_length, hl], ?_⟩⟩
  rw [List.take_of_length_le (by simp [anCells_length])]
theorem ndCells_take : (l : List Nd) → (i : Nat) → (ndCells l).take (i * 4) = ndCells (l.take i)
  | [], i => by simp [ndCells]
  | x :: l, 0 => by simp [ndCells]
  | x :: l, i + 1 => by
    have e : ndCells (x :: l) = nd4 x ++ ndCells l := rfl
    have hx : (nd4 x).length = 4 := rfl
    rw [e, List.take_append, hx, List.take_of_length_le (by rw [hx]; omega), show (i + 1) * 4 - 4 = i * 4 by omega, ndCells_take l i]
    rfl
theorem ndCells_drop : (l : List Nd) → (i : Nat) → (ndCells l).drop (i * 4) = ndCells (l.drop i)
  | [], i => by simp [ndCells]
  | x :: l, 0 => by simp [ndCells]
  | x :: l, i + 1 => by
    have e : ndCells (x :: l) = nd4 x ++ ndCells l := rfl
    have hx : (nd4 x).length = 4 := rfl
    rw [e, List.drop_append, hx, List.drop_eq_nil_of_le (by rw [hx]; omega), List.nil_append, show (i + 1) * 4 - 4 = i * 4 by omega, ndCells_drop l i]
    rfl
theorem sizeTerm : (Try.prog.info? 32).map (·.size) = some 4 := by
  obtain ⟨it, h1, h2, h3, h4⟩ := info_parts infoTerm
  rw [h1]; simp [h3]

/-- A copy into a row that is owned, of terms that lie there. -/
theorem run_copy_has {base g k : Nat} {l : List An} {w : World} (h : Has base g k l w) (hl : l.length = k) (hk : k ≤ maxLen) (ty : TypeId) (i n : Nat) (xs : List An) (ad : Addr) (dLen dCap sLen sCap : Nat) (hn : Nat.min sLen dLen = n) (hx : xs.length = n) (hi : i + n ≤ k)
    (hsrc : ∀ j v, (anCells xs)[j]? = some v → w.cell? (ad.add j) = some v) :
    ∃ w', (Builtin.copy_ #[29, 29] ty #[.slice (some ⟨g, i * 4, none⟩) dLen dCap, .slice (some ad) sLen sCap]).run Try.prog w = .ok (goInt n) w' ∧ Has base g k (l.take i ++ xs ++ l.drop (i + n)) w' ∧ w.grownBy w' (some g) := by
  have hr := h.row hl
  refine ⟨_, run_copy_sz w _ _ ty 32 4 g (i * 4) dLen dCap ad sLen sCap (anCells l).toArray 32 (anCells xs) n Try.underlying29 sizeTerm hr hn (by rw [anCells_length, hx]) hsrc (by simp [anCells_length]; omega) (anCells_one _), ?_, ?_⟩
  · have e : (anCells l).take (i * 4) ++ anCells xs ++ (anCells l).drop (i * 4 + (anCells xs).length) = anCells (l.take i ++ xs ++ l.drop (i + n)) := by
      rw [anCells_append, anCells_append, anCells_length, hx, ← Nat.add_mul]
      unfold anCells
      rw [ndCells_take, ndCells_drop, List.map_take, List.map_drop]
    refine Has.of_row ?_ (by simp; omega) h.lt.1 hk
    rw [← e]
    simp [World.setRow, Array.getElem?_modify, hr]
  · exact ⟨rfl, rfl, rfl, by simp [World.setRow], fun b _ hne => by
      have : g ≠ b := fun e => hne (by rw [e])
      simp [World.setRow, Array.getElem?_modify, this]⟩

theorem wp_copy_has {w : World} {o : Oper} {a : Act} {K : Act → World → Prop} {Q : Exit → Act → World → Prop} (d s : Operand) (ho : o.op = .call { callee := .builtin .copy, args := #[d, s], argTypes := #[29, 29] })
    {base g k : Nat} {l : List An} (h : Has base g k l w) (hl : l.length = k) (hk : k ≤ maxLen) (i n : Nat) (xs : List An) (ad : Addr) (dLen dCap sLen sCap : Nat) (hd : a.eval d = .slice (some ⟨g, i * 4, none⟩) dLen dCap) (hs : a.eval s = .slice (some ad) sLen sCap) (hn : Nat.min sLen dLen = n) (hx : xs.length = n) (hi : i + n ≤ k)
    (hsrc : ∀ j v, (anCells xs)[j]? = some v → w.cell? (ad.add j) = some v)
    (hK : ∀ w', Has base g k (l.take i ++ xs ++ l.drop (i + n)) w' → w.grownBy w' (some g) → K (a.put o.dst (goInt n)) w') : o.wp Try.prog a w K Q := by
  obtain ⟨w', hr, h2, h3⟩ := run_copy_has h hl hk o.type i n xs ad dLen dCap sLen sCap hn hx hi hsrc
  unfold Oper.wp execOp
  simp only [ho, resolve, invoke, builtin, Sem.run_bind, Sem.run_pure, Result.andThen_ok, List.map_toArray, List.map_cons, List.map_nil, hd, hs, hr]
  exact hK w' h2 h3
theorem wpList_copy_has {w : World} {ops : Array Oper} {rest : List Oper} {o : Oper} {a : Act} {Q : Exit → Act → World → Prop} (hgd : o.guard = none) (d s : Operand) (ho : o.op = .call { callee := .builtin .copy, args := #[d, s], argTypes := #[29, 29] })
    {base g k : Nat} {l : List An} (h : Has base g k l w) (hl : l.length = k) (hk : k ≤ maxLen) (i n : Nat) (xs : List An) (ad : Addr) (dLen dCap sLen sCap : Nat) (hd : a.eval d = .slice (some ⟨g, i * 4, none⟩) dLen dCap) (hs : a.eval s = .slice (some ad) sLen sCap) (hn : Nat.min sLen dLen = n) (hx : xs.length = n) (hi : i + n ≤ k)
    (hsrc : ∀ j v, (anCells xs)[j]? = some v → w.cell? (ad.add j) = some v)
    (hK : ∀ w', Has base g k (l.take i ++ xs ++ l.drop (i + n)) w' → w.grownBy w' (some g) → wpList Try.prog ops Q rest (a.put o.dst (goInt n)) w') : wpList Try.prog ops Q (o :: rest) a w :=
  wpList_plain hgd fun _ hK' => wp_copy_has d s ho h hl hk i n xs ad dLen dCap sLen sCap hd hs hn hx hi hsrc fun w' h2 h3 => hK' _ _ (hK w' h2 h3)
theorem step_copy_has {w : World} {ops : Array Oper} {o : Oper} {a : Act} {K : Act → World → Prop} {Q : Exit → Act → World → Prop} {E : Prop} (hgd : o.guard = none) (d s : Operand) (ho : o.op = .call { callee := .builtin .copy, args := #[d, s], argTypes := #[29, 29] })
    {base g k : Nat} {l : List An} (h : Has base g k l w) (hl : l.length = k) (hk : k ≤ maxLen) (i n : Nat) (xs : List An) (ad : Addr) (dLen dCap sLen sCap : Nat) (hd : a.eval d = .slice (some ⟨g, i * 4, none⟩) dLen dCap) (hs : a.eval s = .slice (some ad) sLen sCap) (hn : Nat.min sLen dLen = n) (hx : xs.length = n) (hi : i + n ≤ k)
    (hsrc : ∀ j v, (anCells xs)[j]? = some v → w.cell? (ad.add j) = some v)
    (hK : ∀ w', Has base g k (l.take i ++ xs ++ l.drop (i + n)) w' → w.grownBy w' (some g) → K (a.put o.dst (goInt n)) w') :
    if Region.wanted o (yielded ops a.tmps) = true then Oper.wp Try.prog o a w K Q else E := by
  have hw : Region.wanted o (yielded ops a.tmps) = true := by simp [Region.wanted, hgd]
  rw [if_pos hw]
  exact wp_copy_has d s ho h hl hk i n xs ad dLen dCap sLen sCap hd hs hn hx hi hsrc hK

theorem rep_first (k : Nat) (x : An) : (List.replicate k zA).take 0 ++ [x] ++ (List.replicate k zA).drop (0 + 1) = List.replicate 1 x ++ List.replicate (k - 1) zA := by simp [List.drop_replicate]
theorem rep_more (k n m : Nat) (x : An) : (List.replicate n x ++ List.replicate (k - n) zA).take n ++ List.replicate m x ++ (List.replicate n x ++ List.replicate (k - n) zA).drop (n + m) = List.replicate (n + m) x ++ List.replicate (k - (n + m)) zA := by
  rw [List.take_append, List.drop_append]
  simp [List.drop_replicate]
  rw [show k - n - m = k - (n + m) by omega]
end Go.Proofs.Ytdlckjjfbobmpaa
namespace Go.Proofs.Ytdlckjjfbobmpaa
open Go.RowKit

theorem grown_cells {w w' : World} {g : Nat} (h : w.grownBy w' (some g)) : ∀ b o, b < w.heap.size → b ≠ g → w'.cell? ⟨b, o, none⟩ = w.cell? ⟨b, o, none⟩ :=
  fun b o hb hne => World.cell?_of_block (a := ⟨b, o, none⟩) (h.block b hb (by simpa using hne))
theorem grown_undrew {w w' : World} {row : Option Nat} (h : w.drew.grownBy w' row) : w.grownBy w' row := ⟨h.os, h.tape, h.output, h.size, h.block⟩
theorem grown_drew {w w' : World} {row : Option Nat} (h : w.grownBy w' row) : w.grownBy w'.drew row := ⟨h.os, h.tape, h.output, h.size, h.block⟩

end Go.Proofs.Ytdlckjjfbobmpaa
namespace Go.Proofs.Ytdlckjjfbobmpaa
open Go.RowKit

def zW : Wd := (0, 0)
/-- A row of words that is owned. -/
def HasW (base : Nat) (g c : Nat) (b : List Wd) (w : World) : Prop := w.ownsRow base 38 2 (.slice (some ⟨g, 0, none⟩) b.length c) b.length (wCells b)
theorem HasW.lt {base g c : Nat} {b : List Wd} {w : World} (h : HasW base g c b w) : base ≤ g ∧ g < w.heap.size := World.ownsRow.lt h g rfl
theorem HasW.row {base g k : Nat} {l : List Wd} {w : World} (h : HasW base g k l w) (hl : l.length = k) : w.heap[g]? = some (.cells (wCells l).toArray 38 (0, 0)) := by
  obtain ⟨h1, h2⟩ := h
  rcases h2 with ⟨h2, _⟩ | ⟨g', cap, cur, hv, hg, hh, hc, hm, hz, he⟩
  · simp at h2
  · injection hv with e1 e2 e3
    injection e1 with e1
    injection e1 with e1 _
    subst e1 e3
    rw [hh, ← he, List.take_of_length_le (by rw [Array.length_toList, hz, hl]; exact Nat.le_refl _)]
theorem HasW.of_row {base g k : Nat} {l : List Wd} {w : World} (h : w.heap[g]? = some (.cells (wCells l).toArray 38 (0, 0))) (hl : l.length = k) (hg : base ≤ g) (hk : k ≤ maxLen) : HasW base g k l w := by
  refine ⟨wCells_length l, Or.inr ⟨g, k, (wCells l).toArray, rfl, hg, h, by omega, hk, by simp [wCells_length, hl], ?_⟩⟩
  rw [List.take_of_length_le (by simp [wCells_length])]
theorem wCells_take : (l : List Wd) → (i : Nat) → (wCells l).take (i * 2) = wCells (l.take i)
  | [], i => by simp [wCells]
  | x :: l, 0 => by simp [wCells]
  | x :: l, i + 1 => by
    have e : wCells (x :: l) = wd2 x ++ wCells l := rfl
    have hx : (wd2 x).length = 2 := rfl
    rw [e, List.take_append, hx, List.take_of_length_le (by rw [hx]; omega), show (i + 1) * 2 - 2 = i * 2 by omega, wCells_take l i]
    rfl
theorem wCells_drop : (l : List Wd) → (i : Nat) → (wCells l).drop (i * 2) = wCells (l.drop i)
  | [], i => by simp [wCells]
  | x :: l, 0 => by simp [wCells]
  | x :: l, i + 1 => by
    have e : wCells (x :: l) = wd2 x ++ wCells l := rfl
    have hx : (wd2 x).length = 2 := rfl
    rw [e, List.drop_append, hx, List.drop_eq_nil_of_le (by rw [hx]; omega), List.nil_append, show (i + 1) * 2 - 2 = i * 2 by omega, wCells_drop l i]
    rfl
theorem sizeWord : (Try.prog.info? 38).map (·.size) = some 2 := by
  obtain ⟨it, h1, h2, h3, h4⟩ := info_parts infoWord
  rw [h1]; simp [h3]
/-- A copy into a row that is owned, of terms that lie there. -/
theorem run_copy_hasW {base g k : Nat} {l : List Wd} {w : World} (h : HasW base g k l w) (hl : l.length = k) (hk : k ≤ maxLen) (ty : TypeId) (i n : Nat) (xs : List Wd) (ad : Addr) (dLen dCap sLen sCap : Nat) (hn : Nat.min sLen dLen = n) (hx : xs.length = n) (hi : i + n ≤ k)
    (hsrc : ∀ j v, (wCells xs)[j]? = some v → w.cell? (ad.add j) = some v) :
    ∃ w', (Builtin.copy_ #[28, 28] ty #[.slice (some ⟨g, i * 2, none⟩) dLen dCap, .slice (some ad) sLen sCap]).run Try.prog w = .ok (goInt n) w' ∧ HasW base g k (l.take i ++ xs ++ l.drop (i + n)) w' ∧ w.grownBy w' (some g) := by
  have hr := h.row hl
  refine ⟨_, run_copy_sz w _ _ ty 38 2 g (i * 2) dLen dCap ad sLen sCap (wCells l).toArray 38 (wCells xs) n Try.underlying28 sizeWord hr hn (by rw [wCells_length, hx]) hsrc (by simp [wCells_length]; omega) (wCells_one _), ?_, ?_⟩
  · have e : (wCells l).take (i * 2) ++ wCells xs ++ (wCells l).drop (i * 2 + (wCells xs).length) = wCells (l.take i ++ xs ++ l.drop (i + n)) := by
      rw [wCells_append, wCells_append, wCells_length, hx, ← Nat.add_mul]
      rw [wCells_take, wCells_drop]
    refine HasW.of_row ?_ (by simp; omega) h.lt.1 hk
    rw [← e]
    simp [World.setRow, Array.getElem?_modify, hr]
  · exact ⟨rfl, rfl, rfl, by simp [World.setRow], fun b _ hne => by
      have : g ≠ b := fun e => hne (by rw [e])
      simp [World.setRow, Array.getElem?_modify, this]⟩

theorem wp_copy_hasW {w : World} {o : Oper} {a : Act} {K : Act → World → Prop} {Q : Exit → Act → World → Prop} (d s : Operand) (ho : o.op = .call { callee := .builtin .copy, args := #[d, s], argTypes := #[28, 28] })
    {base g k : Nat} {l : List Wd} (h : HasW base g k l w) (hl : l.length = k) (hk : k ≤ maxLen) (i n : Nat) (xs : List Wd) (ad : Addr) (dLen dCap sLen sCap : Nat) (hd : a.eval d = .slice (some ⟨g, i * 2, none⟩) dLen dCap) (hs : a.eval s = .slice (some ad) sLen sCap) (hn : Nat.min sLen dLen = n) (hx : xs.length = n) (hi : i + n ≤ k)
    (hsrc : ∀ j v, (wCells xs)[j]? = some v → w.cell? (ad.add j) = some v)
    (hK : ∀ w', HasW base g k (l.take i ++ xs ++ l.drop (i + n)) w' → w.grownBy w' (some g) → K (a.put o.dst (goInt n)) w') : o.wp Try.prog a w K Q := by
  obtain ⟨w', hr, h2, h3⟩ := run_copy_hasW h hl hk o.type i n xs ad dLen dCap sLen sCap hn hx hi hsrc
  unfold Oper.wp execOp
  simp only [ho, resolve, invoke, builtin, Sem.run_bind, Sem.run_pure, Result.andThen_ok, List.map_toArray, List.map_cons, List.map_nil, hd, hs, hr]
  exact hK w' h2 h3
theorem wpList_copy_hasW {w : World} {ops : Array Oper} {rest : List Oper} {o : Oper} {a : Act} {Q : Exit → Act → World → Prop} (hgd : o.guard = none) (d s : Operand) (ho : o.op = .call { callee := .builtin .copy, args := #[d, s], argTypes := #[28, 28] })
    {base g k : Nat} {l : List Wd} (h : HasW base g k l w) (hl : l.length = k) (hk : k ≤ maxLen) (i n : Nat) (xs : List Wd) (ad : Addr) (dLen dCap sLen sCap : Nat) (hd : a.eval d = .slice (some ⟨g, i * 2, none⟩) dLen dCap) (hs : a.eval s = .slice (some ad) sLen sCap) (hn : Nat.min sLen dLen = n) (hx : xs.length = n) (hi : i + n ≤ k)
    (hsrc : ∀ j v, (wCells xs)[j]? = some v → w.cell? (ad.add j) = some v)
    (hK : ∀ w', HasW base g k (l.take i ++ xs ++ l.drop (i + n)) w' → w.grownBy w' (some g) → wpList Try.prog ops Q rest (a.put o.dst (goInt n)) w') : wpList Try.prog ops Q (o :: rest) a w :=
  wpList_plain hgd fun _ hK' => wp_copy_hasW d s ho h hl hk i n xs ad dLen dCap sLen sCap hd hs hn hx hi hsrc fun w' h2 h3 => hK' _ _ (hK w' h2 h3)
theorem step_copy_hasW {w : World} {ops : Array Oper} {o : Oper} {a : Act} {K : Act → World → Prop} {Q : Exit → Act → World → Prop} {E : Prop} (hgd : o.guard = none) (d s : Operand) (ho : o.op = .call { callee := .builtin .copy, args := #[d, s], argTypes := #[28, 28] })
    {base g k : Nat} {l : List Wd} (h : HasW base g k l w) (hl : l.length = k) (hk : k ≤ maxLen) (i n : Nat) (xs : List Wd) (ad : Addr) (dLen dCap sLen sCap : Nat) (hd : a.eval d = .slice (some ⟨g, i * 2, none⟩) dLen dCap) (hs : a.eval s = .slice (some ad) sLen sCap) (hn : Nat.min sLen dLen = n) (hx : xs.length = n) (hi : i + n ≤ k)
    (hsrc : ∀ j v, (wCells xs)[j]? = some v → w.cell? (ad.add j) = some v)
    (hK : ∀ w', HasW base g k (l.take i ++ xs ++ l.drop (i + n)) w' → w.grownBy w' (some g) → K (a.put o.dst (goInt n)) w') :
    if Region.wanted o (yielded ops a.tmps) = true then Oper.wp Try.prog o a w K Q else E := by
  have hw : Region.wanted o (yielded ops a.tmps) = true := by simp [Region.wanted, hgd]
  rw [if_pos hw]
  exact wp_copy_hasW d s ho h hl hk i n xs ad dLen dCap sLen sCap hd hs hn hx hi hsrc hK

theorem rep_firstW (k : Nat) (x : Wd) : (List.replicate k zW).take 0 ++ [x] ++ (List.replicate k zW).drop (0 + 1) = List.replicate 1 x ++ List.replicate (k - 1) zW := by simp [List.drop_replicate]
theorem rep_moreW (k n m : Nat) (x : Wd) : (List.replicate n x ++ List.replicate (k - n) zW).take n ++ List.replicate m x ++ (List.replicate n x ++ List.replicate (k - n) zW).drop (n + m) = List.replicate (n + m) x ++ List.replicate (k - (n + m)) zW := by
  rw [List.take_append, List.drop_append]
  simp [List.drop_replicate]
  rw [show k - n - m = k - (n + m) by omega]
theorem rep_startW (k : Nat) {w w1 : World} (h : w1.ownsRow w.heap.size 38 2 (.slice (some ⟨w.heap.size, 0, none⟩) k k) k (madeCells (Value.agg #[.int .i64 0, .int .i64 0]).cells (k * 2)).toList) : HasW w.heap.size w.heap.size k (List.replicate k zW) w1 := by
  have e : (madeCells (Value.agg #[.int .i64 0, .int .i64 0]).cells (k * 2)).toList = wCells (List.replicate k zW) := made_zero2 k
  rw [e] at h
  unfold HasW
  simpa using h
theorem rep_srcW {base g k : Nat} {l : List Wd} {w : World} (h : HasW base g k l w) (n : Nat) : ∀ j v, (wCells (l.take n))[j]? = some v → w.cell? ((⟨g, 0, none⟩ : Addr).add j) = some v := by
  intro j v hj
  refine World.ownsRow.cells h rfl j v ?_
  have e : wCells (l.take n) = (wCells l).take (n * 2) := by rw [wCells_take]
  rw [e] at hj
  rw [List.getElem?_take] at hj
  split at hj
  · exact hj
  · cases hj

theorem rep_belowW {w w0 : World} (h : w.grownBy w0 none) : Below w.heap.size w w0 := ⟨h.os, h.tape, h.output, h.size, fun k hk => h.block k hk (by simp)⟩
theorem rep_keptW {w w0 : World} {pb po : Nat} {x : Wd} (h : Below w.heap.size w w0) (hpb : pb < w.heap.size) (hx : ∀ j v, (wCells [x])[j]? = some v → w.cell? ((⟨pb, po, none⟩ : Addr).add j) = some v) : ∀ j v, (wCells [x])[j]? = some v → w0.cell? ((⟨pb, po, none⟩ : Addr).add j) = some v := fun j v hj => by
  have := hx j v hj
  rw [Addr.add_lit] at this ⊢
  exact (below_cells h pb _ hpb).trans this

theorem rep_takeW (n m k : Nat) (x : Wd) (h : m ≤ n) : (List.replicate n x ++ List.replicate k zW).take m = List.replicate m x := by
  rw [List.take_append]
  simp [List.take_replicate, Nat.min_eq_left h]
  omega

end Go.Proofs.Ytdlckjjfbobmpaa
namespace Go.Proofs.Ytdlckjjfbobmpaa
open Go.RowKit Go.Maps

def putC (n : Nat) (x : Tm n) : Int := if chk n x ≠ 0 then chk n x else if closedT n x = false then 5 else 0
set_option maxRecDepth 100000 in
theorem rputable_walk (x0 x1 : Int) (x2 : ByteArray) (xa : Option Addr) (xl xc : Nat) (ck : Int) (cl : Bool) (w : World)
    (HK : Hid (∀ w1, Below w.heap.size w w1 → Calls Try.prog 11 #[.agg #[.int .i64 x0, .int .i64 x1, .string x2, .slice xa xl xc]] w1 fun e w' => e = .returned (.int .i64 ck) ∧ Below w1.heap.size w1 w'))
    (HL : Hid (∀ w1, Below w.heap.size w w1 → Calls Try.prog 20 #[.agg #[.int .i64 x0, .int .i64 x1, .string x2, .slice xa xl xc]] w1 fun e w' => e = .returned (.bool cl) ∧ Below w1.heap.size w1 w')) :
    Calls Try.prog 7 #[.agg #[.int .i64 x0, .int .i64 x1, .string x2, .slice xa xl xc]] w fun e w' => e = .returned (.int .i64 (if ck ≠ 0 then ck else if cl = false then 5 else 0)) ∧ Below w.heap.size w w' := by
  obtain ⟨r, hr⟩ : ∃ r, r = (if ck ≠ 0 then ck else if cl = false then 5 else 0) := ⟨_, rfl⟩
  rw [← hr]
  have HR := hide hr
  clear hr
  go_enter Try.func7, Try.ntmps7
  go_wp2_with fail
  refine (HK.out _ ((Below.refl _ _).alloc (Nat.le_refl _) _)).mono ?_
  rintro e w1 ⟨rfl, hb1⟩
  obtain ⟨⟨t0, t1, t2, t3⟩, _⟩ := boxed hb1
  have HB1 : Hid (Below w.heap.size w w1) := ((Below.refl _ _).alloc (Nat.le_refl _) _).trans (hb1.mono (by simp))
  have hw1 : w.heap.size < w1.heap.size := by have := hb1.size; simp at this; omega
  clear hb1
  by_cases hck : ck = 0
  · have b1 : (ck != 0) = false := by simp [hck]
    have HC := hide hck
    clear hck
    go_wp2_with fail
    refine (HL.out _ HB1.out).mono ?_
    rintro e w2 ⟨rfl, hb2⟩
    have HB2 : Hid (Below w.heap.size w w2) := HB1.out.trans (hb2.mono HB1.out.size)
    clear hb2
    cases cl
    · go_wp2_with fail
      go_ret
      exact ⟨ret_int (by rw [HR.out]; simp [HC.out]), HB2.out⟩
    · go_wp2_with fail
      go_ret
      exact ⟨ret_int (by rw [HR.out]; simp [HC.out]), HB2.out⟩
  · have b1 : (ck != 0) = true := by simpa using hck
    have HC := hide hck
    clear hck
    go_wp2_with fail
    go_ret
    exact ⟨ret_int (by rw [HR.out]; simp [HC.out]), HB1.out⟩
theorem rputable_any (n : Nat) (x : Tm (n + 1)) (B : Nat) (w : World) (hx : In B w (n + 1) x) (hB : B ≤ w.heap.size) (hN : (nodes (n + 1) x).length ≤ 2097152) :
    Calls Try.prog 7 #[val (n + 1) x] w fun e w' => e = .returned (.int .i64 (putC (n + 1) x)) ∧ Below w.heap.size w w' := by
  refine rputable_walk x.1.1 x.1.2.1 x.1.2.2 x.2.1.1 x.2.2.length x.2.1.2 (chk (n + 1) x) (closedT (n + 1) x) w ?_ ?_
  · intro w1 h1
    exact rcheck_any (n + 1) x B w1 (hx.below (h1.mono hB)) (Nat.le_trans hB h1.size) hN
  · intro w1 h1
    rw [closed_eq]
    exact rclosed_any (n + 1) x B w1 (hx.below (h1.mono hB)) (Nat.le_trans hB h1.size) hN
theorem putE_C {n : Nat} {x : Tm n} (h : putE n x 1000 [] ≠ 0) : putE n x 1000 [] = putC n x := by
  unfold putE putC at *
  by_cases h1 : chk n x = 0
  · by_cases h2 : closedT n x = false
    · simp [h1, h2]
    · exfalso
      have h3 := (chk_iff.1 h1).2.2
      apply h
      have : decide (sz n x ≤ 1000 - (([] : List Wd).length : Int)) = true := by simp; omega
      simp only [h1, h2, this]
      simp
  · simp [h1]
set_option maxHeartbeats 1000000 in
theorem rest_m (n m : Int) (hm : 0 < m) (hm2 : m ≤ 1000000) (w : World) : Calls Try.prog 6 #[.int .i64 n, .int .i64 m] w fun e w' => ∃ r, e = .returned (.int .i64 r) ∧ 0 ≤ r ∧ r < m ∧ w' = w := by
  have hne : ¬ m = 0 := by omega
  have h1 : n.tmod m < m := Int.tmod_lt_of_pos n hm
  have h2 : -m < n.tmod m := by
    have := Int.lt_tmod_of_pos n hm
    omega
  go_enter Try.func6, Try.ntmps6
  by_cases h3 : n.tmod m < 0
  · have b3 : decide (n.tmod m < 0) = true := by simpa using h3
    have e : wrap64 (n.tmod m + m) = n.tmod m + m := by unfold wrap64; omega
    go_wp2_with fail
    go_ret
    exact ⟨_, rfl, by omega, by omega, rfl⟩
  · have b3 : decide (n.tmod m < 0) = false := by simpa using h3
    go_wp2_with fail
    go_ret
    exact ⟨_, rfl, by omega, by omega, rfl⟩

theorem two_words (w : World) (a b : Wd) (t : TypeId) : WordsIn (w.alloc (.cells #[.int .i64 a.1, .int .i64 a.2, .int .i64 b.1, .int .i64 b.2] t)) [a, b] (some ⟨w.heap.size, 0, none⟩) := by
  refine Or.inr ⟨w.heap.size, 0, rfl, by simp, fun i v hv => ?_⟩
  match i, hv with
  | 0, hv =>
    have : a = v := by simpa using hv
    subst this
    exact ⟨by simp [go_sem], by simp [go_sem]⟩
  | 1, hv =>
    have : b = v := by simpa using hv
    subst this
    exact ⟨by simp [go_sem], by simp [go_sem]⟩
  | _ + 2, hv => simp at hv
theorem three_words (w : World) (a b c : Wd) (t : TypeId) : WordsIn (w.alloc (.cells #[.int .i64 a.1, .int .i64 a.2, .int .i64 b.1, .int .i64 b.2, .int .i64 c.1, .int .i64 c.2] t)) [a, b, c] (some ⟨w.heap.size, 0, none⟩) := by
  refine Or.inr ⟨w.heap.size, 0, rfl, by simp, fun i v hv => ?_⟩
  match i, hv with
  | 0, hv =>
    have : a = v := by simpa using hv
    subst this
    exact ⟨by simp [go_sem], by simp [go_sem]⟩
  | 1, hv =>
    have : b = v := by simpa using hv
    subst this
    exact ⟨by simp [go_sem], by simp [go_sem]⟩
  | 2, hv =>
    have : c = v := by simpa using hv
    subst this
    exact ⟨by simp [go_sem], by simp [go_sem]⟩
  | _ + 3, hv => simp at hv

theorem cpL_still {f : Wd → List Wd × Went → Wd × List Wd × Went} {S : List Wd × Went} : (l : List Wd) → (∀ v ∈ l, (f v S).2 = S) → (cpL f l S).2 = S
  | [], _ => rfl
  | v :: l, h => by
    simp only [cpL]
    rw [h v (by simp)]
    exact cpL_still l fun u hu => h u (List.mem_cons_of_mem _ hu)
/-- A term laid, then joined k times: copied from the tuple, the term, the tuple again. -/
theorem shares_len (n : Nat) (x : Tm n) (hr : RightA ⟨n, x⟩) (k : Nat) (hk : 0 < k) (us : List Wd) (hus : us = (layF n x [] []).2.1 ++ (0, (k : Int)) :: List.replicate k (layF n x [] []).1) (r : List Wd) (hrl : ∀ v ∈ r, v = (layF n x [] []).1 ∨ v = (4, ((layF n x [] []).2.1.length : Int))) :
    ((rootsR us (n + 1) ((4, ((layF n x [] []).2.1.length : Int)) :: r)).2.1.length : Int) = sz n x + 1 + k := by
  have hp : (layF n x [] []).2.1 <+: us := by rw [hus]; exact List.prefix_append _ _
  have hst : Stands us (layF n x [] []).2.2 n x (layF n x [] []).1 := (layF_stands n x [] [] hr).mono hp (List.prefix_refl _)
  obtain ⟨h1, hno⟩ := lay_cp us n x [] [] ([], []) hp (fun p _ _ => by simp [look])
  have hno2 : look (cpF us n (layF n x [] []).1 ([], [])).2.2 (layF n x [] []).2.1.length = none := by rw [hno _ (Or.inr (Nat.le_refl _))]; simp [look]
  clear hno
  generalize (layF n x [] []).2.2 = nm at *
  generalize (layF n x [] []).1 = v at *
  generalize (layF n x [] []).2.1 = ws at *
  have hat : us[ws.length]? = some (0, (k : Int)) := by rw [hus, List.getElem?_append_right (Nat.le_refl _), Nat.sub_self]; rfl
  have hpp : partsOf us ws.length k = List.replicate k v := by
    have := parts_pre (us := us) (A := ws) (C := List.replicate k v) (h := (0, (k : Int))) (by rw [hus]; exact List.prefix_refl _)
    simpa using this
  obtain ⟨S1, hS1⟩ : ∃ S1, (cpF us n v ([], [])).2 = S1 := ⟨_, rfl⟩
  have hid : (cpF us n v S1).2 = S1 := cpF_idem hst ([], []) S1 (fun p q h => by rw [hS1] at h; exact h)
  have hrep : (cpL (cpF us n) (List.replicate k v) ([], [])).2 = S1 := by
    obtain ⟨j, rfl⟩ : ∃ j, k = j + 1 := ⟨k - 1, by omega⟩
    rw [List.replicate_succ]
    simp only [cpL]
    rw [hS1]
    exact cpL_same hid j
  have hlen : (cpL (cpF us n) (List.replicate k v) ([], [])).1.length = k := by rw [cpL_length]; simp
  have hx := cpF_new (ws := us) (n := n) (p := ws.length) (m := k) (S := ([], [])) (by simp [look]) hat
  rw [hpp, hrep] at hx
  obtain ⟨cs, hcs⟩ : ∃ cs, (cpL (cpF us n) (List.replicate k v) ([], [])).1 = cs := ⟨_, rfl⟩
  rw [hcs] at hx hlen
  have h2 : (cpF us (n + 1) (4, (ws.length : Int)) ([], [])).2 = (S1.1 ++ (0, (k : Int)) :: cs, (ws.length, S1.1.length) :: S1.2) := by rw [hx]
  have hkeep : ∀ p q, look S1.2 p = some q → look ((ws.length, S1.1.length) :: S1.2) p = some q := by
    intro p q h
    by_cases e : p = ws.length
    · exfalso
      have hf : look S1.2 ws.length = none := by rw [← hS1]; exact hno2
      rw [e, hf] at h
      cases h
    · rw [look_other _ _ e]; exact h
  have hr2 : (cpL (cpF us (n + 1)) r (S1.1 ++ (0, (k : Int)) :: cs, (ws.length, S1.1.length) :: S1.2)).2 = (S1.1 ++ (0, (k : Int)) :: cs, (ws.length, S1.1.length) :: S1.2) := by
    refine cpL_still r ?_
    intro v' hv'
    rcases hrl v' hv' with rfl | rfl
    · rw [cpF_deep n (n + 1) (by omega) x v' _ hst]
      exact cpF_idem hst ([], []) _ (fun p q h => hkeep p q (by rw [hS1] at h; exact h))
    · rw [cpF_old (q := S1.1.length) (look_same _ _ _)]
  have hfin : (rootsR us (n + 1) ((4, (ws.length : Int)) :: r)).2.1 = S1.1 ++ (0, (k : Int)) :: cs := by
    unfold rootsR
    simp only [cpL]
    rw [h2, hr2]
  rw [hfin]
  rw [hS1] at h1
  simp only [List.length_append, List.length_cons, hlen]
  simp at h1
  omega
end Go.Proofs.Ytdlckjjfbobmpaa
namespace Go.Proofs.Ytdlckjjfbobmpaa
open Go.RowKit

theorem rep_start (k : Nat) {w w1 : World} (h : w1.ownsRow w.heap.size 32 4 (.slice (some ⟨w.heap.size, 0, none⟩) k k) k (madeCells (Value.agg #[.int .i64 0, .int .i64 0, .string .empty, .slice none 0 0]).cells (k * 4)).toList) : Has w.heap.size w.heap.size k (List.replicate k zA) w1 := by
  have e : (madeCells (Value.agg #[.int .i64 0, .int .i64 0, .string .empty, .slice none 0 0]).cells (k * 4)).toList = anCells (List.replicate k zA) := made_zero k
  rw [e] at h
  unfold Has
  simpa using h
theorem rep_src {base g k : Nat} {l : List An} {w : World} (h : Has base g k l w) (n : Nat) : ∀ j v, (anCells (l.take n))[j]? = some v → w.cell? ((⟨g, 0, none⟩ : Addr).add j) = some v := by
  intro j v hj
  refine World.ownsRow.cells h rfl j v ?_
  have e : anCells (l.take n) = (anCells l).take (n * 4) := by unfold anCells; rw [ndCells_take, List.map_take]
  rw [e] at hj
  rw [List.getElem?_take] at hj
  split at hj
  · exact hj
  · cases hj

theorem rep_below {w w0 : World} (h : w.grownBy w0 none) : Below w.heap.size w w0 := ⟨h.os, h.tape, h.output, h.size, fun k hk => h.block k hk (by simp)⟩
theorem rep_kept {w w0 : World} {pb po : Nat} {x : An} (h : Below w.heap.size w w0) (hpb : pb < w.heap.size) (hx : ∀ j v, (anCells [x])[j]? = some v → w.cell? ((⟨pb, po, none⟩ : Addr).add j) = some v) : ∀ j v, (anCells [x])[j]? = some v → w0.cell? ((⟨pb, po, none⟩ : Addr).add j) = some v := fun j v hj => by
  have := hx j v hj
  rw [Addr.add_lit] at this ⊢
  exact (below_cells h pb _ hpb).trans this

theorem rep_take (n m k : Nat) (x : An) (h : m ≤ n) : (List.replicate n x ++ List.replicate k zA).take m = List.replicate m x := by
  rw [List.take_append]
  simp [List.take_replicate, Nat.min_eq_left h]
  omega

def anyA : An := ⟨1, ((6, 0, .empty), (none, 0), [])⟩
end Go.Proofs.Ytdlckjjfbobmpaa
namespace Go.Proofs.Ytdlckjjfbobmpaa
open Go.RowKit Go.Maps

/-- Two rows that were appended to since wr; nothing else of wr is turned. -/
def App2 (base n : Nat) (wv0 tv0 : Value) (wr : World) (wv : Value) (vs : List Wd) (tv : Value) (ts : List (Tm n)) (w' : World) : Prop :=
  Keep (fun b => wv0.ownBlock = some b ∨ tv0.ownBlock = some b) wr w' ∧ w'.ownsRow base 38 2 wv vs.length (wCells vs) ∧ w'.ownsRow base 32 4 tv ts.length (ndCells (ts.map (hdT n))) ∧
  (∀ b, wv.ownBlock = some b → wv0.ownBlock = some b ∨ wr.heap.size ≤ b) ∧ (∀ b, tv.ownBlock = some b → tv0.ownBlock = some b ∨ wr.heap.size ≤ b)

theorem own_block {w : World} {base : Nat} {e : TypeId} {sz : Nat} {v : Value} {n : Nat} {xs : List Value} (h : w.ownsRow base e sz v n xs) (b : Nat) (hb : v.ownBlock = some b) : ∃ cur, w.heap[b]? = some (.cells cur e (0, 0)) := by
  rcases h.2 with ⟨rfl, _⟩ | ⟨g, cap, cur, rfl, _, hh, _⟩
  · simp [Value.ownBlock] at hb
  · simp [Value.ownBlock] at hb
    subst hb
    exact ⟨cur, hh⟩
theorem own_apart {w : World} {base base' : Nat} {sz sz' : Nat} {v v' : Value} {n n' : Nat} {xs xs' : List Value} (h : w.ownsRow base 38 sz v n xs) (h' : w.ownsRow base' 32 sz' v' n' xs') (b : Nat) (hb : v.ownBlock = some b) : ¬ v'.ownBlock = some b := by
  intro hb'
  obtain ⟨c1, e1⟩ := own_block h b hb
  obtain ⟨c2, e2⟩ := own_block h' b hb'
  rw [e1] at e2
  injection e2 with e2
  injection e2 with _ e3 _
  exact absurd e3 (by decide)

theorem App2.start {base n : Nat} {wr : World} {wv : Value} {vs : List Wd} {tv : Value} {ts : List (Tm n)} (h1 : wr.ownsRow base 38 2 wv vs.length (wCells vs)) (h2 : wr.ownsRow base 32 4 tv ts.length (ndCells (ts.map (hdT n)))) : App2 base n wv tv wr wv vs tv ts wr :=
  ⟨Keep.refl _ _, h1, h2, fun _ h => Or.inl h, fun _ h => Or.inl h⟩
theorem App2.later {base n : Nat} {wv0 tv0 : Value} {wr w' w2 : World} {wv : Value} {vs : List Wd} {tv : Value} {ts : List (Tm n)} (h : App2 base n wv0 tv0 wr wv vs tv ts w') (hb : Below w'.heap.size w' w2) : App2 base n wv0 tv0 wr wv vs tv ts w2 :=
  ⟨h.1.trans (keep_below hb (fun _ => False)) (fun _ _ hf => hf.elim), own_below h.2.1 hb, own_below h.2.2.1 hb, h.2.2.2.1, h.2.2.2.2⟩
theorem App2.word {base n : Nat} {wv0 tv0 : Value} {wr w' w2 : World} {wv : Value} {vs : List Wd} {tv : Value} {ts : List (Tm n)} (h : App2 base n wv0 tv0 wr wv vs tv ts w') {g c : Nat} {v : Wd}
    (ho : w2.ownsRow base 38 2 (.slice (some ⟨g, 0, none⟩) (vs.length + 1) c) (vs.length + 1) (wCells vs ++ wd2 v)) (hg : w'.grownBy w2 wv.ownBlock) (ha : wv.ownBlock = some g ∨ g = w'.heap.size) :
    App2 base n wv0 tv0 wr (.slice (some ⟨g, 0, none⟩) (vs.length + 1) c) (vs ++ [v]) tv ts w2 := by
  have hk := keep_grown hg
  refine ⟨h.1.trans hk fun b hb e => ?_, ?_, row_kept h.2.2.1 hk fun b e1 e2 => own_apart h.2.1 h.2.2.1 b e2 e1, fun b e => ?_, h.2.2.2.2⟩
  · rcases h.2.2.2.1 b e with e | e
    · exact Or.inl e
    · omega
  · have e : wCells (vs ++ [v]) = wCells vs ++ wd2 v := by simp [wCells]
    rw [e, List.length_append]
    exact ho
  · simp [Value.ownBlock] at e
    subst e
    rcases ha with e | e
    · exact h.2.2.2.1 g e
    · exact Or.inr (by rw [e]; exact h.1.size)
theorem App2.term {base n : Nat} {wv0 tv0 : Value} {wr w' w2 : World} {wv : Value} {vs : List Wd} {tv : Value} {ts : List (Tm n)} (h : App2 base n wv0 tv0 wr wv vs tv ts w') {g c : Nat} {x : Tm n}
    (ho : w2.ownsRow base 32 4 (.slice (some ⟨g, 0, none⟩) (ts.length + 1) c) (ts.length + 1) (ndCells (ts.map (hdT n)) ++ nd4 (hdT n x))) (hg : w'.grownBy w2 tv.ownBlock) (ha : tv.ownBlock = some g ∨ g = w'.heap.size) :
    App2 base n wv0 tv0 wr wv vs (.slice (some ⟨g, 0, none⟩) (ts.length + 1) c) (ts ++ [x]) w2 := by
  have hk := keep_grown hg
  refine ⟨h.1.trans hk fun b hb e => ?_, row_kept h.2.1 hk fun b e1 e2 => own_apart h.2.1 h.2.2.1 b e1 e2, ?_, h.2.2.2.1, fun b e => ?_⟩
  · rcases h.2.2.2.2 b e with e | e
    · exact Or.inr e
    · omega
  · have e : ndCells ((ts ++ [x]).map (hdT n)) = ndCells (ts.map (hdT n)) ++ nd4 (hdT n x) := by simp [ndCells]
    rw [e, List.length_append]
    exact ho
  · simp [Value.ownBlock] at e
    subst e
    rcases ha with e | e
    · exact h.2.2.2.2 g e
    · exact Or.inr (by rw [e]; exact h.1.size)
theorem grown_new {w' w2 : World} (row : Option Nat) (hg : w'.grownBy w2 row) (q : Nat) (hq : ∀ b, row = some b → b < q) : ∀ b, q ≤ b → b < w'.heap.size → w2.heap[b]? = w'.heap[b]? :=
  fun b hb hw => hg.block b hw fun e => by have := hq b e.symm; omega
/-- The heap beside the two rows. -/
theorem HpS.rows {n : Nat} {w : World} {hp : Nat} {room : Int} {ws : List Wd} {nm : List ByteArray} {M : Nat → Prop} {wv0 tv0 : Value} {wr w' : World} {wv : Value} {vs : List Wd} {tv : Value} {ts : List (Tm n)} (h : HpS w hp room ws nm M wr) (k : App2 w.heap.size n wv0 tv0 wr wv vs tv ts w')
    (h1 : ∀ b, wv0.ownBlock = some b → w.heap.size ≤ b ∧ ¬ M b) (h2 : ∀ b, tv0.ownBlock = some b → w.heap.size ≤ b ∧ ¬ M b) : HpS w hp room ws nm M w' ∧ (∀ b, wv.ownBlock = some b → w.heap.size ≤ b ∧ ¬ M b) ∧ ∀ b, tv.ownBlock = some b → w.heap.size ≤ b ∧ ¬ M b := by
  have hs := h.1.size
  refine ⟨⟨⟨k.1.os.trans h.1.os, k.1.tape.trans h.1.tape, k.1.output.trans h.1.output, Nat.le_trans hs k.1.size, fun b hb => (k.1.block b (by omega) ?_).trans (h.1.block b hb)⟩, h.2.1.kept k.1 fun b hm _ e => ?_, fun b hm => ⟨(h.2.2 b hm).1, Nat.lt_of_lt_of_le (h.2.2 b hm).2 k.1.size⟩⟩, fun b e => ?_, fun b e => ?_⟩
  · rintro (e | e)
    · have := (h1 b e).1; omega
    · have := (h2 b e).1; omega
  · rcases e with e | e
    · exact (h1 b e).2 hm
    · exact (h2 b e).2 hm
  · rcases k.2.2.2.1 b e with e | e
    · exact h1 b e
    · exact ⟨by omega, fun hm => by have := (h.2.2 b hm).2; omega⟩
  · rcases k.2.2.2.2 b e with e | e
    · exact h2 b e
    · exact ⟨by omega, fun hm => by have := (h.2.2 b hm).2; omega⟩
theorem App2.wordL {base n L : Nat} {wv0 tv0 : Value} {wr w' w2 : World} {wv : Value} {vs : List Wd} {tv : Value} {ts : List (Tm n)} (h : App2 base n wv0 tv0 wr wv vs tv ts w') (hL : vs.length = L) {g c : Nat} {v : Wd}
    (ho : w2.ownsRow base 38 2 (.slice (some ⟨g, 0, none⟩) (L + 1) c) (L + 1) (wCells vs ++ wd2 v)) (hg : w'.grownBy w2 wv.ownBlock) (ha : wv.ownBlock = some g ∨ g = w'.heap.size) :
    App2 base n wv0 tv0 wr (.slice (some ⟨g, 0, none⟩) (L + 1) c) (vs ++ [v]) tv ts w2 := by
  subst hL
  exact h.word ho hg ha
theorem App2.termL {base n L : Nat} {wv0 tv0 : Value} {wr w' w2 : World} {wv : Value} {vs : List Wd} {tv : Value} {ts : List (Tm n)} (h : App2 base n wv0 tv0 wr wv vs tv ts w') (hL : ts.length = L) {g c : Nat} {x : Tm n}
    (ho : w2.ownsRow base 32 4 (.slice (some ⟨g, 0, none⟩) (L + 1) c) (L + 1) (ndCells (ts.map (hdT n)) ++ nd4 (hdT n x))) (hg : w'.grownBy w2 tv.ownBlock) (ha : tv.ownBlock = some g ∨ g = w'.heap.size) :
    App2 base n wv0 tv0 wr wv vs (.slice (some ⟨g, 0, none⟩) (L + 1) c) (ts ++ [x]) w2 := by
  subst hL
  exact h.term ho hg ha
theorem App2.own1 {base n L : Nat} {wv0 tv0 : Value} {wr w' : World} {wv : Value} {vs : List Wd} {tv : Value} {ts : List (Tm n)} (h : App2 base n wv0 tv0 wr wv vs tv ts w') (hL : vs.length = L) {w2 : World} (hb : Below w'.heap.size w' w2) : w2.ownsRow base 38 2 wv L (wCells vs) := by
  subst hL
  exact (h.later hb).2.1
theorem App2.own2 {base n L : Nat} {wv0 tv0 : Value} {wr w' : World} {wv : Value} {vs : List Wd} {tv : Value} {ts : List (Tm n)} (h : App2 base n wv0 tv0 wr wv vs tv ts w') (hL : ts.length = L) {w2 : World} (hb : Below w'.heap.size w' w2) : w2.ownsRow base 32 4 tv L (ndCells (ts.map (hdT n))) := by
  subst hL
  exact (h.later hb).2.2.1
theorem nb_a (w : World) (c : Obj) : (w.alloc c).drew.heap[w.heap.size]? = some c := heap_alloc_new w c
theorem nb_b (w : World) (c d : Obj) : ((w.alloc c).alloc d).drew.heap[w.heap.size]? = some c :=
  (((Below.refl (w.alloc c).heap.size (w.alloc c)).alloc (Nat.le_refl _) d).block w.heap.size (by simp)).trans (heap_alloc_new w c)
theorem nb_c (w : World) (c d : Obj) : ((w.alloc d).alloc c).drew.heap[w.heap.size + 1]? = some c := by
  have h := heap_alloc_new (w.alloc d) c
  rwa [show (w.alloc d).heap.size = w.heap.size + 1 by simp] at h
theorem grown_box {W0 W w5 : World} {row : Option Nat} (hb : Below W0.heap.size W0 W) (hg : W.grownBy w5 row) (q : Nat) (hq : ∀ b, row = some b → b < q) (b : Nat) (hqb : q ≤ b) (hbw : b < W0.heap.size) : w5.heap[b]? = W0.heap[b]? :=
  (grown_new row hg q hq b hqb (Nat.lt_of_lt_of_le hbw hb.size)).trans (hb.block b hbw)
theorem box4 {w : World} {b : Nat} {v0 v1 v2 v3 : Value} {t : TypeId} (h : w.heap[b]? = some (.cells #[v0, v1, v2, v3] t)) : w.cell? ⟨b, 0, none⟩ = some v0 ∧ w.cell? ⟨b, 1, none⟩ = some v1 ∧ w.cell? ⟨b, 2, none⟩ = some v2 ∧ w.cell? ⟨b, 3, none⟩ = some v3 := by
  refine ⟨?_, ?_, ?_, ?_⟩ <;> simp [World.cell?, h]
theorem box2 {w : World} {b : Nat} {v0 v1 : Value} {t : TypeId} (h : w.heap[b]? = some (.cells #[v0, v1] t)) : w.cell? ⟨b, 0, none⟩ = some v0 ∧ w.cell? ⟨b, 1, none⟩ = some v1 := by
  refine ⟨?_, ?_⟩ <;> simp [World.cell?, h]
end Go.Proofs.Ytdlckjjfbobmpaa
