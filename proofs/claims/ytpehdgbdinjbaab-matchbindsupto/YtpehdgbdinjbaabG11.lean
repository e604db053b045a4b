/- What is proved here: plain facts for MatchBinds: what match.Fits tells of what is bound; the small pattern, and that it fits. No condition. -/
import Derived.Test.YtpehdgbdinjbaabG10
namespace Go.Proofs.Ytpehdgbdinjbaab
open Go.RowKit

theorem fit_row {b : List An} {w1 w' : World} {a : Option Addr} {c : Nat} {l : List (Tm (top b))} (h : CpRow (top b) (uni b) w1 w' a c l) (hb : ∀ y ∈ b, RightA y) (h4 : b.length = 4) :
    Lies w'.heap.size w' (top b) l a ∧ l.length = 4 ∧ Tells4 (top b) l b ∧ ∀ y ∈ l, RightA ⟨top b, y⟩ := by
  obtain ⟨k1, k2, k3, k4, k5, k6⟩ := h
  have hu : (uni b).length = 4 := by simp [uni, h4]
  have hlies : Lies w'.heap.size w' (top b) l a := by
    rcases k6 with k6 | ⟨q, o, e, hq1, hq2, k6⟩
    · exact Or.inl k6
    · exact Or.inr ⟨q, o, e, hq2, fun i y hy => ⟨(k6 i y hy).1, (k6 i y hy).2.1⟩⟩
  have ht : Tells4 (top b) l b := by
    intro i z hz
    have hi : i < l.length := by have := (List.getElem?_eq_some_iff.1 hz).1; omega
    have hzu : (uni b)[i]? = some (lift (top b) z.1 z.2) := by simp [uni, hz]
    have hs := sameL_at _ _ _ k5 i l[i] _ (List.getElem?_eq_getElem hi) hzu
    have hls := lift_same (top b) z.1 (top_le b z (List.mem_of_getElem? hz)) z.2 (hb z (List.mem_of_getElem? hz))
    have hs2 := same_trans _ _ _ _ _ _ hs hls
    exact ⟨l[i], List.getElem?_eq_getElem hi, hs2, right_formed.2 (by rw [same_formed _ _ _ _ hs2]; exact right_formed.1 (hb z (List.mem_of_getElem? hz)))⟩
  refine ⟨hlies, by omega, ht, fun y hy => ?_⟩
  obtain ⟨i, hi⟩ := List.getElem?_of_mem hy
  have hi2 : i < b.length := by have := (List.getElem?_eq_some_iff.1 hi).1; omega
  obtain ⟨y', hy', _, hr⟩ := ht i b[i] (List.getElem?_eq_getElem hi2)
  rw [hi] at hy'
  obtain rfl := Option.some.inj hy'
  exact hr

theorem sameL_of {α β : Type} (f : α → β → Bool) : (p : List α) → (q : List β) → p.length = q.length → (∀ (i : Nat) (x : α) (y : β), p[i]? = some x → q[i]? = some y → f x y = true) → sameL f p q = true
  | [], [], _, _ => rfl
  | [], _ :: _, h, _ => by simp at h
  | _ :: _, [], h, _ => by simp at h
  | x :: p, y :: q, h, hf => by
    simp only [sameL, Bool.and_eq_true]
    exact ⟨hf 0 x y (by simp) (by simp), sameL_of f p q (by simpa using h) fun i x' y' hx hy => hf (i + 1) x' y' (by simpa using hx) (by simpa using hy)⟩

/-- The wild one, four times; a variable; the small pattern. -/
def anyT : Tm 1 := ((6, 0, .empty), (none, 0), [])
def varT : Tm 1 := ((5, 0, ⟨#[]⟩), (none, 0), [])
def patT (g : Nat) : Tm 2 := ((4, 0, ⟨#[]⟩), (some ⟨g, 0, none⟩, 2), [varT, numT 5])
theorem any_in (B : Nat) (w : World) : In B w 1 anyT := ⟨⟨by simp [anyT, I64], by simp [anyT, I64], Nat.zero_le _, by simp [anyT], by simp [anyT]⟩, Or.inl rfl⟩
theorem var_in (B : Nat) (w : World) : In B w 1 varT := ⟨⟨by simp [varT, I64], by simp [varT, I64], Nat.zero_le _, by simp [varT], by simp [varT]⟩, Or.inl rfl⟩
theorem free_lies {g c base : Nat} {w : World} (h : Has base g c (List.replicate 4 anyA) w) : Lies w.heap.size w 1 (List.replicate 4 anyT) (some ⟨g, 0, none⟩) := by
  refine Or.inr ⟨g, 0, rfl, h.lt.2, fun i y hy => ?_⟩
  have hi : i < 4 := by have := (List.getElem?_eq_some_iff.1 hy).1; simpa using this
  have e : anyT = y := by rw [List.getElem?_replicate, if_pos hi] at hy; exact Option.some.inj hy
  subst e
  have hc := h.cells i anyA (by rw [List.getElem?_replicate, if_pos hi])
  rw [Nat.zero_add]
  exact ⟨hc, any_in _ _⟩
theorem pat_in (g B : Nat) (w : World) (hg : g < B) (t : TypeId) (fr : Nat × Nat)
    (h : w.heap[g]? = some (.cells #[.int .i64 5, .int .i64 0, .string ⟨#[]⟩, .slice none 0 0, .int .i64 1, .int .i64 5, .string ⟨#[]⟩, .slice none 0 0] t fr)) : In B w 2 (patT g) := by
  have hc : ∀ j, w.cell? ⟨g, j, none⟩ = #[Value.int .i64 5, .int .i64 0, .string ⟨#[]⟩, .slice none 0 0, .int .i64 1, .int .i64 5, .string ⟨#[]⟩, .slice none 0 0][j]? := fun j => by simp [World.cell?, h]
  refine ⟨⟨by simp [patT, I64], by simp [patT, I64], Nat.zero_le _, by simp [patT], by simp [patT, maxLen]⟩, Or.inr ⟨g, 0, rfl, hg, fun i y hy => ?_⟩⟩
  match i, hy with
  | 0, hy =>
    have : varT = y := by simpa [patT] using hy
    subst this
    exact ⟨⟨hc 0, hc 1, hc 2, hc 3⟩, var_in B w⟩
  | 1, hy =>
    have : numT 5 = y := by simpa [patT] using hy
    subst this
    exact ⟨⟨hc 4, hc 5, hc 6, hc 7⟩, num_in 5 (by simp [I64]) B w⟩
  | i + 2, hy => simp [patT] at hy

theorem f_var : formedB 1 varT = true := by simp [formedB, varT, good, hdOf, inB]
theorem f_num (n : Int) (h1 : -1099511627776 ≤ n) (h2 : n ≤ 1099511627776) : formedB 1 (numT n) = true := by simp [formedB, numT, good, hdOf, inB, h1, h2]
theorem f_word : formedB 1 (wordT ⟨#[97]⟩) = true := by
  have : nameB ⟨#[97]⟩ = true := by kernel_rfl
  simp [formedB, wordT, good, hdOf, this]
theorem f_any : formedB 1 anyT = true := by
  have : (ByteArray.empty).toList = [] := by rw [ByteArray.toList_eq]; rfl
  simp [formedB, anyT, good, hdOf, this]
theorem f_tup (x : Tm 2) (h1 : x.1 = (4, 0, ⟨#[]⟩)) (h2 : x.2.2.length ≤ 8) (h3 : (x.2.2.all fun y => formedB 1 y) = true) : formedB 2 x = true := by
  have hg : good (hdOf 1 x) = true := by
    have : (x.2.2.length : Int) ≤ 8 := by omega
    simp [good, hdOf, h1, this]
  show (good (hdOf 1 x) && (!(x.1.1 == 4) || x.2.2.all fun y => formedB 1 y)) = true
  rw [hg, h3]
  simp
theorem d1 (x : Tm 1) (h : x.1.1 ≠ 4) : dep 1 x = 0 ∧ sz 1 x = 0 := by simp [dep, sz, h]
theorem chk_pat (g : Nat) : chk 2 (patT g) = 0 := by
  rw [chk_zero]
  have a1 := d1 varT (by simp [varT])
  have a2 := d1 (numT 5) (by simp [numT])
  refine ⟨f_tup _ rfl (by simp [patT]) ?_, ?_, ?_⟩
  · show ([varT, numT 5].all fun y => formedB 1 y) = true
    simp only [List.all_cons, List.all_nil, f_var, f_num 5 (by decide) (by decide), Bool.and_self]
  · show 1 + [varT, numT 5].foldl (fun m y => max m (dep 1 y)) 0 ≤ 12
    simp only [List.foldl_cons, List.foldl_nil, a1.1, a2.1]; decide
  · show 1 + ([varT, numT 5].map fun y => 1 + sz 1 y).sum ≤ 200
    simp only [List.map_cons, List.map_nil, List.sum_cons, List.sum_nil, a1.2, a2.2]; decide
theorem chk_two (g : Nat) : chk 2 (twoT g) = 0 := by
  rw [chk_zero]
  have a1 := d1 (wordT ⟨#[97]⟩) (by simp [wordT])
  have a2 := d1 (numT 5) (by simp [numT])
  refine ⟨f_tup _ rfl (by simp [twoT]) ?_, ?_, ?_⟩
  · show ([wordT ⟨#[97]⟩, numT 5].all fun y => formedB 1 y) = true
    simp only [List.all_cons, List.all_nil, f_word, f_num 5 (by decide) (by decide), Bool.and_self]
  · show 1 + [wordT ⟨#[97]⟩, numT 5].foldl (fun m y => max m (dep 1 y)) 0 ≤ 12
    simp only [List.foldl_cons, List.foldl_nil, a1.1, a2.1]; decide
  · show 1 + ([wordT ⟨#[97]⟩, numT 5].map fun y => 1 + sz 1 y).sum ≤ 200
    simp only [List.map_cons, List.map_nil, List.sum_cons, List.sum_nil, a1.2, a2.2]; decide
theorem chk_any : chk 1 anyT = 0 := by
  rw [chk_zero]
  have a1 := d1 anyT (by simp [anyT])
  exact ⟨f_any, by rw [a1.1]; decide, by rw [a1.2]; decide⟩
theorem clo_two (g : Nat) : closedB 2 (twoT g) = true := by
  rw [← closed_eq]
  have a1 : closedT 1 (wordT ⟨#[97]⟩) = true := by simp [closedT, wordT]
  have a2 : closedT 1 (numT 5) = true := by simp [closedT, numT]
  show (!((4 : Int) == 5) && !((4 : Int) == 6) && [wordT ⟨#[97]⟩, numT 5].all fun y => closedT 1 y) = true
  simp only [List.all_cons, List.all_nil, a1, a2]
  rfl
theorem bnd_free : bndB 1 (List.replicate 4 anyT) = true := by
  have : okB 1 anyT = true := by
    unfold okB
    rw [chk_any]
    rfl
  unfold bndB
  simp only [List.length_replicate, decide_true, Bool.true_and, List.all_eq_true]
  intro y hy
  rw [List.eq_of_mem_replicate hy]
  exact this
def firstL : List An := [⟨1, wordT ⟨#[97]⟩⟩, ⟨1, anyT⟩, ⟨1, anyT⟩, ⟨1, anyT⟩]
theorem fit_small (g h : Nat) : fit 2 (patT g) 2 (twoT h) (anL 1 (List.replicate 4 anyT)) = some firstL := by
  have e : same 1 (numT 5) 1 (numT 5) = true := same_mk rfl rfl
  have e2 : fit 1 varT 1 (wordT ⟨#[97]⟩) (anL 1 (List.replicate 4 anyT)) = some firstL := rfl
  have e3 : fit 1 (numT 5) 1 (numT 5) firstL = some firstL := by
    show (if same 1 (numT 5) 1 (numT 5) = true then some firstL else none) = some firstL
    rw [if_pos e]
  show (fit 1 varT 1 (wordT ⟨#[97]⟩) (anL 1 (List.replicate 4 anyT))).bind (fun c => (fit 1 (numT 5) 1 (numT 5) c).bind (fun c => some c)) = some firstL
  rw [e2]
  show (fit 1 (numT 5) 1 (numT 5) firstL).bind (fun c => some c) = some firstL
  rw [e3]
  rfl
theorem first_right : ∀ y ∈ firstL, RightA y := by
  intro y hy
  simp only [firstL, List.mem_cons, List.not_mem_nil, or_false] at hy
  rcases hy with rfl | rfl | rfl | rfl
  · exact right_formed.2 f_word
  · exact right_formed.2 f_any
  · exact right_formed.2 f_any
  · exact right_formed.2 f_any
end Go.Proofs.Ytpehdgbdinjbaab
