/- What is proved here: the statement's own small program (clerkkeep.small): what it returns lies in new memory and is the small program. No condition. -/
import Derived.Test.YtbmjfnicfpdjfaaG11
namespace Go.Proofs.Ytbmjfnicfpdjfaa
open Go.RowKit

theorem sword_any (s : ByteArray) (w : World) :
    Calls Try.prog 7 #[.string s] w fun e w' => e = .returned (.agg #[.int .i64 2, .int .i64 0, .string s, .slice none 0 0]) ∧ w' = w.alloc (.cells #[.int .i64 2, .int .i64 0, .string s, .slice none 0 0] 25) := by
  go_enter Try.func7, Try.ntmps7
  go_wp2_with fail
  exact bodyPost_ret (v := .agg #[.int .i64 2, .int .i64 0, .string s, .slice none 0 0]) (by simp [results, Try.results7, go_sem]) rfl ⟨rfl, rfl⟩
theorem snum_any (n : Int) (w : World) :
    Calls Try.prog 8 #[.int .i64 n] w fun e w' => e = .returned (.agg #[.int .i64 1, .int .i64 n, .string ⟨#[]⟩, .slice none 0 0]) ∧ w' = w.alloc (.cells #[.int .i64 1, .int .i64 n, .string ⟨#[]⟩, .slice none 0 0] 25) := by
  go_enter Try.func8, Try.ntmps8
  go_wp2_with fail
  exact bodyPost_ret (v := .agg #[.int .i64 1, .int .i64 n, .string ⟨#[]⟩, .slice none 0 0]) (by simp [results, Try.results8, go_sem]) rfl ⟨rfl, rfl⟩
theorem svar_any (n : Int) (w : World) :
    Calls Try.prog 29 #[.int .i64 n] w fun e w' => e = .returned (.agg #[.int .i64 5, .int .i64 n, .string ⟨#[]⟩, .slice none 0 0]) ∧ w' = w.alloc (.cells #[.int .i64 5, .int .i64 n, .string ⟨#[]⟩, .slice none 0 0] 25) := by
  go_enter Try.func29, Try.ntmps29
  go_wp2_with fail
  exact bodyPost_ret (v := .agg #[.int .i64 5, .int .i64 n, .string ⟨#[]⟩, .slice none 0 0]) (by simp [results, Try.results29, go_sem]) rfl ⟨rfl, rfl⟩

theorem heap_alloc_old (w : World) (o : Obj) {q : Nat} (h : q < w.heap.size) : (w.alloc o).heap[q]? = w.heap[q]? := (one_alloc (w := w) (o := o)).block q h
/-- A list that lies at a block's beginning. -/
theorem lay_block {α : Type} {B : Nat} {w : World} {k : Nat} {f : α → List Value} {I : α → Prop} {g : Nat} {cs : Array Value} {t : TypeId} (xs : List α) (hh : w.heap[g]? = some (.cells cs t)) (hcs : cs.toList = xs.flatMap f) (hk : ∀ x, (f x).length = k) (hg : g < B) (hI : ∀ y ∈ xs, I y) : Lay B w k f I (some ⟨g, 0, none⟩) xs := by
  refine Or.inr ⟨g, 0, rfl, hg, fun i y hy => ⟨fun j u hj => ?_, hI y (List.mem_of_getElem? hy)⟩⟩
  have hat : ∀ (l : List α) (i j : Nat) (y : α) (u : Value), l[i]? = some y → (f y)[j]? = some u → (l.flatMap f)[i * k + j]? = some u := by
    intro l
    induction l with
    | nil => intro i j y u h; simp at h
    | cons x l ih =>
      intro i j y u h hj
      rw [List.flatMap_cons]
      cases i with
      | zero =>
        simp at h
        subst h
        rw [List.getElem?_append_left (by have := (List.getElem?_eq_some_iff.1 hj).1; omega)]
        simpa using hj
      | succ i =>
        rw [List.getElem?_append_right (by rw [hk, Nat.succ_mul]; omega), hk, Nat.succ_mul, show i * k + k + j - k = i * k + j by omega]
        exact ih i j y u (by simpa using h) hj
  have h1 := hat xs i j y u hy hj
  rw [← hcs, Array.getElem?_toList] at h1
  rw [Nat.zero_add]
  simp only [World.cell?, hh]
  simpa using h1
/-- A tuple whose parts lie at a block's beginning. -/
theorem tup_block {N B : Nat} {w : World} {g : Nat} {cs : Array Value} {t : TypeId} (xs : List (Tm N)) (hh : w.heap[g]? = some (.cells cs t)) (hcs : cs.toList = xs.flatMap (tm4 N)) (hg : g < B) (hm : xs.length ≤ 8) (hI : ∀ y ∈ xs, In B w N y) : In B w (N + 1) ((4, 0, .empty), (some ⟨g, 0, none⟩, xs.length), xs) := by
  refine ⟨⟨by simp [I64], by simp [I64], Nat.zero_le _, Nat.le_refl _, by show xs.length ≤ maxLen; unfold maxLen; omega⟩, ?_⟩
  rcases lay_block (I := In B w N) xs hh hcs (tm4_len N) hg hI with h | ⟨b, o, e, hb, h⟩
  · exact Or.inl h
  · refine Or.inr ⟨b, o, e, hb, fun i y hy => ⟨?_, (h i y hy).2⟩⟩
    have h1 := (h i y hy).1
    cases N with
    | zero => exact ((h i y hy).2).elim
    | succ N => exact ⟨h1 0 _ rfl, h1 1 _ rfl, h1 2 _ rfl, h1 3 _ rfl⟩
theorem smV_in (k : Int) (hk : I64 k) (N B : Nat) (w : World) : In B w (N + 1) (smV k N) := ⟨⟨by simp [smV, leafV, I64], hk, Nat.zero_le _, by simp [smV, leafV], by simp [smV, leafV]⟩, Or.inl rfl⟩
theorem smN_in (k : Int) (hk : I64 k) (N B : Nat) (w : World) : In B w (N + 1) (leafV 1 k N) := ⟨⟨by simp [leafV, I64], hk, Nat.zero_le _, by simp [leafV], by simp [leafV]⟩, Or.inl rfl⟩

/-- The small program, where its parts lie. -/
def smM (g1 : Nat) : Tm 3 := ((4, 0, .empty), (some ⟨g1, 0, none⟩, 2), [atomV wN 1, smV 1 1])
def smA (g2 : Nat) : Tm 2 := ((4, 0, .empty), (some ⟨g2, 0, none⟩, 3), [atomV wAddW 0, smV 1 0, leafV 1 1 0])
def smW (g2 g3 : Nat) : Tm 3 := ((4, 0, .empty), (some ⟨g3, 0, none⟩, 2), [atomV wN 1, smA g2])
def smAct (g2 g3 : Nat) : Ac 3 := (1, (smV 0 2, smW g2 g3), .empty, 0)
def smCl (g1 g2 g3 g4 : Nat) : Cl 3 := ((smV 0 2, smM g1, smV 0 2), (some ⟨g4, 0, none⟩, 1), [smAct g2 g3])
def smBh (g1 g2 g3 g4 g5 : Nat) : Bh 3 := (wRelay, (some ⟨g5, 0, none⟩, 1), [smCl g1 g2 g3 g4])
theorem ac11_len (n : Nat) (a : Ac (n + 1)) : (ac11 (n + 1) a).length = 11 := rfl
theorem cl13_len (n : Nat) (a : Cl (n + 1)) : (cl13 (n + 1) a).length = 13 := rfl
theorem bh2_len (n : Nat) (a : Bh n) : (bh2 n a).length = 2 := rfl
theorem small_in {B g1 g2 g3 g4 g5 g6 : Nat} {w : World} {t : TypeId} {t4 t5 t6 : TypeId}
    (h1 : w.heap[g1]? = some (.cells #[.int .i64 2, .int .i64 0, .string ⟨#[110]⟩, .slice none 0 0, .int .i64 5, .int .i64 1, .string ⟨#[]⟩, .slice none 0 0] t))
    (h2 : w.heap[g2]? = some (.cells #[.int .i64 2, .int .i64 0, .string ⟨#[97, 100, 100]⟩, .slice none 0 0, .int .i64 5, .int .i64 1, .string ⟨#[]⟩, .slice none 0 0, .int .i64 1, .int .i64 1, .string ⟨#[]⟩, .slice none 0 0] t))
    (h3 : w.heap[g3]? = some (.cells #[.int .i64 2, .int .i64 0, .string ⟨#[110]⟩, .slice none 0 0, .int .i64 4, .int .i64 0, .string ⟨#[]⟩, .slice (some ⟨g2, 0, none⟩) 3 3] t))
    (h4 : w.heap[g4]? = some (.cells #[.int .i64 1, .int .i64 5, .int .i64 0, .string ⟨#[]⟩, .slice none 0 0, .int .i64 4, .int .i64 0, .string ⟨#[]⟩, .slice (some ⟨g3, 0, none⟩) 2 2, .string ⟨#[]⟩, .int .i64 0] t4))
    (h5 : w.heap[g5]? = some (.cells #[.int .i64 5, .int .i64 0, .string ⟨#[]⟩, .slice none 0 0, .int .i64 4, .int .i64 0, .string ⟨#[]⟩, .slice (some ⟨g1, 0, none⟩) 2 2, .slice (some ⟨g4, 0, none⟩) 1 1, .int .i64 5, .int .i64 0, .string ⟨#[]⟩, .slice none 0 0] t5))
    (h6 : w.heap[g6]? = some (.cells #[.string ⟨#[114, 101, 108, 97, 121]⟩, .slice (some ⟨g5, 0, none⟩) 1 1] t6))
    (hB : g1 < B ∧ g2 < B ∧ g3 < B ∧ g4 < B ∧ g5 < B ∧ g6 < B) : PgIn 3 B w (some ⟨g6, 0, none⟩) [smBh g1 g2 g3 g4 g5] := by
  obtain ⟨b1, b2, b3, b4, b5, b6⟩ := hB
  have z : I64 0 ∧ I64 1 := by simp [I64]
  have one : (1 : Nat) ≤ maxLen := by unfold maxLen; omega
  have iM : In B w 3 (smM g1) := tup_block [atomV wN 1, smV 1 1] h1 rfl b1 (by simp) (fun y hy => by
    simp only [List.mem_cons, List.not_mem_nil, or_false] at hy
    rcases hy with rfl | rfl
    · exact atomV_in _ _ (word_le _ (by decide)) _ _
    · exact smV_in 1 z.2 _ _ _)
  have iA : In B w 2 (smA g2) := tup_block [atomV wAddW 0, smV 1 0, leafV 1 1 0] h2 rfl b2 (by simp) (fun y hy => by
    simp only [List.mem_cons, List.not_mem_nil, or_false] at hy
    rcases hy with rfl | rfl | rfl
    · exact atomV_in _ _ (word_le _ (by decide)) _ _
    · exact smV_in 1 z.2 _ _ _
    · exact smN_in 1 z.2 _ _ _)
  have iW : In B w 3 (smW g2 g3) := tup_block [atomV wN 1, smA g2] h3 rfl b3 (by simp) (fun y hy => by
    simp only [List.mem_cons, List.not_mem_nil, or_false] at hy
    rcases hy with rfl | rfl
    · exact atomV_in _ _ (word_le _ (by decide)) _ _
    · exact iA)
  refine lay_block [smBh g1 g2 g3 g4 g5] h6 rfl (bh2_len 3) b6 (fun y hy => ?_)
  obtain rfl : y = smBh g1 g2 g3 g4 g5 := by simpa using hy
  refine ⟨word_le wRelay (by decide), ⟨Nat.le_refl _, one⟩, lay_block [smCl g1 g2 g3 g4] h5 rfl (cl13_len 2) b5 (fun y hy => ?_)⟩
  obtain rfl : y = smCl g1 g2 g3 g4 := by simpa using hy
  refine ⟨⟨smV_in 0 z.1 _ _ _, iM, smV_in 0 z.1 _ _ _⟩, ⟨Nat.le_refl _, one⟩, lay_block [smAct g2 g3] h4 rfl (ac11_len 2) b4 (fun y hy => ?_)⟩
  obtain rfl : y = smAct g2 g3 := by simpa using hy
  exact ⟨z.2, smV_in 0 z.1 _ _ _, iW, Nat.zero_le _, z.1⟩
theorem smV_same (k : Int) (N M : Nat) : same (N + 1) (smV k N) (M + 1) (smV k M) = true := leafV_same 5 k N M
theorem small_same (g1 g2 g3 g4 g5 : Nat) : RelL (bhS 3) [smBh g1 g2 g3 g4 g5] smallP := by
  have s0 := smV_same 0 2 2
  have sM : same 3 (smM g1) 3 smMsg = true := same_mk rfl (show sameL _ [atomV wN 1, smV 1 1] [atomV wN 1, smV 1 1] = true by simp [sameL, atomV_same, smV_same])
  have sA : same 2 (smA g2) 2 (tupV 1 [atomV wAddW 0, smV 1 0, leafV 1 1 0]) = true := same_mk rfl (show sameL _ [atomV wAddW 0, smV 1 0, leafV 1 1 0] [atomV wAddW 0, smV 1 0, leafV 1 1 0] = true by simp [sameL, atomV_same, smV_same, leafV_same])
  have sW : same 3 (smW g2 g3) 3 smWhat = true := same_mk rfl (show sameL _ [atomV wN 1, smA g2] [atomV wN 1, tupV 1 [atomV wAddW 0, smV 1 0, leafV 1 1 0]] = true by simp [sameL, atomV_same, sA])
  refine RelL.snoc (l := []) (r := []) RelL.nil ⟨rfl, RelL.snoc (l := []) (r := []) RelL.nil ⟨⟨s0, sM, s0⟩, RelL.snoc (l := []) (r := []) RelL.nil ⟨rfl, s0, sW, rfl⟩⟩⟩
def SmOut (w : World) (e : Ending) (w' : World) : Prop := ∃ (a : Option Addr) (l : List (Bh 3)), e = .returned (.slice a 1 1) ∧ Hid (Below w.heap.size w w' ∧ l.length = 1 ∧ PgIn 3 w'.heap.size w' a l ∧ RelL (bhS 3) l smallP)
/-- The same, with where its parts lie. -/
def SmOut2 (w : World) (e : Ending) (w' : World) : Prop := ∃ (a : Option Addr) (g1 g2 g3 g4 g5 : Nat), e = .returned (.slice a 1 1) ∧ Hid (Below w.heap.size w w' ∧ PgIn 3 w'.heap.size w' a [smBh g1 g2 g3 g4 g5] ∧ ∀ W : World, (∀ b, w.heap.size ≤ b → b < w'.heap.size → W.heap[b]? = w'.heap[b]?) → PgIn 3 w'.heap.size W a [smBh g1 g2 g3 g4 g5])
theorem small_out {w w' : World} {g1 g2 g3 g4 g5 g6 : Nat} (hb : Below w.heap.size w w') (h : ∀ W : World, (∀ b, w.heap.size ≤ b → b < w'.heap.size → W.heap[b]? = w'.heap[b]?) → PgIn 3 w'.heap.size W (some ⟨g6, 0, none⟩) [smBh g1 g2 g3 g4 g5]) : SmOut2 w (.returned (.slice (some ⟨g6, 0, none⟩) 1 1)) w' :=
  ⟨_, g1, g2, g3, g4, g5, rfl, hb, h w' fun _ _ _ => rfl, h⟩

set_option maxHeartbeats 4000000 in
set_option maxRecDepth 100000 in
theorem small_any2 (w : World) : Calls Try.prog 10 #[] w (SmOut2 w) := by
  go_enter Try.func10, Try.ntmps10
  go_wp2_with (first
    | (go_at_call 29; refine (svar_any _ _).mono ?_; rintro e w1 ⟨rfl, rfl⟩)
    | (go_at_call 7; refine (sword_any _ _).mono ?_; rintro e w1 ⟨rfl, rfl⟩)
    | (go_at_call 8; refine (snum_any _ _).mono ?_; rintro e w1 ⟨rfl, rfl⟩)
    | (go_at_call 6; refine (rtuple_any _ _ _ _).mono ?_; rintro e w1 ⟨rfl, rfl⟩))
  go_ret
  refine small_out (g1 := w.heap.size + 1 + 1 + 1) (g2 := w.heap.size + 1 + 1 + 1 + 1 + 1 + 1 + 1 + 1 + 1 + 1) (g3 := w.heap.size + 1 + 1 + 1 + 1 + 1 + 1 + 1 + 1 + 1 + 1 + 1 + 1) (g4 := w.heap.size + 1 + 1 + 1 + 1 + 1 + 1 + 1 + 1 + 1 + 1 + 1 + 1 + 1 + 1) (g5 := w.heap.size + 1 + 1 + 1 + 1 + 1 + 1 + 1 + 1 + 1 + 1 + 1 + 1 + 1 + 1 + 1 + 1) (g6 := w.heap.size + 1 + 1 + 1 + 1 + 1 + 1 + 1 + 1 + 1 + 1 + 1 + 1 + 1 + 1 + 1 + 1 + 1) (by go_grown) (fun W hW => small_in (t := 25) (t4 := 91) (t5 := 78) (t6 := 93) ?_ ?_ ?_ ?_ ?_ ?_ ?_)
  · refine (hW _ (by omega) (by simp)).trans ?_
    iterate 14 (refine (heap_alloc_old _ _ (by simp)).trans ?_)
    exact new_last0 _ _ (by simp)
  · refine (hW _ (by omega) (by simp)).trans ?_
    iterate 7 (refine (heap_alloc_old _ _ (by simp)).trans ?_)
    exact new_last0 _ _ (by simp)
  · refine (hW _ (by omega) (by simp)).trans ?_
    iterate 5 (refine (heap_alloc_old _ _ (by simp)).trans ?_)
    exact new_last0 _ _ (by simp)
  · refine (hW _ (by omega) (by simp)).trans ?_
    iterate 3 (refine (heap_alloc_old _ _ (by simp)).trans ?_)
    exact new_last0 _ _ (by simp)
  · refine (hW _ (by omega) (by simp)).trans ?_
    iterate 1 (refine (heap_alloc_old _ _ (by simp)).trans ?_)
    exact new_last0 _ _ (by simp)
  · exact (hW _ (by omega) (by simp)).trans (new_last0 _ _ (by simp))
  · refine ⟨?_, ?_, ?_, ?_, ?_, ?_⟩ <;> simp
theorem small_any (w : World) : Calls Try.prog 10 #[] w (SmOut w) := (small_any2 w).mono fun _ _ ⟨a, g1, g2, g3, g4, g5, he, H⟩ => ⟨a, [smBh g1 g2 g3 g4 g5], he, H.out.1, rfl, H.out.2.1, small_same _ _ _ _ _⟩
end Go.Proofs.Ytbmjfnicfpdjfaa
