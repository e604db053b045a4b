/- What is proved here: plain facts on copies of terms: a term is the same as itself, a row that was made is a row of zero terms, and a row of copies grows by one. No condition. -/
import Derived.Test.YtfginhifgljnmaaG06
import Derived.Laws.MakeOwn
namespace Go.Proofs.Ytfginhifgljnmaa
open Go.RowKit

theorem sameL_snoc {α β : Type} (f : α → β → Bool) : (p : List α) → (q : List β) → (x : α) → (y : β) → sameL f p q = true → f x y = true → sameL f (p ++ [x]) (q ++ [y]) = true
  | [], [], x, y, _, h => by simp [sameL, h]
  | [], _ :: _, _, _, h, _ => by simp [sameL] at h
  | _ :: _, [], _, _, h, _ => by simp [sameL] at h
  | a :: p, b :: q, x, y, h, k => by
    simp only [sameL, Bool.and_eq_true, List.cons_append] at h ⊢
    exact ⟨h.1, sameL_snoc f p q x y h.2 k⟩
theorem sameL_length {α β : Type} (f : α → β → Bool) : (p : List α) → (q : List β) → sameL f p q = true → p.length = q.length
  | [], [], _ => rfl
  | [], _ :: _, h => by simp [sameL] at h
  | _ :: _, [], h => by simp [sameL] at h
  | a :: p, b :: q, h => by
    simp only [sameL, Bool.and_eq_true] at h
    simp [sameL_length f p q h.2]

def zA : An := ⟨1, ((0, 0, .empty), (none, 0), [])⟩
theorem made_zero (n : Nat) : (madeCells #[.int .i64 0, .int .i64 0, .string .empty, .slice none 0 0] (n * 4)).toList = anCells (List.replicate n zA) := by
  apply List.ext_getElem?
  intro i
  by_cases h : i < n * 4
  · obtain ⟨k, j, hj, rfl⟩ : ∃ k j, j < 4 ∧ i = k * 4 + j := ⟨i / 4, i % 4, Nat.mod_lt _ (by decide), by omega⟩
    have hk : k < n := by omega
    have e : (anCells (List.replicate n zA))[k * 4 + j]? = (nd4 (ndA zA))[j]? := ndCells_at _ k (ndA zA) (by simp [hk]) j hj
    rw [e]
    have e2 : (madeCells #[.int .i64 0, .int .i64 0, .string .empty, .slice none 0 0] (n * 4))[k * 4 + j]? = some ((#[.int .i64 0, .int .i64 0, .string .empty, .slice none 0 0] : Array Value)[(k * 4 + j) % 4]!) := by
      simp [madeCells, h]
    rw [Array.getElem?_toList, e2, show (k * 4 + j) % 4 = j by omega]
    have : j = 0 ∨ j = 1 ∨ j = 2 ∨ j = 3 := by omega
    rcases this with rfl | rfl | rfl | rfl <;> rfl
  · rw [List.getElem?_eq_none (by simp [size_madeCells]; omega), List.getElem?_eq_none (by rw [anCells_length]; simp; omega)]

/-- Copies l of the first k terms of p, in a row of len at block g; they lie in blocks behind g. -/
def CpP (n : Nat) (p : List (Tm n)) (len g k : Nat) (l : List (Tm n)) (wr : World) : Prop :=
  l.length = k ∧ Has g g len (l.map (fun x => (⟨n, x⟩ : An)) ++ List.replicate (len - k) zA) wr ∧ (∀ y ∈ l, In wr.heap.size wr n y ∧ Off (fun q => g < q) n y) ∧ sameL (fun a b => same n a n b) l (p.take k) = true

theorem CpP.step {n : Nat} {p : List (Tm n)} {len g k : Nat} {l : List (Tm n)} {wr w1 : World} (h : CpP n p len g k l wr) (hk : k < len) (x : Tm n) (hx : p[k]? = some x) (hb : Below wr.heap.size wr w1) (y : Tm n) (hy : In w1.heap.size w1 n y) (ho : Off (fun q => g < q) n y) (hs : same n y n x = true) :
    CpP n p len g (k + 1) (l ++ [y]) (putNd w1 g (k * 4) (hdT n y)) := by
  obtain ⟨h1, h2, h3, h4⟩ := h
  have hg := (h2.below hb).put k ⟨n, y⟩ (by simp; omega)
  have e : (l.map (fun x => (⟨n, x⟩ : An)) ++ List.replicate (len - k) zA).set k ⟨n, y⟩ = (l ++ [y]).map (fun x => (⟨n, x⟩ : An)) ++ List.replicate (len - (k + 1)) zA := by
    rw [List.set_append_right _ _ (by simp; omega)]
    have : len - k = (len - (k + 1)) + 1 := by omega
    rw [this, List.replicate_succ]
    simp [h1]
  rw [e] at hg
  refine ⟨by simp [h1], hg, ?_, ?_⟩
  · intro z hz
    have hsz : (putNd w1 g (k * 4) (hdT n y)).heap.size = w1.heap.size := put4_size _ _ _ _
    rw [hsz]
    rcases List.mem_append.1 hz with hz | hz
    · exact ⟨In.off (fun q hq => put4_block (by omega) _ _ _ _) (h3 z hz).2 (((h3 z hz).1.below hb).mono hb.size), (h3 z hz).2⟩
    · simp only [List.mem_singleton] at hz
      subst hz
      exact ⟨In.off (fun q hq => put4_block (by omega) _ _ _ _) ho hy, ho⟩
  · rw [List.take_add_one, hx]
    exact sameL_snoc _ _ _ _ _ h4 hs

/-- What copying a list leaves. -/
def CpRow (n : Nat) (p : List (Tm n)) (w w' : World) (a : Option Addr) (c : Nat) (l : List (Tm n)) : Prop :=
  Below w.heap.size w w' ∧ l.length = p.length ∧ l.length ≤ c ∧ c ≤ maxLen ∧ sameL (fun a b => same n a n b) l p = true ∧
  (l = [] ∨ ∃ b o, a = some ⟨b, o, none⟩ ∧ w.heap.size ≤ b ∧ b < w'.heap.size ∧ ∀ (i : Nat) (y : Tm n), l[i]? = some y → Held w' b (o + i * 4) n y ∧ In w'.heap.size w' n y ∧ Off (fun q => w.heap.size ≤ q) n y)

theorem CpP.done {n : Nat} {p : List (Tm n)} {len k : Nat} {l : List (Tm n)} {w wr : World} (h : CpP n p len w.heap.size k l wr) (hl : p.length = len) (hk : k = len) (hb : Below w.heap.size w wr) (hm : len ≤ maxLen) :
    CpRow n p w wr (some ⟨w.heap.size, 0, none⟩) len l := by
  obtain ⟨h1, h2, h3, h4⟩ := h
  subst hk
  rw [List.take_of_length_le (by omega)] at h4
  rw [Nat.sub_self, List.replicate_zero, List.append_nil] at h2
  refine ⟨hb, by omega, by omega, hm, h4, Or.inr ⟨w.heap.size, 0, rfl, Nat.le_refl _, h2.lt.2, fun i y hy => ⟨?_, (h3 y (List.mem_of_getElem? hy)).1, (h3 y (List.mem_of_getElem? hy)).2.mono fun q hq => by omega⟩⟩⟩
  have hc := h2.cells i ⟨n, y⟩ (by simp [hy])
  have hin := (h3 y (List.mem_of_getElem? hy)).1
  cases n with
  | zero => exact hin.elim
  | succ n =>
    rw [Nat.zero_add]
    exact hc

def FCp (n : Nat) : Prop := ∀ (x : Tm n) (B : Nat) (w : World), In B w n x → B ≤ w.heap.size → RightA ⟨n, x⟩ →
  Calls Try.prog 86 #[val n x] w fun e w' => ∃ y : Tm n, e = .returned (val n y) ∧ Hid (Below w.heap.size w w' ∧ In w'.heap.size w' n y ∧ Off (fun q => w.heap.size ≤ q) n y ∧ same n y n x = true)
end Go.Proofs.Ytfginhifgljnmaa
