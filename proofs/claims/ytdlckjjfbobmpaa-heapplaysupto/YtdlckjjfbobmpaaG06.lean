/- What is proved here: plain facts and contracts that the claimed theorem stands on, several texts in one: plain facts on copies of terms: a term is the same as itself, a row that was made is a row of zero terms, and a row of copies grows by one. No condition. plain facts on terms that are the same: turned round, in a row, and that all that is asked of one holds of the other. No condition. -/
import Derived.Test.YtdlckjjfbobmpaaG05
import Derived.Laws.MakeOwn
namespace Go.Proofs.Ytdlckjjfbobmpaa
open Go.RowKit

theorem sameL_snoc {α β : Type} (f : α → β → Bool) : (p : List α) → (q : List β) → (x : α) → (y : β) → sameL f p q = true → f x y = true → sameL f (p ++ [x]) (q ++ [y]) = true
  | [], [], x, y, _, h => by simp [sameL, h]
  | [], _ :: _, _, _, h, _ => by simp [sameL] at h
  | _ :: _, [], _, _, h, _ => by simp [sameL] at h
  | a :: p, b :: q, x, y, h, k => by
    simp only [sameL, Bool.and_eq_true, List.cons_append] at h ⊢
    exact ⟨h.1, sameL_snoc f p q x y h.2 k⟩
theorem sameL_length {α β : Type} (f : α → β → Bool) : (p : List α) → (q : List β) → sameL f p q = true → p.length = q.length
  | [], [], _ => rfl
  | [], _ :: _, h => by simp [sameL] at h
  | _ :: _, [], h => by simp [sameL] at h
  | a :: p, b :: q, h => by
    simp only [sameL, Bool.and_eq_true] at h
    simp [sameL_length f p q h.2]

def zA : An := ⟨1, ((0, 0, .empty), (none, 0), [])⟩
theorem made_zero (n : Nat) : (madeCells #[.int .i64 0, .int .i64 0, .string .empty, .slice none 0 0] (n * 4)).toList = anCells (List.replicate n zA) := by
  apply List.ext_getElem?
  intro i
  by_cases h : i < n * 4
  · obtain ⟨k, j, hj, rfl⟩ : ∃ k j, j < 4 ∧ i = k * 4 + j := ⟨i / 4, i % 4, Nat.mod_lt _ (by decide), by omega⟩
    have hk : k < n := by omega
    have e : (anCells (List.replicate n zA))[k * 4 + j]? = (nd4 (ndA zA))[j]? := ndCells_at _ k (ndA zA) (by simp [hk]) j hj
    rw [e]
    have e2 : (madeCells #[.int .i64 0, .int .i64 0, .string .empty, .slice none 0 0] (n * 4))[k * 4 + j]? = some ((#[.int .i64 0, .int .i64 0, .string .empty, .slice none 0 0] : Array Value)[(k * 4 + j) % 4]!) := by
      simp [madeCells, h]
    rw [Array.getElem?_toList, e2, show (k * 4 + j) % 4 = j by omega]
    have : j = 0 ∨ j = 1 ∨ j = 2 ∨ j = 3 := by omega
    rcases this with rfl | rfl | rfl | rfl <;> rfl
  · rw [List.getElem?_eq_none (by simp [size_madeCells]; omega), List.getElem?_eq_none (by rw [anCells_length]; simp; omega)]

/-- Copies l of the first k terms of p, in a row of len at block g; they lie in blocks behind g. -/
def CpP (n : Nat) (p : List (Tm n)) (len g k : Nat) (l : List (Tm n)) (wr : World) : Prop :=
  l.length = k ∧ Has g g len (l.map (fun x => (⟨n, x⟩ : An)) ++ List.replicate (len - k) zA) wr ∧ (∀ y ∈ l, In wr.heap.size wr n y ∧ Off (fun q => g < q) n y) ∧ sameL (fun a b => same n a n b) l (p.take k) = true

theorem CpP.step {n : Nat} {p : List (Tm n)} {len g k : Nat} {l : List (Tm n)} {wr w1 : World} (h : CpP n p len g k l wr) (hk : k < len) (x : Tm n) (hx : p[k]? = some x) (hb : Below wr.heap.size wr w1) (y : Tm n) (hy : In w1.heap.size w1 n y) (ho : Off (fun q => g < q) n y) (hs : same n y n x = true) :
    CpP n p len g (k + 1) (l ++ [y]) (putNd w1 g (k * 4) (hdT n y)) := by
  obtain ⟨h1, h2, h3, h4⟩ := h
  have hg := (h2.below hb).put k ⟨n, y⟩ (by simp; omega)
  have e : (l.map (fun x => (⟨n, x⟩ : An)) ++ List.replicate (len - k) zA).set k ⟨n, y⟩ = (l ++ [y]).map (fun x => (⟨n, x⟩ : An)) ++ List.replicate (len - (k + 1)) zA := by
    rw [List.set_append_right _ _ (by simp; omega)]
    have : len - k = (len - (k + 1)) + 1 := by omega
    rw [this, List.replicate_succ]
    simp [h1]
  rw [e] at hg
  refine ⟨by simp [h1], hg, ?_, ?_⟩
  · intro z hz
    have hsz : (putNd w1 g (k * 4) (hdT n y)).heap.size = w1.heap.size := put4_size _ _ _ _
    rw [hsz]
    rcases List.mem_append.1 hz with hz | hz
    · exact ⟨In.off (fun q hq => put4_block (by omega) _ _ _ _) (h3 z hz).2 (((h3 z hz).1.below hb).mono hb.size), (h3 z hz).2⟩
    · simp only [List.mem_singleton] at hz
      subst hz
      exact ⟨In.off (fun q hq => put4_block (by omega) _ _ _ _) ho hy, ho⟩
  · rw [List.take_add_one, hx]
    exact sameL_snoc _ _ _ _ _ h4 hs

/-- What copying a list leaves. -/
def CpRow (n : Nat) (p : List (Tm n)) (w w' : World) (a : Option Addr) (c : Nat) (l : List (Tm n)) : Prop :=
  Below w.heap.size w w' ∧ l.length = p.length ∧ l.length ≤ c ∧ c ≤ maxLen ∧ sameL (fun a b => same n a n b) l p = true ∧
  (l = [] ∨ ∃ b o, a = some ⟨b, o, none⟩ ∧ (w.heap.size ≤ b ∧ o = 0 ∧ (∀ j, w'.frozen? ⟨b, j, none⟩ = false) ∧ ∀ y ∈ l, Off (fun q => q ≠ b) n y) ∧ b < w'.heap.size ∧ ∀ (i : Nat) (y : Tm n), l[i]? = some y → Held w' b (o + i * 4) n y ∧ In w'.heap.size w' n y ∧ Off (fun q => w.heap.size ≤ q) n y)

theorem CpP.done {n : Nat} {p : List (Tm n)} {len k : Nat} {l : List (Tm n)} {w wr : World} (h : CpP n p len w.heap.size k l wr) (hl : p.length = len) (hk : k = len) (hb : Below w.heap.size w wr) (hm : len ≤ maxLen) :
    CpRow n p w wr (some ⟨w.heap.size, 0, none⟩) len l := by
  obtain ⟨h1, h2, h3, h4⟩ := h
  subst hk
  rw [List.take_of_length_le (by omega)] at h4
  rw [Nat.sub_self, List.replicate_zero, List.append_nil] at h2
  refine ⟨hb, by omega, by omega, hm, h4, Or.inr ⟨w.heap.size, 0, rfl, ⟨Nat.le_refl _, rfl, fun j => h2.free j, fun y hy => (h3 y hy).2.mono fun q hq => by omega⟩, h2.lt.2, fun i y hy => ⟨?_, (h3 y (List.mem_of_getElem? hy)).1, (h3 y (List.mem_of_getElem? hy)).2.mono fun q hq => by omega⟩⟩⟩
  have hc := h2.cells i ⟨n, y⟩ (by simp [hy])
  have hin := (h3 y (List.mem_of_getElem? hy)).1
  cases n with
  | zero => exact hin.elim
  | succ n =>
    rw [Nat.zero_add]
    exact hc

end Go.Proofs.Ytdlckjjfbobmpaa
namespace Go.Proofs.Ytdlckjjfbobmpaa
open Go.RowKit

theorem bytes_eq {s t : ByteArray} (h : (s.toList == t.toList) = true) : s = t := by
  have h1 : s.toList = t.toList := by simpa using h
  rw [ByteArray.toList_eq, ByteArray.toList_eq] at h1
  cases s; cases t
  simp only at h1
  rw [Array.toList_inj.1 h1]
theorem same_parts {n m : Nat} {x : Tm (n + 1)} {y : Tm (m + 1)} (h : same (n + 1) x (m + 1) y = true) : x.1 = y.1 ∧ sameL (fun a b => same n a m b) x.2.2 y.2.2 = true := by
  simp only [same, Bool.and_eq_true, beq_iff_eq] at h
  obtain ⟨⟨⟨h1, h2⟩, h3⟩, h4⟩ := h
  refine ⟨?_, h4⟩
  have h5 := bytes_eq (s := x.1.2.2) (t := y.1.2.2) (by simpa using h3)
  exact Prod.ext h1 (Prod.ext h2 h5)
theorem same_mk {n m : Nat} {x : Tm (n + 1)} {y : Tm (m + 1)} (h : x.1 = y.1) (k : sameL (fun a b => same n a m b) x.2.2 y.2.2 = true) : same (n + 1) x (m + 1) y = true := by
  simp only [same, h, k]
  simp
theorem sameL_flip {α β : Type} (f : α → β → Bool) (g : β → α → Bool) : (p : List α) → (q : List β) → (∀ a ∈ p, ∀ b, f a b = true → g b a = true) → sameL f p q = true → sameL g q p = true
  | [], [], _, _ => rfl
  | [], _ :: _, _, h => by simp [sameL] at h
  | _ :: _, [], _, h => by simp [sameL] at h
  | a :: p, b :: q, hf, h => by
    simp only [sameL, Bool.and_eq_true] at h ⊢
    exact ⟨hf a (by simp) b h.1, sameL_flip f g p q (fun a' ha => hf a' (List.mem_cons_of_mem _ ha)) h.2⟩
theorem same_symm : (n : Nat) → (x : Tm n) → (m : Nat) → (y : Tm m) → same n x m y = true → same m y n x = true
  | 0, _, _, _, h => by simp [same] at h
  | _ + 1, _, 0, _, h => by simp [same] at h
  | n + 1, x, m + 1, y, h => by
    obtain ⟨h1, h2⟩ := same_parts h
    exact same_mk h1.symm (sameL_flip _ _ _ _ (fun a _ b hab => same_symm n a m b hab) h2)
theorem sameL_chain {α β γ : Type} (f : α → β → Bool) (g : β → γ → Bool) (k : α → γ → Bool) : (p : List α) → (q : List β) → (r : List γ) → (∀ a ∈ p, ∀ b c, f a b = true → g b c = true → k a c = true) → sameL f p q = true → sameL g q r = true → sameL k p r = true
  | [], [], [], _, _, _ => rfl
  | [], [], _ :: _, _, _, h => by simp [sameL] at h
  | [], _ :: _, _, _, h, _ => by simp [sameL] at h
  | _ :: _, [], _, _, h, _ => by simp [sameL] at h
  | _ :: _, _ :: _, [], _, _, h => by simp [sameL] at h
  | a :: p, b :: q, c :: r, hf, h1, h2 => by
    simp only [sameL, Bool.and_eq_true] at h1 h2 ⊢
    exact ⟨hf a (by simp) b c h1.1 h2.1, sameL_chain f g k p q r (fun a' ha => hf a' (List.mem_cons_of_mem _ ha)) h1.2 h2.2⟩
theorem same_trans : (n : Nat) → (x : Tm n) → (m : Nat) → (y : Tm m) → (l : Nat) → (z : Tm l) → same n x m y = true → same m y l z = true → same n x l z = true
  | 0, _, _, _, _, _, h, _ => by simp [same] at h
  | _ + 1, _, 0, _, _, _, h, _ => by simp [same] at h
  | _ + 1, _, _ + 1, _, 0, _, _, h => by simp [same] at h
  | n + 1, x, m + 1, y, l + 1, z, h, k => by
    obtain ⟨h1, h2⟩ := same_parts h
    obtain ⟨k1, k2⟩ := same_parts k
    exact same_mk (h1.trans k1) (sameL_chain _ _ _ _ _ _ (fun a _ b c hab hbc => same_trans n a m b l c hab hbc) h2 k2)
theorem sameL_self {α : Type} (f : α → α → Bool) : (p : List α) → (∀ a ∈ p, f a a = true) → sameL f p p = true
  | [], _ => rfl
  | a :: p, h => by
    simp only [sameL, Bool.and_eq_true]
    exact ⟨h a (by simp), sameL_self f p fun a' ha => h a' (List.mem_cons_of_mem _ ha)⟩
theorem same_refl : (n : Nat) → (x : Tm n) → RightA ⟨n, x⟩ → same n x n x = true
  | 0, _, h => (zero_bad h).elim
  | n + 1, x, h => same_mk rfl (sameL_self _ _ fun y hy => same_refl n y (parts_right n x y h hy))

theorem right_formed {n : Nat} {x : Tm n} : RightA ⟨n, x⟩ ↔ formedB n x = true := by
  rw [formed_good, List.all_eq_true]
  exact Iff.rfl
theorem good_hd {x : Int × Int × ByteArray} {a b : Option Addr} {l c d : Nat} : good (x, (a, l, c)) = good (x, (b, l, d)) := rfl

theorem sameL_all {α β : Type} (f : α → β → Bool) (g : α → Bool) (k : β → Bool) : (p : List α) → (q : List β) → (∀ a ∈ p, ∀ b, f a b = true → g a = k b) → sameL f p q = true → p.all g = q.all k
  | [], [], _, _ => rfl
  | [], _ :: _, _, h => by simp [sameL] at h
  | _ :: _, [], _, h => by simp [sameL] at h
  | a :: p, b :: q, hf, h => by
    simp only [sameL, Bool.and_eq_true] at h
    simp only [List.all_cons, hf a (by simp) b h.1, sameL_all f g k p q (fun a' ha => hf a' (List.mem_cons_of_mem _ ha)) h.2]
theorem sameL_map {α β γ : Type} (f : α → β → Bool) (g : α → γ) (k : β → γ) : (p : List α) → (q : List β) → (∀ a ∈ p, ∀ b, f a b = true → g a = k b) → sameL f p q = true → p.map g = q.map k
  | [], [], _, _ => rfl
  | [], _ :: _, _, h => by simp [sameL] at h
  | _ :: _, [], _, h => by simp [sameL] at h
  | a :: p, b :: q, hf, h => by
    simp only [sameL, Bool.and_eq_true] at h
    simp only [List.map_cons, hf a (by simp) b h.1, sameL_map f g k p q (fun a' ha => hf a' (List.mem_cons_of_mem _ ha)) h.2]
theorem fold_map {α : Type} (g : α → Int) : (p : List α) → (i : Int) → p.foldl (fun m y => max m (g y)) i = (p.map g).foldl max i
  | [], _ => rfl
  | a :: p, i => by simp only [List.foldl_cons, List.map_cons]; exact fold_map g p _

theorem same_closed : (n : Nat) → (x : Tm n) → (m : Nat) → (y : Tm m) → same n x m y = true → closedT n x = closedT m y
  | 0, _, _, _, h => by simp [same] at h
  | _ + 1, _, 0, _, h => by simp [same] at h
  | n + 1, x, m + 1, y, h => by
    obtain ⟨h1, h2⟩ := same_parts h
    simp only [closedT, h1]
    rw [sameL_all _ _ _ _ _ (fun a _ b hab => same_closed n a m b hab) h2]
theorem same_formed : (n : Nat) → (x : Tm n) → (m : Nat) → (y : Tm m) → same n x m y = true → formedB n x = formedB m y
  | 0, _, _, _, h => by simp [same] at h
  | _ + 1, _, 0, _, h => by simp [same] at h
  | n + 1, x, m + 1, y, h => by
    obtain ⟨h1, h2⟩ := same_parts h
    have e : good (hdOf n x) = good (hdOf m y) := by
      have hl := sameL_length _ _ _ h2
      unfold hdOf
      rw [h1, hl]
      exact good_hd
    simp only [formedB, e, h1]
    rw [sameL_all _ _ _ _ _ (fun a _ b hab => same_formed n a m b hab) h2]
theorem same_sz : (n : Nat) → (x : Tm n) → (m : Nat) → (y : Tm m) → same n x m y = true → sz n x = sz m y
  | 0, _, _, _, h => by simp [same] at h
  | _ + 1, _, 0, _, h => by simp [same] at h
  | n + 1, x, m + 1, y, h => by
    obtain ⟨h1, h2⟩ := same_parts h
    simp only [sz, h1]
    rw [sameL_map _ (fun y => 1 + sz n y) (fun y => 1 + sz m y) _ _ (fun a _ b hab => by rw [same_sz n a m b hab]) h2]
theorem same_dep : (n : Nat) → (x : Tm n) → (m : Nat) → (y : Tm m) → same n x m y = true → dep n x = dep m y
  | 0, _, _, _, h => by simp [same] at h
  | _ + 1, _, 0, _, h => by simp [same] at h
  | n + 1, x, m + 1, y, h => by
    obtain ⟨h1, h2⟩ := same_parts h
    simp only [dep, h1]
    rw [fold_map (fun y => dep n y), fold_map (fun y => dep m y), sameL_map _ (fun y => dep n y) (fun y => dep m y) _ _ (fun a _ b hab => same_dep n a m b hab) h2]
theorem same_chk {n m : Nat} {x : Tm n} {y : Tm m} (h : same n x m y = true) : chk n x = chk m y := by
  rw [← tchk_chk, ← tchk_chk]
  unfold tchk
  rw [same_formed n x m y h, same_sz n x m y h, same_dep n x m y h]
theorem same_kind {n m : Nat} {x : Tm n} {y : Tm m} (h : same n x m y = true) : kindA ⟨n, x⟩ = kindA ⟨m, y⟩ := by
  cases n with
  | zero => simp [same] at h
  | succ n =>
    cases m with
    | zero => simp [same] at h
    | succ m =>
      have := (same_parts h).1
      simp only [kindA, this]
theorem sameL_at {α β : Type} (f : α → β → Bool) : (p : List α) → (q : List β) → sameL f p q = true → ∀ (i : Nat) (a : α) (b : β), p[i]? = some a → q[i]? = some b → f a b = true
  | [], _, _, i, a, b, ha, _ => by simp at ha
  | _ :: _, [], h, _, _, _, _, _ => by simp [sameL] at h
  | a :: p, b :: q, h, 0, a', b', ha, hb => by
    simp only [sameL, Bool.and_eq_true] at h
    simp at ha hb
    subst ha hb
    exact h.1
  | a :: p, b :: q, h, i + 1, a', b', ha, hb => by
    simp only [sameL, Bool.and_eq_true] at h
    exact sameL_at f p q h.2 i a' b' (by simpa using ha) (by simpa using hb)
theorem sameL_mapl {α β : Type} (f : β → α → Bool) (g : α → β) : (p : List α) → (∀ a ∈ p, f (g a) a = true) → sameL f (p.map g) p = true
  | [], _ => rfl
  | a :: p, h => by
    simp only [List.map_cons, sameL, Bool.and_eq_true]
    exact ⟨h a (by simp), sameL_mapl f g p fun a' ha => h a' (List.mem_cons_of_mem _ ha)⟩
theorem lift_same : (N n : Nat) → n ≤ N → (x : Tm n) → RightA ⟨n, x⟩ → same N (lift N n x) n x = true
  | _, 0, _, _, h => (zero_bad h).elim
  | 0, n + 1, h, _, _ => by omega
  | N + 1, n + 1, h, x, hr => same_mk rfl (sameL_mapl _ _ _ fun y hy => lift_same N n (by omega) y (parts_right n x y hr hy))
end Go.Proofs.Ytdlckjjfbobmpaa
