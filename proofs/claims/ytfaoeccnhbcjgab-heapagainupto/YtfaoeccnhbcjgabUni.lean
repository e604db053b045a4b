/- What is proved here: plain facts on lists of terms of whatever depth, each taken to one depth: they are the same terms, in the same memory. No condition. -/
import Derived.Test.YtfaoeccnhbcjgabBnd
namespace Go.Proofs.Ytfaoeccnhbcjgab
open Go.RowKit

/-- A term, at another depth. -/
def lift : (N : Nat) → (n : Nat) → Tm n → Tm N
  | 0, _, _ => ()
  | _ + 1, 0, _ => ((0, 0, .empty), (none, 0), [])
  | N + 1, n + 1, x => (x.1, x.2.1, x.2.2.map fun y => lift N n y)
theorem lift_hd (N n : Nat) (x : Tm (n + 1)) : hdT (N + 1) (lift (N + 1) (n + 1) x) = hdT (n + 1) x := by simp [hdT, hdOf, lift]
theorem lift_held (N n : Nat) (h : n ≤ N) (x : Tm n) (w : World) (b o : Nat) (k : Held w b o n x) : Held w b o N (lift N n x) := by
  cases n with
  | zero => exact k.elim
  | succ n =>
    obtain ⟨N, rfl⟩ : ∃ M, N = M + 1 := ⟨N - 1, by omega⟩
    obtain ⟨k0, k1, k2, k3⟩ := k
    exact ⟨k0, k1, k2, by simpa [lift] using k3⟩
theorem lift_in : (N n : Nat) → n ≤ N → (x : Tm n) → (B : Nat) → (w : World) → In B w n x → In B w N (lift N n x)
  | _, 0, _, _, _, _, k => k.elim
  | 0, n + 1, h, _, _, _, _ => by omega
  | N + 1, n + 1, h, x, B, w, k => by
    obtain ⟨k0, k1⟩ := k
    refine ⟨by simpa [lift] using k0, ?_⟩
    rcases k1 with k1 | ⟨b, o, e, hb, k1⟩
    · exact Or.inl (by simp [lift, k1])
    · refine Or.inr ⟨b, o, e, hb, fun i y hy => ?_⟩
      simp only [lift, List.getElem?_map] at hy
      obtain ⟨z, hz, rfl⟩ := Option.map_eq_some_iff.1 hy
      exact ⟨lift_held N n (by omega) z w b _ (k1 i z hz).1, lift_in N n (by omega) z B w (k1 i z hz).2⟩
theorem lift_nodes : (N n : Nat) → n ≤ N → (x : Tm (n + 1)) → nodes (N + 1) (lift (N + 1) (n + 1) x) = nodes (n + 1) x
  | N, 0, _, x => by
    have : ∀ l : List (Tm 0), (l.map fun y => lift N 0 y).flatMap (fun y => nodes N y) = l.flatMap fun y => nodes 0 y := by
      intro l
      induction l with
      | nil => rfl
      | cons a l ih =>
        simp only [List.map_cons, List.flatMap_cons, ih]
        congr 1
        cases N with
        | zero => rfl
        | succ N => simp [lift, nodes]
    simp only [nodes, lift, List.length_map, this]
  | 0, n + 1, h, _ => by omega
  | N + 1, n + 1, h, x => by
    have : ∀ l : List (Tm (n + 1)), (l.map fun y => lift (N + 1) (n + 1) y).flatMap (fun y => nodes (N + 1) y) = l.flatMap fun y => nodes (n + 1) y := by
      intro l
      induction l with
      | nil => rfl
      | cons a l ih =>
        simp only [List.map_cons, List.flatMap_cons, ih]
        rw [lift_nodes N n (by omega) a]
    have e : nodes (N + 2) (lift (N + 2) (n + 2) x) = (x.1, (x.2.1.1, (x.2.2.map fun y => lift (N + 1) (n + 1) y).length, x.2.1.2)) :: (x.2.2.map fun y => lift (N + 1) (n + 1) y).flatMap fun y => nodes (N + 1) y := rfl
    rw [e, this]
    simp [nodes]

def top (b : List An) : Nat := b.foldr (fun a m => max a.1 m) 0
theorem top_le (b : List An) : ∀ a ∈ b, a.1 ≤ top b := by
  induction b with
  | nil => intro a h; cases h
  | cons c b ih =>
    intro a h
    simp only [top, List.foldr_cons]
    rcases List.mem_cons.1 h with rfl | h
    · omega
    · have := ih a h
      unfold top at this
      omega
def uni (b : List An) : List (Tm (top b)) := b.map fun a => lift (top b) a.1 a.2
theorem uni_at (b : List An) (i : Nat) (y : Tm (top b)) (h : (uni b)[i]? = some y) : ∃ a, b[i]? = some a ∧ a.1 ≤ top b ∧ y = lift (top b) a.1 a.2 := by
  simp only [uni, List.getElem?_map] at h
  obtain ⟨a, ha, rfl⟩ := Option.map_eq_some_iff.1 h
  exact ⟨a, ha, top_le b a (List.mem_of_getElem? ha), rfl⟩
theorem uni_lies {base g c B : Nat} {b : List An} {w : World} (h : Has base g c b w) (hb : ∀ y ∈ b, InA B w y) (hB : B ≤ w.heap.size) : Lies w.heap.size w (top b) (uni b) (some ⟨g, 0, none⟩) := by
  refine Or.inr ⟨g, 0, rfl, h.lt.2, fun i y hy => ?_⟩
  obtain ⟨a, ha, hle, rfl⟩ := uni_at b i y hy
  have hin := hb a (List.mem_of_getElem? ha)
  refine ⟨?_, (lift_in _ _ hle _ _ _ hin).mono hB⟩
  obtain ⟨n, x⟩ := a
  have hc := h.cells i _ ha
  cases n with
  | zero => exact hin.elim
  | succ n =>
    rw [Nat.zero_add]
    exact lift_held _ _ hle x w g (i * 4) hc
theorem uni_right {b : List An} (h : ∀ y ∈ b, RightA y ∧ y.1 ≠ 0) : ∀ y ∈ uni b, RightA ⟨top b, y⟩ := by
  intro y hy
  obtain ⟨i, hi⟩ := List.getElem?_of_mem hy
  obtain ⟨a, ha, hle, rfl⟩ := uni_at b i y hi
  have hr := h a (List.mem_of_getElem? ha)
  obtain ⟨n, x⟩ := a
  cases n with
  | zero => exact (hr.2 rfl).elim
  | succ n =>
    intro z hz
    clear hi hy ha h
    generalize top b = T at *
    obtain ⟨M, rfl⟩ : ∃ M, T = M + 1 := ⟨T - 1, by simp only at hle; omega⟩
    have e := lift_nodes M n (by simp only at hle; omega) x
    simp only at hz
    rw [e] at hz
    exact hr.1 z hz
end Go.Proofs.Ytfaoeccnhbcjgab
