/- What is proved here: plain facts on what fits: the function fit of a pattern, a term and what is bound; pairs that are still to be asked; what a fit keeps. No condition. -/
import Derived.Test.YtfaoeccnhbcjgabOrdLaws
namespace Go.Proofs.Ytfaoeccnhbcjgab
open Go.RowKit

/-- A term of whatever depth. -/
abbrev An := (n : Nat) × Tm n
def kindA : An → Int
  | ⟨0, _⟩ => 0
  | ⟨_ + 1, x⟩ => x.1.1
def sameA (x y : An) : Bool := same x.1 x.2 y.1 y.2
def InA (B : Nat) (w : World) (x : An) : Prop := In B w x.1 x.2
def RightA (x : An) : Prop := ∀ a ∈ nodes x.1 x.2, good a = true

def fitL {α β S : Type} (f : α → β → S → Option S) : List α → List β → S → Option S
  | x :: p, y :: q, b => (f x y b).bind (fitL f p q)
  | _, _, b => some b

def fitV (b : List An) (i : Nat) (t : An) : Option (List An) :=
  match b[i]? with
  | some y => if kindA y = 6 then some (b.set i t) else if sameA y t then some b else none
  | none => none

def fit : (n : Nat) → Tm n → (m : Nat) → Tm m → List An → Option (List An)
  | n + 1, p, m + 1, t, b =>
    if p.1.1 = 6 then some b
    else if p.1.1 = 5 then fitV b p.1.2.1.toNat ⟨m + 1, t⟩
    else if p.1.1 = 4 then
      if t.1.1 = 4 ∧ p.2.2.length = t.2.2.length then fitL (fun x y b => fit n x m y b) p.2.2 t.2.2 b else none
    else if same (n + 1) p (m + 1) t then some b else none
  | _, _, _, _, _ => none
def fitA (x y : An) (b : List An) : Option (List An) := fit x.1 x.2 y.1 y.2 b

/-- Pairs that are still to be asked. -/
def fits : List (An × An) → List An → Option (List An)
  | [], b => some b
  | (x, y) :: r, b => (fitA x y b).bind (fits r)

def pairs (n m : Nat) (p : List (Tm n)) (q : List (Tm m)) : List (An × An) := List.zipWith (fun x y => (⟨n, x⟩, ⟨m, y⟩)) p q

theorem fits_pairs (n m : Nat) : (p : List (Tm n)) → (q : List (Tm m)) → (r : List (An × An)) → (b : List An) →
    fits (pairs n m p q ++ r) b = (fitL (fun x y b => fit n x m y b) p q b).bind (fits r)
  | [], q, r, b => by simp [pairs, fitL]
  | x :: p, [], r, b => by simp [pairs, fitL]
  | x :: p, y :: q, r, b => by
    show (fit n x m y b).bind (fits (pairs n m p q ++ r)) = ((fit n x m y b).bind (fitL (fun x y b => fit n x m y b) p q)).bind (fits r)
    rw [Option.bind_assoc]
    congr 1
    funext c
    exact fits_pairs n m p q r c

/-- What holds of each part of what it holds of. -/
def Parts (P : An → Prop) : Prop := ∀ (n : Nat) (x : Tm (n + 1)) (y : Tm n), P ⟨n + 1, x⟩ → y ∈ x.2.2 → P ⟨n, y⟩

theorem fitL_keep {α β S : Type} (f : α → β → S → Option S) (Q : S → Prop) : (p : List α) → (q : List β) → (∀ x ∈ p, ∀ y ∈ q, ∀ b c, Q b → f x y b = some c → Q c) → ∀ b c, Q b → fitL f p q b = some c → Q c
  | [], _, _, b, c, hb, h => by simp [fitL] at h; rw [← h]; exact hb
  | _ :: _, [], _, b, c, hb, h => by simp [fitL] at h; rw [← h]; exact hb
  | x :: p, y :: q, hf, b, c, hb, h => by
    simp only [fitL] at h
    obtain ⟨d, h1, h2⟩ := Option.bind_eq_some_iff.1 h
    exact fitL_keep f Q p q (fun x' hx y' hy => hf x' (List.mem_cons_of_mem _ hx) y' (List.mem_cons_of_mem _ hy)) d c (hf x (by simp) y (by simp) b d hb h1) h2

theorem fitV_keep (P : An → Prop) (b c : List An) (i : Nat) (t : An) (ht : P t) (hb : b.length = 4 ∧ ∀ y ∈ b, P y) (h : fitV b i t = some c) : c.length = 4 ∧ ∀ y ∈ c, P y := by
  unfold fitV at h
  split at h
  · split at h
    · obtain rfl := Option.some.inj h
      refine ⟨by simpa using hb.1, fun y hy => ?_⟩
      rcases List.mem_or_eq_of_mem_set hy with h1 | rfl
      · exact hb.2 y h1
      · exact ht
    · split at h
      · obtain rfl := Option.some.inj h
        exact hb
      · cases h
  · cases h

theorem fit_keep (P : An → Prop) (hP : Parts P) : (n : Nat) → (p : Tm n) → (m : Nat) → (t : Tm m) → P ⟨m, t⟩ → ∀ b c, (b.length = 4 ∧ ∀ y ∈ b, P y) → fit n p m t b = some c → (c.length = 4 ∧ ∀ y ∈ c, P y)
  | 0, _, _, _, _, _, _, _, h => by simp [fit] at h
  | n + 1, _, 0, _, _, _, _, _, h => by simp [fit] at h
  | n + 1, p, m + 1, t, ht, b, c, hb, h => by
    simp only [fit] at h
    split at h
    · obtain rfl := Option.some.inj h; exact hb
    split at h
    · exact fitV_keep P b c _ _ ht hb h
    split at h
    · split at h
      · exact fitL_keep _ _ p.2.2 t.2.2 (fun x hx y hy b c hb hc => fit_keep P hP n x m y (hP m t y ht hy) b c hb hc) b c hb h
      · cases h
    · split at h
      · obtain rfl := Option.some.inj h; exact hb
      · cases h

theorem fitL_drop {α β S : Type} (f : α → β → S → Option S) (p : List α) (q : List β) (k : Nat) (x : α) (y : β) (hx : p[k]? = some x) (hy : q[k]? = some y) (b : S) :
    fitL f (p.drop k) (q.drop k) b = (f x y b).bind (fitL f (p.drop (k + 1)) (q.drop (k + 1))) := by
  obtain ⟨h1, e1⟩ := List.getElem?_eq_some_iff.1 hx
  obtain ⟨h2, e2⟩ := List.getElem?_eq_some_iff.1 hy
  rw [List.drop_eq_getElem_cons h1, List.drop_eq_getElem_cons h2, e1, e2]
  rfl

theorem parts_in (B : Nat) (w : World) : Parts (InA B w) := by
  intro n x y h hy
  rcases h.2 with h1 | ⟨b, o, e, hb, h1⟩
  · have h2 : x.2.2 = [] := h1
    rw [h2] at hy
    cases hy
  · obtain ⟨i, hi⟩ := List.getElem?_of_mem hy
    exact (h1 i y hi).2
theorem parts_right : Parts RightA := fun _ _ _ h hy a ha => h a (nodes_mem hy ha)
theorem parts_and {P Q : An → Prop} (hP : Parts P) (hQ : Parts Q) : Parts fun x => P x ∧ Q x := fun n x y h hy => ⟨hP n x y h.1 hy, hQ n x y h.2 hy⟩
end Go.Proofs.Ytfaoeccnhbcjgab
