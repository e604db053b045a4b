/- What is proved here: plain facts on copying what words stand for (cpF), and how a copying lies in memory: its box, the words it copies from and to, the map of where each tuple went. No condition. -/
import Derived.Test.YtfaoeccnhbcjgabHp13
namespace Go.Proofs.Ytfaoeccnhbcjgab
open Go.RowKit Go.Maps

/-- Where tuples went. -/
abbrev Went := List (Nat × Nat)
def look (g : Went) (p : Nat) : Option Nat := (g.find? fun e => e.1 == p).map fun e => e.2
theorem look_same (g : Went) (p q : Nat) : look ((p, q) :: g) p = some q := by simp [look]
theorem look_other (g : Went) {p r : Nat} (q : Nat) (h : r ≠ p) : look ((p, q) :: g) r = look g r := by
  have : (p == r) = false := by simp; omega
  simp [look, this]
def cpL (f : Wd → List Wd × Went → Wd × List Wd × Went) : List Wd → List Wd × Went → List Wd × List Wd × Went
  | [], S => ([], S)
  | v :: l, S => ((f v S).1 :: (cpL f l (f v S).2).1, (cpL f l (f v S).2).2)
/-- A word's copy, and the words copied and where each went; so deep. -/
def cpF (ws : List Wd) : Nat → Wd → List Wd × Went → Wd × List Wd × Went
  | 0, v, S => (v, S)
  | n + 1, v, S =>
    if v.1 = 4 then
      match look S.2 v.2.toNat with
      | some q => ((4, (q : Int)), S)
      | none =>
        match ws[v.2.toNat]? with
        | some h => ((4, ((cpL (cpF ws n) ((ws.drop (v.2.toNat + 1)).take h.2.toNat) S).2.1.length : Int)), (cpL (cpF ws n) ((ws.drop (v.2.toNat + 1)).take h.2.toNat) S).2.1 ++ (0, h.2) :: (cpL (cpF ws n) ((ws.drop (v.2.toNat + 1)).take h.2.toNat) S).1, (v.2.toNat, (cpL (cpF ws n) ((ws.drop (v.2.toNat + 1)).take h.2.toNat) S).2.1.length) :: (cpL (cpF ws n) ((ws.drop (v.2.toNat + 1)).take h.2.toNat) S).2.2)
        | none => (v, S)
    else (v, S)
theorem cpL_snoc (f : Wd → List Wd × Went → Wd × List Wd × Went) (l : List Wd) (v : Wd) (S : List Wd × Went) : cpL f (l ++ [v]) S = ((cpL f l S).1 ++ [(f v (cpL f l S).2).1], (f v (cpL f l S).2).2) := by
  induction l generalizing S with
  | nil => simp [cpL]
  | cons a l ih => simp [cpL, ih]
theorem cpL_length (f : Wd → List Wd × Went → Wd × List Wd × Went) (l : List Wd) (S : List Wd × Went) : (cpL f l S).1.length = l.length := by
  induction l generalizing S with
  | nil => simp [cpL]
  | cons a l ih => simp [cpL, ih]

/-- D tells where each tuple went. -/
def WentOf (D : DataW Unit) (g : Went) : Prop := ∀ p : Nat, (Maps.has D (.int .i64 p) = true ↔ (look g p).isSome = true) ∧ ∀ q : Nat, look g p = some q → D.atKey (.int .i64 p) (.lit (.int .i64 0)) = .lit (.int .i64 q)
theorem went_nil : WentOf (.map []) [] := fun p => ⟨by simp [Maps.has, look], fun q h => by simp [look] at h⟩
theorem key_int (k : Int) : WideAt.IsKeyLit (.int .i64 k) := by first | trivial | simp [WideAt.IsKeyLit] | decide
theorem went_put {w : World} {mb L : Nat} {D : DataW Unit} {g : Went} (hm : w.ownsMap Try.prog 3 (plainElem Try.prog 3) mb L D) (h : WentOf D g) (p q : Nat) : WentOf (D.put (.int .i64 p) (.lit (.int .i64 q))) ((p, q) :: g) := by
  intro r
  by_cases hr : r = p
  · subst hr
    refine ⟨?_, fun q' hq => ?_⟩
    · rw [has_put_same hm.isMap (key_int _), look_same]
      simp
    · rw [look_same] at hq
      rw [atKey_put_same hm.isMap (key_int _), Option.some.inj hq]
  · have hne : (Lit.int .i64 (r : Int)) ≠ (Lit.int .i64 (p : Int)) := fun e => hr (by injection e with _ e; omega)
    refine ⟨?_, fun q' hq => ?_⟩
    · rw [has_put_other hne, look_other g q hr]
      exact (h r).1
    · rw [look_other g q hr] at hq
      rw [atKey_put_other hne]
      exact (h r).2 q' hq
theorem intLaw : Keyed Try.prog 3 := int_keyed Try.underlying3
end Go.Proofs.Ytfaoeccnhbcjgab
