/- What is proved here: add, at a copying; a copying's map that has one more. No condition but sizes. -/
import Derived.Test.YtfaoeccnhbcjgabHp16
namespace Go.Proofs.Ytfaoeccnhbcjgab
open Go.RowKit Go.Maps

theorem row_boxC {w : World} {base : Nat} {e : TypeId} {s n : Nat} {v : Value} {xs : List Value} {cb : Nat} {fv tv mv : Value} (h : w.ownsRow base e s v n xs) (hB : CB cb fv tv mv w) (hne : e ≠ 111) : v.ownBlock ≠ some cb := fun e => by
  rcases h.2 with ⟨rfl, _⟩ | ⟨g', cap, cur, rfl, _, hh, _⟩
  · simp [Value.ownBlock] at e
  · simp [Value.ownBlock] at e
    subst e
    have h2 : w.heap[g']? = _ := hB
    rw [hh] at h2
    injection h2 with h2
    injection h2 with h2 h3
    exact hne h3
theorem row_mapC {w : World} {base : Nat} {e : TypeId} {s n L mb : Nat} {v : Value} {xs : List Value} {D : DataW Unit} (h : w.ownsRow base e s v n xs) (hM : w.ownsMap Try.prog 3 (plainElem Try.prog 3) mb L D) : v.ownBlock ≠ some mb := fun e1 => by
  rcases h.2 with ⟨rfl, _⟩ | ⟨g, cap, cur, rfl, _, hh, _⟩
  · simp [Value.ownBlock] at e1
  · simp only [Value.ownBlock] at e1
    obtain rfl := Option.some.inj e1
    obtain ⟨es, clock, hh', _⟩ := hM
    rw [hh] at hh'
    cases hh'
theorem map_boxC {w : World} {L mb cb : Nat} {D : DataW Unit} {fv tv mv : Value} (hM : w.ownsMap Try.prog 3 (plainElem Try.prog 3) mb L D) (hB : CB cb fv tv mv w) : mb ≠ cb := by
  rintro rfl
  obtain ⟨es, clock, hh', _⟩ := hM
  have h2 : w.heap[mb]? = _ := hB
  rw [hh'] at h2
  cases h2

/-- add, at a copying. -/
theorem addC (base cb : Nat) (fv : Value) (S : List Wd × Went) (M : Nat → Prop) (ps : List Wd) (m pc : Nat) (pa : Option Addr) (w : World) (h : CpAt base cb fv S M w) (hbw : base ≤ w.heap.size) (hL : S.1.length ≤ 100000) (hm : ps.length = m) (hM : m ≤ 1000)
    (HS : ∀ w1, Keep M w w1 → WordsAt w1 ps pa) :
    Calls Try.prog 48 #[.pointer (some ⟨cb, 1, none⟩), .slice pa m pc] w fun e w' => e = .returned (.agg #[.int .i64 4, .int .i64 S.1.length]) ∧ Hid (CLaid base cb fv (S.1 ++ (0, (m : Int)) :: ps, S.2) M w w') := by
  obtain ⟨tv, mb, D, h1, h2, h3, h4, h5, h6, h7⟩ := h
  obtain ⟨⟨c0, c1, c2⟩, hf⟩ := h1.cells
  obtain ⟨ta, tc, htv⟩ : ∃ ta tc, tv = .slice ta S.1.length tc := by
    rcases h2.2 with ⟨e, e0⟩ | ⟨g, c, cur, e, _⟩
    · exact ⟨none, 0, by rw [e, e0]⟩
    · exact ⟨_, c, e⟩
  subst hm
  refine (add_walk base cb 1 tv ta tc S.1.length S.1 ps ps.length pc pa w htv rfl rfl hL hM hbw c1 (hf 1) h1.lt (row_boxC h2 h1 (by decide)) h2 ?_).mono ?_
  · intro w1 k
    refine HS w1 (k.mono ?_)
    rintro b (rfl | e)
    · exact h5
    · exact h6 b e
  · rintro e w' ⟨rfl, tv', H⟩
    obtain ⟨k1, k2, k3, k4⟩ := H.out
    refine ⟨rfl, ⟨tv', mb, D, (h1.set1 tv').kept k2, ?_, ?_, h4, Or.inl h5, ?_, Or.inl h7⟩, k3.mono ?_⟩
    · have e : (S.1 ++ (0, (ps.length : Int)) :: ps).length = S.1.length + 1 + ps.length := by simp; omega
      rw [e]
      exact k1
    · have hl := h3.lt
      have hx1 := map_boxC h3 h1
      have hx2 := row_mapC h2 h3
      obtain ⟨es, clock, hh, hr⟩ := h3
      refine ⟨es, clock, (k3.block mb hl ?_).trans hh, hr⟩
      rintro (e | e)
      · exact hx1 e
      · exact hx2 e
    · intro b e
      rcases k4 b e with e | e
      · exact Or.inl (h6 b e)
      · exact Or.inr e
    · rintro b (rfl | e)
      · exact h5
      · exact h6 b e
end Go.Proofs.Ytfaoeccnhbcjgab
