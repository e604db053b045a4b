/- What is proved here: the document's Order, for every pair of terms that lie in memory: it returns what the plain function rord says, and turns no memory that was there. No condition but that the terms lie in memory. -/
import Derived.Test.YtijgckcaopiipaaROrd
namespace Go.Proofs.Ytijgckcaopiipaa
open Go.RowKit

theorem rorder_nil (w : World) (u u' : Int) (s s' : ByteArray) (a a' : Option Addr) (pc qc : Nat) :
    Calls Try.prog 7 #[.agg #[.int .i64 4, .int .i64 u, .string s, .slice a 0 pc], .agg #[.int .i64 4, .int .i64 u', .string s', .slice a' 0 qc]] w fun e w' =>
      e = .returned (.int .i64 0) ∧ Below w.heap.size w w' := by
  go_enter Try.func7, Try.ntmps7
  go_wp2_with (go_at_call 18; refine (less_same _ _).mono ?_; rintro e w' ⟨rfl, rfl⟩)
  go_loop [8] (fun i => i = .int .i64 0) (fun _ => 0)
  case atStart => rfl
  case round =>
    obtain rfl := hrel
    go_wp2_with fail
    go_ret
    exact ⟨rfl, ((Below.refl _ _).alloc (Nat.le_refl _) _).alloc (by simp) _⟩

theorem rorder_any (n : Nat) : F7 n := by
  induction n with
  | zero => intro x m y B w hx; exact hx.elim
  | succ n ih =>
    intro x m y B w hx hy hB
    cases m with
    | zero => exact hy.elim
    | succ m =>
    obtain ⟨⟨k, u, s⟩, ⟨a, pc⟩, p⟩ := x
    obtain ⟨⟨k', u', s'⟩, ⟨a', qc⟩, q⟩ := y
    obtain ⟨⟨hk, hu, hs, hpl, hpc⟩, hp⟩ := hx
    obtain ⟨⟨hk', hu', hs', hql, hqc⟩, hq⟩ := hy
    simp only at hk hu hs hpl hpc hp hk' hu' hs' hql hqc hq
    show Calls Try.prog 7 #[.agg #[.int .i64 k, .int .i64 u, .string s, .slice a p.length pc], .agg #[.int .i64 k', .int .i64 u', .string s', .slice a' q.length qc]] w fun e w' => e = .returned (.int .i64 (if k = k' then
      if k = 2 then cmpR s s' else if k = 4 then if p.length = q.length then ordL (fun a b => rord n a m b) p q else cmpI p.length q.length
      else cmpI u u' else cmpI k k')) ∧ Below w.heap.size w w'
    unfold maxLen at hpc hqc
    by_cases e : k = k'
    · subst e
      rw [if_pos rfl]
      by_cases e2 : k = 2
      · subst e2
        exact rorder_str w u u' s s' a a' p.length q.length pc qc
      rw [if_neg e2]
      by_cases e4 : k = 4
      · subst e4
        rw [if_pos rfl]
        by_cases hl : p.length = q.length
        · rw [if_pos hl]
          rcases hp with hp | ⟨pb, po, rfl, hpb, hp⟩
          · subst hp
            have hq0 : q = [] := List.eq_nil_of_length_eq_zero hl.symm
            subst hq0
            exact rorder_nil w u u' s s' a a' pc qc
          · rcases hq with hq | ⟨qb, qo, rfl, hqb, hq⟩
            · subst hq
              have hp0 : p = [] := List.eq_nil_of_length_eq_zero hl
              subst hp0
              exact rorder_nil w u u' s s' _ a' pc qc
            · have h := rorder_tup n m ih p q p.length rfl hl.symm pb po qb qo pc qc B w u u' s s' (by omega) hpb hqb hp hq hB
              rw [hl] at h
              rw [hl]
              exact h
        · rw [if_neg hl]
          exact rorder_len w u u' s s' a a' p.length q.length pc qc (by omega)
      rw [if_neg e4]
      exact rorder_else w k u u' s s' a a' p.length q.length pc qc e2 e4
    · rw [if_neg e]
      exact rorder_kind w k k' u u' s s' a a' p.length q.length pc qc e
end Go.Proofs.Ytijgckcaopiipaa
