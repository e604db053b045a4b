/- What is proved here: a law for a call of put inside a region that draws its order: by its contract. No condition. -/
import Derived.Test.YtfaoeccnhbcjgabPut0
import Derived.Deep.RegionLaw
namespace Go.Proofs.Ytfaoeccnhbcjgab
open Go.RowKit

theorem step_put {w : World} {ops : Array Oper} {o : Oper} {a : Act} {K : Act → World → Prop} {Q : Exit → Act → World → Prop} {E : Prop} (hgd : o.guard = none) (x y : Operand) (ho : o.op = .call { callee := .value (.func 32), args := #[x, y], argTypes := #[24, 22] })
    (vx vy : Value) (hx : a.eval x = vx) (hy : a.eval y = vy) (R : Ending → World → Prop) (hc : Calls Try.prog 32 #[vx, vy] w R) (hK : ∀ e w', R e w' → ∃ v, e = .returned v ∧ K (a.put o.dst v) w') :
    if Region.wanted o (yielded ops a.tmps) = true then Oper.wp Try.prog o a w K Q else E := by
  have hw : Region.wanted o (yielded ops a.tmps) = true := by simp [Region.wanted, hgd]
  rw [if_pos hw]
  unfold Oper.wp
  have hr : (execOp a.eval o).run Try.prog w = .ok (.enter 32 #[vx, vy]) w := by
    have hf : a.eval (.func 32) = .func (Fn.func 32) #[] #[] := rfl
    have hn : ¬ Try.f32.name = "runtime.NumGoroutine" := by decide +kernel
    have hb : ¬ Try.f32.body = none := by
      intro h
      have h2 : Try.f32.body.isNone = false := by kernel_rfl
      rw [h] at h2
      cases h2
    simp [execOp, ho, resolve, Deferred.ofValue, invoke, callFunc, hx, hy, hf, hn, hb]
  rw [hr, Oper.upon_enter]
  refine hc.mono ?_
  intro e w' h
  obtain ⟨v, rfl, hk⟩ := hK e w' h
  exact hk
end Go.Proofs.Ytfaoeccnhbcjgab
