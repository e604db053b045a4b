/- What is proved here: cmp.Compare of two ints, and of two strings, returns -1, 0 or 1 as they stand to each other, and turns nothing. No condition but that the ints are ints. -/
import Derived.Test.YtfaoeccnhbcjgabTree
namespace Go.Proofs.Ytfaoeccnhbcjgab
open Go.RowKit

set_option maxHeartbeats 400000 in
theorem cmpI_any (x y : Int) (w : World) :
    Calls Try.prog 35 #[.int .i64 x, .int .i64 y] w fun e w' => e = .returned (.int .i64 (cmpI x y)) ∧ w' = w := by
  go_enter Try.func35, Try.ntmps35
  go_wp2
  all_goals go_ret
  all_goals refine ⟨ret_int ?_, rfl⟩
  all_goals unfold cmpI
  all_goals (repeat' split) <;> omega

set_option maxHeartbeats 400000 in
theorem cmpS_any (x y : ByteArray) (w : World) :
    Calls Try.prog 36 #[.string x, .string y] w fun e w' => e = .returned (.int .i64 (cmpS x y)) ∧ w' = w := by
  go_enter Try.func36, Try.ntmps36
  go_wp2
  all_goals go_ret
  all_goals refine ⟨ret_int ?_, rfl⟩
  all_goals unfold cmpS
  all_goals simp [*]

end Go.Proofs.Ytfaoeccnhbcjgab
