/-
  The reference model's functions of chapter 4; no condition.
-/
import Derived.Test.YtkfdbpmnbbhpeaaModel2
import Derived.Test.YtkfdbpmnbbhpeaaSOk
set_option linter.unusedSimpArgs false
set_option linter.unusedVariables false
namespace Go.Proofs.Ytkfdbpmnbbhpeaa
open Go.RowKit
set_option maxRecDepth 100000 in
set_option maxHeartbeats 400000 in
theorem sCallOk_any (k e : Int) (w : World) : Calls Try.prog 17 #[.agg #[.int .i64 k, .int .i64 e]] w fun r w' => r = .returned (.bool (callOk k e)) ∧ Below w.heap.size w w' := by
  go_enter Try.func17, Try.ntmps17
  go_wp2_with (go_at_call 20; refine (l1Elem_any _ _).mono ?_; rintro _ _ ⟨rfl, rfl⟩)
  all_goals go_ret
  all_goals exact ⟨ret_bool (by simp_all [callOk]), by (repeat (with_reducible first | assumption | exact bR | refine bA ?_ | refine bD ?_ | ((first | refine bS ?_ ?_ | refine bBx ?_ ?_); rotate_left; focus (try simp) <;> (try omega))))⟩
set_option maxRecDepth 100000 in
theorem l4None_any (k e : Int) (w : World) : Calls Try.prog 16 #[.agg #[.int .i64 k, .int .i64 e]] w fun r w' => r = .returned (.bool (noCall k e)) ∧ Below w.heap.size w w' := by
  go_enter Try.func16, Try.ntmps16
  go_wp2
  all_goals go_ret
  all_goals exact ⟨ret_bool (by simp_all [noCall]), by (repeat (with_reducible first | assumption | exact bR | refine bA ?_ | refine bD ?_ | ((first | refine bS ?_ ?_ | refine bBx ?_ ?_); rotate_left; focus (try simp) <;> (try omega))))⟩
end Go.Proofs.Ytkfdbpmnbbhpeaa
