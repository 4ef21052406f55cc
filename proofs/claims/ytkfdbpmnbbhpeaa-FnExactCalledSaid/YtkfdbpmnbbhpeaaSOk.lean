/-
  The contracts of the reference model's functions of chapter 1; no condition.
-/
import Derived.Test.YtkfdbpmnbbhpeaaBase
set_option linter.unusedSimpArgs false
set_option linter.unusedVariables false
namespace Go.Proofs.Ytkfdbpmnbbhpeaa
open Go.RowKit
set_option maxHeartbeats 400000 in
theorem l1In_any (n m k : Int) (w : World) : Calls Try.prog 15 #[.int .i64 n, .int .i64 m, .int .i64 k] w fun e w' => e = .returned (.bool (inB n m k)) ∧ w = w' := by
  go_enter Try.func15, Try.ntmps15
  go_wp2
  all_goals go_ret
  · exact ⟨ret_bool (inB_lo ‹_›), rfl⟩
  · exact ⟨ret_bool (inB_no (.inl ‹_›)).symm, rfl⟩
set_option maxHeartbeats 400000 in
theorem l1State_any (n : Int) (w : World) : Calls Try.prog 18 #[.int .i64 n] w fun r w' => r = .returned (.bool (inB n 0 10)) ∧ w = w' := by
  go_enter Try.func18, Try.ntmps18
  go_wp2_with (go_at_call 15; refine (l1In_any _ _ _ _).mono ?_; rintro _ _ ⟨rfl, rfl⟩)
  go_ret
  exact ⟨rfl, rfl⟩
set_option maxHeartbeats 400000 in
theorem l1Elem_any (n : Int) (w : World) : Calls Try.prog 20 #[.int .i64 n] w fun r w' => r = .returned (.bool (inB n 0 999)) ∧ w = w' := by
  go_enter Try.func20, Try.ntmps20
  go_wp2_with (go_at_call 15; refine (l1In_any _ _ _ _).mono ?_; rintro _ _ ⟨rfl, rfl⟩)
  go_ret
  exact ⟨rfl, rfl⟩
end Go.Proofs.Ytkfdbpmnbbhpeaa
