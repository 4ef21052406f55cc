/-
  The contracts of the reference model's functions of chapter 1; no condition.
-/
import Derived.Test.YteocdelblmgocaaBase
namespace Go.Proofs.Yteocdelblmgocaa
open Go.RowKit
set_option maxHeartbeats 400000 in
theorem l1In_any (n m k : Int) (w : World) : Calls Try.prog 25 #[.int .i64 n, .int .i64 m, .int .i64 k] w fun e w' => e = .returned (.bool (inB n m k)) ∧ w = w' := by
  go_enter Try.func25, Try.ntmps25
  go_wp2
  all_goals go_ret
  · exact ⟨ret_bool (inB_lo ‹_›), rfl⟩
  · exact ⟨ret_bool (inB_no (.inl ‹_›)).symm, rfl⟩
set_option maxHeartbeats 400000 in
theorem l1State_any (n : Int) (w : World) : Calls Try.prog 40 #[.int .i64 n] w fun r w' => r = .returned (.bool (inB n 0 10)) ∧ w = w' := by
  go_enter Try.func40, Try.ntmps40
  go_wp2_with (go_at_call 25; refine (l1In_any _ _ _ _).mono ?_; rintro _ _ ⟨rfl, rfl⟩)
  go_ret
  exact ⟨rfl, rfl⟩
set_option maxHeartbeats 400000 in
theorem l1Elem_any (n : Int) (w : World) : Calls Try.prog 41 #[.int .i64 n] w fun r w' => r = .returned (.bool (inB n 0 999)) ∧ w = w' := by
  go_enter Try.func41, Try.ntmps41
  go_wp2_with (go_at_call 25; refine (l1In_any _ _ _ _).mono ?_; rintro _ _ ⟨rfl, rfl⟩)
  go_ret
  exact ⟨rfl, rfl⟩
set_option maxHeartbeats 400000 in
theorem sCellOk_any (s e t : Int) (w : World) : Calls Try.prog 27 #[.agg #[.int .i64 s, .int .i64 e, .int .i64 t]] w fun r w' => r = .returned (.bool (cellB s e t)) ∧ Below w.heap.size w w' := by
  go_enter Try.func27, Try.ntmps27
  go_wp2_with (first | (go_at_call 40; refine (l1State_any _ _).mono ?_; rintro _ _ ⟨rfl, rfl⟩) | (go_at_call 41; refine (l1Elem_any _ _).mono ?_; rintro _ _ ⟨rfl, rfl⟩) | (go_at_call 25; refine (l1In_any _ _ _ _).mono ?_; rintro _ _ ⟨rfl, rfl⟩))
  all_goals go_ret
  all_goals refine ⟨ret_bool ?_, by (repeat (first | with_reducible assumption | with_reducible exact Below.refl _ _ | with_reducible refine bA ?_ | with_reducible refine bD ?_ | ((with_reducible refine bS ?_ ?_); rotate_left; (focus ((try simp); (try omega))))))⟩
  · exact cellB_3 ‹_› ‹_›
  · exact cellB_2 ‹_›
  · exact cellB_1 ‹_›
end Go.Proofs.Yteocdelblmgocaa
