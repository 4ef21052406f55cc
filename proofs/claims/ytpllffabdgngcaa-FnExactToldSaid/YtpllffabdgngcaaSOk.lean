/-
  The contracts of the reference model's functions of chapter 1; no condition.
-/
import Derived.Test.YtpllffabdgngcaaBase
namespace Go.Proofs.Ytpllffabdgngcaa
open Go.RowKit
set_option maxHeartbeats 400000 in
theorem l1In_any (n m k : Int) (w : World) : Calls Try.prog 35 #[.int .i64 n, .int .i64 m, .int .i64 k] w fun e w' => e = .returned (.bool (inB n m k)) ∧ w = w' := by
  go_enter Try.func35, Try.ntmps35
  go_wp2
  all_goals go_ret
  · exact ⟨ret_bool (inB_lo ‹_›), rfl⟩
  · exact ⟨ret_bool (inB_no (.inl ‹_›)).symm, rfl⟩
set_option maxHeartbeats 400000 in
theorem l1State_any (n : Int) (w : World) : Calls Try.prog 48 #[.int .i64 n] w fun r w' => r = .returned (.bool (inB n 0 10)) ∧ w = w' := by
  go_enter Try.func48, Try.ntmps48
  go_wp2_with (go_at_call 35; refine (l1In_any _ _ _ _).mono ?_; rintro _ _ ⟨rfl, rfl⟩)
  go_ret
  exact ⟨rfl, rfl⟩
set_option maxHeartbeats 400000 in
theorem l1Elem_any (n : Int) (w : World) : Calls Try.prog 49 #[.int .i64 n] w fun r w' => r = .returned (.bool (inB n 0 999)) ∧ w = w' := by
  go_enter Try.func49, Try.ntmps49
  go_wp2_with (go_at_call 35; refine (l1In_any _ _ _ _).mono ?_; rintro _ _ ⟨rfl, rfl⟩)
  go_ret
  exact ⟨rfl, rfl⟩
set_option maxHeartbeats 400000 in
theorem sCellOk_any (s e t : Int) (w : World) : Calls Try.prog 37 #[.agg #[.int .i64 s, .int .i64 e, .int .i64 t]] w fun r w' => r = .returned (.bool (cellB s e t)) ∧ Below w.heap.size w w' := by
  go_enter Try.func37, Try.ntmps37
  go_wp2_with (first | (go_at_call 48; refine (l1State_any _ _).mono ?_; rintro _ _ ⟨rfl, rfl⟩) | (go_at_call 49; refine (l1Elem_any _ _).mono ?_; rintro _ _ ⟨rfl, rfl⟩) | (go_at_call 35; refine (l1In_any _ _ _ _).mono ?_; rintro _ _ ⟨rfl, rfl⟩))
  all_goals go_ret
  all_goals refine ⟨ret_bool ?_, by (repeat (first | with_reducible assumption | with_reducible exact Below.refl _ _ | with_reducible refine bA ?_ | with_reducible refine bD ?_ | ((with_reducible refine bS ?_ ?_); rotate_left; (focus ((try simp); (try omega)))) | ((with_reducible refine bBx ?_ ?_); rotate_left; (focus ((try simp); (try omega))))))⟩
  · exact cellB_3 ‹_› ‹_›
  · exact cellB_2 ‹_›
  · exact cellB_1 ‹_›
end Go.Proofs.Ytpllffabdgngcaa
