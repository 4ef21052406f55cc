/-
  The reference model's functions of chapter 4; no condition.
-/
import Derived.Test.YtccbbdmoedmcpaaModel2
import Derived.Test.YtccbbdmoedmcpaaSOk
namespace Go.Proofs.Ytccbbdmoedmcpaa
open Go.RowKit
set_option maxRecDepth 100000 in
set_option maxHeartbeats 400000 in
theorem sCallOk_any (k e : Int) (w : World) : Calls Try.prog 12 #[.agg #[.int .i64 k, .int .i64 e]] w fun r w' => r = .returned (.bool (callOk k e)) ∧ Below w.heap.size w w' := by
  go_enter Try.func12, Try.ntmps12
  go_wp2_with (go_at_call 23; refine (l1Elem_any _ _).mono ?_; rintro _ _ ⟨rfl, rfl⟩)
  all_goals go_ret
  all_goals exact ⟨ret_bool (by simp_all [callOk]), by (repeat (first | with_reducible assumption | with_reducible exact Below.refl _ _ | with_reducible refine bA ?_ | with_reducible refine bD ?_ | ((with_reducible refine bS ?_ ?_); rotate_left; (focus ((try simp); (try omega)))) | ((with_reducible refine bBx ?_ ?_); rotate_left; (focus ((try simp); (try omega))))))⟩
set_option maxRecDepth 100000 in
set_option maxHeartbeats 400000 in
theorem sReplyOk_any (k e x : Int) (w : World) : Calls Try.prog 10 #[.agg #[.int .i64 k, .int .i64 e], .int .i64 x] w fun r w' => r = .returned (.bool (replyOk k e x)) ∧ Below w.heap.size w w' := by
  go_enter Try.func10, Try.ntmps10
  go_wp2_with (first | (go_at_call 12; refine (sCallOk_any _ _ _).mono ?_; rintro _ w1 ⟨rfl, hbw1⟩; have hBw1 : Below w.heap.size w w1 := bT (by (repeat (first | with_reducible assumption | with_reducible exact Below.refl _ _ | with_reducible refine bA ?_ | with_reducible refine bD ?_ | ((with_reducible refine bS ?_ ?_); rotate_left; (focus ((try simp); (try omega)))) | ((with_reducible refine bBx ?_ ?_); rotate_left; (focus ((try simp); (try omega))))))) hbw1; have hsw1 := hbw1.size; (try (simp at hsw1)); have := fun o => hbw1.cell (p := ⟨w.heap.size, o, none⟩) (by ((try simp); (try omega))); have := fun o => hbw1.frozen (p := ⟨w.heap.size, o, none⟩) (by ((try simp); (try omega))); have : w.heap.size < w1.heap.size := (by omega); have : w.heap.size ≤ w1.heap.size := (by omega); have : w.heap.size ≤ w1.heap.size + 1 := (by omega)) | (go_at_call 22; refine (l1In_any _ _ _ _).mono ?_; rintro _ _ ⟨rfl, rfl⟩))
  all_goals go_ret
  all_goals exact ⟨ret_bool (by simp_all [replyOk]), by (repeat (first | with_reducible assumption | with_reducible exact Below.refl _ _ | with_reducible refine bA ?_ | with_reducible refine bD ?_ | ((with_reducible refine bS ?_ ?_); rotate_left; (focus ((try simp); (try omega)))) | ((with_reducible refine bBx ?_ ?_); rotate_left; (focus ((try simp); (try omega))))))⟩
end Go.Proofs.Ytccbbdmoedmcpaa
