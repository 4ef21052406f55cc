/-
  The reference model's functions of chapter 5, on hands that are kept whole; no condition.
-/
import Derived.Test.YtkfdbpmnbbhpeaaBoxT
import Derived.Test.YtkfdbpmnbbhpeaaSCall
import Derived.Test.YtkfdbpmnbbhpeaaSChan
set_option linter.unusedSimpArgs false
set_option linter.unusedVariables false
namespace Go.Proofs.Ytkfdbpmnbbhpeaa
open Go.RowKit
attribute [local go_sem ↓] zeroHand toLHand toVHand storeHand storeHandC
set_option maxRecDepth 100000 in
set_option maxHeartbeats 1000000 in
theorem sHandOk_any (h : Ha) (w : World) : Calls Try.prog 6 #[.agg (hvals h)] w fun r w' => r = .returned (.bool (handOk h)) ∧ Below w.heap.size w w' := by
  go_enter Try.func6, Try.ntmps6
  go_wp2_with (first | (go_at_call 15; refine (l1In_any _ _ _ _).mono ?_; rintro _ _ ⟨rfl, rfl⟩) | (go_at_call 18; refine (l1State_any _ _).mono ?_; rintro _ _ ⟨rfl, rfl⟩) | (go_at_call 20; refine (l1Elem_any _ _).mono ?_; rintro _ _ ⟨rfl, rfl⟩) | (go_at_call 19; refine (l2Count_any _ _).mono ?_; rintro _ _ ⟨rfl, rfl⟩) | (go_at_call 17; refine bHit w (by (repeat (with_reducible first | assumption | exact bR | refine bA ?_ | refine bD ?_ | ((first | refine bS ?_ ?_ | refine bBx ?_ ?_); rotate_left; focus (try simp) <;> (try omega))))) fun bb => ?_; refine (sCallOk_any _ _ _).mono ?_; rintro _ w1 ⟨rfl, hbw1⟩; have hCw1 : Below w.heap.size w w1 := bT bb hbw1; have hsw1 := hbw1.size; (try simp at hsw1); have zz := hpB hbw1 (b := w.heap.size) (by (try simp) <;> omega); (try simp [go_sem] at zz); (try clear z_w x_w f_w l_w); have z_w := zz; clear zz; obtain ⟨x_w, f_w, l_w⟩ := bO z_w; clear hbw1 bb) | (go_at_call 16; refine bHit w (by (repeat (with_reducible first | assumption | exact bR | refine bA ?_ | refine bD ?_ | ((first | refine bS ?_ ?_ | refine bBx ?_ ?_); rotate_left; focus (try simp) <;> (try omega))))) fun bb => ?_; refine (l4None_any _ _ _).mono ?_; rintro _ w1 ⟨rfl, hbw1⟩; have hCw1 : Below w.heap.size w w1 := bT bb hbw1; have hsw1 := hbw1.size; (try simp at hsw1); have zz := hpB hbw1 (b := w.heap.size) (by (try simp) <;> omega); (first | simp [go_sem, z_w, l_w] at zz | simp [go_sem] at zz | skip); (try clear z_w x_w f_w l_w); have z_w := zz; clear zz; obtain ⟨x_w, f_w, l_w⟩ := bO z_w; clear hbw1 bb))
  all_goals go_ret
  all_goals exact ⟨ret_bool (by simp_all [handOk, handA, handB, handC]), by (repeat (with_reducible first | assumption | exact bR | refine bA ?_ | refine bD ?_ | ((first | refine bS ?_ ?_ | refine bBx ?_ ?_); rotate_left; focus (try simp) <;> (try omega))))⟩
set_option maxRecDepth 100000 in
theorem sResting_any (x o : Int) (w : World) : Calls Try.prog 9 #[.int .i64 x, .int .i64 o] w fun r w' => r = .returned (.agg (hvals (resting x o))) ∧ Below w.heap.size w w' := by
  go_enter Try.func9, Try.ntmps9
  go_wp2
  refine bodyPost_ret (res_c Try.results9 rfl (ldHand (resting x o) (by simp [go_sem] <;> rfl))) rfl ⟨rfl, by (repeat (with_reducible first | assumption | exact bR | refine bA ?_ | refine bD ?_ | ((first | refine bS ?_ ?_ | refine bBx ?_ ?_); rotate_left; focus (try simp) <;> (try omega))))⟩
set_option maxRecDepth 100000 in
theorem l5Begin_any (k e b : Int) (w : World) : Calls Try.prog 24 #[.agg #[.int .i64 k, .int .i64 e], .int .i64 b] w fun r w' => r = .returned (.agg (hvals (begun k e b))) ∧ Below w.heap.size w w' := by
  by_cases h : k = 2
  · subst h
    go_enter Try.func24, Try.ntmps24
    go_wp2
    refine bodyPost_ret (res_c Try.results24 rfl (ldHand (begun 2 e b) (by simp [go_sem] <;> rfl))) rfl ⟨rfl, by (repeat (with_reducible first | assumption | exact bR | refine bA ?_ | refine bD ?_ | ((first | refine bS ?_ ?_ | refine bBx ?_ ?_); rotate_left; focus (try simp) <;> (try omega))))⟩
  · have e1 : begun k e b = ⟨1, k, e, 0, 0, 0, 0, 0, 0, 0, 0, b, 0, 0⟩ := by simp [begun, h]
    rw [e1]
    have h2 : (k == 2) = false := by simpa using h
    clear h
    go_enter Try.func24, Try.ntmps24
    go_wp2
    refine bodyPost_ret (res_c Try.results24 rfl (ldHand ⟨1, k, e, 0, 0, 0, 0, 0, 0, 0, 0, b, 0, 0⟩ (by simp [go_sem] <;> rfl))) rfl ⟨rfl, by (repeat (with_reducible first | assumption | exact bR | refine bA ?_ | refine bD ?_ | ((first | refine bS ?_ ?_ | refine bBx ?_ ?_); rotate_left; focus (try simp) <;> (try omega))))⟩
end Go.Proofs.Ytkfdbpmnbbhpeaa
