/-
  The contracts of the program's functions of chapter 4; no condition.
-/
import Derived.Test.YtkfdbpmnbbhpeaaModel2
import Derived.Test.YtkfdbpmnbbhpeaaIOk
set_option linter.unusedSimpArgs false
set_option linter.unusedVariables false
namespace Go.Proofs.Ytkfdbpmnbbhpeaa
open Go.RowKit
def mostE (k : Int) : Int := if k == 1 then 999 else (if k == 2 then 0 else -1)
def mayR (k r : Int) : Bool := if r == 1 then k == 1 else (if r == 2 then k == 2 else (if r == 3 || r == 4 then k == 1 || k == 2 else false))
theorem callOk_most (k e : Int) : inB e 0 (mostE k) = callOk k e := by
  unfold mostE callOk
  by_cases h1 : k = 1
  · subst h1; simp
  · by_cases h2 : k = 2
    · subst h2
      simp [inB]
      rw [Bool.eq_iff_iff]; simp; omega
    · have : (if k == 1 then (999 : Int) else if k == 2 then 0 else -1) = -1 := by simp [h1, h2]
      rw [this, inB_no (by omega)]
      simp [h1, h2]
theorem replyOk_may (k e r : Int) : (callOk k e && mayR k r) = replyOk k e r := by
  unfold replyOk
  by_cases hc : callOk k e = true
  · rw [hc]
    have hk : k = 1 ∨ k = 2 := by
      simp [callOk] at hc
      omega
    simp only [Bool.true_and]
    unfold mayR
    by_cases h1 : r = 1
    · subst h1
      rcases hk with rfl | rfl <;> decide
    · by_cases h2 : r = 2
      · subst h2
        rcases hk with rfl | rfl <;> decide
      · by_cases h3 : r = 3
        · subst h3
          rcases hk with rfl | rfl <;> decide
        · by_cases h4 : r = 4
          · subst h4
            rcases hk with rfl | rfl <;> decide
          · have : inB r 1 4 = false := inB_no (by omega)
            simp [h1, h2, h3, h4, this]
  · simp [not_tt hc]
set_option maxHeartbeats 400000 in
theorem mostElem_any (k : Int) (w : World) : Calls Try.prog 30 #[.int .i64 k] w fun r w' => r = .returned (.int .i64 (mostE k)) ∧ w = w' := by
  go_enter Try.func30, Try.ntmps30
  go_wp2
  all_goals go_ret
  all_goals exact ⟨ret_i64 (by simp_all [mostE]), rfl⟩
set_option maxHeartbeats 400000 in
theorem coded_any (k e : Int) (w : World) : Calls Try.prog 27 #[.agg #[.int .i64 k, .int .i64 e]] w fun r w' => r = .returned (.agg #[.int .i64 k, .int .i64 e]) ∧ Below w.heap.size w w' := by
  go_enter Try.func27, Try.ntmps27
  go_wp2
  exact bodyPost_ret (v := .agg #[.int .i64 k, .int .i64 e]) (by simp [results, Try.results27, go_sem, *]) rfl ⟨rfl, by (repeat (with_reducible first | assumption | exact bR | refine bA ?_ | refine bD ?_ | ((first | refine bS ?_ ?_ | refine bBx ?_ ?_); rotate_left; focus (try simp) <;> (try omega))))⟩
set_option maxHeartbeats 400000 in
theorem isRight_any (k e : Int) (w : World) : Calls Try.prog 28 #[.agg #[.int .i64 k, .int .i64 e]] w fun r w' => r = .returned (.bool (callOk k e)) ∧ Below w.heap.size w w' := by
  go_enter Try.func28, Try.ntmps28
  go_wp2_with fail
  go_region_with (first | (go_at_call 30; refine (mostElem_any _ _).mono ?_; rintro _ _ ⟨rfl, rfl⟩) | (go_at_call 29; refine (inRange_any _ _ _).mono ?_; rintro _ _ ⟨rfl, rfl⟩))
  all_goals go_wp2
  all_goals go_ret
  all_goals exact ⟨ret_bool (callOk_most k e), by (repeat (with_reducible first | assumption | exact bR | refine bA ?_ | refine bD ?_ | ((first | refine bS ?_ ?_ | refine bBx ?_ ?_); rotate_left; focus (try simp) <;> (try omega))))⟩
set_option maxHeartbeats 400000 in
theorem callOk_any (k e : Int) (w : World) : Calls Try.prog 22 #[.agg #[.int .i64 k, .int .i64 e]] w fun r w' => r = .returned (.bool (callOk k e)) ∧ Below w.heap.size w w' := by
  go_enter Try.func22, Try.ntmps22
  go_wp2_with fail; refine (coded_any _ _ _).mono ?_; rintro _ w1 ⟨rfl, hbw1⟩; have hBw1 : Below w.heap.size w w1 := bT (by (repeat (with_reducible first | assumption | exact bR | refine bA ?_ | refine bD ?_ | ((first | refine bS ?_ ?_ | refine bBx ?_ ?_); rotate_left; focus (try simp) <;> (try omega))))) hbw1; have hsw1 := hbw1.size; (try (simp at hsw1)); have := fun o => hbw1.cell (p := ⟨w.heap.size, o, none⟩) (by ((try simp); (try omega))); have := fun o => hbw1.frozen (p := ⟨w.heap.size, o, none⟩) (by ((try simp); (try omega))); have : w.heap.size < w1.heap.size := (by omega); have : w.heap.size ≤ w1.heap.size := (by omega); have : w.heap.size ≤ w1.heap.size + 1 := (by omega)
  go_wp2_with fail; refine (isRight_any _ _ _).mono ?_; rintro _ w2 ⟨rfl, hbw2⟩; have hBw2 : Below w.heap.size w w2 := bT (by (repeat (with_reducible first | assumption | exact bR | refine bA ?_ | refine bD ?_ | ((first | refine bS ?_ ?_ | refine bBx ?_ ?_); rotate_left; focus (try simp) <;> (try omega))))) hbw2; have hsw2 := hbw2.size; (try (simp at hsw2)); have := fun o => hbw2.cell (p := ⟨w.heap.size, o, none⟩) (by ((try simp); (try omega))); have := fun o => hbw2.frozen (p := ⟨w.heap.size, o, none⟩) (by ((try simp); (try omega))); have : w.heap.size < w2.heap.size := (by omega); have : w.heap.size ≤ w2.heap.size := (by omega); have : w.heap.size ≤ w2.heap.size + 1 := (by omega)
  go_wp2
  go_ret
  exact ⟨rfl, by (repeat (with_reducible first | assumption | exact bR | refine bA ?_ | refine bD ?_ | ((first | refine bS ?_ ?_ | refine bBx ?_ ?_); rotate_left; focus (try simp) <;> (try omega))))⟩
end Go.Proofs.Ytkfdbpmnbbhpeaa
