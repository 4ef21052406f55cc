/-
  The exact laws of chapter 5 return true, whatever they are called with, and turn nothing that was there; no condition.
-/
import Derived.Test.YtkfdbpmnbbhpeaaICalled
import Derived.Test.YtkfdbpmnbbhpeaaSCalled
import Derived.Test.YtkfdbpmnbbhpeaaLawsK
import Derived.Deep.RegionHeld3
import Derived.Deep.DeepCutAuto
set_option linter.unusedSimpArgs false
set_option linter.unusedVariables false
namespace Go.Proofs.Ytkfdbpmnbbhpeaa
open Go.RowKit
attribute [local go_sem ↓] zeroHand toLHand toVHand storeHand storeHandC
attribute [local go_sem ↓] toLHandL
set_option maxRecDepth 100000 in
set_option maxHeartbeats 1000000 in
theorem exactHandOk_any (h : Ha) (w : World) : Calls Try.prog 3 #[.agg (hvals h)] w fun r w' => r = .returned (.bool true) ∧ Below w.heap.size w w' := by
  go_enter Try.func3, Try.ntmps3
  go_wp2_with fail; refine bHit w (by (repeat (with_reducible first | assumption | exact bR | refine bA ?_ | refine bD ?_ | ((first | refine bS ?_ ?_ | refine bBx ?_ ?_); rotate_left; focus (try simp) <;> (try omega))))) fun bb => ?_; refine (toHand_any h _).mono ?_; rintro _ w1 ⟨rfl, hbw1⟩; have hCw1 : Below w.heap.size w w1 := bT bb hbw1; have hsw1 := hbw1.size; (try simp at hsw1); have zz := hpB hbw1 (b := w.heap.size) (by (try simp) <;> omega); (try simp [go_sem] at zz); (try clear z_w x_w f_w l_w); have z_w := zz; clear zz; obtain ⟨x_w, f_w, l_w⟩ := bO z_w; clear hbw1 bb
  go_wp2_with fail; refine bHit w (by (repeat (with_reducible first | assumption | exact bR | refine bA ?_ | refine bD ?_ | ((first | refine bS ?_ ?_ | refine bBx ?_ ?_); rotate_left; focus (try simp) <;> (try omega))))) fun bb => ?_; refine (sHandOk_any h _).mono ?_; rintro _ w2 ⟨rfl, hbw2⟩; have hCw2 : Below w.heap.size w w2 := bT bb hbw2; have hsw2 := hbw2.size; (try simp at hsw2); have zz := hpB hbw2 (b := w.heap.size) (by (try simp) <;> omega); (first | simp [go_sem, z_w, l_w] at zz | simp [go_sem] at zz | skip); (try clear z_w x_w f_w l_w); have z_w := zz; clear zz; obtain ⟨x_w, f_w, l_w⟩ := bO z_w; clear hbw2 bb
  go_wp2_with fail; refine bHit w (by (repeat (with_reducible first | assumption | exact bR | refine bA ?_ | refine bD ?_ | ((first | refine bS ?_ ?_ | refine bBx ?_ ?_); rotate_left; focus (try simp) <;> (try omega))))) fun bb => ?_; refine (toHand_any h _).mono ?_; rintro _ w3 ⟨rfl, hbw3⟩; have hCw3 : Below w.heap.size w w3 := bT bb hbw3; have hsw3 := hbw3.size; (try simp at hsw3); have zz := hpB hbw3 (b := w.heap.size) (by (try simp) <;> omega); (first | simp [go_sem, z_w, l_w] at zz | simp [go_sem] at zz | skip); (try clear z_w x_w f_w l_w); have z_w := zz; clear zz; obtain ⟨x_w, f_w, l_w⟩ := bO z_w; clear hbw3 bb
  go_wp2_with fail; refine bHit w (by (repeat (with_reducible first | assumption | exact bR | refine bA ?_ | refine bD ?_ | ((first | refine bS ?_ ?_ | refine bBx ?_ ?_); rotate_left; focus (try simp) <;> (try omega))))) fun bb => ?_; refine (handOk_any h _).mono ?_; rintro _ w4 ⟨rfl, hbw4⟩; have hCw4 : Below w.heap.size w w4 := bT bb hbw4; have hsw4 := hbw4.size; (try simp at hsw4); have zz := hpB hbw4 (b := w.heap.size) (by (try simp) <;> omega); (first | simp [go_sem, z_w, l_w] at zz | simp [go_sem] at zz | skip); (try clear z_w x_w f_w l_w); have z_w := zz; clear zz; obtain ⟨x_w, f_w, l_w⟩ := bO z_w; clear hbw4 bb
  go_wp2
  all_goals go_ret
  exact ⟨rfl, by (repeat (with_reducible first | assumption | exact bR | refine bA ?_ | refine bD ?_ | ((first | refine bS ?_ ?_ | refine bBx ?_ ?_); rotate_left; focus (try simp) <;> (try omega))))⟩
set_option maxRecDepth 100000 in
set_option maxHeartbeats 1000000 in
theorem exactResting_any (x o : Int) (w : World) : Calls Try.prog 4 #[.int .i64 x, .int .i64 o] w fun r w' => r = .returned (.bool true) ∧ Below w.heap.size w w' := by
  go_enter Try.func4, Try.ntmps4
  go_wp2_with fail; refine bHit w (by (repeat (with_reducible first | assumption | exact bR | refine bA ?_ | refine bD ?_ | ((first | refine bS ?_ ?_ | refine bBx ?_ ?_); rotate_left; focus (try simp) <;> (try omega))))) fun bb => ?_; refine (sResting_any x o _).mono ?_; rintro _ w1 ⟨rfl, hbw1⟩; have hCw1 : Below w.heap.size w w1 := bT bb hbw1; have hsw1 := hbw1.size; (try simp at hsw1); clear hbw1 bb
  go_wp2_with fail; refine bHit w (by (repeat (with_reducible first | assumption | exact bR | refine bA ?_ | refine bD ?_ | ((first | refine bS ?_ ?_ | refine bBx ?_ ?_); rotate_left; focus (try simp) <;> (try omega))))) fun bb => ?_; refine (resting_any x o _).mono ?_; rintro _ w2 ⟨rfl, hbw2⟩; have hCw2 : Below w.heap.size w w2 := bT bb hbw2; have hsw2 := hbw2.size; (try simp at hsw2); have zz := hpB hbw2 (b := w1.heap.size) (by (try simp) <;> omega); (try simp [go_sem] at zz); (try clear z_w1 x_w1 f_w1 l_w1); have z_w1 := zz; clear zz; obtain ⟨x_w1, f_w1, l_w1⟩ := bO z_w1; clear hbw2 bb
  go_wp2_with fail; refine bHit w (by (repeat (with_reducible first | assumption | exact bR | refine bA ?_ | refine bD ?_ | ((first | refine bS ?_ ?_ | refine bBx ?_ ?_); rotate_left; focus (try simp) <;> (try omega))))) fun bb => ?_; refine (eqHand_any (resting x o) _).mono ?_; rintro _ w3 ⟨rfl, hbw3⟩; have hCw3 : Below w.heap.size w w3 := bT bb hbw3; have hsw3 := hbw3.size; (try simp at hsw3); have zz := hpB hbw3 (b := w1.heap.size) (by (try simp) <;> omega); (first | simp [go_sem, z_w1, l_w1] at zz | simp [go_sem] at zz | skip); (try clear z_w1 x_w1 f_w1 l_w1); have z_w1 := zz; clear zz; obtain ⟨x_w1, f_w1, l_w1⟩ := bO z_w1; clear hbw3 bb
  go_wp2
  go_ret
  exact ⟨rfl, by (repeat (with_reducible first | assumption | exact bR | refine bA ?_ | refine bD ?_ | ((first | refine bS ?_ ?_ | refine bBx ?_ ?_); rotate_left; focus (try simp) <;> (try omega))))⟩
set_option maxRecDepth 100000 in
set_option maxHeartbeats 1000000 in
theorem exactCalled_any (h : Ha) (k e : Int) (w : World) : Calls Try.prog 5 #[.agg (hvals h), .agg #[.int .i64 k, .int .i64 e]] w fun r w' => r = .returned (.bool true) ∧ Below w.heap.size w w' := by
  obtain ⟨p, hq⟩ : ∃ p, called h k e = p := ⟨_, rfl⟩
  have cS := sCalled_any h k e
  have cI := called_any h k e
  rw [hq] at cS cI
  clear hq
  go_enter Try.func5, Try.ntmps5
  go_upto_region 1 with fail
  go_cut [5, 6] (fun s5 s6 wx => ∃ g : Nat, s5 = .pointer (some ⟨g, 0, none⟩) ∧ s6 = .int .i64 p.2 ∧ hp wx g = some (.cells (hvals p.1) 29) ∧ hp wx w.heap.size = some (.cells (hvals h) 25) ∧ hp wx (w.heap.size + 1) = some (.cells #[.int .i64 k, .int .i64 e] 23) ∧ Below w.heap.size w wx ∧ w.heap.size + 2 ≤ g)
  case first =>
    go_region_held3 (fun w' => hp w' w.heap.size = some (.cells (hvals h) 25) ∧ hp w' (w.heap.size + 1) = some (.cells #[.int .i64 k, .int .i64 e] 23) ∧ w'.cell? ⟨w.heap.size + 1, 0, none⟩ = some (.int .i64 k) ∧ w'.cell? ⟨w.heap.size + 1, 1, none⟩ = some (.int .i64 e))
      (first | (simp [*, go_sem]))
      (first | (go_at_call 7; refine (toHand_any h _).mono ?_; rintro _ w1 ⟨rfl, hbw1⟩; have hCw1 : Below w.heap.size w w1 := bT (by (repeat (with_reducible first | assumption | exact bR | refine bA ?_ | refine bD ?_ | ((first | refine bS ?_ ?_ | refine bBx ?_ ?_); rotate_left; focus (try simp) <;> (try omega))))) hbw1; have hsw1 := hbw1.size; (try simp at hsw1); have z0w1 := hpB hbw1 (b := w.heap.size) (by (try simp) <;> omega); have z1w1 := hpB hbw1 (b := w.heap.size + 1) (by (try simp) <;> omega); (simp [go_sem] at z0w1 z1w1); have x0w1 := (bO z0w1).1; have x1w1 := (bO z1w1).1; have l0w1 : w.heap.size < w1.heap.size := (by omega); have l1w1 : w.heap.size + 1 < w1.heap.size := (by omega); have t0w1 := hpB hbw1 (b := w.heap.size + 1 + 1); (try simp [go_sem] at t0w1)) | (go_at_call 13; refine (toCall_whole k e _).mono ?_; rintro _ w2 ⟨rfl, hbw2⟩; have hCw2 : Below w.heap.size w w2 := bT (by (repeat (with_reducible first | assumption | exact bR | refine bA ?_ | refine bD ?_ | ((first | refine bS ?_ ?_ | refine bBx ?_ ?_); rotate_left; focus (try simp) <;> (try omega))))) hbw2; have hsw2 := hbw2.size; (try simp at hsw2); have z0w2 := hpB hbw2 (b := w.heap.size) (by (try simp) <;> omega); have z1w2 := hpB hbw2 (b := w.heap.size + 1) (by (try simp) <;> omega); (simp [go_sem, z0w1, z1w1, l0w1, l1w1] at z0w2 z1w2); have x0w2 := (bO z0w2).1; have x1w2 := (bO z1w2).1; have l0w2 : w.heap.size < w2.heap.size := (by omega); have l1w2 : w.heap.size + 1 < w2.heap.size := (by omega); (first | (have m0w2 := (bO t0w1).2.2; have t0w2 := hpB hbw2 (b := w.heap.size + 1 + 1); (simp [go_sem, t0w1, m0w2] at t0w2)) | (have t0w2 := hpB hbw2 (b := w.heap.size + 1 + 1); (try simp [go_sem] at t0w2))); have t1w2 := hpB hbw2 (b := w1.heap.size); (try simp [go_sem] at t1w2)) | (go_at_call 12; refine (cS _).mono ?_; rintro _ w3 ⟨rfl, hbw3⟩; have hCw3 : Below w.heap.size w w3 := bT (by (repeat (with_reducible first | assumption | exact bR | refine bA ?_ | refine bD ?_ | ((first | refine bS ?_ ?_ | refine bBx ?_ ?_); rotate_left; focus (try simp) <;> (try omega))))) hbw3; have hsw3 := hbw3.size; (try simp at hsw3); have z0w3 := hpB hbw3 (b := w.heap.size) (by (try simp) <;> omega); have z1w3 := hpB hbw3 (b := w.heap.size + 1) (by (try simp) <;> omega); (simp [go_sem, z0w2, z1w2, l0w2, l1w2] at z0w3 z1w3); have x0w3 := (bO z0w3).1; have x1w3 := (bO z1w3).1; have l0w3 : w.heap.size < w3.heap.size := (by omega); have l1w3 : w.heap.size + 1 < w3.heap.size := (by omega); (first | (have m0w3 := (bO t0w2).2.2; have t0w3 := hpB hbw3 (b := w.heap.size + 1 + 1); (simp [go_sem, t0w2, m0w3] at t0w3)) | (have t0w3 := hpB hbw3 (b := w.heap.size + 1 + 1); (try simp [go_sem] at t0w3))); (first | (have m1w3 := (bO t1w2).2.2; have t1w3 := hpB hbw3 (b := w1.heap.size); (simp [go_sem, t1w2, m1w3] at t1w3)) | (have t1w3 := hpB hbw3 (b := w1.heap.size); (try simp [go_sem] at t1w3))); have t2w3 := hpB hbw3 (b := w2.heap.size); (try simp [go_sem] at t2w3)))
    all_goals (go_wp2_with fail)
    all_goals go_meet
    all_goals first | (refine ⟨_, rfl, rfl, by simp [go_sem, *], by simp [go_sem, *], by simp [go_sem, *], by (repeat (with_reducible first | assumption | exact bR | refine bA ?_ | refine bD ?_ | ((first | refine bS ?_ ?_ | refine bBx ?_ ?_); rotate_left; focus (try simp) <;> (try omega)))), by omega⟩)
  case rest =>
    obtain ⟨g, rfl, rfl, zg, z0, z1, hB, hg⟩ := hcut
    have x1 := (bO z1).1
    have l0 := (bO z0).2.2
    have l1 := (bO z1).2.2
    have lg := (bO zg).2.2
    go_upto_region 2 with fail
    go_cut [5, 6, 7, 8] (fun s5 s6 s7 s8 wx => ∃ g g' : Nat, s5 = .pointer (some ⟨g, 0, none⟩) ∧ s6 = .int .i64 p.2 ∧ s7 = .pointer (some ⟨g', 0, none⟩) ∧ s8 = .int .i64 p.2 ∧ hp wx g = some (.cells (hvals p.1) 29) ∧ hp wx g' = some (.cells (hvals p.1) 29) ∧ Below w.heap.size w wx)
    case first =>
      go_region_held3 (fun w' => hp w' w.heap.size = some (.cells (hvals h) 25) ∧ hp w' (w.heap.size + 1) = some (.cells #[.int .i64 k, .int .i64 e] 23) ∧ w'.cell? ⟨w.heap.size + 1, 0, none⟩ = some (.int .i64 k) ∧ w'.cell? ⟨w.heap.size + 1, 1, none⟩ = some (.int .i64 e))
        (first | (simp [*, go_sem]))
        (first | (go_at_call 7; refine (toHand_any h _).mono ?_; rintro _ w1 ⟨rfl, hbw1⟩; have hCw1 : Below w.heap.size w w1 := bT (by (repeat (with_reducible first | assumption | exact bR | refine bA ?_ | refine bD ?_ | ((first | refine bS ?_ ?_ | refine bBx ?_ ?_); rotate_left; focus (try simp) <;> (try omega))))) hbw1; have hsw1 := hbw1.size; (try simp at hsw1); have z0w1 := hpB hbw1 (b := w.heap.size) (by (try simp) <;> omega); have z1w1 := hpB hbw1 (b := w.heap.size + 1) (by (try simp) <;> omega); have zgw1 := hpB hbw1 (b := g) (by (try simp) <;> omega); (simp [go_sem, z0, z1, zg, l0, l1, lg] at z0w1 z1w1 zgw1); have x0w1 := (bO z0w1).1; have x1w1 := (bO z1w1).1; have l0w1 : w.heap.size < w1.heap.size := (by omega); have l1w1 : w.heap.size + 1 < w1.heap.size := (by omega); have lgw1 : g < w1.heap.size := (by omega); have t0w1 := hpB hbw1 (b := wc.heap.size); (try simp [go_sem] at t0w1)) | (go_at_call 13; refine (toCall_whole k e _).mono ?_; rintro _ w2 ⟨rfl, hbw2⟩; have hCw2 : Below w.heap.size w w2 := bT (by (repeat (with_reducible first | assumption | exact bR | refine bA ?_ | refine bD ?_ | ((first | refine bS ?_ ?_ | refine bBx ?_ ?_); rotate_left; focus (try simp) <;> (try omega))))) hbw2; have hsw2 := hbw2.size; (try simp at hsw2); have z0w2 := hpB hbw2 (b := w.heap.size) (by (try simp) <;> omega); have z1w2 := hpB hbw2 (b := w.heap.size + 1) (by (try simp) <;> omega); have zgw2 := hpB hbw2 (b := g) (by (try simp) <;> omega); (simp [go_sem, z0w1, z1w1, zgw1, l0w1, l1w1, lgw1] at z0w2 z1w2 zgw2); have x0w2 := (bO z0w2).1; have x1w2 := (bO z1w2).1; have l0w2 : w.heap.size < w2.heap.size := (by omega); have l1w2 : w.heap.size + 1 < w2.heap.size := (by omega); have lgw2 : g < w2.heap.size := (by omega); (first | (have m0w2 := (bO t0w1).2.2; have t0w2 := hpB hbw2 (b := wc.heap.size); (simp [go_sem, t0w1, m0w2] at t0w2)) | (have t0w2 := hpB hbw2 (b := wc.heap.size); (try simp [go_sem] at t0w2))); have t1w2 := hpB hbw2 (b := w1.heap.size); (try simp [go_sem] at t1w2)) | (go_at_call 14; refine (cI _).mono ?_; rintro _ w3 ⟨rfl, hbw3⟩; have hCw3 : Below w.heap.size w w3 := bT (by (repeat (with_reducible first | assumption | exact bR | refine bA ?_ | refine bD ?_ | ((first | refine bS ?_ ?_ | refine bBx ?_ ?_); rotate_left; focus (try simp) <;> (try omega))))) hbw3; have hsw3 := hbw3.size; (try simp at hsw3); have z0w3 := hpB hbw3 (b := w.heap.size) (by (try simp) <;> omega); have z1w3 := hpB hbw3 (b := w.heap.size + 1) (by (try simp) <;> omega); have zgw3 := hpB hbw3 (b := g) (by (try simp) <;> omega); (simp [go_sem, z0w2, z1w2, zgw2, l0w2, l1w2, lgw2] at z0w3 z1w3 zgw3); have x0w3 := (bO z0w3).1; have x1w3 := (bO z1w3).1; have l0w3 : w.heap.size < w3.heap.size := (by omega); have l1w3 : w.heap.size + 1 < w3.heap.size := (by omega); have lgw3 : g < w3.heap.size := (by omega); (first | (have m0w3 := (bO t0w2).2.2; have t0w3 := hpB hbw3 (b := wc.heap.size); (simp [go_sem, t0w2, m0w3] at t0w3)) | (have t0w3 := hpB hbw3 (b := wc.heap.size); (try simp [go_sem] at t0w3))); (first | (have m1w3 := (bO t1w2).2.2; have t1w3 := hpB hbw3 (b := w1.heap.size); (simp [go_sem, t1w2, m1w3] at t1w3)) | (have t1w3 := hpB hbw3 (b := w1.heap.size); (try simp [go_sem] at t1w3))); have t2w3 := hpB hbw3 (b := w2.heap.size); (try simp [go_sem] at t2w3)))
      all_goals (go_wp2_with fail)
      all_goals go_meet
      all_goals first | (refine ⟨g, _, rfl, rfl, rfl, rfl, by simp [go_sem, *], by simp [go_sem, *], by (repeat (with_reducible first | assumption | exact bR | refine bA ?_ | refine bD ?_ | ((first | refine bS ?_ ?_ | refine bBx ?_ ?_); rotate_left; focus (try simp) <;> (try omega))))⟩)
    case rest =>
      obtain ⟨g, g', rfl, rfl, rfl, rfl, zg, zh, hB⟩ := hcut
      have lg := (bO zg).2.2
      have lh := (bO zh).2.2
      go_wp2_with fail
      refine (eqHand_any p.1 _).mono ?_
      rintro _ w9 ⟨rfl, hb9⟩
      have hB9 : Below w.heap.size w w9 := bT hB hb9
      go_wp2
      go_ret
      exact ⟨rfl, hB9⟩
end Go.Proofs.Ytkfdbpmnbbhpeaa
