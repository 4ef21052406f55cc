/-
  The reference model's calling, on hands that are kept whole; no condition.
-/
import Derived.Test.YtkfdbpmnbbhpeaaSHand
import Derived.BigRegion
set_option linter.unusedSimpArgs false
set_option linter.unusedVariables false
namespace Go.Proofs.Ytkfdbpmnbbhpeaa
open Go.RowKit
set_option linter.unusedSimpArgs false
attribute [local go_sem ↓] zeroHand toLHand toVHand storeHand storeHandC
set_option maxRecDepth 100000 in
set_option maxHeartbeats 2000000 in
theorem sCalled_any (h : Ha) (k e : Int) (w : World) : Calls Try.prog 12 #[.agg (hvals h), .agg #[.int .i64 k, .int .i64 e]] w fun r w' => r = .returned (.tuple #[.agg (hvals (called h k e).1), .int .i64 (called h k e).2]) ∧ Below w.heap.size w w' := by
  by_cases h0 : handOk h = true
  · by_cases h1 : h.pos = 0
    · by_cases h2 : callOk k e = true
      · rw [show called h k e = (begun k e 0, 0) by simp [called, h0, h1, h2]]
        have n1 : (h.pos != 0) = false := by simp [h1]
        clear h1
        go_enter Try.func12, Try.ntmps12
        go_wp2_with fail; refine bHit w (by (repeat (with_reducible first | assumption | exact bR | refine bA ?_ | refine bD ?_ | ((first | refine bS ?_ ?_ | refine bBx ?_ ?_); rotate_left; focus (try simp) <;> (try omega))))) fun bb => ?_; refine (sHandOk_any h _).mono ?_; rintro _ w1 ⟨rfl, hbw1⟩; have hCw1 : Below w.heap.size w w1 := bT bb hbw1; have hsw1 := hbw1.size; (try simp at hsw1); have zz := And.intro (hpB hbw1 (b := w.heap.size + 1 + 1) (by (try simp) <;> omega)) <| And.intro (hpB hbw1 (b := w.heap.size + 1) (by (try simp) <;> omega)) <| hpB hbw1 (b := w.heap.size) (by (try simp) <;> omega); (try simp [go_sem] at zz); (try clear z_wpp x_wpp f_wpp l_wpp); (try clear z_wp x_wp f_wp l_wp); (try clear z_w x_w f_w l_w); obtain ⟨z_wpp, z_wp, z_w⟩ := zz; obtain ⟨x_wpp, f_wpp, l_wpp⟩ := bO z_wpp; obtain ⟨x_wp, f_wp, l_wp⟩ := bO z_wp; obtain ⟨x_w, f_w, l_w⟩ := bO z_w; clear hbw1 bb
        rw [h0]
        go_wp2_with fail; refine bHit w (by (repeat (with_reducible first | assumption | exact bR | refine bA ?_ | refine bD ?_ | ((first | refine bS ?_ ?_ | refine bBx ?_ ?_); rotate_left; focus (try simp) <;> (try omega))))) fun bb => ?_; refine (sCallOk_any k e _).mono ?_; rintro _ w2 ⟨rfl, hbw2⟩; have hCw2 : Below w.heap.size w w2 := bT bb hbw2; have hsw2 := hbw2.size; (try simp at hsw2); have zz := And.intro (hpB hbw2 (b := w.heap.size + 1 + 1) (by (try simp) <;> omega)) <| And.intro (hpB hbw2 (b := w.heap.size + 1) (by (try simp) <;> omega)) <| hpB hbw2 (b := w.heap.size) (by (try simp) <;> omega); (first | simp [go_sem, z_wpp, z_wp, z_w, l_w, l_wp, l_wpp] at zz | simp [go_sem] at zz | skip); (try clear z_wpp x_wpp f_wpp l_wpp); (try clear z_wp x_wp f_wp l_wp); (try clear z_w x_w f_w l_w); obtain ⟨z_wpp, z_wp, z_w⟩ := zz; obtain ⟨x_wpp, f_wpp, l_wpp⟩ := bO z_wpp; obtain ⟨x_wp, f_wp, l_wp⟩ := bO z_wp; obtain ⟨x_w, f_w, l_w⟩ := bO z_w; clear hbw2 bb
        rw [h2]
        go_wp2_with fail; refine bHit w (by (repeat (with_reducible first | assumption | exact bR | refine bA ?_ | refine bD ?_ | ((first | refine bS ?_ ?_ | refine bBx ?_ ?_); rotate_left; focus (try simp) <;> (try omega))))) fun bb => ?_; refine (l5Begin_any k e 0 _).mono ?_; rintro _ w3 ⟨rfl, hbw3⟩; have hCw3 : Below w.heap.size w w3 := bT bb hbw3; have hsw3 := hbw3.size; (try simp at hsw3); have zz := And.intro (hpB hbw3 (b := w.heap.size + 1 + 1) (by (try simp) <;> omega)) <| And.intro (hpB hbw3 (b := w.heap.size + 1) (by (try simp) <;> omega)) <| hpB hbw3 (b := w.heap.size) (by (try simp) <;> omega); (first | simp [go_sem, z_wpp, z_wp, z_w, l_w, l_wp, l_wpp] at zz | simp [go_sem] at zz | skip); (try clear z_wpp x_wpp f_wpp l_wpp); (try clear z_wp x_wp f_wp l_wp); (try clear z_w x_w f_w l_w); obtain ⟨z_wpp, z_wp, z_w⟩ := zz; obtain ⟨x_wpp, f_wpp, l_wpp⟩ := bO z_wpp; obtain ⟨x_wp, f_wp, l_wp⟩ := bO z_wp; obtain ⟨x_w, f_w, l_w⟩ := bO z_w; clear hbw3 bb
        go_wp2
        exact bodyPost_ret (res_ct Try.results12 rfl (ldHand (begun k e 0) (by simp [go_sem, *]))) rfl ⟨rfl, by (repeat (with_reducible first | assumption | exact bR | refine bA ?_ | refine bD ?_ | ((first | refine bS ?_ ?_ | refine bBx ?_ ?_); rotate_left; focus (try simp) <;> (try omega))))⟩
      · have h2' : callOk k e = false := by simpa using h2
        rw [show called h k e = (h, 2) by simp [called, h0, h1, h2']]
        have n1 : (h.pos != 0) = false := by simp [h1]
        clear h1 h2
        go_enter Try.func12, Try.ntmps12
        go_wp2_with fail; refine bHit w (by (repeat (with_reducible first | assumption | exact bR | refine bA ?_ | refine bD ?_ | ((first | refine bS ?_ ?_ | refine bBx ?_ ?_); rotate_left; focus (try simp) <;> (try omega))))) fun bb => ?_; refine (sHandOk_any h _).mono ?_; rintro _ w1 ⟨rfl, hbw1⟩; have hCw1 : Below w.heap.size w w1 := bT bb hbw1; have hsw1 := hbw1.size; (try simp at hsw1); have zz := And.intro (hpB hbw1 (b := w.heap.size + 1 + 1) (by (try simp) <;> omega)) <| And.intro (hpB hbw1 (b := w.heap.size + 1) (by (try simp) <;> omega)) <| hpB hbw1 (b := w.heap.size) (by (try simp) <;> omega); (try simp [go_sem] at zz); (try clear z_wpp x_wpp f_wpp l_wpp); (try clear z_wp x_wp f_wp l_wp); (try clear z_w x_w f_w l_w); obtain ⟨z_wpp, z_wp, z_w⟩ := zz; obtain ⟨x_wpp, f_wpp, l_wpp⟩ := bO z_wpp; obtain ⟨x_wp, f_wp, l_wp⟩ := bO z_wp; obtain ⟨x_w, f_w, l_w⟩ := bO z_w; clear hbw1 bb
        rw [h0]
        go_wp2_with fail; refine bHit w (by (repeat (with_reducible first | assumption | exact bR | refine bA ?_ | refine bD ?_ | ((first | refine bS ?_ ?_ | refine bBx ?_ ?_); rotate_left; focus (try simp) <;> (try omega))))) fun bb => ?_; refine (sCallOk_any k e _).mono ?_; rintro _ w2 ⟨rfl, hbw2⟩; have hCw2 : Below w.heap.size w w2 := bT bb hbw2; have hsw2 := hbw2.size; (try simp at hsw2); have zz := And.intro (hpB hbw2 (b := w.heap.size + 1 + 1) (by (try simp) <;> omega)) <| And.intro (hpB hbw2 (b := w.heap.size + 1) (by (try simp) <;> omega)) <| hpB hbw2 (b := w.heap.size) (by (try simp) <;> omega); (first | simp [go_sem, z_wpp, z_wp, z_w, l_w, l_wp, l_wpp] at zz | simp [go_sem] at zz | skip); (try clear z_wpp x_wpp f_wpp l_wpp); (try clear z_wp x_wp f_wp l_wp); (try clear z_w x_w f_w l_w); obtain ⟨z_wpp, z_wp, z_w⟩ := zz; obtain ⟨x_wpp, f_wpp, l_wpp⟩ := bO z_wpp; obtain ⟨x_wp, f_wp, l_wp⟩ := bO z_wp; obtain ⟨x_w, f_w, l_w⟩ := bO z_w; clear hbw2 bb
        rw [h2']
        go_wp2
        exact bodyPost_ret (res_ct Try.results12 rfl (ldHand h (by simp [go_sem, *]))) rfl ⟨rfl, by (repeat (with_reducible first | assumption | exact bR | refine bA ?_ | refine bD ?_ | ((first | refine bS ?_ ?_ | refine bBx ?_ ?_); rotate_left; focus (try simp) <;> (try omega))))⟩
    · rw [show called h k e = (h, 1) by simp [called, h0, h1]]
      have n1 : (h.pos != 0) = true := by simpa using h1
      clear h1
      go_enter Try.func12, Try.ntmps12
      go_wp2_with fail; refine bHit w (by (repeat (with_reducible first | assumption | exact bR | refine bA ?_ | refine bD ?_ | ((first | refine bS ?_ ?_ | refine bBx ?_ ?_); rotate_left; focus (try simp) <;> (try omega))))) fun bb => ?_; refine (sHandOk_any h _).mono ?_; rintro _ w1 ⟨rfl, hbw1⟩; have hCw1 : Below w.heap.size w w1 := bT bb hbw1; have hsw1 := hbw1.size; (try simp at hsw1); have zz := And.intro (hpB hbw1 (b := w.heap.size + 1 + 1) (by (try simp) <;> omega)) <| And.intro (hpB hbw1 (b := w.heap.size + 1) (by (try simp) <;> omega)) <| hpB hbw1 (b := w.heap.size) (by (try simp) <;> omega); (try simp [go_sem] at zz); (try clear z_wpp x_wpp f_wpp l_wpp); (try clear z_wp x_wp f_wp l_wp); (try clear z_w x_w f_w l_w); obtain ⟨z_wpp, z_wp, z_w⟩ := zz; obtain ⟨x_wpp, f_wpp, l_wpp⟩ := bO z_wpp; obtain ⟨x_wp, f_wp, l_wp⟩ := bO z_wp; obtain ⟨x_w, f_w, l_w⟩ := bO z_w; clear hbw1 bb
      rw [h0]
      go_wp2
      exact bodyPost_ret (res_ct Try.results12 rfl (ldHand h (by simp [go_sem, *]))) rfl ⟨rfl, by (repeat (with_reducible first | assumption | exact bR | refine bA ?_ | refine bD ?_ | ((first | refine bS ?_ ?_ | refine bBx ?_ ?_); rotate_left; focus (try simp) <;> (try omega))))⟩
  · have h0' : handOk h = false := by simpa using h0
    rw [show called h k e = (Ha.zero, 3) by simp [called, h0']]
    clear h0
    go_enter Try.func12, Try.ntmps12
    go_wp2_with fail; refine bHit w (by (repeat (with_reducible first | assumption | exact bR | refine bA ?_ | refine bD ?_ | ((first | refine bS ?_ ?_ | refine bBx ?_ ?_); rotate_left; focus (try simp) <;> (try omega))))) fun bb => ?_; refine (sHandOk_any h _).mono ?_; rintro _ w1 ⟨rfl, hbw1⟩; have hCw1 : Below w.heap.size w w1 := bT bb hbw1; have hsw1 := hbw1.size; (try simp at hsw1); have zz := And.intro (hpB hbw1 (b := w.heap.size + 1 + 1) (by (try simp) <;> omega)) <| And.intro (hpB hbw1 (b := w.heap.size + 1) (by (try simp) <;> omega)) <| hpB hbw1 (b := w.heap.size) (by (try simp) <;> omega); (try simp [go_sem] at zz); (try clear z_wpp x_wpp f_wpp l_wpp); (try clear z_wp x_wp f_wp l_wp); (try clear z_w x_w f_w l_w); obtain ⟨z_wpp, z_wp, z_w⟩ := zz; obtain ⟨x_wpp, f_wpp, l_wpp⟩ := bO z_wpp; obtain ⟨x_wp, f_wp, l_wp⟩ := bO z_wp; obtain ⟨x_w, f_w, l_w⟩ := bO z_w; clear hbw1 bb
    rw [h0']
    go_wp2
    exact bodyPost_ret (res_ct Try.results12 rfl (ldHand Ha.zero (by simp [go_sem, *]))) rfl ⟨rfl, by (repeat (with_reducible first | assumption | exact bR | refine bA ?_ | refine bD ?_ | ((first | refine bS ?_ ?_ | refine bBx ?_ ?_); rotate_left; focus (try simp) <;> (try omega))))⟩
end Go.Proofs.Ytkfdbpmnbbhpeaa
