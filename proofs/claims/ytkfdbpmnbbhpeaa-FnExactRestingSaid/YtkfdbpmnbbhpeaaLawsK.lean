/-
  The laws' own toCall, toHand, eqCall, eqHand; no condition.
-/
import Derived.Test.YtkfdbpmnbbhpeaaBoxT
set_option linter.unusedSimpArgs false
set_option linter.unusedVariables false
namespace Go.Proofs.Ytkfdbpmnbbhpeaa
open Go.RowKit
theorem aggHandL (w : World) : (isAgg 25).run Try.prog w = .ok true w := by simp [isAgg, go_sem]
theorem szHandL (w : World) : (sizeOf 25).run Try.prog w = .ok 14 w := by simp [go_sem]
theorem loadHandVL {w : World} {b : Nat} (h : okO 14 (hp w b) = true) : (loadVar 25 ⟨b, 0, none⟩).run Try.prog w = .ok (.agg (cellsO (hp w b))) w := load_box aggHandL szHandL h
theorem loadHandL {w : World} {b : Nat} (h : okO 14 (hp w b) = true) : (Instr.loadAt 25 (.pointer (some ⟨b, 0, none⟩))).run Try.prog w = .ok (.agg (cellsO (hp w b))) w := by
  simp only [Instr.loadAt, Instr.sureAddr, Sem.run_bind, Sem.run_pure, Result.andThen_ok, loadHandVL h]
/-- Loading whole, as one word: a hand of the laws. -/
def LHandL (x : Value) : Sem Value := Instr.loadAt 25 x
theorem toLHandL (x : Value) : Instr.loadAt 25 x = LHandL x := by unfold LHandL; simp
theorem runLHandL {w : World} {b : Nat} (h : okO 14 (hp w b) = true) : (LHandL (.pointer (some ⟨b, 0, none⟩))).run Try.prog w = .ok (.agg (cellsO (hp w b))) w := loadHandL h
attribute [go_sem] runLHandL
attribute [local go_sem ↓] zeroHand toLHand toVHand storeHand storeHandC
set_option maxHeartbeats 400000 in
theorem toCall_whole (k e : Int) (w : World) : Calls Try.prog 13 #[.agg #[.int .i64 k, .int .i64 e]] w fun r w' => r = .returned (.agg #[.int .i64 k, .int .i64 e]) ∧ Below w.heap.size w w' := by
  go_enter Try.func13, Try.ntmps13
  go_wp2
  exact bodyPost_ret (v := .agg #[.int .i64 k, .int .i64 e]) (by simp [results, Try.results13, go_sem, *]) rfl ⟨rfl, by (repeat (with_reducible first | assumption | exact bR | refine bA ?_ | refine bD ?_ | ((first | refine bS ?_ ?_ | refine bBx ?_ ?_); rotate_left; focus (try simp) <;> (try omega))))⟩
set_option maxRecDepth 100000 in
set_option maxHeartbeats 1000000 in
theorem toHand_any (h : Ha) (w : World) : Calls Try.prog 7 #[.agg (hvals h)] w fun r w' => r = .returned (.agg (hvals h)) ∧ Below w.heap.size w w' := by
  go_enter Try.func7, Try.ntmps7
  go_wp2_with fail; refine bHit w (by (repeat (with_reducible first | assumption | exact bR | refine bA ?_ | refine bD ?_ | ((first | refine bS ?_ ?_ | refine bBx ?_ ?_); rotate_left; focus (try simp) <;> (try omega))))) fun bb => ?_; refine (toCall_whole h.code h.elem _).mono ?_; rintro _ w1 ⟨rfl, hbw1⟩; have hCw1 : Below w.heap.size w w1 := bT bb hbw1; have hsw1 := hbw1.size; (try simp at hsw1); have zz := And.intro (hpB hbw1 (b := w.heap.size + 1 + 1) (by (try simp) <;> omega)) <| And.intro (hpB hbw1 (b := w.heap.size + 1) (by (try simp) <;> omega)) <| hpB hbw1 (b := w.heap.size) (by (try simp) <;> omega); (try simp [go_sem] at zz); (try clear z_wpp x_wpp f_wpp l_wpp); (try clear z_wp x_wp f_wp l_wp); (try clear z_w x_w f_w l_w); obtain ⟨z_wpp, z_wp, z_w⟩ := zz; obtain ⟨x_wpp, f_wpp, l_wpp⟩ := bO z_wpp; obtain ⟨x_wp, f_wp, l_wp⟩ := bO z_wp; obtain ⟨x_w, f_w, l_w⟩ := bO z_w; clear hbw1 bb
  go_wp2
  exact bodyPost_ret (res_c Try.results7 rfl (ldHand h (by simp [go_sem, *] <;> rfl))) rfl ⟨rfl, by (repeat (with_reducible first | assumption | exact bR | refine bA ?_ | refine bD ?_ | ((first | refine bS ?_ ?_ | refine bBx ?_ ?_); rotate_left; focus (try simp) <;> (try omega))))⟩
set_option maxHeartbeats 400000 in
theorem eqCall_self (k e : Int) (w : World) : Calls Try.prog 23 #[.agg #[.int .i64 k, .int .i64 e], .agg #[.int .i64 k, .int .i64 e]] w fun r w' => r = .returned (.bool true) ∧ Below w.heap.size w w' := by
  go_enter Try.func23, Try.ntmps23
  go_wp2
  all_goals go_ret
  exact ⟨rfl, by (repeat (with_reducible first | assumption | exact bR | refine bA ?_ | refine bD ?_ | ((first | refine bS ?_ ?_ | refine bBx ?_ ?_); rotate_left; focus (try simp) <;> (try omega))))⟩
set_option maxRecDepth 100000 in
set_option maxHeartbeats 1000000 in
theorem eqHand_any (h : Ha) (w : World) : Calls Try.prog 11 #[.agg (hvals h), .agg (hvals h)] w fun r w' => r = .returned (.bool true) ∧ Below w.heap.size w w' := by
  go_enter Try.func11, Try.ntmps11
  go_wp2
  go_ret
  exact ⟨rfl, by (repeat (with_reducible first | assumption | exact bR | refine bA ?_ | refine bD ?_ | ((first | refine bS ?_ ?_ | refine bBx ?_ ?_); rotate_left; focus (try simp) <;> (try omega))))⟩
end Go.Proofs.Ytkfdbpmnbbhpeaa
