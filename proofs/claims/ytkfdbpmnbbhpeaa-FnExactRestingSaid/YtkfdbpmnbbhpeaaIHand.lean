/-
  The contracts of the program's functions of chapter 5, on hands that are kept whole; no condition.
-/
import Derived.Test.YtkfdbpmnbbhpeaaHeq
import Derived.Test.YtkfdbpmnbbhpeaaICall
import Derived.BigRegion
import Derived.StillTailTactics
set_option linter.unusedSimpArgs false
set_option linter.unusedVariables false
namespace Go.Proofs.Ytkfdbpmnbbhpeaa
open Go.RowKit
attribute [local go_sem ↓] zeroHand toLHand toVHand storeHand storeHandC
attribute [local go_sem] eqHandV
def near (n m : Int) : Int := if (if n < 0 then 0 else n) ≤ m then (if n < 0 then 0 else n) else m
theorem near_eq {n m : Int} (hm : 0 ≤ m) : (n == near n m) = inB n 0 m := by
  rw [Bool.eq_iff_iff]
  simp only [near, inB, beq_iff_eq, Bool.and_eq_true, decide_eq_true_eq]
  repeat' split
  all_goals omega
def boundH (h : Ha) : Ha := ⟨near h.pos 25, if h.pos == 0 then 0 else h.code, if h.pos == 0 then 0 else h.elem, near h.cell 39, near h.seen 10, near h.wait 80, near h.fin 40, near h.come 40, near h.grow 39, near h.mine 80, near h.nxt 2, near h.beg 20000, near h.reply 4, near h.out 999⟩
theorem bound_ok (h : Ha) : (eqHa h (boundH h) && (h.pos == 0 || callOk h.code h.elem)) = handOk h := by
  simp only [eqHa, boundH, near_eq (show (0 : Int) ≤ 25 by decide), near_eq (show (0 : Int) ≤ 39 by decide), near_eq (show (0 : Int) ≤ 10 by decide), near_eq (show (0 : Int) ≤ 80 by decide), near_eq (show (0 : Int) ≤ 40 by decide), near_eq (show (0 : Int) ≤ 2 by decide), near_eq (show (0 : Int) ≤ 20000 by decide), near_eq (show (0 : Int) ≤ 4 by decide), near_eq (show (0 : Int) ≤ 999 by decide)]
  have e : ((h.code == if h.pos == 0 then 0 else h.code) && (h.elem == if h.pos == 0 then 0 else h.elem) && (h.pos == 0 || callOk h.code h.elem)) = (if h.pos == 0 then noCall h.code h.elem else callOk h.code h.elem) := by
    by_cases h0 : h.pos = 0
    · simp [h0, noCall]
    · simp [h0]
  unfold handOk handA handB handC
  rw [← e]
  generalize inB h.pos 0 25 = b1
  generalize (h.code == if h.pos == 0 then 0 else h.code) = b2
  generalize (h.elem == if h.pos == 0 then 0 else h.elem) = b3
  generalize inB h.cell 0 39 = b4
  generalize inB h.seen 0 10 = b5
  generalize inB h.wait 0 80 = b6
  generalize inB h.fin 0 40 = b7
  generalize inB h.come 0 40 = b8
  generalize inB h.grow 0 39 = b9
  generalize inB h.mine 0 80 = b10
  generalize inB h.nxt 0 2 = b11
  generalize inB h.beg 0 20000 = b12
  generalize inB h.reply 0 4 = b13
  generalize inB h.out 0 999 = b14
  generalize (h.pos == 0 || callOk h.code h.elem) = b15
  simp only [Bool.and_assoc]
  cases b1 <;> cases b2 <;> cases b3 <;> cases b15 <;> (try simp) <;> cases b4 <;> cases b9 <;> cases b5 <;> cases b6 <;> cases b10 <;> simp
theorem nearest_any (n m : Int) (w : World) : Calls Try.prog 26 #[.int .i64 n, .int .i64 m] w fun r w' => r = .returned (.int .i64 (near n m)) ∧ w = w' := by
  go_enter Try.func26, Try.ntmps26
  go_wp2
  all_goals go_ret
  all_goals exact ⟨ret_i64 (by (try unfold near); (repeat' split) <;> omega), rfl⟩
theorem nearStill (n m : Int) (w : World) : Calls Try.prog 26 #[.int .i64 n, .int .i64 m] w fun r w' => r = .returned (.int .i64 (near n m)) ∧ w' = w :=
  (nearest_any n m w).mono fun _ _ h => ⟨h.1, h.2.symm⟩
set_option maxRecDepth 100000 in
set_option maxHeartbeats 2000000 in
theorem bounded_any (h : Ha) (w : World) : Calls Try.prog 21 #[.agg (hvals h)] w fun r w' => r = .returned (.agg (hvals (boundH h))) ∧ Below w.heap.size w w' := by
  by_cases h0 : h.pos = 0
  · have e0 : (h.pos == 0) = true := by simpa using h0
    clear h0
    have eb : boundH h = ⟨near h.pos 25, 0, 0, near h.cell 39, near h.seen 10, near h.wait 80, near h.fin 40, near h.come 40, near h.grow 39, near h.mine 80, near h.nxt 2, near h.beg 20000, near h.reply 4, near h.out 999⟩ := by simp [boundH, e0]
    rw [eb]
    go_enter Try.func21, Try.ntmps21
    go_wp2
    refine wp_region_still_tail 38 (by kernel_rfl) (by kernel_rfl) ?_
    simp only [List.take_succ_cons, List.take_zero, List.drop_succ_cons, List.drop_zero]
    change wpStill _ _ (World.drew _) _ _ _
    repeat (first | still_step | still_call (nearStill _ _ _))
    refine wpStill_nil ?_
    change wpList _ _ _ _ _ (World.drew _)
    go_wp2
    refine bodyPost_ret (res_c Try.results21 rfl (ldHand ⟨near h.pos 25, 0, 0, near h.cell 39, near h.seen 10, near h.wait 80, near h.fin 40, near h.come 40, near h.grow 39, near h.mine 80, near h.nxt 2, near h.beg 20000, near h.reply 4, near h.out 999⟩ (by simp [go_sem] <;> rfl))) rfl ⟨rfl, by (repeat (with_reducible first | assumption | exact bR | refine bA ?_ | refine bD ?_ | ((first | refine bS ?_ ?_ | refine bBx ?_ ?_); rotate_left; focus (try simp) <;> (try omega))))⟩
  · have e0 : (h.pos == 0) = false := by simpa using h0
    clear h0
    have eb : boundH h = ⟨near h.pos 25, h.code, h.elem, near h.cell 39, near h.seen 10, near h.wait 80, near h.fin 40, near h.come 40, near h.grow 39, near h.mine 80, near h.nxt 2, near h.beg 20000, near h.reply 4, near h.out 999⟩ := by simp [boundH, e0]
    rw [eb]
    go_enter Try.func21, Try.ntmps21
    go_wp2
    refine wp_region_still_tail 38 (by kernel_rfl) (by kernel_rfl) ?_
    simp only [List.take_succ_cons, List.take_zero, List.drop_succ_cons, List.drop_zero]
    change wpStill _ _ (World.drew _) _ _ _
    repeat (first | still_step | still_call (nearStill _ _ _))
    refine wpStill_nil ?_
    change wpList _ _ _ _ _ (World.drew _)
    go_wp2
    refine bodyPost_ret (res_c Try.results21 rfl (ldHand ⟨near h.pos 25, h.code, h.elem, near h.cell 39, near h.seen 10, near h.wait 80, near h.fin 40, near h.come 40, near h.grow 39, near h.mine 80, near h.nxt 2, near h.beg 20000, near h.reply 4, near h.out 999⟩ (by simp [go_sem] <;> rfl))) rfl ⟨rfl, by (repeat (with_reducible first | assumption | exact bR | refine bA ?_ | refine bD ?_ | ((first | refine bS ?_ ?_ | refine bBx ?_ ?_); rotate_left; focus (try simp) <;> (try omega))))⟩
end Go.Proofs.Ytkfdbpmnbbhpeaa
