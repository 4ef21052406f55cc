/-
  The reference model's NewChan; no condition.
-/
import Derived.Test.YteocdelblmgocaaModel
import Derived.Test.YteocdelblmgocaaOwn
import Derived.Test.YteocdelblmgocaaSOk
import Derived.Test.YteocdelblmgocaaLCell
namespace Go.Proofs.Yteocdelblmgocaa
open Go.RowKit
theorem own_zeros (w : World) (lo : Nat) (h : lo ≤ w.heap.size) : OCells (w.alloc (.cells (madeCells #[.int .i64 0, .int .i64 0, .int .i64 0] (40 * 3)) 46)) lo (.slice (some ⟨w.heap.size, 0, none⟩) 40 40) (List.replicate 40 C3.zero) := by
  refine ⟨by rw [flatC_len], .inr ⟨w.heap.size, 40, _, rfl, h, heap_alloc_new w _, Nat.le_refl _, by decide, size_madeCells _ _, ?_⟩⟩
  kernel_rfl
set_option maxRecDepth 100000 in
set_option maxHeartbeats 1000000 in
theorem sNewChan_any (cap : Int) (w : World) : Calls Try.prog 12 #[.int .i64 cap] w fun r w' =>
    (∃ v1 v2, r = .returned (.agg #[.int .i64 (newChan cap).cap, .int .i64 (newChan cap).sent, .int .i64 (newChan cap).got, .int .i64 (newChan cap).fin, v1, v2]) ∧ OCells w' w.heap.size v1 (newChan cap).cells ∧ OInts w' w.heap.size v2 (newChan cap).words) ∧ Below w.heap.size w w' := by
  by_cases h : inB cap 0 4 = true
  · have e : newChan cap = ⟨cap, 0, 0, cap, List.replicate 40 C3.zero, []⟩ := by simp [newChan, h]
    rw [e]
    have hmk : ∀ W : World, (Instr.makeSlice 28 (.int .i64 40) (.int .i64 40)).run Try.prog W = .ok (.slice (some ⟨W.heap.size, 0, none⟩) 40 40) (W.alloc (.cells (madeCells #[.int .i64 0, .int .i64 0, .int .i64 0] (40 * 3)) 46)) := mkCells 40 (by omega)
    have HZ : Hid (∀ (W : World) (lo n : Nat), n = W.heap.size → lo ≤ W.heap.size → OCells (W.alloc (.cells (madeCells #[.int .i64 0, .int .i64 0, .int .i64 0] (40 * 3)) 46)) lo (.slice (some ⟨n, 0, none⟩) 40 40) (List.replicate 40 C3.zero)) := fun W lo n hn h => hn ▸ own_zeros W lo h
    generalize madeCells #[.int .i64 0, .int .i64 0, .int .i64 0] (40 * 3) = mz at hmk HZ
    go_enter Try.func12, Try.ntmps12
    go_wp2_with (go_at_call 25; refine (l1In_any _ _ _ _).mono ?_; rintro _ _ ⟨rfl, rfl⟩)
    refine bodyPost_ret (v := .agg #[.int .i64 cap, .int .i64 0, .int .i64 0, .int .i64 cap, .slice (some ⟨w.heap.size + 1, 0, none⟩) 40 40, .slice none 0 0]) (by simp [results, Try.results12, go_sem, *]) rfl ⟨⟨_, _, rfl, HZ.out _ _ _ (by simp) (by simp), World.ownsRow_nil _ _ _ _⟩, ?_⟩
    (repeat (first | with_reducible assumption | with_reducible exact Below.refl _ _ | with_reducible refine bA ?_ | with_reducible refine bD ?_ | ((with_reducible refine bS ?_ ?_); rotate_left; (focus ((try simp); (try omega))))))
  · have e : newChan cap = Ch.zero := by simp [newChan, h]
    rw [e]
    go_enter Try.func12, Try.ntmps12
    go_wp2_with (go_at_call 25; refine (l1In_any _ _ _ _).mono ?_; rintro _ _ ⟨rfl, rfl⟩)
    refine bodyPost_ret (v := .agg #[.int .i64 0, .int .i64 0, .int .i64 0, .int .i64 0, .slice none 0 0, .slice none 0 0]) (by simp [results, Try.results12, go_sem, *]) rfl ⟨⟨_, _, rfl, World.ownsRow_nil _ _ _ _, World.ownsRow_nil _ _ _ _⟩, ?_⟩
    (repeat (first | with_reducible assumption | with_reducible exact Below.refl _ _ | with_reducible refine bA ?_ | with_reducible refine bD ?_ | ((with_reducible refine bS ?_ ?_); rotate_left; (focus ((try simp); (try omega))))))
end Go.Proofs.Yteocdelblmgocaa
