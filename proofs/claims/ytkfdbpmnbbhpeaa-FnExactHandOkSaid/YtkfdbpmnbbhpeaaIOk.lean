/-
  The contracts of the program's functions of chapter 1; no condition but that lists lie in memory.
-/
import Derived.Test.YtkfdbpmnbbhpeaaBase
set_option linter.unusedSimpArgs false
set_option linter.unusedVariables false
namespace Go.Proofs.Ytkfdbpmnbbhpeaa
open Go.RowKit
set_option maxHeartbeats 400000 in
theorem inRange_any (n m : Int) (w : World) : Calls Try.prog 29 #[.int .i64 n, .int .i64 m] w fun e w' => e = .returned (.bool (inB n 0 m)) ∧ w = w' := by
  go_enter Try.func29, Try.ntmps29
  go_wp2
  all_goals go_ret
  · exact ⟨ret_bool (inB_lo ‹_›), rfl⟩
  · exact ⟨ret_bool (inB_no (.inl ‹_›)).symm, rfl⟩
def Named (n : Int) (e : Ending) : Prop := ∃ s : ByteArray, e = .returned (.string s) ∧ s.toList.isEmpty = !(inB n 0 10)
theorem named_yes {n : Int} (s : ByteArray) (hs : s.data.size ≠ 0) (h1 : 0 ≤ n) (h2 : n ≤ 10) : Named n (.returned (.string s)) := ⟨_, rfl, by
  obtain ⟨⟨l⟩⟩ := s
  rw [inB_yes h1 h2]
  cases l with
  | nil => simp at hs
  | cons a l => simp⟩
theorem named_no {n : Int} (h : n < 0 ∨ 10 < n) : Named n (.returned (.string ⟨#[]⟩)) := ⟨_, rfl, by rw [inB_no h]; simp⟩
end Go.Proofs.Ytkfdbpmnbbhpeaa
