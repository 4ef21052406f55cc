/-
  The contracts of the program's functions of chapter 1; no condition but that lists lie in memory.
-/
import Derived.Test.YtpllffabdgngcaaBase
namespace Go.Proofs.Ytpllffabdgngcaa
open Go.RowKit
set_option maxHeartbeats 400000 in
theorem inRange_any (n m : Int) (w : World) : Calls Try.prog 39 #[.int .i64 n, .int .i64 m] w fun e w' => e = .returned (.bool (inB n 0 m)) ∧ w = w' := by
  go_enter Try.func39, Try.ntmps39
  go_wp2
  all_goals go_ret
  · exact ⟨ret_bool (inB_lo ‹_›), rfl⟩
  · exact ⟨ret_bool (inB_no (.inl ‹_›)).symm, rfl⟩
def Named (n : Int) (e : Ending) : Prop := ∃ s : ByteArray, e = .returned (.string s) ∧ s.toList.isEmpty = !(inB n 0 10)
theorem named_yes {n : Int} (s : ByteArray) (hs : s.data.size ≠ 0) (h1 : 0 ≤ n) (h2 : n ≤ 10) : Named n (.returned (.string s)) := ⟨_, rfl, by
  obtain ⟨⟨l⟩⟩ := s
  rw [inB_yes h1 h2]
  cases l with
  | nil => simp at hs
  | cons a l => simp⟩
theorem named_no {n : Int} (h : n < 0 ∨ 10 < n) : Named n (.returned (.string ⟨#[]⟩)) := ⟨_, rfl, by rw [inB_no h]; simp⟩
set_option maxHeartbeats 400000 in
theorem string_any (n : Int) (w : World) : Calls Try.prog 51 #[.int .i64 n] w fun e w' => Named n e ∧ w = w' := by
  by_cases h : 0 ≤ n ∧ n ≤ 10
  · have hn : n = 0 ∨ n = 1 ∨ n = 2 ∨ n = 3 ∨ n = 4 ∨ n = 5 ∨ n = 6 ∨ n = 7 ∨ n = 8 ∨ n = 9 ∨ n = 10 := by omega
    clear h
    rcases hn with rfl | rfl | rfl | rfl | rfl | rfl | rfl | rfl | rfl | rfl | rfl
    all_goals
      go_enter Try.func51, Try.ntmps51
      go_wp2
      go_ret
      exact ⟨named_yes _ (by decide) (by omega) (by omega), rfl⟩
  · have h0 : (n == 0) = false := by simp; omega
    have h1 : (n == 1) = false := by simp; omega
    have h2 : (n == 2) = false := by simp; omega
    have h3 : (n == 3) = false := by simp; omega
    have h4 : (n == 4) = false := by simp; omega
    have h5 : (n == 5) = false := by simp; omega
    have h6 : (n == 6) = false := by simp; omega
    have h7 : (n == 7) = false := by simp; omega
    have h8 : (n == 8) = false := by simp; omega
    have h9 : (n == 9) = false := by simp; omega
    have h10 : (n == 10) = false := by simp; omega
    have H := Lib.hid h
    clear h
    go_enter Try.func51, Try.ntmps51
    go_wp2
    go_ret
    exact ⟨named_no (by have := H.out; omega), rfl⟩
set_option maxHeartbeats 400000 in
theorem cellOk_any (s e t : Int) (w : World) : Calls Try.prog 50 #[.agg #[.int .i64 s, .int .i64 e, .int .i64 t]] w fun r w' => r = .returned (.bool (cellB s e t)) ∧ Below w.heap.size w w' := by
  go_enter Try.func50, Try.ntmps50
  go_wp2_with (first | (go_at_call 51; refine (string_any _ _).mono ?_; rintro r1 w1 ⟨⟨s1, rfl, hs⟩, rfl⟩) | (go_at_call 39; refine (inRange_any _ _ _).mono ?_; rintro _ _ ⟨rfl, rfl⟩))
  all_goals go_ret
  all_goals refine ⟨ret_bool ?_, by (repeat (first | with_reducible assumption | with_reducible exact Below.refl _ _ | with_reducible refine bA ?_ | with_reducible refine bD ?_ | ((with_reducible refine bS ?_ ?_); rotate_left; (focus ((try simp); (try omega)))) | ((with_reducible refine bBx ?_ ?_); rotate_left; (focus ((try simp); (try omega))))))⟩
  · exact cellB_3 ‹_› ‹_›
  · exact cellB_2 ‹_›
  · exact cellB_1 ‹_›
end Go.Proofs.Ytpllffabdgngcaa
