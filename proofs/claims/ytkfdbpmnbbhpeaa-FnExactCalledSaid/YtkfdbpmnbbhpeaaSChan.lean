/-
  The reference model's functions of chapter 2; lists lie in memory and hold at most what memory can hold.
-/
import Derived.Test.YtkfdbpmnbbhpeaaModel
import Derived.Test.YtkfdbpmnbbhpeaaOwn
import Derived.Test.YtkfdbpmnbbhpeaaSOk
set_option linter.unusedSimpArgs false
set_option linter.unusedVariables false
namespace Go.Proofs.Ytkfdbpmnbbhpeaa
open Go.RowKit
set_option maxHeartbeats 400000 in
theorem l2Count_any (n : Int) (w : World) : Calls Try.prog 19 #[.int .i64 n] w fun r w' => r = .returned (.bool (inB n 0 40)) ∧ w = w' := by
  go_enter Try.func19, Try.ntmps19
  go_wp2_with (go_at_call 15; refine (l1In_any _ _ _ _).mono ?_; rintro _ _ ⟨rfl, rfl⟩)
  go_ret
  exact ⟨rfl, rfl⟩
/-- Where the head of a channel is not right. -/
theorem head_no (cap sent got fin : Int) (cells : List C3) (words : List Int) (h : chanHead ⟨cap, sent, got, fin, cells, words⟩ = false) : false = chanOk ⟨cap, sent, got, fin, cells, words⟩ := by simp [chanOk, h]
theorem head_yes {cap sent got fin : Int} {cells : List C3} {words : List Int} (h : chanHead ⟨cap, sent, got, fin, cells, words⟩ = true) :
    inB cap 0 4 = true ∧ inB sent 0 40 = true ∧ inB got 0 40 = true ∧ inB fin 0 40 = true ∧ cells.length = 40 ∧ words.length ≤ 80 := by
  simpa [chanHead] using h
theorem chan_bad1 {cap sent got fin : Int} {cells : List C3} {words : List Int} {k : Nat} {c : C3} (hk : k < cells.length) (hc : cells.getD k ⟨0, 0, 0⟩ = c) (h : cellFits words.length c = false) : false = chanOk ⟨cap, sent, got, fin, cells, words⟩ := by
  have : cells.all (cellFits words.length) = false := by
    rw [List.all_eq_false]
    refine ⟨cells[k], List.getElem_mem hk, ?_⟩
    rw [← hc] at h
    simpa [List.getD, List.getElem?_eq_getElem hk] using h
  simp [chanOk, this]
theorem chan_bad2 {cap sent got fin : Int} {cells : List C3} {words : List Int} {k : Nat} {x : Int} (hk : k < words.length) (hc : words.getD k 0 = x) (h : inB x 0 2 = false) : false = chanOk ⟨cap, sent, got, fin, cells, words⟩ := by
  have : words.all (fun x => inB x 0 2) = false := by
    rw [List.all_eq_false]
    refine ⟨words[k], List.getElem_mem hk, ?_⟩
    rw [← hc] at h
    simpa [List.getD, List.getElem?_eq_getElem hk] using h
  simp [chanOk, this]
theorem words_snoc {words : List Int} {k : Nat} {x : Int} (hk : k < words.length) (hc : words.getD k 0 = x) (h : (words.take k).all (fun x => inB x 0 2) = true) (h1 : inB x 0 2 = true) : (words.take (k + 1)).all (fun x => inB x 0 2) = true := by
  have e : words.take (k + 1) = words.take k ++ [x] := by
    rw [List.take_succ_eq_append_getElem hk, ← hc]; simp [List.getD, List.getElem?_eq_getElem hk]
  rw [e, List.all_append, h]; simp [h1]
def fitsAt (words : List Int) (cells : List C3) (k : Nat) : Prop := (cells.take k).all (cellFits words.length) = true
theorem chan_all {cap sent got fin : Int} {cells : List C3} {words : List Int} (h : chanHead ⟨cap, sent, got, fin, cells, words⟩ = true) (h1 : fitsAt words cells cells.length) (h2 : (words.take words.length).all (fun x => inB x 0 2) = true) : true = chanOk ⟨cap, sent, got, fin, cells, words⟩ := by
  unfold fitsAt at h1
  rw [List.take_length] at h1 h2
  unfold chanOk
  rw [h, h1, h2]; rfl
theorem fits_snoc {words : List Int} {cells : List C3} {k : Nat} {c : C3} (hk : k < cells.length) (hc : cells.getD k ⟨0, 0, 0⟩ = c) (h : fitsAt words cells k) (h1 : cellFits words.length c = true) : fitsAt words cells (k + 1) := by
  unfold fitsAt at *
  rw [take_snocC cells k hk, hc, List.all_append, h]; simp [h1]
end Go.Proofs.Ytkfdbpmnbbhpeaa
