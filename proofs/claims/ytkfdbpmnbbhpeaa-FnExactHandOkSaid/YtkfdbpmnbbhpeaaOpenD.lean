/-
  How a call is opened that is an argument of a law; no condition but that it can be read.
-/
import Derived.Test.YtkfdbpmnbbhpeaaOpen
set_option linter.unusedSimpArgs false
set_option linter.unusedVariables false
namespace Go.Proofs.Ytkfdbpmnbbhpeaa
open Go.ChangeShapes Go.WideShapes Go.ChangeAt Go.RowKit Go.Deep
section
variable {H : Type} {enc : TypeId × Value → H} {w : World} {spare : Nat → Bool} {held : Bool}
/-- A call as an argument. -/
theorem oCall {r : Reach} {b0 : Nat} {v : Value} {d : DataW H} {p : List MemPlace} (hv : Value.okWide Try.prog w r b0 23 v) (h : DataW.Trod enc Try.prog w 0 spare held 23 v d p) :
    ∃ k e : Int, v = .agg #[.int .i64 k, .int .i64 e] := by
  obtain ⟨cs, rfl, hsz⟩ := okWide_struct Try.underlying23 hv
  obtain ⟨l⟩ := cs
  have hs : l.length = 2 := by have h3 : Try.prog.cellsOf 23 = 2 := by kernel_rfl
                               simpa [h3] using hsz
  obtain ⟨fuel, hf⟩ := h
  obtain ⟨_, g, hg⟩ := dInts Try.underlying23 (by kernel_rfl) (by kernel_rfl) hf
  refine ⟨g 0, g 1, ?_⟩
  match l, hs with
  | [v0, v1], _ =>
    have g0 := (hg 0 (by decide)).1
    have g1 := (hg 1 (by decide)).1
    simp [Value.cells] at g0 g1
    rw [g0, g1]
end
end Go.Proofs.Ytkfdbpmnbbhpeaa
