/-
  How a hand is opened that is an argument of a law; no condition but that it can be read.
-/
import Derived.Test.YtkfdbpmnbbhpeaaOpen
import Derived.Test.YtkfdbpmnbbhpeaaBox
set_option linter.unusedSimpArgs false
set_option linter.unusedVariables false
namespace Go.Proofs.Ytkfdbpmnbbhpeaa
open Go.ChangeShapes Go.WideShapes Go.ChangeAt Go.RowKit Go.Deep
section
variable {H : Type} {enc : TypeId × Value → H} {w : World} {spare : Nat → Bool} {held : Bool}
theorem dCallL (fuel : Nat) (cs : List Value) (x : DataW H × List MemPlace) (h : DataW.trod enc Try.prog w 0 spare held fuel 23 cs = some x) :
    ∃ k e : Int, cs[0]? = some (.int .i64 k) ∧ cs[1]? = some (.int .i64 e) := by
  obtain ⟨_, g, hg⟩ := dInts Try.underlying23 (by kernel_rfl) (by kernel_rfl) h
  exact ⟨g 0, g 1, (hg 0 (by decide)).1, (hg 1 (by decide)).1⟩
theorem dIntL (fuel : Nat) (cs : List Value) (x : DataW H × List MemPlace) (hx : DataW.trod enc Try.prog w 0 spare held fuel 2 cs = some x) : ∃ c : Int, cs[0]? = some (Value.int .i64 c) := by
  obtain ⟨c, rfl, _, _⟩ := DataW.trod_int Try.underlying2 hx
  exact ⟨c, rfl⟩
set_option maxRecDepth 100000 in
theorem dHand (fuel : Nat) (cs : List Value) (x : DataW H × List MemPlace) (h : DataW.trod enc Try.prog w 0 spare held fuel 25 cs = some x) :
    ∃ y : Ha, ∀ j, j < 14 → cs[j]? = (hvals y)[j]? := by
  obtain ⟨xs, n, _, _, hlen, hxl, hg⟩ := DataW.trod_struct Try.underlying25 h
  have c2 : Try.prog.cellsOf 2 = 1 := by kernel_rfl
  have c3 : Try.prog.cellsOf 23 = 2 := by kernel_rfl
  have g0 := hg 0 _ rfl
  have g1 := hg 1 _ rfl
  have g2 := hg 2 _ rfl
  have g3 := hg 3 _ rfl
  have g4 := hg 4 _ rfl
  have g5 := hg 5 _ rfl
  have g6 := hg 6 _ rfl
  have g7 := hg 7 _ rfl
  have g8 := hg 8 _ rfl
  have g9 := hg 9 _ rfl
  have g10 := hg 10 _ rfl
  have g11 := hg 11 _ rfl
  have g12 := hg 12 _ rfl
  rw [List.getElem?_eq_getElem (by simp at hxl; omega)] at g0 g1 g2 g3 g4 g5 g6 g7 g8 g9 g10 g11 g12
  obtain ⟨x0, e0⟩ := dIntL _ _ _ g0
  obtain ⟨k, e, ek, ee⟩ := dCallL _ _ _ g1
  obtain ⟨x2, e2⟩ := dIntL _ _ _ g2
  obtain ⟨x3, e3⟩ := dIntL _ _ _ g3
  obtain ⟨x4, e4⟩ := dIntL _ _ _ g4
  obtain ⟨x5, e5⟩ := dIntL _ _ _ g5
  obtain ⟨x6, e6⟩ := dIntL _ _ _ g6
  obtain ⟨x7, e7⟩ := dIntL _ _ _ g7
  obtain ⟨x8, e8⟩ := dIntL _ _ _ g8
  obtain ⟨x9, e9⟩ := dIntL _ _ _ g9
  obtain ⟨x10, e10⟩ := dIntL _ _ _ g10
  obtain ⟨x11, e11⟩ := dIntL _ _ _ g11
  obtain ⟨x12, e12⟩ := dIntL _ _ _ g12
  simp [c2, c3, List.getElem?_take, List.getElem?_drop] at e0 ek ee e2 e3 e4 e5 e6 e7 e8 e9 e10 e11 e12
  refine ⟨⟨x0, k, e, x2, x3, x4, x5, x6, x7, x8, x9, x10, x11, x12⟩, fun j hj => ?_⟩
  have hj2 : j = 0 ∨ j = 1 ∨ j = 2 ∨ j = 3 ∨ j = 4 ∨ j = 5 ∨ j = 6 ∨ j = 7 ∨ j = 8 ∨ j = 9 ∨ j = 10 ∨ j = 11 ∨ j = 12 ∨ j = 13 := by omega
  rcases hj2 with rfl | rfl | rfl | rfl | rfl | rfl | rfl | rfl | rfl | rfl | rfl | rfl | rfl | rfl
  · exact e0
  · exact ek
  · exact ee
  · exact e2
  · exact e3
  · exact e4
  · exact e5
  · exact e6
  · exact e7
  · exact e8
  · exact e9
  · exact e10
  · exact e11
  · exact e12
/-- A hand as an argument. -/
theorem oHand {r : Reach} {b0 : Nat} {v : Value} {d : DataW H} {p : List MemPlace} (hv : Value.okWide Try.prog w r b0 25 v) (h : DataW.Trod enc Try.prog w 0 spare held 25 v d p) :
    ∃ y : Ha, v = .agg (hvals y) := by
  obtain ⟨cs, rfl, hsz⟩ := okWide_struct Try.underlying25 hv
  have h3 : Try.prog.cellsOf 25 = 14 := by kernel_rfl
  obtain ⟨fuel, hf⟩ := h
  obtain ⟨y, hy⟩ := dHand _ _ _ hf
  refine ⟨y, congrArg Value.agg (Array.ext_getElem? fun j => ?_)⟩
  by_cases hj : j < 14
  · have := hy j hj
    simpa [Value.cells] using this
  · rw [Array.getElem?_eq_none (by omega), Array.getElem?_eq_none (by rw [hv_size]; omega)]
end
end Go.Proofs.Ytkfdbpmnbbhpeaa
