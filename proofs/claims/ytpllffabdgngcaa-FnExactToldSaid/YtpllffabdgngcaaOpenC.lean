/-
  How a channel is opened that is an argument of a law; no condition but that it can be read.
-/
import Derived.Test.YtpllffabdgngcaaOpen
namespace Go.Proofs.Ytpllffabdgngcaa
open Go.ChangeShapes Go.WideShapes Go.ChangeAt Go.RowKit Go.Deep
section
variable {H : Type} {enc : TypeId × Value → H} {w : World} {spare : Nat → Bool} {held : Bool}
theorem dInt (fuel : Nat) (cs : List Value) (x : DataW H × List MemPlace) (hx : DataW.trod enc Try.prog w 0 spare held fuel 2 cs = some x) :
    ∃ c : Int, (Lit.int .i64 c).wf = true ∧ ∀ j, j < 1 → cs[j]? = some (Value.int .i64 c) := by
  obtain ⟨c, rfl, _, hw⟩ := DataW.trod_int Try.underlying2 hx
  refine ⟨c, hw, fun j hj => ?_⟩
  have : j = 0 := by omega
  subst this; rfl
/-- A channel as an argument. -/
theorem oChan {r : Reach} {b0 : Nat} {v : Value} {d : DataW H} {pl : List MemPlace} (hv : Value.okWide Try.prog w r b0 25 v) (h : DataW.Trod enc Try.prog w 0 spare held 25 v d pl) :
    ∃ (c : Ch) (a b : Option Addr) (p q : Nat), v = .agg #[.int .i64 c.cap, .int .i64 c.sent, .int .i64 c.got, .int .i64 c.fin, .slice a c.cells.length p, .slice b c.words.length q] ∧ c.cells.length ≤ maxLen ∧ c.words.length ≤ maxLen ∧
      Seg w w.heap.size a c.cells.length 3 (cellF c.cells) ∧ Seg w w.heap.size b c.words.length 1 (intF c.words) := by
  obtain ⟨cs, rfl, hsz⟩ := okWide_struct Try.underlying25 hv
  obtain ⟨l⟩ := cs
  have hs : l.length = 6 := by have h3 : Try.prog.cellsOf 25 = 6 := by kernel_rfl
                               simpa [h3] using hsz
  obtain ⟨fuel, hf⟩ := h
  obtain ⟨xs, n, _, _, hlen, hxl, hg⟩ := DataW.trod_struct Try.underlying25 hf
  match l, hs with
  | [v0, v1, v2, v3, v4, v5], _ =>
    have c2 : Try.prog.cellsOf 2 = 1 := by kernel_rfl
    have c4 : Try.prog.cellsOf 22 = 1 := by kernel_rfl
    have c5 : Try.prog.cellsOf 23 = 1 := by kernel_rfl
    have g0 := hg 0 _ rfl
    have g1 := hg 1 _ rfl
    have g2 := hg 2 _ rfl
    have g3 := hg 3 _ rfl
    have g4 := hg 4 _ rfl
    have g5 := hg 5 _ rfl
    rw [List.getElem?_eq_getElem (by simp at hxl; omega)] at g0 g1 g2 g3 g4 g5
    obtain ⟨x0, _, e0⟩ := dInt _ _ _ g0
    obtain ⟨x1, _, e1⟩ := dInt _ _ _ g1
    obtain ⟨x2, _, e2⟩ := dInt _ _ _ g2
    obtain ⟨x3, _, e3⟩ := dInt _ _ _ g3
    obtain ⟨a, cells, p, e4, m1, m2, _, s1⟩ := dSlice 3 C3.val C3.wf ⟨0, 0, 0⟩ Try.underlying22 (by kernel_rfl) (by decide) dCell g4
    obtain ⟨b, words, q, e5, m3, m4, _, s2⟩ := dSlice 1 (fun (c : Int) _ => .int .i64 c) (fun c => (Lit.int .i64 c).wf = true) 0 Try.underlying23 (by kernel_rfl) (by decide) dInt g5
    replace e0 := e0 0 (by omega)
    replace e1 := e1 0 (by omega)
    replace e2 := e2 0 (by omega)
    replace e3 := e3 0 (by omega)
    simp [c2, Value.cells] at e0 e1 e2 e3
    simp [c4, Value.cells] at e4
    simp [c5, Value.cells] at e5
    subst e0 e1 e2 e3 e4 e5
    exact ⟨⟨x0, x1, x2, x3, cells, words⟩, a, b, p, q, rfl, Nat.le_trans m1 m2, Nat.le_trans m3 m4, s1, s2⟩
end
end Go.Proofs.Ytpllffabdgngcaa
