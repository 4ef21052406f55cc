/-
  How a list of bytes is opened that is an argument of a law; no condition but that it can be read.
-/
import Derived.Test.YtccbbdmoedmcpaaOpen
namespace Go.Proofs.Ytccbbdmoedmcpaa
open Go.ChangeShapes Go.WideShapes Go.ChangeAt Go.RowKit Go.Deep
section
variable {H : Type} {enc : TypeId × Value → H} {w : World} {spare : Nat → Bool} {held : Bool}
/-- Bytes as an argument. -/
theorem oBytes {r : Reach} {b0 : Nat} {v : Value} {d : DataW H} {p : List MemPlace} (hv : Value.okWide Try.prog w r b0 22 v) (h : DataW.Trod enc Try.prog w 0 spare held 22 v d p) :
    ∃ (a : Option Addr) (n cap : Nat) (bs : Nat → Int), v = .slice a n cap ∧ n ≤ maxLen ∧ (∀ j, 0 ≤ bs j ∧ bs j ≤ 255) ∧ Seg w w.heap.size a n 1 (fun j _ => .int .u8 (bs j)) := by
  obtain ⟨a, len, cap, rfl⟩ := okWide_slice Try.underlying22 hv
  obtain ⟨fuel, hf⟩ := h
  obtain ⟨a', l, cap', hcs, h1, h2, h3, h4⟩ := dSlice 1 (fun (c : Int) _ => .int .u8 c) (fun c => 0 ≤ c ∧ c ≤ 255) 0 Try.underlying22 (by kernel_rfl) (by decide) (fun fuel cs x hx => by
    obtain ⟨c, rfl, _, hw⟩ := DataW.trod_int Try.underlying5 hx
    refine ⟨c, ?_, fun j hj => ?_⟩
    · simp [Lit.wf, IntKind.min, IntKind.max, IntKind.signed, IntKind.bits] at hw; omega
    · have : j = 0 := by omega
      subst this; rfl) hf
  simp [Value.cells] at hcs
  obtain ⟨rfl, rfl, rfl⟩ := hcs
  refine ⟨a, l.length, cap, fun j => l.getD j 0, rfl, Nat.le_trans h1 h2, fun j => ?_, h4⟩
  by_cases hj : j < l.length
  · have := h3 l[j] (List.getElem_mem hj)
    simpa [List.getD, hj] using this
  · have : l.getD j 0 = 0 := by simp [List.getD, Nat.le_of_not_lt hj]
    show 0 ≤ l.getD j 0 ∧ l.getD j 0 ≤ 255
    rw [this]; omega
end
end Go.Proofs.Ytccbbdmoedmcpaa
