/-
  What the exact laws' walks share: lists that lie apart, and how long they are; no condition.
-/
import Derived.Test.YtpllffabdgngcaaLMarkC
namespace Go.Proofs.Ytpllffabdgngcaa
open Go.RowKit
theorem left_len {c : Ch} (h : ¬ leftC 1048576 c < 0) : c.cells.length ≤ 1048576 ∧ c.words.length ≤ 1048576 := by
  unfold leftC leftN at h
  split at h <;> split at h <;> try split at h
  all_goals omega
theorem row_ne {w : World} {g g' : Nat} {t t' : TypeId} {n k n' k' : Nat} {f f' : Nat → Nat → Value} (h : Row w g t n k f) (h' : Row w g' t' n' k' f') (ht : t ≠ t') : g ≠ g' := by
  rintro rfl
  obtain ⟨c, h1, _⟩ := h
  obtain ⟨c', h2, _⟩ := h'
  rw [h1] at h2
  simp at h2
  exact ht h2.2
/-- A list as it lies in a later world. -/
theorem New.segAt {w W : World} {lo n k : Nat} {x : Option Addr} {cap : Nat} {f : Nat → Nat → Value} (h : New w lo (.slice x n cap) n k f) (hb : Below w.heap.size w W) : Seg W W.heap.size x n k f := by
  obtain ⟨a, cap', e, hs⟩ := (h.below hb).seg
  simp at e
  obtain ⟨rfl, rfl⟩ := e
  exact hs
theorem own_apart {v v' : Value} {lo hi : Nat} (h : ∀ i, v.ownBlock = some i → i < hi) (h' : ∀ i, v'.ownBlock = some i → lo ≤ i) (hl : hi ≤ lo) : v'.ownBlock = none ∨ v.ownBlock ≠ v'.ownBlock := by
  cases e : v'.ownBlock with
  | none => exact .inl rfl
  | some i =>
    refine .inr fun e2 => ?_
    have h1 := h i e2
    have h2 := h' i e
    omega
end Go.Proofs.Ytpllffabdgngcaa
