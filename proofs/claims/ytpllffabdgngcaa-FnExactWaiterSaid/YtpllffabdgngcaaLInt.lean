/-
  The contracts of the laws' helpers on lists of numbers; lists of at most 1048576 elements.
-/
import Derived.Test.YtpllffabdgngcaaMk
namespace Go.Proofs.Ytpllffabdgngcaa
open Go.RowKit
def partI (l : List Int) (k i _j : Nat) : Value := if i < k then .int .i64 (l.getD i 0) else .int .i64 0
theorem Row.set1 {w : World} {b : Nat} {t : TypeId} {n : Nat} {f : Nat → Nat → Value} (h : Row w b t n 1 f) {i : Nat} (hi : i < n) (v : Value) :
    Row (w.setCell ⟨b, i, none⟩ v) b t n 1 (fun i' j' => if i' = i then v else f i' j') := by
  have h1 := h.set hi (j := 0) (by omega) v
  simp only [Nat.mul_one, Nat.add_zero] at h1
  refine h1.congr fun i' j' _ hj => ?_
  have : j' = 0 := by omega
  subst this
  by_cases e : i' = i <;> simp [e]
theorem partI_step {l : List Int} {k : Nat} {x : Int} (h : l.getD k 0 = x) (i j : Nat) : (if i = k then Value.int .i64 x else partI l k i j) = partI l (k + 1) i j := by
  unfold partI
  by_cases e : i = k
  · subst e; rw [if_pos rfl, if_pos (by omega), h]
  · rw [if_neg e]
    by_cases e2 : i < k
    · rw [if_pos e2, if_pos (by omega)]
    · rw [if_neg e2, if_neg (by omega)]
theorem partI_end (l : List Int) : ∀ i j, i < l.length → j < 1 → partI l l.length i j = intF l i j := fun i j hi _ => by simp [partI, intF, hi]
set_option maxHeartbeats 400000 in
theorem toInt64S_any (l : List Int) (a : Option Addr) (cap : Nat) (w : World) (h : Seg w w.heap.size a l.length 1 (intF l)) (hm : l.length ≤ 1048576) :
    Calls Try.prog 22 #[.slice a l.length cap] w fun r w' => r = .returned (.slice (some ⟨w.heap.size, 0, none⟩) l.length l.length) ∧ Row w' w.heap.size 2 l.length 1 (intF l) ∧ Below w.heap.size w w' := by
  have HS := Lib.hid h
  clear h
  have hmk := mkInts l.length hm
  have hR0 := (Row.made w #[.int .i64 0] l.length 2).congr (g := partI l 0) (fun i j _ hj => by
    have : j = 0 := by simp at hj; omega
    subst this; simp [partI])
  go_enter Try.func22, Try.ntmps22
  go_wp2
  go_loopw [4] (fun i wr => ∃ k : Nat, k ≤ l.length ∧ i = .int .i64 k ∧ Row wr w.heap.size 2 l.length 1 (partI l k) ∧ Below w.heap.size w wr) (fun i _ => l.length - (intOf i).toNat)
  case atStart => exact ⟨0, Nat.zero_le _, rfl, by simpa using hR0, (Below.refl _ _).alloc (Nat.le_refl _) _⟩
  case round =>
    obtain ⟨k, hk, rfl, hR, hB⟩ := hrel
    have hs := hB.size
    have hl := hR.lt
    by_cases hlt : k < l.length
    · obtain h0 | ⟨b, o, rfl, hb, hc⟩ := HS.out
      · omega
      have c0 := (hB.cell (p := ⟨b, o + k * 1 + 0, none⟩) hb).trans (hc k 0 hlt (by omega))
      simp only [intF, Nat.add_zero, Nat.mul_one] at c0
      clear hc
      generalize hcg : l.getD k 0 = x at c0
      have HC := Lib.hid hcg
      clear hcg
      have e0 := hR.cell hlt (show 0 < 1 by omega)
      simp only [Nat.add_zero, Nat.mul_one] at e0
      have f1 := hR.frozen
      go_wp2
      go_roundw
      case rel => exact ⟨k + 1, by omega, by go_num, (hR.set1 hlt (.int .i64 x)).congr (fun i j _ _ => partI_step HC.out i j), by (repeat (first | with_reducible assumption | with_reducible exact Below.refl _ _ | with_reducible refine bA ?_ | with_reducible refine bD ?_ | ((with_reducible refine bS ?_ ?_); rotate_left; (focus ((try simp); (try omega)))) | ((with_reducible refine bBx ?_ ?_); rotate_left; (focus ((try simp); (try omega))))))⟩
      case measure => simp [intOf]; omega
    · have : k = l.length := by omega
      subst this
      go_wp2
      go_ret
      exact ⟨rfl, hR.congr (partI_end l), hB⟩
theorem bDN' {w W : World} (h : Below w.heap.size w W) (n : Nat) : Below w.heap.size w (W.drewN n) := ⟨h.os, h.tape, h.output, h.size, h.block⟩
set_option maxRecDepth 100000 in
set_option maxHeartbeats 400000 in
theorem eqInt64S_any (l : List Int) (a a' : Option Addr) (cap cap' : Nat) (w : World) (h : Seg w w.heap.size a l.length 1 (intF l)) (h' : Seg w w.heap.size a' l.length 1 (intF l)) (hm : l.length ≤ 1048576) :
    Calls Try.prog 26 #[.slice a l.length cap, .slice a' l.length cap'] w fun r w' => r = .returned (.bool true) ∧ Below w.heap.size w w' := by
  have HS := Lib.hid h
  have HS' := Lib.hid h'
  clear h h'
  go_enter Try.func26, Try.ntmps26
  go_wp2
  go_loopw [5] (fun i wr => ∃ k : Nat, k ≤ l.length ∧ i = .int .i64 k ∧ Below w.heap.size w wr) (fun i _ => l.length - (intOf i).toNat)
  case atStart => exact ⟨0, Nat.zero_le _, rfl, Below.refl _ _⟩
  case round =>
    obtain ⟨k, hk, rfl, hB⟩ := hrel
    by_cases hlt : k < l.length
    · obtain h0 | ⟨b, o, rfl, hb, hc⟩ := HS.out
      · omega
      obtain h0 | ⟨b', o', rfl, hb', hc'⟩ := HS'.out
      · omega
      have c0 := (hB.cell (p := ⟨b, o + k * 1 + 0, none⟩) hb).trans (hc k 0 hlt (by omega))
      have d0 := (hB.cell (p := ⟨b', o' + k * 1 + 0, none⟩) hb').trans (hc' k 0 hlt (by omega))
      simp only [intF, Nat.add_zero, Nat.mul_one] at c0 d0
      clear hc hc'
      generalize l.getD k 0 = x at c0 d0
      have hk0 : (0 : Int) ≤ (k : Int) := by omega
      have hk1 : (k : Int) < (l.length : Int) := by omega
      go_wp2_with fail
      go_quiet (fail)
      go_wp2
      go_roundw
      case rel => exact ⟨k + 1, by omega, by go_num, bDN' hB _⟩
      case measure => simp [intOf]; omega
    · have : k = l.length := by omega
      subst this
      go_wp2
      go_ret
      exact ⟨rfl, hB⟩
set_option maxHeartbeats 400000 in
theorem szInt64S_any (n : Nat) (a : Option Addr) (cap : Nat) (left : Int) (w : World) (h0 : 0 ≤ left) (h1 : left ≤ 1048576) (hm : n ≤ maxLen) :
    Calls Try.prog 18 #[.slice a n cap, .int .i64 left] w fun r w' => r = .returned (.int .i64 (if left < n then -1 else left - n)) ∧ w = w' := by
  unfold maxLen at hm
  by_cases h : left < n
  · have hn : left - n < 0 := by omega
    rw [if_pos h]
    clear h
    go_enter Try.func18, Try.ntmps18
    go_wp2
    go_ret
    exact ⟨rfl, rfl⟩
  · have hn : ¬ left - n < 0 := by omega
    rw [if_neg h]
    go_enter Try.func18, Try.ntmps18
    go_wp2
    go_ret
    exact ⟨rfl, rfl⟩
end Go.Proofs.Ytpllffabdgngcaa
