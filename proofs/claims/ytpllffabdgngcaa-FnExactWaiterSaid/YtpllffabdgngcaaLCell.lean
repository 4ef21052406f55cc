/-
  The contracts of the laws' helpers on cells; lists of at most 1048576 elements.
-/
import Derived.Test.YtpllffabdgngcaaMk
namespace Go.Proofs.Ytpllffabdgngcaa
open Go.RowKit
set_option maxHeartbeats 400000 in
theorem toCell_any (s e t : Int) (w : World) : Calls Try.prog 38 #[.agg #[.int .i64 s, .int .i64 e, .int .i64 t]] w fun r w' => r = .returned (.agg #[.int .i64 s, .int .i64 e, .int .i64 t]) ∧ Below w.heap.size w w' := by
  go_enter Try.func38, Try.ntmps38
  go_wp2
  exact bodyPost_ret (v := .agg #[.int .i64 s, .int .i64 e, .int .i64 t]) (by simp [results, Try.results38, go_sem]) rfl ⟨rfl, by (repeat (first | with_reducible assumption | with_reducible exact Below.refl _ _ | with_reducible refine bA ?_ | with_reducible refine bD ?_ | ((with_reducible refine bS ?_ ?_); rotate_left; (focus ((try simp); (try omega)))) | ((with_reducible refine bBx ?_ ?_); rotate_left; (focus ((try simp); (try omega))))))⟩
set_option maxHeartbeats 400000 in
theorem eqCell_any (s e t s' e' t' : Int) (w : World) : Calls Try.prog 43 #[.agg #[.int .i64 s, .int .i64 e, .int .i64 t], .agg #[.int .i64 s', .int .i64 e', .int .i64 t']] w fun r w' => r = .returned (.bool (eqC s e t s' e' t')) ∧ Below w.heap.size w w' := by
  go_enter Try.func43, Try.ntmps43
  go_wp2
  all_goals go_ret
  all_goals refine ⟨ret_bool ?_, by (repeat (first | with_reducible assumption | with_reducible exact Below.refl _ _ | with_reducible refine bA ?_ | with_reducible refine bD ?_ | ((with_reducible refine bS ?_ ?_); rotate_left; (focus ((try simp); (try omega)))) | ((with_reducible refine bBx ?_ ?_); rotate_left; (focus ((try simp); (try omega))))))⟩
  all_goals unfold eqC
  all_goals repeat (rw [eqB_2 ‹_›])
  all_goals first | exact eqB_1 ‹_› | rfl
set_option maxHeartbeats 400000 in
theorem toCellS_any (cs : List C3) (a : Option Addr) (cap : Nat) (w : World) (h : Seg w w.heap.size a cs.length 3 (cellF cs)) (hm : cs.length ≤ 1048576) :
    Calls Try.prog 21 #[.slice a cs.length cap] w fun r w' => r = .returned (.slice (some ⟨w.heap.size, 0, none⟩) cs.length cs.length) ∧ Row w' w.heap.size 57 cs.length 3 (cellF cs) ∧ Below w.heap.size w w' := by
  have HS := Lib.hid h
  clear h
  have hmk := mkCells cs.length hm
  have hR0 := (Row.made w #[.int .i64 0, .int .i64 0, .int .i64 0] cs.length 57).congr (g := partF cs 0) (fun i j _ hj => by
    have : j = 0 ∨ j = 1 ∨ j = 2 := by simp at hj; omega
    rcases this with rfl | rfl | rfl <;> simp [partF])
  go_enter Try.func21, Try.ntmps21
  go_wp2
  go_loopw [4] (fun i wr => ∃ k : Nat, k ≤ cs.length ∧ i = .int .i64 k ∧ Row wr w.heap.size 57 cs.length 3 (partF cs k) ∧ Below w.heap.size w wr) (fun i _ => cs.length - (intOf i).toNat)
  case atStart => exact ⟨0, Nat.zero_le _, rfl, hR0, (Below.refl _ _).alloc (Nat.le_refl _) _⟩
  case round =>
    obtain ⟨k, hk, rfl, hR, hB⟩ := hrel
    have hs := hB.size
    have hl := hR.lt
    by_cases hlt : k < cs.length
    · obtain h0 | ⟨b, o, rfl, hb, hc⟩ := HS.out
      · omega
      have c0 := (hB.cell (p := ⟨b, o + k * 3 + 0, none⟩) hb).trans (hc k 0 hlt (by omega))
      have c1 := (hB.cell (p := ⟨b, o + k * 3 + 1, none⟩) hb).trans (hc k 1 hlt (by omega))
      have c2 := (hB.cell (p := ⟨b, o + k * 3 + 2, none⟩) hb).trans (hc k 2 hlt (by omega))
      simp only [cellF, C3.val, Nat.add_zero] at c0 c1 c2
      clear hc
      generalize hcg : cs.getD k ⟨0, 0, 0⟩ = c at c0 c1 c2
      have HC := Lib.hid hcg
      clear hcg
      go_wp2_with ((go_at_call 38; refine (toCell_any _ _ _ _).mono ?_; rintro _ w1 ⟨rfl, hbw1⟩; have hBw1 : Below w.heap.size w w1 := bT (by (repeat (first | with_reducible assumption | with_reducible exact Below.refl _ _ | with_reducible refine bA ?_ | with_reducible refine bD ?_ | ((with_reducible refine bS ?_ ?_); rotate_left; (focus ((try simp); (try omega)))) | ((with_reducible refine bBx ?_ ?_); rotate_left; (focus ((try simp); (try omega))))))) hbw1; have hsw1 := hbw1.size; (try (simp at hsw1))); have hR1 := hR.below hbw1 hl; have e0 := hR1.cell hlt (show 0 < 3 by omega); have e1 := hR1.cell hlt (show 1 < 3 by omega); have e2 := hR1.cell hlt (show 2 < 3 by omega); simp only [Nat.add_zero] at e0; have f1 := hR1.frozen)
      go_roundw
      case rel => exact ⟨k + 1, by omega, by go_num, (hR1.set3 hlt c.val).congr (fun i j _ _ => part_step HC.out i j), by (repeat (first | with_reducible assumption | with_reducible exact Below.refl _ _ | with_reducible refine bA ?_ | with_reducible refine bD ?_ | ((with_reducible refine bS ?_ ?_); rotate_left; (focus ((try simp); (try omega)))) | ((with_reducible refine bBx ?_ ?_); rotate_left; (focus ((try simp); (try omega))))))⟩
      case measure => simp [intOf]; omega
    · have : k = cs.length := by omega
      subst this
      go_wp2
      go_ret
      exact ⟨rfl, hR.congr (part_end cs), hB⟩
set_option maxRecDepth 100000 in
set_option maxHeartbeats 400000 in
theorem eqCellS_any (cs : List C3) (a a' : Option Addr) (cap cap' : Nat) (w : World) (h : Seg w w.heap.size a cs.length 3 (cellF cs)) (h' : Seg w w.heap.size a' cs.length 3 (cellF cs)) (hm : cs.length ≤ 1048576) :
    Calls Try.prog 25 #[.slice a cs.length cap, .slice a' cs.length cap'] w fun r w' => r = .returned (.bool true) ∧ Below w.heap.size w w' := by
  have HS := Lib.hid h
  have HS' := Lib.hid h'
  clear h h'
  go_enter Try.func25, Try.ntmps25
  go_wp2
  go_loopw [5] (fun i wr => ∃ k : Nat, k ≤ cs.length ∧ i = .int .i64 k ∧ Below w.heap.size w wr) (fun i _ => cs.length - (intOf i).toNat)
  case atStart => exact ⟨0, Nat.zero_le _, rfl, Below.refl _ _⟩
  case round =>
    obtain ⟨k, hk, rfl, hB⟩ := hrel
    have hs := hB.size
    by_cases hlt : k < cs.length
    · obtain h0 | ⟨b, o, rfl, hb, hc⟩ := HS.out
      · omega
      obtain h0 | ⟨b', o', rfl, hb', hc'⟩ := HS'.out
      · omega
      have c0 := (hB.cell (p := ⟨b, o + k * 3 + 0, none⟩) hb).trans (hc k 0 hlt (by omega))
      have c1 := (hB.cell (p := ⟨b, o + k * 3 + 1, none⟩) hb).trans (hc k 1 hlt (by omega))
      have c2 := (hB.cell (p := ⟨b, o + k * 3 + 2, none⟩) hb).trans (hc k 2 hlt (by omega))
      have d0 := (hB.cell (p := ⟨b', o' + k * 3 + 0, none⟩) hb').trans (hc' k 0 hlt (by omega))
      have d1 := (hB.cell (p := ⟨b', o' + k * 3 + 1, none⟩) hb').trans (hc' k 1 hlt (by omega))
      have d2 := (hB.cell (p := ⟨b', o' + k * 3 + 2, none⟩) hb').trans (hc' k 2 hlt (by omega))
      simp only [cellF, C3.val, Nat.add_zero] at c0 c1 c2 d0 d1 d2
      clear hc hc'
      generalize hcg : cs.getD k ⟨0, 0, 0⟩ = c at c0 c1 c2 d0 d1 d2
      have HC := Lib.hid hcg
      clear hcg
      have hk0 : (0 : Int) ≤ (k : Int) := by omega
      have hk1 : (k : Int) < (cs.length : Int) := by omega
      go_wp2_with fail
      go_still_tail 8, (by kernel_rfl)
      go_wp2_with (go_at_call 43; refine (eqCell_any _ _ _ _ _ _ _).mono ?_; rintro _ w1 ⟨rfl, hbw1⟩; have hBw1 : Below w.heap.size w w1 := bT (by (repeat (first | with_reducible assumption | with_reducible exact Below.refl _ _ | with_reducible refine bA ?_ | with_reducible refine bD ?_ | ((with_reducible refine bS ?_ ?_); rotate_left; (focus ((try simp); (try omega)))) | ((with_reducible refine bBx ?_ ?_); rotate_left; (focus ((try simp); (try omega))))))) hbw1; have hsw1 := hbw1.size; (try (simp at hsw1)))
      · rename_i hq
        rw [eqC_refl] at hq
        simp at hq
      · go_roundw
        case rel => exact ⟨k + 1, by omega, by go_num, by (repeat (first | with_reducible assumption | with_reducible exact Below.refl _ _ | with_reducible refine bA ?_ | with_reducible refine bD ?_ | ((with_reducible refine bS ?_ ?_); rotate_left; (focus ((try simp); (try omega)))) | ((with_reducible refine bBx ?_ ?_); rotate_left; (focus ((try simp); (try omega))))))⟩
        case measure => simp [intOf]; omega
    · have : k = cs.length := by omega
      subst this
      go_wp2
      go_ret
      exact ⟨rfl, hB⟩
set_option maxHeartbeats 400000 in
theorem szCellS_any (n : Nat) (a : Option Addr) (cap : Nat) (left : Int) (w : World) (h0 : 0 ≤ left) (h1 : left ≤ 1048576) (hm : n ≤ maxLen) :
    Calls Try.prog 17 #[.slice a n cap, .int .i64 left] w fun r w' => r = .returned (.int .i64 (if left < n then -1 else left - n)) ∧ w = w' := by
  unfold maxLen at hm
  by_cases h : left < n
  · have hn : left - n < 0 := by omega
    rw [if_pos h]
    clear h
    go_enter Try.func17, Try.ntmps17
    go_wp2
    go_ret
    exact ⟨rfl, rfl⟩
  · have hn : ¬ left - n < 0 := by omega
    rw [if_neg h]
    go_enter Try.func17, Try.ntmps17
    go_wp2
    go_ret
    exact ⟨rfl, rfl⟩
end Go.Proofs.Ytpllffabdgngcaa
