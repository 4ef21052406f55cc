/-
  The exact laws of chapter 1 return true, whatever they are called with, and turn nothing that was there; the lists hold at most as much as memory can hold.
-/
import Derived.Test.YtkmlmbahjbfimaaSeg
namespace Go.Proofs.Ytkmlmbahjbfimaa
open Go.RowKit
set_option maxHeartbeats 400000 in
theorem exactCellOk_any (s e t : Int) (w : World) : Calls Try.prog 4 #[.agg #[.int .i64 s, .int .i64 e, .int .i64 t]] w fun r w' => r = .returned (.bool true) ∧ Below w.heap.size w w' := by
  go_enter Try.func4, Try.ntmps4
  go_wp2_with (first | (go_at_call 21; refine (toCell_any _ _ _ _).mono ?_; rintro _ w1 ⟨rfl, hbw1⟩; have hBw1 : Below w.heap.size w w1 := bT (by (repeat (first | with_reducible assumption | with_reducible exact Below.refl _ _ | with_reducible refine bA ?_ | with_reducible refine bD ?_ | (with_reducible refine bS ?_ ?_; rotate_left; focus (simp; try omega))))) hbw1; have hsw1 := hbw1.size; (try (simp at hsw1)); have := fun o => hbw1.cell (p := ⟨w.heap.size, o, none⟩) (by ((try simp); (try omega))); have := fun o => hbw1.frozen (p := ⟨w.heap.size, o, none⟩) (by ((try simp); (try omega))); have : w.heap.size < w1.heap.size := (by omega); have : w.heap.size ≤ w1.heap.size := (by omega); have : w.heap.size ≤ w1.heap.size + 1 := (by omega)) | (go_at_call 20; refine (sCellOk_any _ _ _ _).mono ?_; rintro _ w1 ⟨rfl, hbw1⟩; have hBw1 : Below w.heap.size w w1 := bT (by (repeat (first | with_reducible assumption | with_reducible exact Below.refl _ _ | with_reducible refine bA ?_ | with_reducible refine bD ?_ | (with_reducible refine bS ?_ ?_; rotate_left; focus (simp; try omega))))) hbw1; have hsw1 := hbw1.size; (try (simp at hsw1)); have := fun o => hbw1.cell (p := ⟨w.heap.size, o, none⟩) (by ((try simp); (try omega))); have := fun o => hbw1.frozen (p := ⟨w.heap.size, o, none⟩) (by ((try simp); (try omega))); have : w.heap.size < w1.heap.size := (by omega); have : w.heap.size ≤ w1.heap.size := (by omega); have : w.heap.size ≤ w1.heap.size + 1 := (by omega)) | (go_at_call 19; refine (cellOk_any _ _ _ _).mono ?_; rintro _ w1 ⟨rfl, hbw1⟩; have hBw1 : Below w.heap.size w w1 := bT (by (repeat (first | with_reducible assumption | with_reducible exact Below.refl _ _ | with_reducible refine bA ?_ | with_reducible refine bD ?_ | (with_reducible refine bS ?_ ?_; rotate_left; focus (simp; try omega))))) hbw1; have hsw1 := hbw1.size; (try (simp at hsw1)); have := fun o => hbw1.cell (p := ⟨w.heap.size, o, none⟩) (by ((try simp); (try omega))); have := fun o => hbw1.frozen (p := ⟨w.heap.size, o, none⟩) (by ((try simp); (try omega))); have : w.heap.size < w1.heap.size := (by omega); have : w.heap.size ≤ w1.heap.size := (by omega); have : w.heap.size ≤ w1.heap.size + 1 := (by omega)))
  all_goals go_ret
  exact ⟨rfl, by (repeat (first | with_reducible assumption | with_reducible exact Below.refl _ _ | with_reducible refine bA ?_ | with_reducible refine bD ?_ | (with_reducible refine bS ?_ ?_; rotate_left; focus (simp; try omega))))⟩
set_option maxHeartbeats 400000 in
theorem exactLaid_any (s e t m : Int) (w : World) : Calls Try.prog 5 #[.agg #[.int .i64 s, .int .i64 e, .int .i64 t], .int .i64 m] w fun r w' => r = .returned (.bool true) ∧ Below w.heap.size w w' := by
  have hq := eqC_refl s (laidF s e t m) t
  go_enter Try.func5, Try.ntmps5
  go_wp2_with fail; refine (toCell_any _ _ _ _).mono ?_; rintro _ w1 ⟨rfl, hbw1⟩; have hBw1 : Below w.heap.size w w1 := bT (by (repeat (first | with_reducible assumption | with_reducible exact Below.refl _ _ | with_reducible refine bA ?_ | with_reducible refine bD ?_ | (with_reducible refine bS ?_ ?_; rotate_left; focus (simp; try omega))))) hbw1; have hsw1 := hbw1.size; (try (simp at hsw1)); have := fun o => hbw1.cell (p := ⟨w.heap.size, o, none⟩) (by ((try simp); (try omega))); have := fun o => hbw1.frozen (p := ⟨w.heap.size, o, none⟩) (by ((try simp); (try omega))); have : w.heap.size < w1.heap.size := (by omega); have : w.heap.size ≤ w1.heap.size := (by omega); have : w.heap.size ≤ w1.heap.size + 1 := (by omega)
  go_wp2_with fail; refine (sLaid_any _ _ _ _ _).mono ?_; rintro _ w2 ⟨rfl, hbw2⟩; have hBw2 : Below w.heap.size w w2 := bT (by (repeat (first | with_reducible assumption | with_reducible exact Below.refl _ _ | with_reducible refine bA ?_ | with_reducible refine bD ?_ | (with_reducible refine bS ?_ ?_; rotate_left; focus (simp; try omega))))) hbw2; have hsw2 := hbw2.size; (try (simp at hsw2)); have := fun o => hbw2.cell (p := ⟨w.heap.size, o, none⟩) (by ((try simp); (try omega))); have := fun o => hbw2.frozen (p := ⟨w.heap.size, o, none⟩) (by ((try simp); (try omega))); have : w.heap.size < w2.heap.size := (by omega); have : w.heap.size ≤ w2.heap.size := (by omega); have : w.heap.size ≤ w2.heap.size + 1 := (by omega)
  go_wp2_with fail; refine (toCell_any _ _ _ _).mono ?_; rintro _ w3 ⟨rfl, hbw3⟩; have hBw3 : Below w.heap.size w w3 := bT (by (repeat (first | with_reducible assumption | with_reducible exact Below.refl _ _ | with_reducible refine bA ?_ | with_reducible refine bD ?_ | (with_reducible refine bS ?_ ?_; rotate_left; focus (simp; try omega))))) hbw3; have hsw3 := hbw3.size; (try (simp at hsw3)); have := fun o => hbw3.cell (p := ⟨w.heap.size, o, none⟩) (by ((try simp); (try omega))); have := fun o => hbw3.frozen (p := ⟨w.heap.size, o, none⟩) (by ((try simp); (try omega))); have := fun o => hbw3.cell (p := ⟨w2.heap.size, o, none⟩) (by ((try simp); (try omega))); have := fun o => hbw3.frozen (p := ⟨w2.heap.size, o, none⟩) (by ((try simp); (try omega))); have : w.heap.size < w3.heap.size := (by omega); have : w.heap.size ≤ w3.heap.size := (by omega); have : w.heap.size ≤ w3.heap.size + 1 := (by omega); have : w2.heap.size < w3.heap.size := (by omega); have : w2.heap.size ≤ w3.heap.size := (by omega); have : w2.heap.size ≤ w3.heap.size + 1 := (by omega)
  go_wp2_with fail; refine (laid_any _ _ _ _ _).mono ?_; rintro _ w4 ⟨rfl, hbw4⟩; have hBw4 : Below w.heap.size w w4 := bT (by (repeat (first | with_reducible assumption | with_reducible exact Below.refl _ _ | with_reducible refine bA ?_ | with_reducible refine bD ?_ | (with_reducible refine bS ?_ ?_; rotate_left; focus (simp; try omega))))) hbw4; have hsw4 := hbw4.size; (try (simp at hsw4)); have := fun o => hbw4.cell (p := ⟨w.heap.size, o, none⟩) (by ((try simp); (try omega))); have := fun o => hbw4.frozen (p := ⟨w.heap.size, o, none⟩) (by ((try simp); (try omega))); have := fun o => hbw4.cell (p := ⟨w2.heap.size, o, none⟩) (by ((try simp); (try omega))); have := fun o => hbw4.frozen (p := ⟨w2.heap.size, o, none⟩) (by ((try simp); (try omega))); have : w.heap.size < w4.heap.size := (by omega); have : w.heap.size ≤ w4.heap.size := (by omega); have : w.heap.size ≤ w4.heap.size + 1 := (by omega); have : w2.heap.size < w4.heap.size := (by omega); have : w2.heap.size ≤ w4.heap.size := (by omega); have : w2.heap.size ≤ w4.heap.size + 1 := (by omega)
  go_wp2_with fail; refine (eqCell_any _ _ _ _ _ _ _).mono ?_; rintro _ w5 ⟨rfl, hbw5⟩; have hBw5 : Below w.heap.size w w5 := bT (by (repeat (first | with_reducible assumption | with_reducible exact Below.refl _ _ | with_reducible refine bA ?_ | with_reducible refine bD ?_ | (with_reducible refine bS ?_ ?_; rotate_left; focus (simp; try omega))))) hbw5; have hsw5 := hbw5.size; (try (simp at hsw5)); have := fun o => hbw5.cell (p := ⟨w.heap.size, o, none⟩) (by ((try simp); (try omega))); have := fun o => hbw5.frozen (p := ⟨w.heap.size, o, none⟩) (by ((try simp); (try omega))); have := fun o => hbw5.cell (p := ⟨w2.heap.size, o, none⟩) (by ((try simp); (try omega))); have := fun o => hbw5.frozen (p := ⟨w2.heap.size, o, none⟩) (by ((try simp); (try omega))); have := fun o => hbw5.cell (p := ⟨w4.heap.size, o, none⟩) (by ((try simp); (try omega))); have := fun o => hbw5.frozen (p := ⟨w4.heap.size, o, none⟩) (by ((try simp); (try omega))); have : w.heap.size < w5.heap.size := (by omega); have : w.heap.size ≤ w5.heap.size := (by omega); have : w.heap.size ≤ w5.heap.size + 1 := (by omega); have : w2.heap.size < w5.heap.size := (by omega); have : w2.heap.size ≤ w5.heap.size := (by omega); have : w2.heap.size ≤ w5.heap.size + 1 := (by omega); have : w4.heap.size < w5.heap.size := (by omega); have : w4.heap.size ≤ w5.heap.size := (by omega); have : w4.heap.size ≤ w5.heap.size + 1 := (by omega)
  go_wp2
  go_ret
  exact ⟨rfl, by (repeat (first | with_reducible assumption | with_reducible exact Below.refl _ _ | with_reducible refine bA ?_ | with_reducible refine bD ?_ | (with_reducible refine bS ?_ ?_; rotate_left; focus (simp; try omega))))⟩
set_option maxHeartbeats 400000 in
theorem exactTurned_any (s e t f n v : Int) (w : World) : Calls Try.prog 6 #[.agg #[.int .i64 s, .int .i64 e, .int .i64 t], .int .i64 f, .int .i64 n, .int .i64 v] w fun r w' => r = .returned (.bool true) ∧ Below w.heap.size w w' := by
  have hq := eqC_refl (turnS s e t f n v) e (turnW s e t f n v)
  go_enter Try.func6, Try.ntmps6
  go_wp2_with fail; refine (toCell_any _ _ _ _).mono ?_; rintro _ w1 ⟨rfl, hbw1⟩; have hBw1 : Below w.heap.size w w1 := bT (by (repeat (first | with_reducible assumption | with_reducible exact Below.refl _ _ | with_reducible refine bA ?_ | with_reducible refine bD ?_ | (with_reducible refine bS ?_ ?_; rotate_left; focus (simp; try omega))))) hbw1; have hsw1 := hbw1.size; (try (simp at hsw1)); have := fun o => hbw1.cell (p := ⟨w.heap.size, o, none⟩) (by ((try simp); (try omega))); have := fun o => hbw1.frozen (p := ⟨w.heap.size, o, none⟩) (by ((try simp); (try omega))); have : w.heap.size < w1.heap.size := (by omega); have : w.heap.size ≤ w1.heap.size := (by omega); have : w.heap.size ≤ w1.heap.size + 1 := (by omega)
  go_wp2_with fail; refine (sTurned_any _ _ _ _ _ _ _).mono ?_; rintro _ w2 ⟨rfl, hbw2⟩; have hBw2 : Below w.heap.size w w2 := bT (by (repeat (first | with_reducible assumption | with_reducible exact Below.refl _ _ | with_reducible refine bA ?_ | with_reducible refine bD ?_ | (with_reducible refine bS ?_ ?_; rotate_left; focus (simp; try omega))))) hbw2; have hsw2 := hbw2.size; (try (simp at hsw2)); have := fun o => hbw2.cell (p := ⟨w.heap.size, o, none⟩) (by ((try simp); (try omega))); have := fun o => hbw2.frozen (p := ⟨w.heap.size, o, none⟩) (by ((try simp); (try omega))); have : w.heap.size < w2.heap.size := (by omega); have : w.heap.size ≤ w2.heap.size := (by omega); have : w.heap.size ≤ w2.heap.size + 1 := (by omega)
  go_wp2_with fail; refine (toCell_any _ _ _ _).mono ?_; rintro _ w3 ⟨rfl, hbw3⟩; have hBw3 : Below w.heap.size w w3 := bT (by (repeat (first | with_reducible assumption | with_reducible exact Below.refl _ _ | with_reducible refine bA ?_ | with_reducible refine bD ?_ | (with_reducible refine bS ?_ ?_; rotate_left; focus (simp; try omega))))) hbw3; have hsw3 := hbw3.size; (try (simp at hsw3)); have := fun o => hbw3.cell (p := ⟨w.heap.size, o, none⟩) (by ((try simp); (try omega))); have := fun o => hbw3.frozen (p := ⟨w.heap.size, o, none⟩) (by ((try simp); (try omega))); have := fun o => hbw3.cell (p := ⟨w2.heap.size, o, none⟩) (by ((try simp); (try omega))); have := fun o => hbw3.frozen (p := ⟨w2.heap.size, o, none⟩) (by ((try simp); (try omega))); have : w.heap.size < w3.heap.size := (by omega); have : w.heap.size ≤ w3.heap.size := (by omega); have : w.heap.size ≤ w3.heap.size + 1 := (by omega); have : w2.heap.size < w3.heap.size := (by omega); have : w2.heap.size ≤ w3.heap.size := (by omega); have : w2.heap.size ≤ w3.heap.size + 1 := (by omega)
  go_wp2_with fail; refine (turned_any _ _ _ _ _ _ _).mono ?_; rintro _ w4 ⟨rfl, hbw4⟩; have hBw4 : Below w.heap.size w w4 := bT (by (repeat (first | with_reducible assumption | with_reducible exact Below.refl _ _ | with_reducible refine bA ?_ | with_reducible refine bD ?_ | (with_reducible refine bS ?_ ?_; rotate_left; focus (simp; try omega))))) hbw4; have hsw4 := hbw4.size; (try (simp at hsw4)); have := fun o => hbw4.cell (p := ⟨w.heap.size, o, none⟩) (by ((try simp); (try omega))); have := fun o => hbw4.frozen (p := ⟨w.heap.size, o, none⟩) (by ((try simp); (try omega))); have := fun o => hbw4.cell (p := ⟨w2.heap.size, o, none⟩) (by ((try simp); (try omega))); have := fun o => hbw4.frozen (p := ⟨w2.heap.size, o, none⟩) (by ((try simp); (try omega))); have : w.heap.size < w4.heap.size := (by omega); have : w.heap.size ≤ w4.heap.size := (by omega); have : w.heap.size ≤ w4.heap.size + 1 := (by omega); have : w2.heap.size < w4.heap.size := (by omega); have : w2.heap.size ≤ w4.heap.size := (by omega); have : w2.heap.size ≤ w4.heap.size + 1 := (by omega)
  go_wp2_with fail; refine (eqCell_any _ _ _ _ _ _ _).mono ?_; rintro _ w5 ⟨rfl, hbw5⟩; have hBw5 : Below w.heap.size w w5 := bT (by (repeat (first | with_reducible assumption | with_reducible exact Below.refl _ _ | with_reducible refine bA ?_ | with_reducible refine bD ?_ | (with_reducible refine bS ?_ ?_; rotate_left; focus (simp; try omega))))) hbw5; have hsw5 := hbw5.size; (try (simp at hsw5)); have := fun o => hbw5.cell (p := ⟨w.heap.size, o, none⟩) (by ((try simp); (try omega))); have := fun o => hbw5.frozen (p := ⟨w.heap.size, o, none⟩) (by ((try simp); (try omega))); have := fun o => hbw5.cell (p := ⟨w2.heap.size, o, none⟩) (by ((try simp); (try omega))); have := fun o => hbw5.frozen (p := ⟨w2.heap.size, o, none⟩) (by ((try simp); (try omega))); have := fun o => hbw5.cell (p := ⟨w4.heap.size, o, none⟩) (by ((try simp); (try omega))); have := fun o => hbw5.frozen (p := ⟨w4.heap.size, o, none⟩) (by ((try simp); (try omega))); have : w.heap.size < w5.heap.size := (by omega); have : w.heap.size ≤ w5.heap.size := (by omega); have : w.heap.size ≤ w5.heap.size + 1 := (by omega); have : w2.heap.size < w5.heap.size := (by omega); have : w2.heap.size ≤ w5.heap.size := (by omega); have : w2.heap.size ≤ w5.heap.size + 1 := (by omega); have : w4.heap.size < w5.heap.size := (by omega); have : w4.heap.size ≤ w5.heap.size := (by omega); have : w4.heap.size ≤ w5.heap.size + 1 := (by omega)
  go_wp2
  go_ret
  exact ⟨rfl, by (repeat (first | with_reducible assumption | with_reducible exact Below.refl _ _ | with_reducible refine bA ?_ | with_reducible refine bD ?_ | (with_reducible refine bS ?_ ?_; rotate_left; focus (simp; try omega))))⟩
set_option maxHeartbeats 400000 in
theorem exactLiveIn_any (cs : List C3) (a : Option Addr) (cap : Nat) (w : World) (h : Seg w w.heap.size a cs.length 3 (cellF cs)) (hm : cs.length ≤ maxLen) :
    Calls Try.prog 7 #[.slice a cs.length cap] w fun r w' => r = .returned (.bool true) ∧ Below w.heap.size w w' := by
  have HS := Lib.hid h
  have HM := Lib.hid hm
  clear h hm
  by_cases hn : (1048576 : Int) < (cs.length : Int)
  · have hq : (if (1048576 : Int) < (cs.length : Int) then (-1 : Int) else 1048576 - cs.length) = -1 := if_pos hn
    have HQ := Lib.hid hq
    clear hq
    go_enter Try.func7, Try.ntmps7
    go_wp2_with fail
    refine (szCellS_any _ _ _ _ _ (by omega) (by omega) HM.out).mono ?_
    rintro _ _ ⟨rfl, rfl⟩
    rw [HQ.out]
    go_wp2
    go_ret
    exact ⟨rfl, Below.refl _ _⟩
  · have hq : (if (1048576 : Int) < (cs.length : Int) then (-1 : Int) else 1048576 - cs.length) = 1048576 - cs.length := if_neg hn
    have HQ := Lib.hid hq
    have hl : ¬ (1048576 : Int) - cs.length < 0 := by omega
    clear hq
    go_enter Try.func7, Try.ntmps7
    go_wp2_with fail
    refine (szCellS_any _ _ _ _ _ (by omega) (by omega) HM.out).mono ?_
    rintro _ _ ⟨rfl, rfl⟩
    rw [HQ.out]
    go_wp2_with fail
    refine (toCellS_any cs a cap _ HS.out (by omega)).mono ?_
    rintro _ w1 ⟨rfl, hR1, hB1⟩
    have hS1 := Lib.hid hR1.seg
    go_wp2_with fail
    refine (sLiveIn_any cs _ _ _ hS1.out HM.out).mono ?_
    rintro _ w2 ⟨rfl, hb2⟩
    have hB2 : Below w.heap.size w w2 := bT hB1 hb2
    go_wp2_with fail
    refine (toCellS_any cs a cap _ ((HS.out.below hB2).more hB2.size) (by omega)).mono ?_
    rintro _ w3 ⟨rfl, hR3, hb3⟩
    have hB3 : Below w.heap.size w w3 := bT hB2 hb3
    have hS3 := Lib.hid hR3.seg
    go_wp2_with fail
    refine (liveIn_any cs _ _ _ hS3.out HM.out).mono ?_
    rintro _ w4 ⟨rfl, hb4⟩
    have hB4 : Below w.heap.size w w4 := bT hB3 hb4
    go_wp2_with fail
    refine (toCellS_any cs a cap _ ((HS.out.below hB4).more hB4.size) (by omega)).mono ?_
    rintro _ w5 ⟨rfl, hR5, hb5⟩
    have hB5 : Below w.heap.size w w5 := bT hB4 hb5
    go_wp2_with fail
    refine (eqCellS_any cs _ _ _ _ _ (((hS3.out.below hb4).below (hb5.mono hb4.size)).more (Nat.le_trans hb4.size hb5.size)) hR5.seg (by omega)).mono ?_
    rintro _ w6 ⟨rfl, hb6⟩
    have hB6 : Below w.heap.size w w6 := bT hB5 hb6
    go_wp2
    go_ret
    exact ⟨rfl, hB6⟩
end Go.Proofs.Ytkmlmbahjbfimaa
