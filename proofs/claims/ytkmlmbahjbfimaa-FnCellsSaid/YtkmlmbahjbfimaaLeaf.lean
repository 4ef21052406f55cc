/-
  Small lemmas on worlds and on cells that the contracts of this seat use, and the contracts of chapter 1's functions; no condition.
-/
import Derived.Test.YtkmlmbahjbfimaaProg
import Derived.WalkKit
import Derived.WalkSpells
import Derived.WalkLawsBesides
import Derived.Lib.Hide
namespace Go.Proofs.Ytkmlmbahjbfimaa
open Go.RowKit
theorem bA {w W : World} {o : Obj} (h : Below w.heap.size w W) : Below w.heap.size w (W.alloc o) := h.alloc h.size o
theorem bD {w W : World} (h : Below w.heap.size w W) : Below w.heap.size w W.drew := h.drew
theorem bS {w W : World} {p : Addr} {u : Value} (h : Below w.heap.size w W) (hp : w.heap.size ≤ p.block) : Below w.heap.size w (W.setCell p u) := h.setCell hp u
theorem bT {w W w1 : World} (h : Below w.heap.size w W) (k : Below W.heap.size W w1) : Below w.heap.size w w1 := h.trans (k.mono h.size)
theorem ret_bool {a b : Bool} (h : a = b) : Ending.returned (.bool a) = .returned (.bool b) := by rw [h]
def inB (n lo hi : Int) : Bool := decide (lo ≤ n) && decide (n ≤ hi)
theorem inB_yes {n lo hi : Int} (h1 : lo ≤ n) (h2 : n ≤ hi) : inB n lo hi = true := by simp [inB, h1, h2]
theorem inB_no {n lo hi : Int} (h : n < lo ∨ hi < n) : inB n lo hi = false := by simp [inB]; omega
theorem inB_lo {n lo hi : Int} (h : lo ≤ n) : decide (n ≤ hi) = inB n lo hi := by simp [inB, h]
theorem inB_iff {n lo hi : Int} : inB n lo hi = true ↔ lo ≤ n ∧ n ≤ hi := by simp [inB]
set_option maxHeartbeats 400000 in
theorem inRange_any (n m : Int) (w : World) : Calls Try.prog 32 #[.int .i64 n, .int .i64 m] w fun e w' => e = .returned (.bool (inB n 0 m)) ∧ w = w' := by
  go_enter Try.func32, Try.ntmps32
  go_wp2
  all_goals go_ret
  · exact ⟨ret_bool (inB_lo ‹_›), rfl⟩
  · exact ⟨ret_bool (inB_no (.inl ‹_›)).symm, rfl⟩
set_option maxHeartbeats 400000 in
theorem l1In_any (n m k : Int) (w : World) : Calls Try.prog 35 #[.int .i64 n, .int .i64 m, .int .i64 k] w fun e w' => e = .returned (.bool (inB n m k)) ∧ w = w' := by
  go_enter Try.func35, Try.ntmps35
  go_wp2
  all_goals go_ret
  · exact ⟨ret_bool (inB_lo ‹_›), rfl⟩
  · exact ⟨ret_bool (inB_no (.inl ‹_›)).symm, rfl⟩
def Named (n : Int) (e : Ending) : Prop := ∃ s : ByteArray, e = .returned (.string s) ∧ s.toList.isEmpty = !(inB n 0 10)
theorem named_yes {n : Int} (s : ByteArray) (hs : s.data.size ≠ 0) (h1 : 0 ≤ n) (h2 : n ≤ 10) : Named n (.returned (.string s)) := ⟨_, rfl, by
  obtain ⟨⟨l⟩⟩ := s
  rw [inB_yes h1 h2]
  cases l with
  | nil => simp at hs
  | cons a l => simp⟩
theorem named_no {n : Int} (h : n < 0 ∨ 10 < n) : Named n (.returned (.string ⟨#[]⟩)) := ⟨_, rfl, by rw [inB_no h]; simp⟩
set_option maxHeartbeats 400000 in
theorem string_any (n : Int) (w : World) : Calls Try.prog 36 #[.int .i64 n] w fun e w' => Named n e ∧ w = w' := by
  by_cases h : 0 ≤ n ∧ n ≤ 10
  · have hn : n = 0 ∨ n = 1 ∨ n = 2 ∨ n = 3 ∨ n = 4 ∨ n = 5 ∨ n = 6 ∨ n = 7 ∨ n = 8 ∨ n = 9 ∨ n = 10 := by omega
    clear h
    rcases hn with rfl | rfl | rfl | rfl | rfl | rfl | rfl | rfl | rfl | rfl | rfl
    all_goals
      go_enter Try.func36, Try.ntmps36
      go_wp2
      go_ret
      exact ⟨named_yes _ (by decide) (by omega) (by omega), rfl⟩
  · have h0 : (n == 0) = false := by simp; omega
    have h1 : (n == 1) = false := by simp; omega
    have h2 : (n == 2) = false := by simp; omega
    have h3 : (n == 3) = false := by simp; omega
    have h4 : (n == 4) = false := by simp; omega
    have h5 : (n == 5) = false := by simp; omega
    have h6 : (n == 6) = false := by simp; omega
    have h7 : (n == 7) = false := by simp; omega
    have h8 : (n == 8) = false := by simp; omega
    have h9 : (n == 9) = false := by simp; omega
    have h10 : (n == 10) = false := by simp; omega
    have H := Lib.hid h
    clear h
    go_enter Try.func36, Try.ntmps36
    go_wp2
    go_ret
    exact ⟨named_no (by have := H.out; omega), rfl⟩
def liveB (n : Int) : Bool := inB n 2 4
set_option maxHeartbeats 400000 in
theorem isLive_any (n : Int) (w : World) : Calls Try.prog 34 #[.int .i64 n] w fun e w' => e = .returned (.bool (liveB n)) ∧ w = w' := by
  by_cases h : 2 ≤ n ∧ n ≤ 4
  · have hn : n = 2 ∨ n = 3 ∨ n = 4 := by omega
    clear h
    rcases hn with rfl | rfl | rfl
    all_goals
      go_enter Try.func34, Try.ntmps34
      go_wp2
      go_ret
      exact ⟨rfl, rfl⟩
  · have h2 : (n == 2) = false := by simp; omega
    have h3 : (n == 3) = false := by simp; omega
    have h4 : (n == 4) = false := by simp; omega
    have h5 : false = liveB n := by unfold liveB; rw [inB_no (by omega)]
    have H := Lib.hid h5
    clear h h5
    go_enter Try.func34, Try.ntmps34
    go_wp2
    go_ret
    exact ⟨ret_bool H.out, rfl⟩
/- Cells -/
def cellB (s e t : Int) : Bool := inB s 0 10 && inB e 0 999 && inB t 0 80
theorem cellB_1 {s e t : Int} (h : ¬ inB s 0 10 = true) : false = cellB s e t := by simp [cellB, h]
theorem cellB_2 {s e t : Int} (h : ¬ inB e 0 999 = true) : false = cellB s e t := by simp [cellB, h]
theorem cellB_3 {s e t : Int} (h : inB s 0 10 = true) (h2 : inB e 0 999 = true) : inB t 0 80 = cellB s e t := by simp [cellB, h, h2]
set_option maxHeartbeats 400000 in
theorem cellOk_any (s e t : Int) (w : World) : Calls Try.prog 19 #[.agg #[.int .i64 s, .int .i64 e, .int .i64 t]] w fun r w' => r = .returned (.bool (cellB s e t)) ∧ Below w.heap.size w w' := by
  go_enter Try.func19, Try.ntmps19
  go_wp2_with (first | (go_at_call 36; refine (string_any _ _).mono ?_; rintro r1 w1 ⟨⟨s1, rfl, hs⟩, rfl⟩) | (go_at_call 32; refine (inRange_any _ _ _).mono ?_; rintro _ _ ⟨rfl, rfl⟩))
  all_goals go_ret
  all_goals refine ⟨ret_bool ?_, by (repeat (first | with_reducible assumption | with_reducible exact Below.refl _ _ | with_reducible refine bA ?_ | with_reducible refine bD ?_ | (with_reducible refine bS ?_ ?_; rotate_left; focus (simp; try omega))))⟩
  · exact cellB_3 ‹_› ‹_›
  · exact cellB_2 ‹_›
  · exact cellB_1 ‹_›
set_option maxHeartbeats 400000 in
theorem l1State_any (n : Int) (w : World) : Calls Try.prog 37 #[.int .i64 n] w fun r w' => r = .returned (.bool (inB n 0 10)) ∧ w = w' := by
  go_enter Try.func37, Try.ntmps37
  go_wp2_with (go_at_call 35; refine (l1In_any _ _ _ _).mono ?_; rintro _ _ ⟨rfl, rfl⟩)
  go_ret
  exact ⟨rfl, rfl⟩
set_option maxHeartbeats 400000 in
theorem l1Elem_any (n : Int) (w : World) : Calls Try.prog 33 #[.int .i64 n] w fun r w' => r = .returned (.bool (inB n 0 999)) ∧ w = w' := by
  go_enter Try.func33, Try.ntmps33
  go_wp2_with (go_at_call 35; refine (l1In_any _ _ _ _).mono ?_; rintro _ _ ⟨rfl, rfl⟩)
  go_ret
  exact ⟨rfl, rfl⟩
set_option maxHeartbeats 400000 in
theorem sCellOk_any (s e t : Int) (w : World) : Calls Try.prog 20 #[.agg #[.int .i64 s, .int .i64 e, .int .i64 t]] w fun r w' => r = .returned (.bool (cellB s e t)) ∧ Below w.heap.size w w' := by
  go_enter Try.func20, Try.ntmps20
  go_wp2_with (first | (go_at_call 37; refine (l1State_any _ _).mono ?_; rintro _ _ ⟨rfl, rfl⟩) | (go_at_call 33; refine (l1Elem_any _ _).mono ?_; rintro _ _ ⟨rfl, rfl⟩) | (go_at_call 35; refine (l1In_any _ _ _ _).mono ?_; rintro _ _ ⟨rfl, rfl⟩))
  all_goals go_ret
  all_goals refine ⟨ret_bool ?_, by (repeat (first | with_reducible assumption | with_reducible exact Below.refl _ _ | with_reducible refine bA ?_ | with_reducible refine bD ?_ | (with_reducible refine bS ?_ ?_; rotate_left; focus (simp; try omega))))⟩
  · exact cellB_3 ‹_› ‹_›
  · exact cellB_2 ‹_›
  · exact cellB_1 ‹_›
set_option maxHeartbeats 400000 in
theorem toCell_any (s e t : Int) (w : World) : Calls Try.prog 21 #[.agg #[.int .i64 s, .int .i64 e, .int .i64 t]] w fun r w' => r = .returned (.agg #[.int .i64 s, .int .i64 e, .int .i64 t]) ∧ Below w.heap.size w w' := by
  go_enter Try.func21, Try.ntmps21
  go_wp2
  exact bodyPost_ret (v := .agg #[.int .i64 s, .int .i64 e, .int .i64 t]) (by simp [results, Try.results21, go_sem]) rfl ⟨rfl, by (repeat (first | with_reducible assumption | with_reducible exact Below.refl _ _ | with_reducible refine bA ?_ | with_reducible refine bD ?_ | (with_reducible refine bS ?_ ?_; rotate_left; focus (simp; try omega))))⟩
theorem eqB_1 {a b : Int} {r : Bool} (h : (a != b) = true) : false = (a == b && r) := by simp at h; simp [h]
theorem eqB_2 {a b : Int} {r : Bool} (h : (a != b) = false) : (a == b && r) = r := by simp at h; simp [h]
def eqC (s e t s' e' t' : Int) : Bool := s == s' && (e == e' && (t == t' && true))
theorem eqC_refl (s e t : Int) : eqC s e t s e t = true := by simp [eqC]
set_option maxHeartbeats 400000 in
theorem eqCell_any (s e t s' e' t' : Int) (w : World) : Calls Try.prog 22 #[.agg #[.int .i64 s, .int .i64 e, .int .i64 t], .agg #[.int .i64 s', .int .i64 e', .int .i64 t']] w fun r w' => r = .returned (.bool (eqC s e t s' e' t')) ∧ Below w.heap.size w w' := by
  go_enter Try.func22, Try.ntmps22
  go_wp2
  all_goals go_ret
  all_goals refine ⟨ret_bool ?_, by (repeat (first | with_reducible assumption | with_reducible exact Below.refl _ _ | with_reducible refine bA ?_ | with_reducible refine bD ?_ | (with_reducible refine bS ?_ ?_; rotate_left; focus (simp; try omega))))⟩
  all_goals unfold eqC
  all_goals repeat (rw [eqB_2 ‹_›])
  all_goals first | exact eqB_1 ‹_› | rfl
def laidF (s e t m : Int) : Int := if cellB s e t && inB m 0 999 then m else e
theorem laidF_1 {s e t m : Int} (h : ¬ cellB s e t = true) : laidF s e t m = e := by simp [laidF, h]
theorem laidF_2 {s e t m : Int} (h : (!inB m 0 999) = true) : laidF s e t m = e := by simp at h; simp [laidF, h]
theorem laidF_3 {s e t m : Int} (h1 : cellB s e t = true) (h : (!inB m 0 999) = false) : laidF s e t m = m := by simp at h; simp [laidF, h1, h]
set_option maxHeartbeats 400000 in
theorem laid_any (s e t m : Int) (w : World) : Calls Try.prog 15 #[.agg #[.int .i64 s, .int .i64 e, .int .i64 t], .int .i64 m] w fun r w' => r = .returned (.agg #[.int .i64 s, .int .i64 (laidF s e t m), .int .i64 t]) ∧ Below w.heap.size w w' := by
  go_enter Try.func15, Try.ntmps15
  go_wp2_with (first | (go_at_call 19; refine (cellOk_any _ _ _ _).mono ?_; rintro _ w1 ⟨rfl, hbw1⟩; have hBw1 : Below w.heap.size w w1 := bT (by (repeat (first | with_reducible assumption | with_reducible exact Below.refl _ _ | with_reducible refine bA ?_ | with_reducible refine bD ?_ | (with_reducible refine bS ?_ ?_; rotate_left; focus (simp; try omega))))) hbw1; have hsw1 := hbw1.size; (try (simp at hsw1)); have := fun o => hbw1.cell (p := ⟨w.heap.size, o, none⟩) (by ((try simp); (try omega))); have := fun o => hbw1.frozen (p := ⟨w.heap.size, o, none⟩) (by ((try simp); (try omega))); have := fun o => hbw1.cell (p := ⟨w.heap.size + 1, o, none⟩) (by ((try simp); (try omega))); have := fun o => hbw1.frozen (p := ⟨w.heap.size + 1, o, none⟩) (by ((try simp); (try omega)))) | (go_at_call 32; refine (inRange_any _ _ _).mono ?_; rintro _ _ ⟨rfl, rfl⟩))
  · rw [laidF_2 ‹_›]; exact bodyPost_ret (v := .agg #[.int .i64 s, .int .i64 e, .int .i64 t]) (by simp [results, Try.results15, go_sem, *]) rfl ⟨rfl, by (repeat (first | with_reducible assumption | with_reducible exact Below.refl _ _ | with_reducible refine bA ?_ | with_reducible refine bD ?_ | (with_reducible refine bS ?_ ?_; rotate_left; focus (simp; try omega))))⟩
  · rw [laidF_3 ‹_› ‹_›]; exact bodyPost_ret (v := .agg #[.int .i64 s, .int .i64 m, .int .i64 t]) (by simp [results, Try.results15, go_sem, *]) rfl ⟨rfl, by (repeat (first | with_reducible assumption | with_reducible exact Below.refl _ _ | with_reducible refine bA ?_ | with_reducible refine bD ?_ | (with_reducible refine bS ?_ ?_; rotate_left; focus (simp; try omega))))⟩
  · rw [laidF_1 ‹_›]; exact bodyPost_ret (v := .agg #[.int .i64 s, .int .i64 e, .int .i64 t]) (by simp [results, Try.results15, go_sem, *]) rfl ⟨rfl, by (repeat (first | with_reducible assumption | with_reducible exact Below.refl _ _ | with_reducible refine bA ?_ | with_reducible refine bD ?_ | (with_reducible refine bS ?_ ?_; rotate_left; focus (simp; try omega))))⟩
set_option maxHeartbeats 400000 in
theorem sLaid_any (s e t m : Int) (w : World) : Calls Try.prog 16 #[.agg #[.int .i64 s, .int .i64 e, .int .i64 t], .int .i64 m] w fun r w' => r = .returned (.agg #[.int .i64 s, .int .i64 (laidF s e t m), .int .i64 t]) ∧ Below w.heap.size w w' := by
  go_enter Try.func16, Try.ntmps16
  go_wp2_with (first | (go_at_call 20; refine (sCellOk_any _ _ _ _).mono ?_; rintro _ w1 ⟨rfl, hbw1⟩; have hBw1 : Below w.heap.size w w1 := bT (by (repeat (first | with_reducible assumption | with_reducible exact Below.refl _ _ | with_reducible refine bA ?_ | with_reducible refine bD ?_ | (with_reducible refine bS ?_ ?_; rotate_left; focus (simp; try omega))))) hbw1; have hsw1 := hbw1.size; (try (simp at hsw1)); have := fun o => hbw1.cell (p := ⟨w.heap.size, o, none⟩) (by ((try simp); (try omega))); have := fun o => hbw1.frozen (p := ⟨w.heap.size, o, none⟩) (by ((try simp); (try omega))); have := fun o => hbw1.cell (p := ⟨w.heap.size + 1, o, none⟩) (by ((try simp); (try omega))); have := fun o => hbw1.frozen (p := ⟨w.heap.size + 1, o, none⟩) (by ((try simp); (try omega)))) | (go_at_call 33; refine (l1Elem_any _ _).mono ?_; rintro _ _ ⟨rfl, rfl⟩))
  · rw [laidF_2 ‹_›]; exact bodyPost_ret (v := .agg #[.int .i64 s, .int .i64 e, .int .i64 t]) (by simp [results, Try.results16, go_sem, *]) rfl ⟨rfl, by (repeat (first | with_reducible assumption | with_reducible exact Below.refl _ _ | with_reducible refine bA ?_ | with_reducible refine bD ?_ | (with_reducible refine bS ?_ ?_; rotate_left; focus (simp; try omega))))⟩
  · rw [laidF_3 ‹_› ‹_›]; exact bodyPost_ret (v := .agg #[.int .i64 s, .int .i64 m, .int .i64 t]) (by simp [results, Try.results16, go_sem, *]) rfl ⟨rfl, by (repeat (first | with_reducible assumption | with_reducible exact Below.refl _ _ | with_reducible refine bA ?_ | with_reducible refine bD ?_ | (with_reducible refine bS ?_ ?_; rotate_left; focus (simp; try omega))))⟩
  · rw [laidF_1 ‹_›]; exact bodyPost_ret (v := .agg #[.int .i64 s, .int .i64 e, .int .i64 t]) (by simp [results, Try.results16, go_sem, *]) rfl ⟨rfl, by (repeat (first | with_reducible assumption | with_reducible exact Below.refl _ _ | with_reducible refine bA ?_ | with_reducible refine bD ?_ | (with_reducible refine bS ?_ ?_; rotate_left; focus (simp; try omega))))⟩
def turnB (s e t f n v : Int) : Bool := s == f && (cellB s e t && cellB n e v)
def turnS (s e t f n v : Int) : Int := if turnB s e t f n v then n else s
def turnW (s e t f n v : Int) : Int := if turnB s e t f n v then v else t
theorem turn_1 {s e t f n v : Int} (h : ¬ s = f) : turnB s e t f n v = false := by simp [turnB, h]
theorem turn_2 {s e t f n v : Int} (h : ¬ cellB s e t = true) : turnB s e t f n v = false := by simp [turnB, h]
theorem turn_3 {s e t f n v : Int} (h : (!cellB n e v) = true) : turnB s e t f n v = false := by simp at h; simp [turnB, h]
theorem turn_4 {s e t n v : Int} (h1 : cellB s e t = true) (h : (!cellB n e v) = false) : turnB s e t s n v = true := by simp at h; simp [turnB, h, h1]
def TurnR (s e t f n v : Int) (r : Ending) : Prop := r = .returned (.tuple #[.agg #[.int .i64 (turnS s e t f n v), .int .i64 e, .int .i64 (turnW s e t f n v)], .bool (turnB s e t f n v)])
theorem turnR_no {s e t f n v : Int} (h : turnB s e t f n v = false) : TurnR s e t f n v (.returned (.tuple #[.agg #[.int .i64 s, .int .i64 e, .int .i64 t], .bool false])) := by simp [TurnR, turnS, turnW, h]
theorem turnR_yes {s e t f n v : Int} (h : turnB s e t f n v = true) : TurnR s e t f n v (.returned (.tuple #[.agg #[.int .i64 n, .int .i64 e, .int .i64 v], .bool true])) := by simp [TurnR, turnS, turnW, h]
set_option maxHeartbeats 400000 in
theorem turned_any (s e t f n v : Int) (w : World) : Calls Try.prog 10 #[.agg #[.int .i64 s, .int .i64 e, .int .i64 t], .int .i64 f, .int .i64 n, .int .i64 v] w fun r w' => TurnR s e t f n v r ∧ Below w.heap.size w w' := by
  by_cases hsf : s = f
  · subst hsf
    go_enter Try.func10, Try.ntmps10
    go_wp2_with (go_at_call 19; refine (cellOk_any _ _ _ _).mono ?_; rintro _ w1 ⟨rfl, hbw1⟩; have hBw1 : Below w.heap.size w w1 := bT (by (repeat (first | with_reducible assumption | with_reducible exact Below.refl _ _ | with_reducible refine bA ?_ | with_reducible refine bD ?_ | (with_reducible refine bS ?_ ?_; rotate_left; focus (simp; try omega))))) hbw1; have hsw1 := hbw1.size; (try (simp at hsw1)); have := fun o => hbw1.cell (p := ⟨w.heap.size, o, none⟩) (by ((try simp); (try omega))); have := fun o => hbw1.frozen (p := ⟨w.heap.size, o, none⟩) (by ((try simp); (try omega))); have := fun o => hbw1.cell (p := ⟨w.heap.size + 1, o, none⟩) (by ((try simp); (try omega))); have := fun o => hbw1.frozen (p := ⟨w.heap.size + 1, o, none⟩) (by ((try simp); (try omega))); have := fun o => hbw1.cell (p := ⟨w.heap.size + 1 + 1, o, none⟩) (by ((try simp); (try omega))); have := fun o => hbw1.frozen (p := ⟨w.heap.size + 1 + 1, o, none⟩) (by ((try simp); (try omega))))
    all_goals first
      | (refine bodyPost_ret (v := .tuple #[.agg #[.int .i64 n, .int .i64 e, .int .i64 v], .bool true]) (by simp [results, Try.results10, go_sem, *]) rfl ⟨turnR_yes (turn_4 ‹_› ‹_›), by (repeat (first | with_reducible assumption | with_reducible exact Below.refl _ _ | with_reducible refine bA ?_ | with_reducible refine bD ?_ | (with_reducible refine bS ?_ ?_; rotate_left; focus (simp; try omega))))⟩)
      | (refine bodyPost_ret (v := .tuple #[.agg #[.int .i64 s, .int .i64 e, .int .i64 t], .bool false]) (by simp [results, Try.results10, go_sem, *]) rfl ⟨turnR_no (by first | exact turn_2 ‹_› | exact turn_3 ‹_›), by (repeat (first | with_reducible assumption | with_reducible exact Below.refl _ _ | with_reducible refine bA ?_ | with_reducible refine bD ?_ | (with_reducible refine bS ?_ ?_; rotate_left; focus (simp; try omega))))⟩)
  · go_enter Try.func10, Try.ntmps10
    go_wp2_with (go_at_call 19; refine (cellOk_any _ _ _ _).mono ?_; rintro _ w1 ⟨rfl, hbw1⟩; have hBw1 : Below w.heap.size w w1 := bT (by (repeat (first | with_reducible assumption | with_reducible exact Below.refl _ _ | with_reducible refine bA ?_ | with_reducible refine bD ?_ | (with_reducible refine bS ?_ ?_; rotate_left; focus (simp; try omega))))) hbw1; have hsw1 := hbw1.size; (try (simp at hsw1)); have := fun o => hbw1.cell (p := ⟨w.heap.size, o, none⟩) (by ((try simp); (try omega))); have := fun o => hbw1.frozen (p := ⟨w.heap.size, o, none⟩) (by ((try simp); (try omega))); have := fun o => hbw1.cell (p := ⟨w.heap.size + 1, o, none⟩) (by ((try simp); (try omega))); have := fun o => hbw1.frozen (p := ⟨w.heap.size + 1, o, none⟩) (by ((try simp); (try omega))); have := fun o => hbw1.cell (p := ⟨w.heap.size + 1 + 1, o, none⟩) (by ((try simp); (try omega))); have := fun o => hbw1.frozen (p := ⟨w.heap.size + 1 + 1, o, none⟩) (by ((try simp); (try omega))))
    all_goals (refine bodyPost_ret (v := .tuple #[.agg #[.int .i64 s, .int .i64 e, .int .i64 t], .bool false]) (by simp [results, Try.results10, go_sem, *]) rfl ⟨turnR_no (by first | exact turn_1 ‹_› | exact turn_2 ‹_›), by (repeat (first | with_reducible assumption | with_reducible exact Below.refl _ _ | with_reducible refine bA ?_ | with_reducible refine bD ?_ | (with_reducible refine bS ?_ ?_; rotate_left; focus (simp; try omega))))⟩)
set_option maxHeartbeats 400000 in
theorem sTurned_any (s e t f n v : Int) (w : World) : Calls Try.prog 11 #[.agg #[.int .i64 s, .int .i64 e, .int .i64 t], .int .i64 f, .int .i64 n, .int .i64 v] w fun r w' => TurnR s e t f n v r ∧ Below w.heap.size w w' := by
  by_cases hsf : s = f
  · subst hsf
    go_enter Try.func11, Try.ntmps11
    go_wp2_with (go_at_call 20; refine (sCellOk_any _ _ _ _).mono ?_; rintro _ w1 ⟨rfl, hbw1⟩; have hBw1 : Below w.heap.size w w1 := bT (by (repeat (first | with_reducible assumption | with_reducible exact Below.refl _ _ | with_reducible refine bA ?_ | with_reducible refine bD ?_ | (with_reducible refine bS ?_ ?_; rotate_left; focus (simp; try omega))))) hbw1; have hsw1 := hbw1.size; (try (simp at hsw1)); have := fun o => hbw1.cell (p := ⟨w.heap.size, o, none⟩) (by ((try simp); (try omega))); have := fun o => hbw1.frozen (p := ⟨w.heap.size, o, none⟩) (by ((try simp); (try omega))); have := fun o => hbw1.cell (p := ⟨w.heap.size + 1, o, none⟩) (by ((try simp); (try omega))); have := fun o => hbw1.frozen (p := ⟨w.heap.size + 1, o, none⟩) (by ((try simp); (try omega))); have := fun o => hbw1.cell (p := ⟨w.heap.size + 1 + 1, o, none⟩) (by ((try simp); (try omega))); have := fun o => hbw1.frozen (p := ⟨w.heap.size + 1 + 1, o, none⟩) (by ((try simp); (try omega))))
    all_goals first
      | (refine bodyPost_ret (v := .tuple #[.agg #[.int .i64 n, .int .i64 e, .int .i64 v], .bool true]) (by simp [results, Try.results11, go_sem, *]) rfl ⟨turnR_yes (turn_4 ‹_› ‹_›), by (repeat (first | with_reducible assumption | with_reducible exact Below.refl _ _ | with_reducible refine bA ?_ | with_reducible refine bD ?_ | (with_reducible refine bS ?_ ?_; rotate_left; focus (simp; try omega))))⟩)
      | (refine bodyPost_ret (v := .tuple #[.agg #[.int .i64 s, .int .i64 e, .int .i64 t], .bool false]) (by simp [results, Try.results11, go_sem, *]) rfl ⟨turnR_no (by first | exact turn_2 ‹_› | exact turn_3 ‹_›), by (repeat (first | with_reducible assumption | with_reducible exact Below.refl _ _ | with_reducible refine bA ?_ | with_reducible refine bD ?_ | (with_reducible refine bS ?_ ?_; rotate_left; focus (simp; try omega))))⟩)
  · go_enter Try.func11, Try.ntmps11
    go_wp2_with (go_at_call 20; refine (sCellOk_any _ _ _ _).mono ?_; rintro _ w1 ⟨rfl, hbw1⟩; have hBw1 : Below w.heap.size w w1 := bT (by (repeat (first | with_reducible assumption | with_reducible exact Below.refl _ _ | with_reducible refine bA ?_ | with_reducible refine bD ?_ | (with_reducible refine bS ?_ ?_; rotate_left; focus (simp; try omega))))) hbw1; have hsw1 := hbw1.size; (try (simp at hsw1)); have := fun o => hbw1.cell (p := ⟨w.heap.size, o, none⟩) (by ((try simp); (try omega))); have := fun o => hbw1.frozen (p := ⟨w.heap.size, o, none⟩) (by ((try simp); (try omega))); have := fun o => hbw1.cell (p := ⟨w.heap.size + 1, o, none⟩) (by ((try simp); (try omega))); have := fun o => hbw1.frozen (p := ⟨w.heap.size + 1, o, none⟩) (by ((try simp); (try omega))); have := fun o => hbw1.cell (p := ⟨w.heap.size + 1 + 1, o, none⟩) (by ((try simp); (try omega))); have := fun o => hbw1.frozen (p := ⟨w.heap.size + 1 + 1, o, none⟩) (by ((try simp); (try omega))))
    all_goals (refine bodyPost_ret (v := .tuple #[.agg #[.int .i64 s, .int .i64 e, .int .i64 t], .bool false]) (by simp [results, Try.results11, go_sem, *]) rfl ⟨turnR_no (by first | exact turn_1 ‹_› | exact turn_2 ‹_›), by (repeat (first | with_reducible assumption | with_reducible exact Below.refl _ _ | with_reducible refine bA ?_ | with_reducible refine bD ?_ | (with_reducible refine bS ?_ ?_; rotate_left; focus (simp; try omega))))⟩)
end Go.Proofs.Ytkmlmbahjbfimaa
