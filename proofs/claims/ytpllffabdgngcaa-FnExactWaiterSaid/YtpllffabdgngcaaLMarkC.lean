/-
  The laws' helpers that write numbers into a channel of the call's own, and that look for them; lists of at most 1048576 elements.
-/
import Derived.Test.YtpllffabdgngcaaLMark
namespace Go.Proofs.Ytpllffabdgngcaa
open Go.RowKit
set_option maxRecDepth 100000 in
set_option maxHeartbeats 1000000 in
theorem markChan_any (n1 n2 : Nat) (f1 f2 : Nat → Nat → Value) (x1 x2 x3 x4 : Int) (l1 l2 : Nat) (v1 v2 : Value) (k k1 : Int) (w : World) (h1 : New w l1 v1 n1 3 f1) (h2 : New w l2 v2 n2 1 f2) (hne : ∀ i, v1.ownBlock = some i → v2.ownBlock ≠ some i) (hk : 0 ≤ k) (hk2 : k ≤ 1000) (e1 : k1 = k + 3 * n1) (m1 : n1 ≤ 1048576) (m2 : n2 ≤ 1048576) :
    Calls Try.prog 13 #[.agg #[.int .i64 x1, .int .i64 x2, .int .i64 x3, .int .i64 x4, v1, v2], .int .i64 k] w fun r w' => r = .returned (.int .i64 (k1 + n2)) ∧ NewC w' l1 v1 (marksC k n1) ∧ NewI w' l2 v2 (marksI k1 n2) ∧ Onl v1.ownBlock v2.ownBlock w w' := by
  have H1 := Lib.hid h1
  have H2 := Lib.hid h2
  have Z1 : some w.heap.size ≠ v1.ownBlock := fun e => by have := (h1.lt e.symm).2; omega
  have HN := Lib.hid hne
  have E1 := Lib.hid e1
  have hk1 : 0 ≤ k1 := by omega
  have hk3 : k1 ≤ 1099511627776 := by omega
  clear h1 h2 hne e1
  go_enter Try.func13, Try.ntmps13
  go_wp2_with fail
  refine (markCellS_any n1 f1 l1 v1 k _ (H1.out.below (by (repeat (first | with_reducible assumption | with_reducible exact Below.refl _ _ | with_reducible refine bA ?_ | with_reducible refine bD ?_ | ((with_reducible refine bS ?_ ?_); rotate_left; (focus ((try simp); (try omega)))) | ((with_reducible refine bBx ?_ ?_); rotate_left; (focus ((try simp); (try omega)))))))) (by omega) (by omega) m1).mono ?_
  rintro _ w1 ⟨rfl, hN1, hg1⟩
  rw [← E1.out]
  have hs1 := hg1.size
  simp at hs1
  have := fun o => grCell hg1 (b := w.heap.size) (by simp) Z1 o
  have H2' : New w1 l2 v2 n2 1 f2 := (H2.out.below (w1 := w.alloc (.cells #[.int .i64 x1, .int .i64 x2, .int .i64 x3, .int .i64 x4, v1, v2] 30)) (by (repeat (first | with_reducible assumption | with_reducible exact Below.refl _ _ | with_reducible refine bA ?_ | with_reducible refine bD ?_ | ((with_reducible refine bS ?_ ?_); rotate_left; (focus ((try simp); (try omega)))) | ((with_reducible refine bBx ?_ ?_); rotate_left; (focus ((try simp); (try omega)))))))).kept hg1 (by
    by_cases e : v1.ownBlock = none
    · exact .inl e
    · obtain ⟨i, hi⟩ := Option.ne_none_iff_exists'.1 e
      exact .inr (by rw [hi]; exact HN.out i hi))
  have HW := Lib.hid (grA _ hg1)
  clear hg1
  go_wp2_with fail
  refine (markInt64S_any n2 f2 l2 v2 k1 _ H2' (by omega) (by omega) m2).mono ?_
  rintro _ w2 ⟨rfl, hN2, hg2⟩
  have hN1' := hN1.kept hg2 (by
    by_cases e : v2.ownBlock = none
    · exact .inl e
    · obtain ⟨i, hi⟩ := Option.ne_none_iff_exists'.1 e
      exact .inr (by rw [hi]; intro e2; exact HN.out i e2 hi))
  have hO : Onl v1.ownBlock v2.ownBlock w w2 := onlT (onl1 HW.out) (onl2 hg2)
  go_wp2
  go_ret
  exact ⟨rfl, hN1', hN2, hO⟩
set_option maxRecDepth 100000 in
set_option maxHeartbeats 1000000 in
theorem heldChan_any (n1 n2 : Nat) (x1 x2 x3 x4 : Int) (l1 l2 : Nat) (v1 v2 : Value) (k k1 : Int) (w : World) (h1 : NewC w l1 v1 (marksC k n1)) (h2 : NewI w l2 v2 (marksI k1 n2)) (hk : 0 ≤ k) (hk2 : k ≤ 1000) (e1 : k1 = k + 3 * n1) (m1 : n1 ≤ 1048576) (m2 : n2 ≤ 1048576) :
    Calls Try.prog 14 #[.agg #[.int .i64 x1, .int .i64 x2, .int .i64 x3, .int .i64 x4, v1, v2], .int .i64 k] w fun r w' => r = .returned (.int .i64 (k1 + n2)) ∧ Below w.heap.size w w' := by
  have H1 := Lib.hid h1
  have H2 := Lib.hid h2
  have E1 := Lib.hid e1
  have hk1 : ¬ k1 < 0 := by omega
  have hk4 : ¬ k1 + n2 < 0 := by omega
  have hk3 : k1 ≤ 1099511627776 := by omega
  clear h1 h2 e1
  go_enter Try.func14, Try.ntmps14
  go_wp2_with fail
  refine (heldCellS_any n1 l1 v1 k _ (H1.out.below (by (repeat (first | with_reducible assumption | with_reducible exact Below.refl _ _ | with_reducible refine bA ?_ | with_reducible refine bD ?_ | ((with_reducible refine bS ?_ ?_); rotate_left; (focus ((try simp); (try omega)))) | ((with_reducible refine bBx ?_ ?_); rotate_left; (focus ((try simp); (try omega)))))))) (by omega) (by omega) m1).mono ?_
  rintro _ w1 ⟨rfl, hb1⟩
  rw [← E1.out]
  have hB1 : Below w.heap.size w w1 := bT (by (repeat (first | with_reducible assumption | with_reducible exact Below.refl _ _ | with_reducible refine bA ?_ | with_reducible refine bD ?_ | ((with_reducible refine bS ?_ ?_); rotate_left; (focus ((try simp); (try omega)))) | ((with_reducible refine bBx ?_ ?_); rotate_left; (focus ((try simp); (try omega))))))) hb1
  have hs1 := hb1.size
  simp at hs1
  have := fun o => hb1.cell (p := ⟨w.heap.size, o, none⟩) (by simp)
  go_wp2_with fail
  refine (heldInt64S_any n2 l2 v2 k1 _ (H2.out.below hB1) (by omega) (by omega) m2).mono ?_
  rintro _ w2 ⟨rfl, hb2⟩
  have hB2 : Below w.heap.size w w2 := bT hB1 hb2
  go_wp2
  go_ret
  exact ⟨rfl, hB2⟩
end Go.Proofs.Ytpllffabdgngcaa
