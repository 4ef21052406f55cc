/-
  The reference model's functions of chapter 3; lists lie in memory and hold at most 2 ^ 40 elements.
-/
import Derived.Test.YtpllffabdgngcaaSChan
import Derived.Test.YtpllffabdgngcaaSCopy
namespace Go.Proofs.Ytpllffabdgngcaa
open Go.RowKit
set_option maxHeartbeats 400000 in
theorem l3Has_any (c : Ch) (v : Int) (a b : Option Addr) (p q : Nat) (w : World) :
    Calls Try.prog 20 #[.agg #[.int .i64 c.cap, .int .i64 c.sent, .int .i64 c.got, .int .i64 c.fin, .slice a c.cells.length p, .slice b c.words.length q], .int .i64 v] w fun r w' => r = .returned (.bool (hasW c v)) ∧ Below w.heap.size w w' := by
  go_enter Try.func20, Try.ntmps20
  go_wp2_with (go_at_call 35; refine (l1In_any _ _ _ _).mono ?_; rintro _ _ ⟨rfl, rfl⟩)
  go_ret
  exact ⟨rfl, by (repeat (first | with_reducible assumption | with_reducible exact Below.refl _ _ | with_reducible refine bA ?_ | with_reducible refine bD ?_ | ((with_reducible refine bS ?_ ?_); rotate_left; (focus ((try simp); (try omega)))) | ((with_reducible refine bBx ?_ ?_); rotate_left; (focus ((try simp); (try omega))))))⟩
theorem hasW_iff {c : Ch} {v : Int} : hasW c v = true ↔ 1 ≤ v ∧ v ≤ c.words.length := by simp [hasW, inB]
theorem wordOf_no {c : Ch} {v : Int} (h : (chanOk c && hasW c v) = false) : -1 = wordOf c v := by simp [wordOf, h]
theorem wordOf_yes {c : Ch} {v : Int} (h1 : chanOk c = true) (h2 : hasW c v = true) : wordAt c v = wordOf c v := by simp [wordOf, h1, h2]
set_option maxRecDepth 100000 in
set_option maxHeartbeats 1000000 in
theorem sWordOf_any (c : Ch) (v : Int) (a b : Option Addr) (p q : Nat) (w : World) (h1 : Seg w w.heap.size a c.cells.length 3 (cellF c.cells)) (h2 : Seg w w.heap.size b c.words.length 1 (intF c.words)) (hm : c.words.length ≤ 1099511627776) :
    Calls Try.prog 7 #[.agg #[.int .i64 c.cap, .int .i64 c.sent, .int .i64 c.got, .int .i64 c.fin, .slice a c.cells.length p, .slice b c.words.length q], .int .i64 v] w fun r w' => r = .returned (.int .i64 (wordOf c v)) ∧ Below w.heap.size w w' := by
  have H1 := Lib.hid h1
  have H2 := Lib.hid h2
  clear h1 h2
  by_cases hc : chanOk c = true
  · by_cases hh : hasW c v = true
    · obtain ⟨v1, v2⟩ := hasW_iff.1 hh
      obtain ⟨i, rfl⟩ : ∃ i : Nat, v = (i : Int) + 1 := ⟨(v - 1).toNat, by omega⟩
      have hi : i < c.words.length := by omega
      obtain ⟨bb, bo, rfl, hb, hcell⟩ : ∃ b' o, b = some ⟨b', o, none⟩ ∧ b' < w.heap.size ∧ w.cell? ⟨b', o + i, none⟩ = some (.int .i64 (c.words.getD i 0)) := by
        rcases H2.out with h0 | ⟨b', o', e, h1, h2⟩
        · omega
        · exact ⟨b', o', e, h1, by simpa [intF] using h2 i 0 hi (by omega)⟩
      have HV := Lib.hid (wordOf_yes hc hh)
      have e : wordAt c ((i : Int) + 1) = c.words.getD i 0 := by simp [wordAt]
      have HE := Lib.hid e
      clear e
      generalize c.words.getD i 0 = x at hcell HE
      have hi0 : (0 : Int) ≤ (i : Int) := by omega
      have hi1 : (i : Int) < (c.words.length : Int) := by omega
      go_enter Try.func7, Try.ntmps7
      go_wp2_with fail
      refine (sChanOk_any c a _ p q _ (((H1.out).below (by (repeat (first | with_reducible assumption | with_reducible exact Below.refl _ _ | with_reducible refine bA ?_ | with_reducible refine bD ?_ | ((with_reducible refine bS ?_ ?_); rotate_left; (focus ((try simp); (try omega)))) | ((with_reducible refine bBx ?_ ?_); rotate_left; (focus ((try simp); (try omega)))))))).more (by simp)) (((H2.out).below (by (repeat (first | with_reducible assumption | with_reducible exact Below.refl _ _ | with_reducible refine bA ?_ | with_reducible refine bD ?_ | ((with_reducible refine bS ?_ ?_); rotate_left; (focus ((try simp); (try omega)))) | ((with_reducible refine bBx ?_ ?_); rotate_left; (focus ((try simp); (try omega)))))))).more (by simp))).mono ?_
      rintro _ w1 ⟨rfl, hb1⟩
      have hB1 : Below w.heap.size w w1 := bT (by (repeat (first | with_reducible assumption | with_reducible exact Below.refl _ _ | with_reducible refine bA ?_ | with_reducible refine bD ?_ | ((with_reducible refine bS ?_ ?_); rotate_left; (focus ((try simp); (try omega)))) | ((with_reducible refine bBx ?_ ?_); rotate_left; (focus ((try simp); (try omega))))))) hb1
      have hs1 := hb1.size
      simp at hs1
      have := fun o => hb1.cell (p := ⟨w.heap.size, o, none⟩) (by simp)
      have hcell1 := (hB1.cell (p := ⟨bb, bo + i, none⟩) hb).trans hcell
      go_wp2_with fail
      refine (l3Has_any c _ a _ p q _).mono ?_
      rintro _ w2 ⟨rfl, hb2⟩
      have hB2 : Below w.heap.size w w2 := bT (by (repeat (first | with_reducible assumption | with_reducible exact Below.refl _ _ | with_reducible refine bA ?_ | with_reducible refine bD ?_ | ((with_reducible refine bS ?_ ?_); rotate_left; (focus ((try simp); (try omega)))) | ((with_reducible refine bBx ?_ ?_); rotate_left; (focus ((try simp); (try omega))))))) hb2
      have := fun o => hb2.cell (p := ⟨w.heap.size, o, none⟩) (by simp; omega)
      have hcell2 := (hB2.cell (p := ⟨bb, bo + i, none⟩) hb).trans hcell
      go_wp2
      go_ret
      exact ⟨ret_i64 (by rw [← HV.out, HE.out]), by (repeat (first | with_reducible assumption | with_reducible exact Below.refl _ _ | with_reducible refine bA ?_ | with_reducible refine bD ?_ | ((with_reducible refine bS ?_ ?_); rotate_left; (focus ((try simp); (try omega)))) | ((with_reducible refine bBx ?_ ?_); rotate_left; (focus ((try simp); (try omega))))))⟩
    · have HV := Lib.hid (wordOf_no (c := c) (v := v) (by simp [hh]))
      go_enter Try.func7, Try.ntmps7
      go_wp2_with fail
      refine (sChanOk_any c a b p q _ (((H1.out).below (by (repeat (first | with_reducible assumption | with_reducible exact Below.refl _ _ | with_reducible refine bA ?_ | with_reducible refine bD ?_ | ((with_reducible refine bS ?_ ?_); rotate_left; (focus ((try simp); (try omega)))) | ((with_reducible refine bBx ?_ ?_); rotate_left; (focus ((try simp); (try omega)))))))).more (by simp)) (((H2.out).below (by (repeat (first | with_reducible assumption | with_reducible exact Below.refl _ _ | with_reducible refine bA ?_ | with_reducible refine bD ?_ | ((with_reducible refine bS ?_ ?_); rotate_left; (focus ((try simp); (try omega)))) | ((with_reducible refine bBx ?_ ?_); rotate_left; (focus ((try simp); (try omega)))))))).more (by simp))).mono ?_
      rintro _ w1 ⟨rfl, hb1⟩
      have hB1 : Below w.heap.size w w1 := bT (by (repeat (first | with_reducible assumption | with_reducible exact Below.refl _ _ | with_reducible refine bA ?_ | with_reducible refine bD ?_ | ((with_reducible refine bS ?_ ?_); rotate_left; (focus ((try simp); (try omega)))) | ((with_reducible refine bBx ?_ ?_); rotate_left; (focus ((try simp); (try omega))))))) hb1
      have hs1 := hb1.size
      simp at hs1
      have := fun o => hb1.cell (p := ⟨w.heap.size, o, none⟩) (by simp)
      go_wp2_with fail
      refine (l3Has_any c _ a b p q _).mono ?_
      rintro _ w2 ⟨rfl, hb2⟩
      have hB2 : Below w.heap.size w w2 := bT (by (repeat (first | with_reducible assumption | with_reducible exact Below.refl _ _ | with_reducible refine bA ?_ | with_reducible refine bD ?_ | ((with_reducible refine bS ?_ ?_); rotate_left; (focus ((try simp); (try omega)))) | ((with_reducible refine bBx ?_ ?_); rotate_left; (focus ((try simp); (try omega))))))) hb2
      go_wp2
      go_ret
      exact ⟨ret_i64 HV.out, by (repeat (first | with_reducible assumption | with_reducible exact Below.refl _ _ | with_reducible refine bA ?_ | with_reducible refine bD ?_ | ((with_reducible refine bS ?_ ?_); rotate_left; (focus ((try simp); (try omega)))) | ((with_reducible refine bBx ?_ ?_); rotate_left; (focus ((try simp); (try omega))))))⟩
  · have HV := Lib.hid (wordOf_no (c := c) (v := v) (by simp [hc]))
    go_enter Try.func7, Try.ntmps7
    go_wp2_with fail
    refine (sChanOk_any c a b p q _ (((H1.out).below (by (repeat (first | with_reducible assumption | with_reducible exact Below.refl _ _ | with_reducible refine bA ?_ | with_reducible refine bD ?_ | ((with_reducible refine bS ?_ ?_); rotate_left; (focus ((try simp); (try omega)))) | ((with_reducible refine bBx ?_ ?_); rotate_left; (focus ((try simp); (try omega)))))))).more (by simp)) (((H2.out).below (by (repeat (first | with_reducible assumption | with_reducible exact Below.refl _ _ | with_reducible refine bA ?_ | with_reducible refine bD ?_ | ((with_reducible refine bS ?_ ?_); rotate_left; (focus ((try simp); (try omega)))) | ((with_reducible refine bBx ?_ ?_); rotate_left; (focus ((try simp); (try omega)))))))).more (by simp))).mono ?_
    rintro _ w1 ⟨rfl, hb1⟩
    have hB1 : Below w.heap.size w w1 := bT (by (repeat (first | with_reducible assumption | with_reducible exact Below.refl _ _ | with_reducible refine bA ?_ | with_reducible refine bD ?_ | ((with_reducible refine bS ?_ ?_); rotate_left; (focus ((try simp); (try omega)))) | ((with_reducible refine bBx ?_ ?_); rotate_left; (focus ((try simp); (try omega))))))) hb1
    go_wp2
    go_ret
    exact ⟨ret_i64 HV.out, by (repeat (first | with_reducible assumption | with_reducible exact Below.refl _ _ | with_reducible refine bA ?_ | with_reducible refine bD ?_ | ((with_reducible refine bS ?_ ?_); rotate_left; (focus ((try simp); (try omega)))) | ((with_reducible refine bBx ?_ ?_); rotate_left; (focus ((try simp); (try omega))))))⟩
end Go.Proofs.Ytpllffabdgngcaa
