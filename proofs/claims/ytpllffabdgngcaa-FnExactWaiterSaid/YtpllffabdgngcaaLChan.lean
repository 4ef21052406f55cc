/-
  The contracts of the laws' helpers on channels; lists of at most 1048576 elements.
-/
import Derived.Test.YtpllffabdgngcaaLInt
import Derived.Test.YtpllffabdgngcaaLCell
import Derived.Test.YtpllffabdgngcaaModel
namespace Go.Proofs.Ytpllffabdgngcaa
open Go.RowKit
set_option maxRecDepth 100000 in
set_option maxHeartbeats 1000000 in
theorem toChan_any (c : Ch) (a b : Option Addr) (p q : Nat) (w : World) (h1 : Seg w w.heap.size a c.cells.length 3 (cellF c.cells)) (h2 : Seg w w.heap.size b c.words.length 1 (intF c.words)) (m1 : c.cells.length ≤ 1048576) (m2 : c.words.length ≤ 1048576) :
    Calls Try.prog 8 #[.agg #[.int .i64 c.cap, .int .i64 c.sent, .int .i64 c.got, .int .i64 c.fin, .slice a c.cells.length p, .slice b c.words.length q]] w fun r w' =>
      (∃ g1 g2, r = .returned (.agg #[.int .i64 c.cap, .int .i64 c.sent, .int .i64 c.got, .int .i64 c.fin, .slice (some ⟨g1, 0, none⟩) c.cells.length c.cells.length, .slice (some ⟨g2, 0, none⟩) c.words.length c.words.length]) ∧ w.heap.size ≤ g1 ∧ w.heap.size ≤ g2 ∧ Row w' g1 57 c.cells.length 3 (cellF c.cells) ∧ Row w' g2 2 c.words.length 1 (intF c.words)) ∧ Below w.heap.size w w' := by
  obtain ⟨cap, sent, got, fin, cells, words⟩ := c
  simp only at *
  have H1 := Lib.hid h1
  have H2 := Lib.hid h2
  clear h1 h2
  go_enter Try.func8, Try.ntmps8
  go_wp2_with fail
  refine (toCellS_any cells a p _ (((H1.out).below (by (repeat (first | with_reducible assumption | with_reducible exact Below.refl _ _ | with_reducible refine bA ?_ | with_reducible refine bD ?_ | ((with_reducible refine bS ?_ ?_); rotate_left; (focus ((try simp); (try omega)))) | ((with_reducible refine bBx ?_ ?_); rotate_left; (focus ((try simp); (try omega)))))))).more (by simp; try omega)) m1).mono ?_
  rintro _ w1 ⟨rfl, hR1, hb1⟩
  have hB1 : Below w.heap.size w w1 := bT (by (repeat (first | with_reducible assumption | with_reducible exact Below.refl _ _ | with_reducible refine bA ?_ | with_reducible refine bD ?_ | ((with_reducible refine bS ?_ ?_); rotate_left; (focus ((try simp); (try omega)))) | ((with_reducible refine bBx ?_ ?_); rotate_left; (focus ((try simp); (try omega))))))) hb1
  have hs1 := hb1.size
  simp at hs1 hR1
  have := fun o => hb1.cell (p := ⟨w.heap.size, o, none⟩) (by simp; try omega)
  have := fun o => hb1.frozen (p := ⟨w.heap.size, o, none⟩) (by simp; try omega)
  have := fun o => hb1.cell (p := ⟨w.heap.size + 1, o, none⟩) (by simp; try omega)
  have := fun o => hb1.frozen (p := ⟨w.heap.size + 1, o, none⟩) (by simp; try omega)
  have := fun o => hb1.cell (p := ⟨w.heap.size + 1 + 1, o, none⟩) (by simp; try omega)
  have := fun o => hb1.frozen (p := ⟨w.heap.size + 1 + 1, o, none⟩) (by simp; try omega)
  have : w.heap.size < w.heap.size + 1 + 1 := by omega
  have : w.heap.size ≤ w.heap.size + 1 := by omega
  have : w.heap.size < w1.heap.size := by omega
  have hl1 := hR1.lt
  go_wp2_with fail
  refine (toInt64S_any words b q _ (((H2.out).below (by (repeat (first | with_reducible assumption | with_reducible exact Below.refl _ _ | with_reducible refine bA ?_ | with_reducible refine bD ?_ | ((with_reducible refine bS ?_ ?_); rotate_left; (focus ((try simp); (try omega)))) | ((with_reducible refine bBx ?_ ?_); rotate_left; (focus ((try simp); (try omega)))))))).more (by simp [World.setCell]; try omega)) m2).mono ?_
  rintro _ w2 ⟨rfl, hR2, hb2⟩
  have hB2 : Below w.heap.size w w2 := bT (by (repeat (first | with_reducible assumption | with_reducible exact Below.refl _ _ | with_reducible refine bA ?_ | with_reducible refine bD ?_ | ((with_reducible refine bS ?_ ?_); rotate_left; (focus ((try simp); (try omega)))) | ((with_reducible refine bBx ?_ ?_); rotate_left; (focus ((try simp); (try omega))))))) hb2
  have hR3 := (hR1.setOther (a := ⟨w.heap.size + 1 + 1, 4, none⟩) (by simp; try omega) (.slice (some ⟨w.heap.size + 1 + 1 + 1, 0, none⟩) cells.length cells.length)).below hb2 (by simp [World.setCell]; try omega)
  have hs2 := hb2.size
  simp [World.setCell] at hs2 hR2
  have := fun o => hb2.cell (p := ⟨w.heap.size, o, none⟩) (by simp [World.setCell]; try omega)
  have := fun o => hb2.frozen (p := ⟨w.heap.size, o, none⟩) (by simp [World.setCell]; try omega)
  have := fun o => hb2.cell (p := ⟨w.heap.size + 1, o, none⟩) (by simp [World.setCell]; try omega)
  have := fun o => hb2.frozen (p := ⟨w.heap.size + 1, o, none⟩) (by simp [World.setCell]; try omega)
  have := fun o => hb2.cell (p := ⟨w.heap.size + 1 + 1, o, none⟩) (by simp [World.setCell]; try omega)
  have := fun o => hb2.frozen (p := ⟨w.heap.size + 1 + 1, o, none⟩) (by simp [World.setCell]; try omega)
  have : w.heap.size + 1 + 1 + 1 ≤ w1.heap.size := by omega
  clear hb1 hb2 hR1
  go_wp2_with fail
  refine bodyPost_ret (v := .agg #[.int .i64 cap, .int .i64 sent, .int .i64 got, .int .i64 fin, .slice (some ⟨w.heap.size + 1 + 1 + 1, 0, none⟩) cells.length cells.length, .slice (some ⟨w1.heap.size, 0, none⟩) words.length words.length]) (by simp [results, Try.results8, go_sem, *]) rfl ⟨⟨w.heap.size + 1 + 1 + 1, w1.heap.size, rfl, by omega, by omega, ?_, ?_⟩, ?_⟩
  · repeat (first | with_reducible exact hR3 | ((with_reducible refine Row.setOther ?_ ?_ _); rotate_left; (focus ((try simp); (try omega)))))
  · repeat (first | with_reducible exact hR2 | ((with_reducible refine Row.setOther ?_ ?_ _); rotate_left; (focus ((try simp); (try omega)))))
  · (repeat (first | with_reducible assumption | with_reducible exact Below.refl _ _ | with_reducible refine bA ?_ | with_reducible refine bD ?_ | ((with_reducible refine bS ?_ ?_); rotate_left; (focus ((try simp); (try omega)))) | ((with_reducible refine bBx ?_ ?_); rotate_left; (focus ((try simp); (try omega))))))
set_option maxRecDepth 100000 in
set_option maxHeartbeats 1000000 in
theorem eqChan_any (c : Ch) (a b a' b' : Option Addr) (p q p' q' : Nat) (w : World) (h1 : Seg w w.heap.size a c.cells.length 3 (cellF c.cells)) (h2 : Seg w w.heap.size b c.words.length 1 (intF c.words)) (h3 : Seg w w.heap.size a' c.cells.length 3 (cellF c.cells)) (h4 : Seg w w.heap.size b' c.words.length 1 (intF c.words)) (m1 : c.cells.length ≤ 1048576) (m2 : c.words.length ≤ 1048576) :
    Calls Try.prog 10 #[.agg #[.int .i64 c.cap, .int .i64 c.sent, .int .i64 c.got, .int .i64 c.fin, .slice a c.cells.length p, .slice b c.words.length q], .agg #[.int .i64 c.cap, .int .i64 c.sent, .int .i64 c.got, .int .i64 c.fin, .slice a' c.cells.length p', .slice b' c.words.length q']] w fun r w' => r = .returned (.bool true) ∧ Below w.heap.size w w' := by
  obtain ⟨cap, sent, got, fin, cells, words⟩ := c
  simp only at *
  have H1 := Lib.hid h1
  have H2 := Lib.hid h2
  have H3 := Lib.hid h3
  have H4 := Lib.hid h4
  clear h1 h2 h3 h4
  go_enter Try.func10, Try.ntmps10
  go_wp2_with fail
  refine (eqCellS_any cells a a' p p' _ (((H1.out).below (by (repeat (first | with_reducible assumption | with_reducible exact Below.refl _ _ | with_reducible refine bA ?_ | with_reducible refine bD ?_ | ((with_reducible refine bS ?_ ?_); rotate_left; (focus ((try simp); (try omega)))) | ((with_reducible refine bBx ?_ ?_); rotate_left; (focus ((try simp); (try omega)))))))).more (by simp; try omega)) (((H3.out).below (by (repeat (first | with_reducible assumption | with_reducible exact Below.refl _ _ | with_reducible refine bA ?_ | with_reducible refine bD ?_ | ((with_reducible refine bS ?_ ?_); rotate_left; (focus ((try simp); (try omega)))) | ((with_reducible refine bBx ?_ ?_); rotate_left; (focus ((try simp); (try omega)))))))).more (by simp; try omega)) m1).mono ?_
  rintro _ w1 ⟨rfl, hb1⟩
  have hB1 : Below w.heap.size w w1 := bT (by (repeat (first | with_reducible assumption | with_reducible exact Below.refl _ _ | with_reducible refine bA ?_ | with_reducible refine bD ?_ | ((with_reducible refine bS ?_ ?_); rotate_left; (focus ((try simp); (try omega)))) | ((with_reducible refine bBx ?_ ?_); rotate_left; (focus ((try simp); (try omega))))))) hb1
  have hs1 := hb1.size
  simp at hs1
  have := fun o => hb1.cell (p := ⟨w.heap.size, o, none⟩) (by simp; try omega)
  have := fun o => hb1.cell (p := ⟨w.heap.size + 1, o, none⟩) (by simp; try omega)
  go_wp2_with fail
  refine (eqInt64S_any words b b' q q' _ (((H2.out).below hB1).more (by omega)) (((H4.out).below hB1).more (by omega)) m2).mono ?_
  rintro _ w2 ⟨rfl, hb2⟩
  have hB2 : Below w.heap.size w w2 := bT hB1 hb2
  go_wp2
  go_ret
  exact ⟨rfl, hB2⟩
/-- What is left of a bound behind a list of n elements; -1 where there is too little. -/
def leftN (left : Int) (n : Nat) : Int := if left < n then -1 else left - n
def leftC (left : Int) (c : Ch) : Int := if leftN left c.cells.length < 0 then -1 else leftN (leftN left c.cells.length) c.words.length
theorem leftN_no {left : Int} {n : Nat} (h : left < n) : leftN left n = -1 := if_pos h
theorem leftN_yes {left : Int} {n : Nat} (h : ¬ left < n) : leftN left n = left - n := if_neg h
set_option maxRecDepth 100000 in
set_option maxHeartbeats 1000000 in
theorem szChan_any (c : Ch) (a b : Option Addr) (p q : Nat) (left : Int) (w : World) (h0 : 0 ≤ left) (h1 : left ≤ 1048576) (m1 : c.cells.length ≤ maxLen) (m2 : c.words.length ≤ maxLen) :
    Calls Try.prog 6 #[.agg #[.int .i64 c.cap, .int .i64 c.sent, .int .i64 c.got, .int .i64 c.fin, .slice a c.cells.length p, .slice b c.words.length q], .int .i64 left] w fun r w' => r = .returned (.int .i64 (leftC left c)) ∧ Below w.heap.size w w' := by
  have M1 := Lib.hid m1
  have M2 := Lib.hid m2
  clear m1 m2
  by_cases hc : left < c.cells.length
  · have HV : Hid (-1 = leftC left c) := by unfold leftC; rw [leftN_no hc]; rfl
    have HQ : Hid ((if left < (c.cells.length : Int) then (-1 : Int) else left - c.cells.length) = -1) := if_pos hc
    clear hc
    go_enter Try.func6, Try.ntmps6
    go_wp2_with fail
    refine (szCellS_any _ _ _ _ _ h0 h1 M1.out).mono ?_
    rintro _ _ ⟨rfl, rfl⟩
    rw [HQ.out]
    go_wp2
    go_ret
    exact ⟨ret_i64 HV.out, by (repeat (first | with_reducible assumption | with_reducible exact Below.refl _ _ | with_reducible refine bA ?_ | with_reducible refine bD ?_ | ((with_reducible refine bS ?_ ?_); rotate_left; (focus ((try simp); (try omega)))) | ((with_reducible refine bBx ?_ ?_); rotate_left; (focus ((try simp); (try omega))))))⟩
  · obtain ⟨l2, e2⟩ : ∃ l2, l2 = left - c.cells.length := ⟨_, rfl⟩
    have HQ : Hid ((if left < (c.cells.length : Int) then (-1 : Int) else left - c.cells.length) = l2) := by rw [e2]; exact if_neg hc
    have hl0 : 0 ≤ l2 := by omega
    have hl1 : l2 ≤ 1048576 := by omega
    have hl2 : ¬ l2 < 0 := by omega
    have HL : Hid (leftC left c = leftN l2 c.words.length) := by unfold leftC; rw [leftN_yes hc, ← e2, if_neg hl2]; rfl
    clear hc e2
    by_cases hw : l2 < c.words.length
    · have HV : Hid (-1 = leftC left c) := by rw [HL.out, leftN_no hw]; rfl
      have HQ2 : Hid ((if l2 < (c.words.length : Int) then (-1 : Int) else l2 - c.words.length) = -1) := if_pos hw
      clear hw
      go_enter Try.func6, Try.ntmps6
      go_wp2_with fail
      refine (szCellS_any _ _ _ _ _ h0 h1 M1.out).mono ?_
      rintro _ _ ⟨rfl, rfl⟩
      rw [HQ.out]
      go_wp2_with fail
      refine (szInt64S_any _ _ _ _ _ hl0 hl1 M2.out).mono ?_
      rintro _ _ ⟨rfl, rfl⟩
      rw [HQ2.out]
      go_wp2
      go_ret
      exact ⟨ret_i64 HV.out, by (repeat (first | with_reducible assumption | with_reducible exact Below.refl _ _ | with_reducible refine bA ?_ | with_reducible refine bD ?_ | ((with_reducible refine bS ?_ ?_); rotate_left; (focus ((try simp); (try omega)))) | ((with_reducible refine bBx ?_ ?_); rotate_left; (focus ((try simp); (try omega))))))⟩
    · obtain ⟨l3, e3⟩ : ∃ l3, l3 = l2 - c.words.length := ⟨_, rfl⟩
      have HV : Hid (l3 = leftC left c) := by rw [HL.out, leftN_yes hw, e3]; rfl
      have HQ2 : Hid ((if l2 < (c.words.length : Int) then (-1 : Int) else l2 - c.words.length) = l3) := by rw [e3]; exact if_neg hw
      have hl3 : ¬ l3 < 0 := by omega
      clear hw e3
      go_enter Try.func6, Try.ntmps6
      go_wp2_with fail
      refine (szCellS_any _ _ _ _ _ h0 h1 M1.out).mono ?_
      rintro _ _ ⟨rfl, rfl⟩
      rw [HQ.out]
      go_wp2_with fail
      refine (szInt64S_any _ _ _ _ _ hl0 hl1 M2.out).mono ?_
      rintro _ _ ⟨rfl, rfl⟩
      rw [HQ2.out]
      go_wp2
      go_ret
      exact ⟨ret_i64 HV.out, by (repeat (first | with_reducible assumption | with_reducible exact Below.refl _ _ | with_reducible refine bA ?_ | with_reducible refine bD ?_ | ((with_reducible refine bS ?_ ?_); rotate_left; (focus ((try simp); (try omega)))) | ((with_reducible refine bBx ?_ ?_); rotate_left; (focus ((try simp); (try omega))))))⟩
end Go.Proofs.Ytpllffabdgngcaa
