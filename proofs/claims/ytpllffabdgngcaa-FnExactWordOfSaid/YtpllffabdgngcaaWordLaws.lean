/-
  The exact laws of chapter 3 return true, whatever they are called with, and turn nothing that was there; the lists hold at most as much as memory can hold.
-/
import Derived.Test.YtpllffabdgngcaaLawsKit
import Derived.Test.YtpllffabdgngcaaIWord
namespace Go.Proofs.Ytpllffabdgngcaa
open Go.RowKit
set_option linter.unusedSimpArgs false
set_option maxRecDepth 100000 in
set_option maxHeartbeats 4000000 in
theorem exactWordOf_any (c : Ch) (v : Int) (a b : Option Addr) (p q : Nat) (w : World) (h1 : Seg w w.heap.size a c.cells.length 3 (cellF c.cells)) (h2 : Seg w w.heap.size b c.words.length 1 (intF c.words)) (m1 : c.cells.length ≤ maxLen) (m2 : c.words.length ≤ maxLen) :
    Calls Try.prog 3 #[.agg #[.int .i64 c.cap, .int .i64 c.sent, .int .i64 c.got, .int .i64 c.fin, .slice a c.cells.length p, .slice b c.words.length q], .int .i64 v] w fun r w' => r = .returned (.bool true) ∧ Below w.heap.size w w' := by
  have H1 := Lib.hid h1
  have H2 := Lib.hid h2
  have M1 := Lib.hid m1
  have M2 := Lib.hid m2
  clear h1 h2 m1 m2
  by_cases hl : leftC 1048576 c < 0
  · go_enter Try.func3, Try.ntmps3
    go_wp2_with fail
    refine (szChan_any c a b p q 1048576 _ (by omega) (by omega) M1.out M2.out).mono ?_
    rintro _ w1 ⟨rfl, hb1⟩
    have hB1 : Below w.heap.size w w1 := bT (by (repeat (first | with_reducible assumption | with_reducible exact Below.refl _ _ | with_reducible refine bA ?_ | with_reducible refine bD ?_ | ((with_reducible refine bS ?_ ?_); rotate_left; (focus ((try simp); (try omega)))) | ((with_reducible refine bBx ?_ ?_); rotate_left; (focus ((try simp); (try omega))))))) hb1
    go_wp2
    go_ret
    exact ⟨rfl, hB1⟩
  · obtain ⟨n1, n2⟩ := left_len hl
    have k1 : c.cells.length ≤ 1099511627776 := by omega
    have k2 : c.words.length ≤ 1099511627776 := by omega
    go_enter Try.func3, Try.ntmps3
    go_wp2_with fail
    refine (szChan_any c a b p q 1048576 _ (by omega) (by omega) M1.out M2.out).mono ?_
    rintro _ w1 ⟨rfl, hb1⟩
    have hC1 : Below w.heap.size w w1 := bT (by (repeat (first | with_reducible assumption | with_reducible exact Below.refl _ _ | with_reducible refine bA ?_ | with_reducible refine bD ?_ | ((with_reducible refine bS ?_ ?_); rotate_left; (focus ((try simp); (try omega)))) | ((with_reducible refine bBx ?_ ?_); rotate_left; (focus ((try simp); (try omega))))))) hb1
    have hB1 := hC1
    have hs1 := hC1.size
    have ht1 := hb1.size
    try simp at ht1
    have := fun o => hb1.cell (p := ⟨w.heap.size, o, none⟩) (by ((try simp); (try omega)))
    have := fun o => hb1.frozen (p := ⟨w.heap.size, o, none⟩) (by ((try simp); (try omega)))
    have : w.heap.size < w1.heap.size := by omega
    clear hb1
    go_wp2_with fail
    refine (toChan_any c a b p q _ ((H1.out.below (by (repeat (first | with_reducible assumption | with_reducible exact Below.refl _ _ | with_reducible refine bA ?_ | with_reducible refine bD ?_ | ((with_reducible refine bS ?_ ?_); rotate_left; (focus ((try simp); (try omega)))) | ((with_reducible refine bBx ?_ ?_); rotate_left; (focus ((try simp); (try omega)))))))).more (by ((try simp); (try omega)))) ((H2.out.below (by (repeat (first | with_reducible assumption | with_reducible exact Below.refl _ _ | with_reducible refine bA ?_ | with_reducible refine bD ?_ | ((with_reducible refine bS ?_ ?_); rotate_left; (focus ((try simp); (try omega)))) | ((with_reducible refine bBx ?_ ?_); rotate_left; (focus ((try simp); (try omega)))))))).more (by ((try simp); (try omega)))) n1 n2).mono ?_
    rintro _ w2 ⟨⟨g1, g2, rfl, lg1, lg2, Rg1, Rg2⟩, hb2⟩
    have hC2 : Below w1.heap.size w1 w2 := bT (by (repeat (first | with_reducible assumption | with_reducible exact Below.refl _ _ | with_reducible refine bA ?_ | with_reducible refine bD ?_ | ((with_reducible refine bS ?_ ?_); rotate_left; (focus ((try simp); (try omega)))) | ((with_reducible refine bBx ?_ ?_); rotate_left; (focus ((try simp); (try omega))))))) hb2
    have hB2 : Below w.heap.size w w2 := bT (by (repeat (first | with_reducible assumption | with_reducible exact Below.refl _ _ | with_reducible refine bA ?_ | with_reducible refine bD ?_ | ((with_reducible refine bS ?_ ?_); rotate_left; (focus ((try simp); (try omega)))) | ((with_reducible refine bBx ?_ ?_); rotate_left; (focus ((try simp); (try omega))))))) hb2
    have hs2 := hC2.size
    have ht2 := hb2.size
    try simp at ht2
    have := fun o => hb2.cell (p := ⟨w.heap.size, o, none⟩) (by ((try simp); (try omega)))
    have := fun o => hb2.frozen (p := ⟨w.heap.size, o, none⟩) (by ((try simp); (try omega)))
    have : w.heap.size < w2.heap.size := by omega
    clear hb2
    try simp at lg1 lg2
    have bg1 := Rg1.lt
    have bg2 := Rg2.lt
    go_wp2_with fail
    refine (sWordOf_any c v _ _ _ _ _ Rg1.seg Rg2.seg k2).mono ?_
    rintro _ w3 ⟨rfl, hb3⟩
    have hC3 : Below w2.heap.size w2 w3 := bT (by (repeat (first | with_reducible assumption | with_reducible exact Below.refl _ _ | with_reducible refine bA ?_ | with_reducible refine bD ?_ | ((with_reducible refine bS ?_ ?_); rotate_left; (focus ((try simp); (try omega)))) | ((with_reducible refine bBx ?_ ?_); rotate_left; (focus ((try simp); (try omega))))))) hb3
    have hB3 : Below w.heap.size w w3 := bT (by (repeat (first | with_reducible assumption | with_reducible exact Below.refl _ _ | with_reducible refine bA ?_ | with_reducible refine bD ?_ | ((with_reducible refine bS ?_ ?_); rotate_left; (focus ((try simp); (try omega)))) | ((with_reducible refine bBx ?_ ?_); rotate_left; (focus ((try simp); (try omega))))))) hb3
    have hs3 := hC3.size
    have ht3 := hb3.size
    try simp at ht3
    have := fun o => hb3.cell (p := ⟨w.heap.size, o, none⟩) (by ((try simp); (try omega)))
    have := fun o => hb3.frozen (p := ⟨w.heap.size, o, none⟩) (by ((try simp); (try omega)))
    have : w.heap.size < w3.heap.size := by omega
    clear hb3
    clear Rg1 Rg2 lg1 lg2 bg1 bg2
    go_wp2_with fail
    refine (toChan_any c a b p q _ ((H1.out.below (by (repeat (first | with_reducible assumption | with_reducible exact Below.refl _ _ | with_reducible refine bA ?_ | with_reducible refine bD ?_ | ((with_reducible refine bS ?_ ?_); rotate_left; (focus ((try simp); (try omega)))) | ((with_reducible refine bBx ?_ ?_); rotate_left; (focus ((try simp); (try omega)))))))).more (by ((try simp); (try omega)))) ((H2.out.below (by (repeat (first | with_reducible assumption | with_reducible exact Below.refl _ _ | with_reducible refine bA ?_ | with_reducible refine bD ?_ | ((with_reducible refine bS ?_ ?_); rotate_left; (focus ((try simp); (try omega)))) | ((with_reducible refine bBx ?_ ?_); rotate_left; (focus ((try simp); (try omega)))))))).more (by ((try simp); (try omega)))) n1 n2).mono ?_
    rintro _ w4 ⟨⟨g3, g4, rfl, lg3, lg4, Rg3, Rg4⟩, hb4⟩
    have hC4 : Below w3.heap.size w3 w4 := bT (by (repeat (first | with_reducible assumption | with_reducible exact Below.refl _ _ | with_reducible refine bA ?_ | with_reducible refine bD ?_ | ((with_reducible refine bS ?_ ?_); rotate_left; (focus ((try simp); (try omega)))) | ((with_reducible refine bBx ?_ ?_); rotate_left; (focus ((try simp); (try omega))))))) hb4
    have hB4 : Below w.heap.size w w4 := bT (by (repeat (first | with_reducible assumption | with_reducible exact Below.refl _ _ | with_reducible refine bA ?_ | with_reducible refine bD ?_ | ((with_reducible refine bS ?_ ?_); rotate_left; (focus ((try simp); (try omega)))) | ((with_reducible refine bBx ?_ ?_); rotate_left; (focus ((try simp); (try omega))))))) hb4
    have hs4 := hC4.size
    have ht4 := hb4.size
    try simp at ht4
    have := fun o => hb4.cell (p := ⟨w.heap.size, o, none⟩) (by ((try simp); (try omega)))
    have := fun o => hb4.frozen (p := ⟨w.heap.size, o, none⟩) (by ((try simp); (try omega)))
    have : w.heap.size < w4.heap.size := by omega
    clear hb4
    try simp at lg3 lg4
    have bg3 := Rg3.lt
    have bg4 := Rg4.lt
    have C3 : NewC w4 w.heap.size (.slice (some ⟨g3, 0, none⟩) c.cells.length c.cells.length) c.cells := .inr ⟨g3, _, rfl, by omega, Rg3.lie⟩
    have C4 : NewI w4 w.heap.size (.slice (some ⟨g4, 0, none⟩) c.words.length c.words.length) c.words := .inr ⟨g4, _, rfl, by omega, Rg4.lie⟩
    clear Rg3 Rg4
    go_wp2_with fail
    refine (wordOf_any c v _ _ _ _ _ (C3.segAt (by (repeat (first | with_reducible assumption | with_reducible exact Below.refl _ _ | with_reducible refine bA ?_ | with_reducible refine bD ?_ | ((with_reducible refine bS ?_ ?_); rotate_left; (focus ((try simp); (try omega)))) | ((with_reducible refine bBx ?_ ?_); rotate_left; (focus ((try simp); (try omega)))))))) (C4.segAt (by (repeat (first | with_reducible assumption | with_reducible exact Below.refl _ _ | with_reducible refine bA ?_ | with_reducible refine bD ?_ | ((with_reducible refine bS ?_ ?_); rotate_left; (focus ((try simp); (try omega)))) | ((with_reducible refine bBx ?_ ?_); rotate_left; (focus ((try simp); (try omega)))))))) M1.out M2.out).mono ?_
    rintro _ w5 ⟨rfl, hb5⟩
    have hC5 : Below w4.heap.size w4 w5 := bT (by (repeat (first | with_reducible assumption | with_reducible exact Below.refl _ _ | with_reducible refine bA ?_ | with_reducible refine bD ?_ | ((with_reducible refine bS ?_ ?_); rotate_left; (focus ((try simp); (try omega)))) | ((with_reducible refine bBx ?_ ?_); rotate_left; (focus ((try simp); (try omega))))))) hb5
    have hB5 : Below w.heap.size w w5 := bT (by (repeat (first | with_reducible assumption | with_reducible exact Below.refl _ _ | with_reducible refine bA ?_ | with_reducible refine bD ?_ | ((with_reducible refine bS ?_ ?_); rotate_left; (focus ((try simp); (try omega)))) | ((with_reducible refine bBx ?_ ?_); rotate_left; (focus ((try simp); (try omega))))))) hb5
    have hs5 := hC5.size
    have ht5 := hb5.size
    try simp at ht5
    replace C3 := C3.below hC5
    replace C4 := C4.below hC5
    have := fun o => hb5.cell (p := ⟨w.heap.size, o, none⟩) (by ((try simp); (try omega)))
    have := fun o => hb5.frozen (p := ⟨w.heap.size, o, none⟩) (by ((try simp); (try omega)))
    have : w.heap.size < w5.heap.size := by omega
    have := fun o => hb5.cell (p := ⟨w4.heap.size, o, none⟩) (by ((try simp); (try omega)))
    have := fun o => hb5.frozen (p := ⟨w4.heap.size, o, none⟩) (by ((try simp); (try omega)))
    have : w4.heap.size < w5.heap.size := by omega
    clear hb5
    go_wp2_with fail
    go_region_held3 (fun w' => w'.cell? ⟨w.heap.size, 0, none⟩ = some (.int .i64 c.cap) ∧ w'.cell? ⟨w.heap.size, 1, none⟩ = some (.int .i64 c.sent) ∧ w'.cell? ⟨w.heap.size, 2, none⟩ = some (.int .i64 c.got) ∧ w'.cell? ⟨w.heap.size, 3, none⟩ = some (.int .i64 c.fin) ∧ w'.cell? ⟨w.heap.size, 4, none⟩ = some (.slice a c.cells.length p) ∧ w'.cell? ⟨w.heap.size, 5, none⟩ = some (.slice b c.words.length q) ∧ w'.cell? ⟨w4.heap.size, 0, none⟩ = some (.int .i64 c.cap) ∧ w'.cell? ⟨w4.heap.size, 1, none⟩ = some (.int .i64 c.sent) ∧ w'.cell? ⟨w4.heap.size, 2, none⟩ = some (.int .i64 c.got) ∧ w'.cell? ⟨w4.heap.size, 3, none⟩ = some (.int .i64 c.fin) ∧ w'.cell? ⟨w4.heap.size, 4, none⟩ = some (.slice (some ⟨g3, 0, none⟩) c.cells.length c.cells.length) ∧ w'.cell? ⟨w4.heap.size, 5, none⟩ = some (.slice (some ⟨g4, 0, none⟩) c.words.length c.words.length))
      (first | (simp [*, go_sem]))
      (first | (go_at_call 8; refine (toChan_any c a b p q _ ((H1.out.below (by (repeat (first | with_reducible assumption | with_reducible exact Below.refl _ _ | with_reducible refine bA ?_ | with_reducible refine bD ?_ | ((with_reducible refine bS ?_ ?_); rotate_left; (focus ((try simp); (try omega)))) | ((with_reducible refine bBx ?_ ?_); rotate_left; (focus ((try simp); (try omega)))))))).more (by ((try simp); (try omega)))) ((H2.out.below (by (repeat (first | with_reducible assumption | with_reducible exact Below.refl _ _ | with_reducible refine bA ?_ | with_reducible refine bD ?_ | ((with_reducible refine bS ?_ ?_); rotate_left; (focus ((try simp); (try omega)))) | ((with_reducible refine bBx ?_ ?_); rotate_left; (focus ((try simp); (try omega)))))))).more (by ((try simp); (try omega)))) n1 n2).mono ?_; rintro _ w6 ⟨⟨g5, g6, rfl, lg5, lg6, Rg5, Rg6⟩, hb6⟩; have hC6 : Below w5.heap.size w5 w6 := bT (by (repeat (first | with_reducible assumption | with_reducible exact Below.refl _ _ | with_reducible refine bA ?_ | with_reducible refine bD ?_ | ((with_reducible refine bS ?_ ?_); rotate_left; (focus ((try simp); (try omega)))) | ((with_reducible refine bBx ?_ ?_); rotate_left; (focus ((try simp); (try omega))))))) hb6; have hB6 : Below w.heap.size w w6 := bT (by (repeat (first | with_reducible assumption | with_reducible exact Below.refl _ _ | with_reducible refine bA ?_ | with_reducible refine bD ?_ | ((with_reducible refine bS ?_ ?_); rotate_left; (focus ((try simp); (try omega)))) | ((with_reducible refine bBx ?_ ?_); rotate_left; (focus ((try simp); (try omega))))))) hb6; have hs6 := hC6.size; have ht6 := hb6.size; (try simp at ht6); replace C3 := C3.below hC6; replace C4 := C4.below hC6; have := fun o => hb6.cell (p := ⟨w.heap.size, o, none⟩) (by ((try simp); (try omega))); have := fun o => hb6.frozen (p := ⟨w.heap.size, o, none⟩) (by ((try simp); (try omega))); have : w.heap.size < w6.heap.size := (by omega); have := fun o => hb6.cell (p := ⟨w4.heap.size, o, none⟩) (by ((try simp); (try omega))); have := fun o => hb6.frozen (p := ⟨w4.heap.size, o, none⟩) (by ((try simp); (try omega))); have : w4.heap.size < w6.heap.size := (by omega); clear hb6; (try simp at lg5 lg6); have bg5 := Rg5.lt; have bg6 := Rg6.lt) | (go_at_call 10; refine (eqChan_any c _ _ _ _ _ _ _ _ _ (C3.segAt (by (repeat (first | with_reducible assumption | with_reducible exact Below.refl _ _ | with_reducible refine bA ?_ | with_reducible refine bD ?_ | ((with_reducible refine bS ?_ ?_); rotate_left; (focus ((try simp); (try omega)))) | ((with_reducible refine bBx ?_ ?_); rotate_left; (focus ((try simp); (try omega)))))))) (C4.segAt (by (repeat (first | with_reducible assumption | with_reducible exact Below.refl _ _ | with_reducible refine bA ?_ | with_reducible refine bD ?_ | ((with_reducible refine bS ?_ ?_); rotate_left; (focus ((try simp); (try omega)))) | ((with_reducible refine bBx ?_ ?_); rotate_left; (focus ((try simp); (try omega)))))))) (Rg5.seg) (Rg6.seg) n1 n2).mono ?_; rintro _ w7 ⟨rfl, hb7⟩; have hC7 : Below w6.heap.size w6 w7 := bT (by (repeat (first | with_reducible assumption | with_reducible exact Below.refl _ _ | with_reducible refine bA ?_ | with_reducible refine bD ?_ | ((with_reducible refine bS ?_ ?_); rotate_left; (focus ((try simp); (try omega)))) | ((with_reducible refine bBx ?_ ?_); rotate_left; (focus ((try simp); (try omega))))))) hb7; have hB7 : Below w.heap.size w w7 := bT (by (repeat (first | with_reducible assumption | with_reducible exact Below.refl _ _ | with_reducible refine bA ?_ | with_reducible refine bD ?_ | ((with_reducible refine bS ?_ ?_); rotate_left; (focus ((try simp); (try omega)))) | ((with_reducible refine bBx ?_ ?_); rotate_left; (focus ((try simp); (try omega))))))) hb7; have hs7 := hC7.size; have ht7 := hb7.size; (try simp at ht7); replace C3 := C3.below hC7; replace C4 := C4.below hC7; have := fun o => hb7.cell (p := ⟨w.heap.size, o, none⟩) (by ((try simp); (try omega))); have := fun o => hb7.frozen (p := ⟨w.heap.size, o, none⟩) (by ((try simp); (try omega))); have : w.heap.size < w7.heap.size := (by omega); have := fun o => hb7.cell (p := ⟨w4.heap.size, o, none⟩) (by ((try simp); (try omega))); have := fun o => hb7.frozen (p := ⟨w4.heap.size, o, none⟩) (by ((try simp); (try omega))); have : w4.heap.size < w7.heap.size := (by omega); clear hb7))
    clear Rg5 Rg6 lg5 lg6 bg5 bg6
    go_wp2
    go_ret
    exact ⟨rfl, hB7⟩
end Go.Proofs.Ytpllffabdgngcaa
