/-
  The exact laws of chapter 3 return true, whatever they are called with, and turn nothing that was there; the lists hold at most as much as memory can hold.
-/
import Derived.Test.YtpllffabdgngcaaLawsKit
import Derived.Test.YtpllffabdgngcaaITold
import Derived.Test.YtpllffabdgngcaaSTold3
import Derived.Test.YtpllffabdgngcaaWaiter3
namespace Go.Proofs.Ytpllffabdgngcaa
open Go.RowKit
set_option linter.unusedSimpArgs false
set_option maxRecDepth 100000 in
set_option maxHeartbeats 4000000 in
theorem exactWaiter_any (c : Ch) (a b : Option Addr) (p q : Nat) (w : World) (h1 : Seg w w.heap.size a c.cells.length 3 (cellF c.cells)) (h2 : Seg w w.heap.size b c.words.length 1 (intF c.words)) (m1 : c.cells.length ≤ maxLen) (m2 : c.words.length ≤ maxLen) :
    Calls Try.prog 5 #[.agg #[.int .i64 c.cap, .int .i64 c.sent, .int .i64 c.got, .int .i64 c.fin, .slice a c.cells.length p, .slice b c.words.length q]] w fun r w' => r = .returned (.bool true) ∧ Below w.heap.size w w' := by
  have H1 := Lib.hid h1
  have H2 := Lib.hid h2
  have M1 := Lib.hid m1
  have M2 := Lib.hid m2
  clear h1 h2 m1 m2
  by_cases hl : leftC 1048576 c < 0
  · go_enter Try.func5, Try.ntmps5
    go_wp2_with fail
    refine (szChan_any c a b p q 1048576 _ (by omega) (by omega) M1.out M2.out).mono ?_
    rintro _ w1 ⟨rfl, hb1⟩
    have hB1 : Below w.heap.size w w1 := bT (by (repeat (first | with_reducible assumption | with_reducible exact Below.refl _ _ | with_reducible refine bA ?_ | with_reducible refine bD ?_ | ((with_reducible refine bS ?_ ?_); rotate_left; (focus ((try simp); (try omega)))) | ((with_reducible refine bBx ?_ ?_); rotate_left; (focus ((try simp); (try omega))))))) hb1
    go_wp2
    go_ret
    exact ⟨rfl, hB1⟩
  · obtain ⟨n1, n2⟩ := left_len hl
    have k1 : c.cells.length ≤ 1099511627776 := by omega
    have k2 : c.words.length ≤ 1099511627776 := by omega
    have n3 : (waitC c).cells.length ≤ 1048576 := by unfold waitC; split; (split; exact n1; exact n1); simp [Ch.zero]
    have n4 : (waitC c).words.length ≤ 1048576 := by unfold waitC; split; (split; exact n2; (simp; omega)); simp [Ch.zero]
    have hs := fun a b p q w h1 z1 h2 z2 => sWaiter_any c a b p q w h1 z1 h2 z2 k1 k2
    have hi := fun a b p q w h1 z1 h2 z2 => waiter_any c a b p q w h1 z1 h2 z2 k1 k2
    generalize waitC c = d at *
    generalize waitN c = e at *
    have HS := Lib.hid hs
    have HI := Lib.hid hi
    clear hs hi
    have hk0 : ¬ 1 + 3 * (c.cells.length : Int) + c.words.length < 0 := by omega
    have hk1 : ¬ 1 + 3 * (d.cells.length : Int) + d.words.length < 0 := by omega
    go_enter Try.func5, Try.ntmps5
    go_wp2_with fail
    refine (szChan_any c a b p q 1048576 _ (by omega) (by omega) M1.out M2.out).mono ?_
    rintro _ w1 ⟨rfl, hb1⟩
    have hC1 : Below w.heap.size w w1 := bT (by (repeat (first | with_reducible assumption | with_reducible exact Below.refl _ _ | with_reducible refine bA ?_ | with_reducible refine bD ?_ | ((with_reducible refine bS ?_ ?_); rotate_left; (focus ((try simp); (try omega)))) | ((with_reducible refine bBx ?_ ?_); rotate_left; (focus ((try simp); (try omega))))))) hb1
    have hB1 := hC1
    have hs1 := hC1.size
    have ht1 := hb1.size
    try simp at ht1
    have := fun o => hb1.cell (p := ⟨w.heap.size, o, none⟩) (by ((try simp); (try omega)))
    have := fun o => hb1.frozen (p := ⟨w.heap.size, o, none⟩) (by ((try simp); (try omega)))
    have : w.heap.size < w1.heap.size := by omega
    clear hb1
    go_wp2_with fail
    refine (toChan_any c a b p q _ ((H1.out.below (by (repeat (first | with_reducible assumption | with_reducible exact Below.refl _ _ | with_reducible refine bA ?_ | with_reducible refine bD ?_ | ((with_reducible refine bS ?_ ?_); rotate_left; (focus ((try simp); (try omega)))) | ((with_reducible refine bBx ?_ ?_); rotate_left; (focus ((try simp); (try omega)))))))).more (by ((try simp); (try omega)))) ((H2.out.below (by (repeat (first | with_reducible assumption | with_reducible exact Below.refl _ _ | with_reducible refine bA ?_ | with_reducible refine bD ?_ | ((with_reducible refine bS ?_ ?_); rotate_left; (focus ((try simp); (try omega)))) | ((with_reducible refine bBx ?_ ?_); rotate_left; (focus ((try simp); (try omega)))))))).more (by ((try simp); (try omega)))) n1 n2).mono ?_
    rintro _ w2 ⟨⟨g1, g2, rfl, lg1, lg2, Rg1, Rg2⟩, hb2⟩
    have hC2 : Below w1.heap.size w1 w2 := bT (by (repeat (first | with_reducible assumption | with_reducible exact Below.refl _ _ | with_reducible refine bA ?_ | with_reducible refine bD ?_ | ((with_reducible refine bS ?_ ?_); rotate_left; (focus ((try simp); (try omega)))) | ((with_reducible refine bBx ?_ ?_); rotate_left; (focus ((try simp); (try omega))))))) hb2
    have hB2 : Below w.heap.size w w2 := bT (by (repeat (first | with_reducible assumption | with_reducible exact Below.refl _ _ | with_reducible refine bA ?_ | with_reducible refine bD ?_ | ((with_reducible refine bS ?_ ?_); rotate_left; (focus ((try simp); (try omega)))) | ((with_reducible refine bBx ?_ ?_); rotate_left; (focus ((try simp); (try omega))))))) hb2
    have hs2 := hC2.size
    have ht2 := hb2.size
    try simp at ht2
    have := fun o => hb2.cell (p := ⟨w.heap.size, o, none⟩) (by ((try simp); (try omega)))
    have := fun o => hb2.frozen (p := ⟨w.heap.size, o, none⟩) (by ((try simp); (try omega)))
    have : w.heap.size < w2.heap.size := by omega
    clear hb2
    try simp at lg1 lg2
    have bg1 := Rg1.lt
    have bg2 := Rg2.lt
    go_wp2_with fail
    refine (HS.out _ _ _ _ _ Rg1.seg (fun e => by cases e) Rg2.seg (fun e => by cases e)).mono ?_
    rintro _ w3 ⟨⟨v1, v2, rfl, X1, X2⟩, hb3⟩
    have hC3 : Below w2.heap.size w2 w3 := bT (by (repeat (first | with_reducible assumption | with_reducible exact Below.refl _ _ | with_reducible refine bA ?_ | with_reducible refine bD ?_ | ((with_reducible refine bS ?_ ?_); rotate_left; (focus ((try simp); (try omega)))) | ((with_reducible refine bBx ?_ ?_); rotate_left; (focus ((try simp); (try omega))))))) hb3
    have hB3 : Below w.heap.size w w3 := bT (by (repeat (first | with_reducible assumption | with_reducible exact Below.refl _ _ | with_reducible refine bA ?_ | with_reducible refine bD ?_ | ((with_reducible refine bS ?_ ?_); rotate_left; (focus ((try simp); (try omega)))) | ((with_reducible refine bBx ?_ ?_); rotate_left; (focus ((try simp); (try omega))))))) hb3
    have hs3 := hC3.size
    have ht3 := hb3.size
    try simp at ht3
    have := fun o => hb3.cell (p := ⟨w.heap.size, o, none⟩) (by ((try simp); (try omega)))
    have := fun o => hb3.frozen (p := ⟨w.heap.size, o, none⟩) (by ((try simp); (try omega)))
    have : w.heap.size < w3.heap.size := by omega
    clear hb3
    replace X1 := OCells.new X1
    replace X2 := OInts.new X2
    have lX : ∀ i, (v1.ownBlock = some i ∨ v2.ownBlock = some i) → i < w3.heap.size := fun i hi => hi.elim (fun h => (X1.lt h).2) (fun h => (X2.lt h).2)
    obtain ⟨xa, xc, rfl, _⟩ := X1.seg
    obtain ⟨xb, xd, rfl, _⟩ := X2.seg
    clear Rg1 Rg2 lg1 lg2 bg1 bg2
    go_wp2_with fail
    refine (toChan_any c a b p q _ ((H1.out.below (by (repeat (first | with_reducible assumption | with_reducible exact Below.refl _ _ | with_reducible refine bA ?_ | with_reducible refine bD ?_ | ((with_reducible refine bS ?_ ?_); rotate_left; (focus ((try simp); (try omega)))) | ((with_reducible refine bBx ?_ ?_); rotate_left; (focus ((try simp); (try omega)))))))).more (by ((try simp); (try omega)))) ((H2.out.below (by (repeat (first | with_reducible assumption | with_reducible exact Below.refl _ _ | with_reducible refine bA ?_ | with_reducible refine bD ?_ | ((with_reducible refine bS ?_ ?_); rotate_left; (focus ((try simp); (try omega)))) | ((with_reducible refine bBx ?_ ?_); rotate_left; (focus ((try simp); (try omega)))))))).more (by ((try simp); (try omega)))) n1 n2).mono ?_
    rintro _ w4 ⟨⟨g3, g4, rfl, lg3, lg4, Rg3, Rg4⟩, hb4⟩
    have hC4 : Below w3.heap.size w3 w4 := bT (by (repeat (first | with_reducible assumption | with_reducible exact Below.refl _ _ | with_reducible refine bA ?_ | with_reducible refine bD ?_ | ((with_reducible refine bS ?_ ?_); rotate_left; (focus ((try simp); (try omega)))) | ((with_reducible refine bBx ?_ ?_); rotate_left; (focus ((try simp); (try omega))))))) hb4
    have hB4 : Below w.heap.size w w4 := bT (by (repeat (first | with_reducible assumption | with_reducible exact Below.refl _ _ | with_reducible refine bA ?_ | with_reducible refine bD ?_ | ((with_reducible refine bS ?_ ?_); rotate_left; (focus ((try simp); (try omega)))) | ((with_reducible refine bBx ?_ ?_); rotate_left; (focus ((try simp); (try omega))))))) hb4
    have hs4 := hC4.size
    have ht4 := hb4.size
    try simp at ht4
    replace X1 := X1.below hC4
    replace X2 := X2.below hC4
    have := fun o => hb4.cell (p := ⟨w.heap.size, o, none⟩) (by ((try simp); (try omega)))
    have := fun o => hb4.frozen (p := ⟨w.heap.size, o, none⟩) (by ((try simp); (try omega)))
    have : w.heap.size < w4.heap.size := by omega
    have := fun o => hb4.cell (p := ⟨w3.heap.size, o, none⟩) (by ((try simp); (try omega)))
    have := fun o => hb4.frozen (p := ⟨w3.heap.size, o, none⟩) (by ((try simp); (try omega)))
    have : w3.heap.size < w4.heap.size := by omega
    clear hb4
    try simp at lg3 lg4
    have bg3 := Rg3.lt
    have bg4 := Rg4.lt
    have hne : g3 ≠ g4 := row_ne Rg3 Rg4 (by decide)
    have C3 : NewC w4 w.heap.size (.slice (some ⟨g3, 0, none⟩) c.cells.length c.cells.length) c.cells := .inr ⟨g3, _, rfl, by omega, Rg3.lie⟩
    have C4 : NewI w4 w.heap.size (.slice (some ⟨g4, 0, none⟩) c.words.length c.words.length) c.words := .inr ⟨g4, _, rfl, by omega, Rg4.lie⟩
    clear Rg3 Rg4
    go_wp2_with fail
    refine (HI.out _ _ _ _ _ (C3.segAt (by (repeat (first | with_reducible assumption | with_reducible exact Below.refl _ _ | with_reducible refine bA ?_ | with_reducible refine bD ?_ | ((with_reducible refine bS ?_ ?_); rotate_left; (focus ((try simp); (try omega)))) | ((with_reducible refine bBx ?_ ?_); rotate_left; (focus ((try simp); (try omega)))))))) (fun e => by cases e) (C4.segAt (by (repeat (first | with_reducible assumption | with_reducible exact Below.refl _ _ | with_reducible refine bA ?_ | with_reducible refine bD ?_ | ((with_reducible refine bS ?_ ?_); rotate_left; (focus ((try simp); (try omega)))) | ((with_reducible refine bBx ?_ ?_); rotate_left; (focus ((try simp); (try omega)))))))) (fun e => by cases e)).mono ?_
    rintro _ w5 ⟨⟨y1, y2, rfl, Y1, Y2⟩, hb5⟩
    have hC5 : Below w4.heap.size w4 w5 := bT (by (repeat (first | with_reducible assumption | with_reducible exact Below.refl _ _ | with_reducible refine bA ?_ | with_reducible refine bD ?_ | ((with_reducible refine bS ?_ ?_); rotate_left; (focus ((try simp); (try omega)))) | ((with_reducible refine bBx ?_ ?_); rotate_left; (focus ((try simp); (try omega))))))) hb5
    have hB5 : Below w.heap.size w w5 := bT (by (repeat (first | with_reducible assumption | with_reducible exact Below.refl _ _ | with_reducible refine bA ?_ | with_reducible refine bD ?_ | ((with_reducible refine bS ?_ ?_); rotate_left; (focus ((try simp); (try omega)))) | ((with_reducible refine bBx ?_ ?_); rotate_left; (focus ((try simp); (try omega))))))) hb5
    have hs5 := hC5.size
    have ht5 := hb5.size
    try simp at ht5
    replace X1 := X1.below hC5
    replace X2 := X2.below hC5
    replace C3 := C3.below hC5
    replace C4 := C4.below hC5
    have := fun o => hb5.cell (p := ⟨w.heap.size, o, none⟩) (by ((try simp); (try omega)))
    have := fun o => hb5.frozen (p := ⟨w.heap.size, o, none⟩) (by ((try simp); (try omega)))
    have : w.heap.size < w5.heap.size := by omega
    have := fun o => hb5.cell (p := ⟨w3.heap.size, o, none⟩) (by ((try simp); (try omega)))
    have := fun o => hb5.frozen (p := ⟨w3.heap.size, o, none⟩) (by ((try simp); (try omega)))
    have : w3.heap.size < w5.heap.size := by omega
    have := fun o => hb5.cell (p := ⟨w4.heap.size, o, none⟩) (by ((try simp); (try omega)))
    have := fun o => hb5.frozen (p := ⟨w4.heap.size, o, none⟩) (by ((try simp); (try omega)))
    have : w4.heap.size < w5.heap.size := by omega
    clear hb5
    have yne : ∀ i, y1.ownBlock = some i → y2.ownBlock ≠ some i := OCells.ne Y1 Y2
    replace Y1 := (OCells.new Y1).more (lo' := w4.heap.size + 1) (by simp)
    replace Y2 := (OInts.new Y2).more (lo' := w4.heap.size + 1) (by simp)
    have lY : ∀ i, (y1.ownBlock = some i ∨ y2.ownBlock = some i) → w4.heap.size + 1 ≤ i ∧ i < w5.heap.size := fun i hi => hi.elim (fun h => Y1.lt h) (fun h => Y2.lt h)
    obtain ⟨ya, yc, rfl, _⟩ := Y1.seg
    obtain ⟨yb, yd, rfl, _⟩ := Y2.seg
    go_wp2_with fail
    refine (eqChan_any d _ _ _ _ _ _ _ _ _ (Y1.segAt (by (repeat (first | with_reducible assumption | with_reducible exact Below.refl _ _ | with_reducible refine bA ?_ | with_reducible refine bD ?_ | ((with_reducible refine bS ?_ ?_); rotate_left; (focus ((try simp); (try omega)))) | ((with_reducible refine bBx ?_ ?_); rotate_left; (focus ((try simp); (try omega)))))))) (Y2.segAt (by (repeat (first | with_reducible assumption | with_reducible exact Below.refl _ _ | with_reducible refine bA ?_ | with_reducible refine bD ?_ | ((with_reducible refine bS ?_ ?_); rotate_left; (focus ((try simp); (try omega)))) | ((with_reducible refine bBx ?_ ?_); rotate_left; (focus ((try simp); (try omega)))))))) (X1.segAt (by (repeat (first | with_reducible assumption | with_reducible exact Below.refl _ _ | with_reducible refine bA ?_ | with_reducible refine bD ?_ | ((with_reducible refine bS ?_ ?_); rotate_left; (focus ((try simp); (try omega)))) | ((with_reducible refine bBx ?_ ?_); rotate_left; (focus ((try simp); (try omega)))))))) (X2.segAt (by (repeat (first | with_reducible assumption | with_reducible exact Below.refl _ _ | with_reducible refine bA ?_ | with_reducible refine bD ?_ | ((with_reducible refine bS ?_ ?_); rotate_left; (focus ((try simp); (try omega)))) | ((with_reducible refine bBx ?_ ?_); rotate_left; (focus ((try simp); (try omega)))))))) n3 n4).mono ?_
    rintro _ w6 ⟨rfl, hb6⟩
    have hC6 : Below w5.heap.size w5 w6 := bT (by (repeat (first | with_reducible assumption | with_reducible exact Below.refl _ _ | with_reducible refine bA ?_ | with_reducible refine bD ?_ | ((with_reducible refine bS ?_ ?_); rotate_left; (focus ((try simp); (try omega)))) | ((with_reducible refine bBx ?_ ?_); rotate_left; (focus ((try simp); (try omega))))))) hb6
    have hB6 : Below w.heap.size w w6 := bT (by (repeat (first | with_reducible assumption | with_reducible exact Below.refl _ _ | with_reducible refine bA ?_ | with_reducible refine bD ?_ | ((with_reducible refine bS ?_ ?_); rotate_left; (focus ((try simp); (try omega)))) | ((with_reducible refine bBx ?_ ?_); rotate_left; (focus ((try simp); (try omega))))))) hb6
    have hs6 := hC6.size
    have ht6 := hb6.size
    try simp at ht6
    replace X1 := X1.below hC6
    replace X2 := X2.below hC6
    replace C3 := C3.below hC6
    replace C4 := C4.below hC6
    replace Y1 := Y1.below hC6
    replace Y2 := Y2.below hC6
    have := fun o => hb6.cell (p := ⟨w.heap.size, o, none⟩) (by ((try simp); (try omega)))
    have := fun o => hb6.frozen (p := ⟨w.heap.size, o, none⟩) (by ((try simp); (try omega)))
    have : w.heap.size < w6.heap.size := by omega
    have := fun o => hb6.cell (p := ⟨w3.heap.size, o, none⟩) (by ((try simp); (try omega)))
    have := fun o => hb6.frozen (p := ⟨w3.heap.size, o, none⟩) (by ((try simp); (try omega)))
    have : w3.heap.size < w6.heap.size := by omega
    have := fun o => hb6.cell (p := ⟨w4.heap.size, o, none⟩) (by ((try simp); (try omega)))
    have := fun o => hb6.frozen (p := ⟨w4.heap.size, o, none⟩) (by ((try simp); (try omega)))
    have : w4.heap.size < w6.heap.size := by omega
    have := fun o => hb6.cell (p := ⟨w5.heap.size, o, none⟩) (by ((try simp); (try omega)))
    have := fun o => hb6.frozen (p := ⟨w5.heap.size, o, none⟩) (by ((try simp); (try omega)))
    have : w5.heap.size < w6.heap.size := by omega
    clear hb6
    go_wp2_with fail
    go_region_held3 (fun w' => w'.cell? ⟨w.heap.size, 0, none⟩ = some (.int .i64 c.cap) ∧ w'.cell? ⟨w.heap.size, 1, none⟩ = some (.int .i64 c.sent) ∧ w'.cell? ⟨w.heap.size, 2, none⟩ = some (.int .i64 c.got) ∧ w'.cell? ⟨w.heap.size, 3, none⟩ = some (.int .i64 c.fin) ∧ w'.cell? ⟨w.heap.size, 4, none⟩ = some (.slice a c.cells.length p) ∧ w'.cell? ⟨w.heap.size, 5, none⟩ = some (.slice b c.words.length q) ∧ w'.cell? ⟨w4.heap.size, 0, none⟩ = some (.int .i64 c.cap) ∧ w'.cell? ⟨w4.heap.size, 1, none⟩ = some (.int .i64 c.sent) ∧ w'.cell? ⟨w4.heap.size, 2, none⟩ = some (.int .i64 c.got) ∧ w'.cell? ⟨w4.heap.size, 3, none⟩ = some (.int .i64 c.fin) ∧ w'.cell? ⟨w4.heap.size, 4, none⟩ = some (.slice (some ⟨g3, 0, none⟩) c.cells.length c.cells.length) ∧ w'.cell? ⟨w4.heap.size, 5, none⟩ = some (.slice (some ⟨g4, 0, none⟩) c.words.length c.words.length))
      (first | (simp [*, go_sem]))
      (first | (go_at_call 8; refine (toChan_any c a b p q _ ((H1.out.below (by (repeat (first | with_reducible assumption | with_reducible exact Below.refl _ _ | with_reducible refine bA ?_ | with_reducible refine bD ?_ | ((with_reducible refine bS ?_ ?_); rotate_left; (focus ((try simp); (try omega)))) | ((with_reducible refine bBx ?_ ?_); rotate_left; (focus ((try simp); (try omega)))))))).more (by ((try simp); (try omega)))) ((H2.out.below (by (repeat (first | with_reducible assumption | with_reducible exact Below.refl _ _ | with_reducible refine bA ?_ | with_reducible refine bD ?_ | ((with_reducible refine bS ?_ ?_); rotate_left; (focus ((try simp); (try omega)))) | ((with_reducible refine bBx ?_ ?_); rotate_left; (focus ((try simp); (try omega)))))))).more (by ((try simp); (try omega)))) n1 n2).mono ?_; rintro _ w7 ⟨⟨g5, g6, rfl, lg5, lg6, Rg5, Rg6⟩, hb7⟩; have hC7 : Below w6.heap.size w6 w7 := bT (by (repeat (first | with_reducible assumption | with_reducible exact Below.refl _ _ | with_reducible refine bA ?_ | with_reducible refine bD ?_ | ((with_reducible refine bS ?_ ?_); rotate_left; (focus ((try simp); (try omega)))) | ((with_reducible refine bBx ?_ ?_); rotate_left; (focus ((try simp); (try omega))))))) hb7; have hB7 : Below w.heap.size w w7 := bT (by (repeat (first | with_reducible assumption | with_reducible exact Below.refl _ _ | with_reducible refine bA ?_ | with_reducible refine bD ?_ | ((with_reducible refine bS ?_ ?_); rotate_left; (focus ((try simp); (try omega)))) | ((with_reducible refine bBx ?_ ?_); rotate_left; (focus ((try simp); (try omega))))))) hb7; have hs7 := hC7.size; have ht7 := hb7.size; (try simp at ht7); replace X1 := X1.below hC7; replace X2 := X2.below hC7; replace C3 := C3.below hC7; replace C4 := C4.below hC7; replace Y1 := Y1.below hC7; replace Y2 := Y2.below hC7; have := fun o => hb7.cell (p := ⟨w.heap.size, o, none⟩) (by ((try simp); (try omega))); have := fun o => hb7.frozen (p := ⟨w.heap.size, o, none⟩) (by ((try simp); (try omega))); have : w.heap.size < w7.heap.size := (by omega); have := fun o => hb7.cell (p := ⟨w3.heap.size, o, none⟩) (by ((try simp); (try omega))); have := fun o => hb7.frozen (p := ⟨w3.heap.size, o, none⟩) (by ((try simp); (try omega))); have : w3.heap.size < w7.heap.size := (by omega); have := fun o => hb7.cell (p := ⟨w4.heap.size, o, none⟩) (by ((try simp); (try omega))); have := fun o => hb7.frozen (p := ⟨w4.heap.size, o, none⟩) (by ((try simp); (try omega))); have : w4.heap.size < w7.heap.size := (by omega); have := fun o => hb7.cell (p := ⟨w5.heap.size, o, none⟩) (by ((try simp); (try omega))); have := fun o => hb7.frozen (p := ⟨w5.heap.size, o, none⟩) (by ((try simp); (try omega))); have : w5.heap.size < w7.heap.size := (by omega); clear hb7; (try simp at lg5 lg6); have bg5 := Rg5.lt; have bg6 := Rg6.lt) | (go_at_call 10; refine (eqChan_any c _ _ _ _ _ _ _ _ _ (C3.segAt (by (repeat (first | with_reducible assumption | with_reducible exact Below.refl _ _ | with_reducible refine bA ?_ | with_reducible refine bD ?_ | ((with_reducible refine bS ?_ ?_); rotate_left; (focus ((try simp); (try omega)))) | ((with_reducible refine bBx ?_ ?_); rotate_left; (focus ((try simp); (try omega)))))))) (C4.segAt (by (repeat (first | with_reducible assumption | with_reducible exact Below.refl _ _ | with_reducible refine bA ?_ | with_reducible refine bD ?_ | ((with_reducible refine bS ?_ ?_); rotate_left; (focus ((try simp); (try omega)))) | ((with_reducible refine bBx ?_ ?_); rotate_left; (focus ((try simp); (try omega)))))))) (Rg5.seg) (Rg6.seg) n1 n2).mono ?_; rintro _ w8 ⟨rfl, hb8⟩; have hC8 : Below w7.heap.size w7 w8 := bT (by (repeat (first | with_reducible assumption | with_reducible exact Below.refl _ _ | with_reducible refine bA ?_ | with_reducible refine bD ?_ | ((with_reducible refine bS ?_ ?_); rotate_left; (focus ((try simp); (try omega)))) | ((with_reducible refine bBx ?_ ?_); rotate_left; (focus ((try simp); (try omega))))))) hb8; have hB8 : Below w.heap.size w w8 := bT (by (repeat (first | with_reducible assumption | with_reducible exact Below.refl _ _ | with_reducible refine bA ?_ | with_reducible refine bD ?_ | ((with_reducible refine bS ?_ ?_); rotate_left; (focus ((try simp); (try omega)))) | ((with_reducible refine bBx ?_ ?_); rotate_left; (focus ((try simp); (try omega))))))) hb8; have hs8 := hC8.size; have ht8 := hb8.size; (try simp at ht8); replace X1 := X1.below hC8; replace X2 := X2.below hC8; replace C3 := C3.below hC8; replace C4 := C4.below hC8; replace Y1 := Y1.below hC8; replace Y2 := Y2.below hC8; have := fun o => hb8.cell (p := ⟨w.heap.size, o, none⟩) (by ((try simp); (try omega))); have := fun o => hb8.frozen (p := ⟨w.heap.size, o, none⟩) (by ((try simp); (try omega))); have : w.heap.size < w8.heap.size := (by omega); have := fun o => hb8.cell (p := ⟨w3.heap.size, o, none⟩) (by ((try simp); (try omega))); have := fun o => hb8.frozen (p := ⟨w3.heap.size, o, none⟩) (by ((try simp); (try omega))); have : w3.heap.size < w8.heap.size := (by omega); have := fun o => hb8.cell (p := ⟨w4.heap.size, o, none⟩) (by ((try simp); (try omega))); have := fun o => hb8.frozen (p := ⟨w4.heap.size, o, none⟩) (by ((try simp); (try omega))); have : w4.heap.size < w8.heap.size := (by omega); have := fun o => hb8.cell (p := ⟨w5.heap.size, o, none⟩) (by ((try simp); (try omega))); have := fun o => hb8.frozen (p := ⟨w5.heap.size, o, none⟩) (by ((try simp); (try omega))); have : w5.heap.size < w8.heap.size := (by omega); clear hb8))
    clear Rg5 Rg6 lg5 lg6 bg5 bg6
    go_wp2_with fail
    refine (markChan_any c.cells.length c.words.length (cellF c.cells) (intF c.words) _ _ _ _ _ _ _ _ 1 (1 + 3 * c.cells.length) _ (C3.below (by (repeat (first | with_reducible assumption | with_reducible exact Below.refl _ _ | with_reducible refine bA ?_ | with_reducible refine bD ?_ | ((with_reducible refine bS ?_ ?_); rotate_left; (focus ((try simp); (try omega)))) | ((with_reducible refine bBx ?_ ?_); rotate_left; (focus ((try simp); (try omega)))))))) (C4.below (by (repeat (first | with_reducible assumption | with_reducible exact Below.refl _ _ | with_reducible refine bA ?_ | with_reducible refine bD ?_ | ((with_reducible refine bS ?_ ?_); rotate_left; (focus ((try simp); (try omega)))) | ((with_reducible refine bBx ?_ ?_); rotate_left; (focus ((try simp); (try omega)))))))) (fun i h1 h2 => hne (by simp [Value.ownBlock] at h1 h2; omega)) (by omega) (by omega) rfl n1 n2).mono ?_
    rintro _ w9 ⟨rfl, _, _, hO9⟩
    replace hO9 : Onl (some g3) (some g4) w8 w9 := onlT (onlB (by (repeat (first | with_reducible assumption | with_reducible exact Below.refl _ _ | with_reducible refine bA ?_ | with_reducible refine bD ?_ | ((with_reducible refine bS ?_ ?_); rotate_left; (focus ((try simp); (try omega)))) | ((with_reducible refine bBx ?_ ?_); rotate_left; (focus ((try simp); (try omega)))))))) hO9
    have hs9 := hO9.2.2.2.1
    have hB9 : Below w.heap.size w w9 := bOnl hB8 hO9 (fun i h => by simp at h; omega) (fun i h => by simp at h; omega)
    replace X1 := X1.keptO hO9 (fun i h e => by have := lX i (.inl h); simp at e; omega) (fun i h e => by have := lX i (.inl h); simp at e; omega)
    replace X2 := X2.keptO hO9 (fun i h e => by have := lX i (.inr h); simp at e; omega) (fun i h e => by have := lX i (.inr h); simp at e; omega)
    replace Y1 := Y1.keptO hO9 (fun i h e => by have := lY i (.inl h); simp at e; omega) (fun i h e => by have := lY i (.inl h); simp at e; omega)
    replace Y2 := Y2.keptO hO9 (fun i h e => by have := lY i (.inr h); simp at e; omega) (fun i h e => by have := lY i (.inr h); simp at e; omega)
    have := fun o => onlCell hO9 (i := w.heap.size) (by omega) (by simp; omega) (by simp; omega) o
    have := fun o => onlFroz hO9 (i := w.heap.size) (by omega) (by simp; omega) (by simp; omega) o
    have : w.heap.size < w9.heap.size := by omega
    have := fun o => onlCell hO9 (i := w3.heap.size) (by omega) (by simp; omega) (by simp; omega) o
    have := fun o => onlFroz hO9 (i := w3.heap.size) (by omega) (by simp; omega) (by simp; omega) o
    have : w3.heap.size < w9.heap.size := by omega
    have := fun o => onlCell hO9 (i := w4.heap.size) (by omega) (by simp; omega) (by simp; omega) o
    have := fun o => onlFroz hO9 (i := w4.heap.size) (by omega) (by simp; omega) (by simp; omega) o
    have : w4.heap.size < w9.heap.size := by omega
    have := fun o => onlCell hO9 (i := w5.heap.size) (by omega) (by simp; omega) (by simp; omega) o
    have := fun o => onlFroz hO9 (i := w5.heap.size) (by omega) (by simp; omega) (by simp; omega) o
    have : w5.heap.size < w9.heap.size := by omega
    clear C3 C4 hO9
    go_wp2_with fail
    refine (eqChan_any d _ _ _ _ _ _ _ _ _ (Y1.segAt (by (repeat (first | with_reducible assumption | with_reducible exact Below.refl _ _ | with_reducible refine bA ?_ | with_reducible refine bD ?_ | ((with_reducible refine bS ?_ ?_); rotate_left; (focus ((try simp); (try omega)))) | ((with_reducible refine bBx ?_ ?_); rotate_left; (focus ((try simp); (try omega)))))))) (Y2.segAt (by (repeat (first | with_reducible assumption | with_reducible exact Below.refl _ _ | with_reducible refine bA ?_ | with_reducible refine bD ?_ | ((with_reducible refine bS ?_ ?_); rotate_left; (focus ((try simp); (try omega)))) | ((with_reducible refine bBx ?_ ?_); rotate_left; (focus ((try simp); (try omega)))))))) (X1.segAt (by (repeat (first | with_reducible assumption | with_reducible exact Below.refl _ _ | with_reducible refine bA ?_ | with_reducible refine bD ?_ | ((with_reducible refine bS ?_ ?_); rotate_left; (focus ((try simp); (try omega)))) | ((with_reducible refine bBx ?_ ?_); rotate_left; (focus ((try simp); (try omega)))))))) (X2.segAt (by (repeat (first | with_reducible assumption | with_reducible exact Below.refl _ _ | with_reducible refine bA ?_ | with_reducible refine bD ?_ | ((with_reducible refine bS ?_ ?_); rotate_left; (focus ((try simp); (try omega)))) | ((with_reducible refine bBx ?_ ?_); rotate_left; (focus ((try simp); (try omega)))))))) n3 n4).mono ?_
    rintro _ w10 ⟨rfl, hb10⟩
    have hC10 : Below w9.heap.size w9 w10 := bT (by (repeat (first | with_reducible assumption | with_reducible exact Below.refl _ _ | with_reducible refine bA ?_ | with_reducible refine bD ?_ | ((with_reducible refine bS ?_ ?_); rotate_left; (focus ((try simp); (try omega)))) | ((with_reducible refine bBx ?_ ?_); rotate_left; (focus ((try simp); (try omega))))))) hb10
    have hB10 : Below w.heap.size w w10 := bT (by (repeat (first | with_reducible assumption | with_reducible exact Below.refl _ _ | with_reducible refine bA ?_ | with_reducible refine bD ?_ | ((with_reducible refine bS ?_ ?_); rotate_left; (focus ((try simp); (try omega)))) | ((with_reducible refine bBx ?_ ?_); rotate_left; (focus ((try simp); (try omega))))))) hb10
    have hs10 := hC10.size
    have ht10 := hb10.size
    try simp at ht10
    replace X1 := X1.below hC10
    replace X2 := X2.below hC10
    replace Y1 := Y1.below hC10
    replace Y2 := Y2.below hC10
    have := fun o => hb10.cell (p := ⟨w.heap.size, o, none⟩) (by ((try simp); (try omega)))
    have := fun o => hb10.frozen (p := ⟨w.heap.size, o, none⟩) (by ((try simp); (try omega)))
    have : w.heap.size < w10.heap.size := by omega
    have := fun o => hb10.cell (p := ⟨w3.heap.size, o, none⟩) (by ((try simp); (try omega)))
    have := fun o => hb10.frozen (p := ⟨w3.heap.size, o, none⟩) (by ((try simp); (try omega)))
    have : w3.heap.size < w10.heap.size := by omega
    have := fun o => hb10.cell (p := ⟨w5.heap.size, o, none⟩) (by ((try simp); (try omega)))
    have := fun o => hb10.frozen (p := ⟨w5.heap.size, o, none⟩) (by ((try simp); (try omega)))
    have : w5.heap.size < w10.heap.size := by omega
    clear hb10
    go_wp2_with fail
    refine (markChan_any d.cells.length d.words.length (cellF d.cells) (intF d.words) _ _ _ _ _ _ _ _ 1 (1 + 3 * d.cells.length) _ (Y1.below (by (repeat (first | with_reducible assumption | with_reducible exact Below.refl _ _ | with_reducible refine bA ?_ | with_reducible refine bD ?_ | ((with_reducible refine bS ?_ ?_); rotate_left; (focus ((try simp); (try omega)))) | ((with_reducible refine bBx ?_ ?_); rotate_left; (focus ((try simp); (try omega)))))))) (Y2.below (by (repeat (first | with_reducible assumption | with_reducible exact Below.refl _ _ | with_reducible refine bA ?_ | with_reducible refine bD ?_ | ((with_reducible refine bS ?_ ?_); rotate_left; (focus ((try simp); (try omega)))) | ((with_reducible refine bBx ?_ ?_); rotate_left; (focus ((try simp); (try omega)))))))) yne (by omega) (by omega) rfl n3 n4).mono ?_
    rintro _ w11 ⟨rfl, Z1, Z2, hO11⟩
    replace hO11 : Onl _ _ w10 w11 := onlT (onlB (by (repeat (first | with_reducible assumption | with_reducible exact Below.refl _ _ | with_reducible refine bA ?_ | with_reducible refine bD ?_ | ((with_reducible refine bS ?_ ?_); rotate_left; (focus ((try simp); (try omega)))) | ((with_reducible refine bBx ?_ ?_); rotate_left; (focus ((try simp); (try omega)))))))) hO11
    have hs11 := hO11.2.2.2.1
    have hB11 : Below w.heap.size w w11 := bOnl hB10 hO11 (fun i h => by have := lY i (.inl h); omega) (fun i h => by have := lY i (.inr h); omega)
    replace X1 := X1.keptO hO11 (fun i h e => by have := lX i (.inl h); have := lY i (.inl e); omega) (fun i h e => by have := lX i (.inl h); have := lY i (.inr e); omega)
    replace X2 := X2.keptO hO11 (fun i h e => by have := lX i (.inr h); have := lY i (.inl e); omega) (fun i h e => by have := lX i (.inr h); have := lY i (.inr e); omega)
    have := fun o => onlCell hO11 (i := w.heap.size) (by omega) (fun e => by have := lY _ (.inl e.symm); omega) (fun e => by have := lY _ (.inr e.symm); omega) o
    have := fun o => onlFroz hO11 (i := w.heap.size) (by omega) (fun e => by have := lY _ (.inl e.symm); omega) (fun e => by have := lY _ (.inr e.symm); omega) o
    have : w.heap.size < w11.heap.size := by omega
    have := fun o => onlCell hO11 (i := w3.heap.size) (by omega) (fun e => by have := lY _ (.inl e.symm); omega) (fun e => by have := lY _ (.inr e.symm); omega) o
    have := fun o => onlFroz hO11 (i := w3.heap.size) (by omega) (fun e => by have := lY _ (.inl e.symm); omega) (fun e => by have := lY _ (.inr e.symm); omega) o
    have : w3.heap.size < w11.heap.size := by omega
    have := fun o => onlCell hO11 (i := w5.heap.size) (by omega) (fun e => by have := lY _ (.inl e.symm); omega) (fun e => by have := lY _ (.inr e.symm); omega) o
    have := fun o => onlFroz hO11 (i := w5.heap.size) (by omega) (fun e => by have := lY _ (.inl e.symm); omega) (fun e => by have := lY _ (.inr e.symm); omega) o
    have : w5.heap.size < w11.heap.size := by omega
    clear Y1 Y2 hO11
    have Y1 := Z1
    have Y2 := Z2
    clear Z1 Z2
    go_wp2_with fail
    refine (heldChan_any d.cells.length d.words.length _ _ _ _ _ _ _ _ 1 (1 + 3 * d.cells.length) _ (Y1.below (by (repeat (first | with_reducible assumption | with_reducible exact Below.refl _ _ | with_reducible refine bA ?_ | with_reducible refine bD ?_ | ((with_reducible refine bS ?_ ?_); rotate_left; (focus ((try simp); (try omega)))) | ((with_reducible refine bBx ?_ ?_); rotate_left; (focus ((try simp); (try omega)))))))) (Y2.below (by (repeat (first | with_reducible assumption | with_reducible exact Below.refl _ _ | with_reducible refine bA ?_ | with_reducible refine bD ?_ | ((with_reducible refine bS ?_ ?_); rotate_left; (focus ((try simp); (try omega)))) | ((with_reducible refine bBx ?_ ?_); rotate_left; (focus ((try simp); (try omega)))))))) (by omega) (by omega) rfl n3 n4).mono ?_
    rintro _ w12 ⟨rfl, hb12⟩
    have hC12 : Below w11.heap.size w11 w12 := bT (by (repeat (first | with_reducible assumption | with_reducible exact Below.refl _ _ | with_reducible refine bA ?_ | with_reducible refine bD ?_ | ((with_reducible refine bS ?_ ?_); rotate_left; (focus ((try simp); (try omega)))) | ((with_reducible refine bBx ?_ ?_); rotate_left; (focus ((try simp); (try omega))))))) hb12
    have hB12 : Below w.heap.size w w12 := bT (by (repeat (first | with_reducible assumption | with_reducible exact Below.refl _ _ | with_reducible refine bA ?_ | with_reducible refine bD ?_ | ((with_reducible refine bS ?_ ?_); rotate_left; (focus ((try simp); (try omega)))) | ((with_reducible refine bBx ?_ ?_); rotate_left; (focus ((try simp); (try omega))))))) hb12
    have hs12 := hC12.size
    have ht12 := hb12.size
    try simp at ht12
    replace X1 := X1.below hC12
    replace X2 := X2.below hC12
    replace Y1 := Y1.below hC12
    replace Y2 := Y2.below hC12
    have := fun o => hb12.cell (p := ⟨w.heap.size, o, none⟩) (by ((try simp); (try omega)))
    have := fun o => hb12.frozen (p := ⟨w.heap.size, o, none⟩) (by ((try simp); (try omega)))
    have : w.heap.size < w12.heap.size := by omega
    have := fun o => hb12.cell (p := ⟨w3.heap.size, o, none⟩) (by ((try simp); (try omega)))
    have := fun o => hb12.frozen (p := ⟨w3.heap.size, o, none⟩) (by ((try simp); (try omega)))
    have : w3.heap.size < w12.heap.size := by omega
    have := fun o => hb12.cell (p := ⟨w5.heap.size, o, none⟩) (by ((try simp); (try omega)))
    have := fun o => hb12.frozen (p := ⟨w5.heap.size, o, none⟩) (by ((try simp); (try omega)))
    have : w5.heap.size < w12.heap.size := by omega
    clear hb12
    go_wp2_with fail
    refine (toChan_any c a b p q _ ((H1.out.below (by (repeat (first | with_reducible assumption | with_reducible exact Below.refl _ _ | with_reducible refine bA ?_ | with_reducible refine bD ?_ | ((with_reducible refine bS ?_ ?_); rotate_left; (focus ((try simp); (try omega)))) | ((with_reducible refine bBx ?_ ?_); rotate_left; (focus ((try simp); (try omega)))))))).more (by ((try simp); (try omega)))) ((H2.out.below (by (repeat (first | with_reducible assumption | with_reducible exact Below.refl _ _ | with_reducible refine bA ?_ | with_reducible refine bD ?_ | ((with_reducible refine bS ?_ ?_); rotate_left; (focus ((try simp); (try omega)))) | ((with_reducible refine bBx ?_ ?_); rotate_left; (focus ((try simp); (try omega)))))))).more (by ((try simp); (try omega)))) n1 n2).mono ?_
    rintro _ w13 ⟨⟨g7, g8, rfl, lg7, lg8, Rg7, Rg8⟩, hb13⟩
    have hC13 : Below w12.heap.size w12 w13 := bT (by (repeat (first | with_reducible assumption | with_reducible exact Below.refl _ _ | with_reducible refine bA ?_ | with_reducible refine bD ?_ | ((with_reducible refine bS ?_ ?_); rotate_left; (focus ((try simp); (try omega)))) | ((with_reducible refine bBx ?_ ?_); rotate_left; (focus ((try simp); (try omega))))))) hb13
    have hB13 : Below w.heap.size w w13 := bT (by (repeat (first | with_reducible assumption | with_reducible exact Below.refl _ _ | with_reducible refine bA ?_ | with_reducible refine bD ?_ | ((with_reducible refine bS ?_ ?_); rotate_left; (focus ((try simp); (try omega)))) | ((with_reducible refine bBx ?_ ?_); rotate_left; (focus ((try simp); (try omega))))))) hb13
    have hs13 := hC13.size
    have ht13 := hb13.size
    try simp at ht13
    replace X1 := X1.below hC13
    replace X2 := X2.below hC13
    replace Y1 := Y1.below hC13
    replace Y2 := Y2.below hC13
    have := fun o => hb13.cell (p := ⟨w.heap.size, o, none⟩) (by ((try simp); (try omega)))
    have := fun o => hb13.frozen (p := ⟨w.heap.size, o, none⟩) (by ((try simp); (try omega)))
    have : w.heap.size < w13.heap.size := by omega
    have := fun o => hb13.cell (p := ⟨w3.heap.size, o, none⟩) (by ((try simp); (try omega)))
    have := fun o => hb13.frozen (p := ⟨w3.heap.size, o, none⟩) (by ((try simp); (try omega)))
    have : w3.heap.size < w13.heap.size := by omega
    have := fun o => hb13.cell (p := ⟨w5.heap.size, o, none⟩) (by ((try simp); (try omega)))
    have := fun o => hb13.frozen (p := ⟨w5.heap.size, o, none⟩) (by ((try simp); (try omega)))
    have : w5.heap.size < w13.heap.size := by omega
    clear hb13
    try simp at lg7 lg8
    have bg7 := Rg7.lt
    have bg8 := Rg8.lt
    go_wp2_with fail
    refine (HI.out _ _ _ _ _ Rg7.seg (fun e => by cases e) Rg8.seg (fun e => by cases e)).mono ?_
    rintro _ w14 ⟨⟨u1, u2, rfl, U1, U2⟩, hb14⟩
    have hC14 : Below w13.heap.size w13 w14 := bT (by (repeat (first | with_reducible assumption | with_reducible exact Below.refl _ _ | with_reducible refine bA ?_ | with_reducible refine bD ?_ | ((with_reducible refine bS ?_ ?_); rotate_left; (focus ((try simp); (try omega)))) | ((with_reducible refine bBx ?_ ?_); rotate_left; (focus ((try simp); (try omega))))))) hb14
    have hB14 : Below w.heap.size w w14 := bT (by (repeat (first | with_reducible assumption | with_reducible exact Below.refl _ _ | with_reducible refine bA ?_ | with_reducible refine bD ?_ | ((with_reducible refine bS ?_ ?_); rotate_left; (focus ((try simp); (try omega)))) | ((with_reducible refine bBx ?_ ?_); rotate_left; (focus ((try simp); (try omega))))))) hb14
    have hs14 := hC14.size
    have ht14 := hb14.size
    try simp at ht14
    replace X1 := X1.below hC14
    replace X2 := X2.below hC14
    replace Y1 := Y1.below hC14
    replace Y2 := Y2.below hC14
    have := fun o => hb14.cell (p := ⟨w.heap.size, o, none⟩) (by ((try simp); (try omega)))
    have := fun o => hb14.frozen (p := ⟨w.heap.size, o, none⟩) (by ((try simp); (try omega)))
    have : w.heap.size < w14.heap.size := by omega
    have := fun o => hb14.cell (p := ⟨w3.heap.size, o, none⟩) (by ((try simp); (try omega)))
    have := fun o => hb14.frozen (p := ⟨w3.heap.size, o, none⟩) (by ((try simp); (try omega)))
    have : w3.heap.size < w14.heap.size := by omega
    have := fun o => hb14.cell (p := ⟨w5.heap.size, o, none⟩) (by ((try simp); (try omega)))
    have := fun o => hb14.frozen (p := ⟨w5.heap.size, o, none⟩) (by ((try simp); (try omega)))
    have : w5.heap.size < w14.heap.size := by omega
    clear hb14
    replace U1 := OCells.new U1
    replace U2 := OInts.new U2
    obtain ⟨ua, uc, rfl, _⟩ := U1.seg
    obtain ⟨ub, ud, rfl, _⟩ := U2.seg
    clear Rg7 Rg8 lg7 lg8 bg7 bg8
    go_wp2_with fail
    refine (eqChan_any d _ _ _ _ _ _ _ _ _ (U1.segAt (by (repeat (first | with_reducible assumption | with_reducible exact Below.refl _ _ | with_reducible refine bA ?_ | with_reducible refine bD ?_ | ((with_reducible refine bS ?_ ?_); rotate_left; (focus ((try simp); (try omega)))) | ((with_reducible refine bBx ?_ ?_); rotate_left; (focus ((try simp); (try omega)))))))) (U2.segAt (by (repeat (first | with_reducible assumption | with_reducible exact Below.refl _ _ | with_reducible refine bA ?_ | with_reducible refine bD ?_ | ((with_reducible refine bS ?_ ?_); rotate_left; (focus ((try simp); (try omega)))) | ((with_reducible refine bBx ?_ ?_); rotate_left; (focus ((try simp); (try omega)))))))) (X1.segAt (by (repeat (first | with_reducible assumption | with_reducible exact Below.refl _ _ | with_reducible refine bA ?_ | with_reducible refine bD ?_ | ((with_reducible refine bS ?_ ?_); rotate_left; (focus ((try simp); (try omega)))) | ((with_reducible refine bBx ?_ ?_); rotate_left; (focus ((try simp); (try omega)))))))) (X2.segAt (by (repeat (first | with_reducible assumption | with_reducible exact Below.refl _ _ | with_reducible refine bA ?_ | with_reducible refine bD ?_ | ((with_reducible refine bS ?_ ?_); rotate_left; (focus ((try simp); (try omega)))) | ((with_reducible refine bBx ?_ ?_); rotate_left; (focus ((try simp); (try omega)))))))) n3 n4).mono ?_
    rintro _ w15 ⟨rfl, hb15⟩
    have hC15 : Below w14.heap.size w14 w15 := bT (by (repeat (first | with_reducible assumption | with_reducible exact Below.refl _ _ | with_reducible refine bA ?_ | with_reducible refine bD ?_ | ((with_reducible refine bS ?_ ?_); rotate_left; (focus ((try simp); (try omega)))) | ((with_reducible refine bBx ?_ ?_); rotate_left; (focus ((try simp); (try omega))))))) hb15
    have hB15 : Below w.heap.size w w15 := bT (by (repeat (first | with_reducible assumption | with_reducible exact Below.refl _ _ | with_reducible refine bA ?_ | with_reducible refine bD ?_ | ((with_reducible refine bS ?_ ?_); rotate_left; (focus ((try simp); (try omega)))) | ((with_reducible refine bBx ?_ ?_); rotate_left; (focus ((try simp); (try omega))))))) hb15
    have hs15 := hC15.size
    have ht15 := hb15.size
    try simp at ht15
    replace X1 := X1.below hC15
    replace X2 := X2.below hC15
    replace Y1 := Y1.below hC15
    replace Y2 := Y2.below hC15
    replace U1 := U1.below hC15
    replace U2 := U2.below hC15
    have := fun o => hb15.cell (p := ⟨w.heap.size, o, none⟩) (by ((try simp); (try omega)))
    have := fun o => hb15.frozen (p := ⟨w.heap.size, o, none⟩) (by ((try simp); (try omega)))
    have : w.heap.size < w15.heap.size := by omega
    have := fun o => hb15.cell (p := ⟨w3.heap.size, o, none⟩) (by ((try simp); (try omega)))
    have := fun o => hb15.frozen (p := ⟨w3.heap.size, o, none⟩) (by ((try simp); (try omega)))
    have : w3.heap.size < w15.heap.size := by omega
    have := fun o => hb15.cell (p := ⟨w5.heap.size, o, none⟩) (by ((try simp); (try omega)))
    have := fun o => hb15.frozen (p := ⟨w5.heap.size, o, none⟩) (by ((try simp); (try omega)))
    have : w5.heap.size < w15.heap.size := by omega
    have := fun o => hb15.cell (p := ⟨w14.heap.size, o, none⟩) (by ((try simp); (try omega)))
    have := fun o => hb15.frozen (p := ⟨w14.heap.size, o, none⟩) (by ((try simp); (try omega)))
    have : w14.heap.size < w15.heap.size := by omega
    clear hb15
    go_wp2_with fail
    refine (heldChan_any d.cells.length d.words.length _ _ _ _ _ _ _ _ 1 (1 + 3 * d.cells.length) _ (Y1.below (by (repeat (first | with_reducible assumption | with_reducible exact Below.refl _ _ | with_reducible refine bA ?_ | with_reducible refine bD ?_ | ((with_reducible refine bS ?_ ?_); rotate_left; (focus ((try simp); (try omega)))) | ((with_reducible refine bBx ?_ ?_); rotate_left; (focus ((try simp); (try omega)))))))) (Y2.below (by (repeat (first | with_reducible assumption | with_reducible exact Below.refl _ _ | with_reducible refine bA ?_ | with_reducible refine bD ?_ | ((with_reducible refine bS ?_ ?_); rotate_left; (focus ((try simp); (try omega)))) | ((with_reducible refine bBx ?_ ?_); rotate_left; (focus ((try simp); (try omega)))))))) (by omega) (by omega) rfl n3 n4).mono ?_
    rintro _ w16 ⟨rfl, hb16⟩
    have hC16 : Below w15.heap.size w15 w16 := bT (by (repeat (first | with_reducible assumption | with_reducible exact Below.refl _ _ | with_reducible refine bA ?_ | with_reducible refine bD ?_ | ((with_reducible refine bS ?_ ?_); rotate_left; (focus ((try simp); (try omega)))) | ((with_reducible refine bBx ?_ ?_); rotate_left; (focus ((try simp); (try omega))))))) hb16
    have hB16 : Below w.heap.size w w16 := bT (by (repeat (first | with_reducible assumption | with_reducible exact Below.refl _ _ | with_reducible refine bA ?_ | with_reducible refine bD ?_ | ((with_reducible refine bS ?_ ?_); rotate_left; (focus ((try simp); (try omega)))) | ((with_reducible refine bBx ?_ ?_); rotate_left; (focus ((try simp); (try omega))))))) hb16
    have hs16 := hC16.size
    have ht16 := hb16.size
    try simp at ht16
    replace X1 := X1.below hC16
    replace X2 := X2.below hC16
    replace Y1 := Y1.below hC16
    replace Y2 := Y2.below hC16
    replace U1 := U1.below hC16
    replace U2 := U2.below hC16
    have := fun o => hb16.cell (p := ⟨w.heap.size, o, none⟩) (by ((try simp); (try omega)))
    have := fun o => hb16.frozen (p := ⟨w.heap.size, o, none⟩) (by ((try simp); (try omega)))
    have : w.heap.size < w16.heap.size := by omega
    have := fun o => hb16.cell (p := ⟨w3.heap.size, o, none⟩) (by ((try simp); (try omega)))
    have := fun o => hb16.frozen (p := ⟨w3.heap.size, o, none⟩) (by ((try simp); (try omega)))
    have : w3.heap.size < w16.heap.size := by omega
    have := fun o => hb16.cell (p := ⟨w5.heap.size, o, none⟩) (by ((try simp); (try omega)))
    have := fun o => hb16.frozen (p := ⟨w5.heap.size, o, none⟩) (by ((try simp); (try omega)))
    have : w5.heap.size < w16.heap.size := by omega
    have := fun o => hb16.cell (p := ⟨w14.heap.size, o, none⟩) (by ((try simp); (try omega)))
    have := fun o => hb16.frozen (p := ⟨w14.heap.size, o, none⟩) (by ((try simp); (try omega)))
    have : w14.heap.size < w16.heap.size := by omega
    clear hb16
    go_wp2
    go_ret
    exact ⟨rfl, hB16⟩
end Go.Proofs.Ytpllffabdgngcaa
