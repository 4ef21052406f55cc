/-
  The program's copy of a channel: the same in new memory; lists lie in memory and hold at most 2 ^ 40 elements.
-/
import Derived.Test.YtpllffabdgngcaaIWord
namespace Go.Proofs.Ytpllffabdgngcaa
open Go.RowKit
set_option maxRecDepth 100000 in
set_option maxHeartbeats 1000000 in
theorem copied_any (c : Ch) (a b : Option Addr) (p q : Nat) (w : World) (h1 : Seg w w.heap.size a c.cells.length 3 (cellF c.cells)) (z1 : a = none → p = 0) (h2 : Seg w w.heap.size b c.words.length 1 (intF c.words)) (z2 : b = none → q = 0) (m1 : c.cells.length ≤ 1099511627776) (m2 : c.words.length ≤ 1099511627776) :
    Calls Try.prog 28 #[.agg #[.int .i64 c.cap, .int .i64 c.sent, .int .i64 c.got, .int .i64 c.fin, .slice a c.cells.length p, .slice b c.words.length q]] w fun r w' =>
      (∃ v1 v2, r = .returned (.agg #[.int .i64 c.cap, .int .i64 c.sent, .int .i64 c.got, .int .i64 c.fin, v1, v2]) ∧ OCells w' w.heap.size v1 c.cells ∧ OInts w' w.heap.size v2 c.words) ∧ Below w.heap.size w w' := by
  obtain ⟨cap, sent, got, fin, cells, words⟩ := c
  simp only at *
  have H1 := Lib.hid h1
  have Z1 := Lib.hid z1
  have H2 := Lib.hid h2
  have Z2 := Lib.hid z2
  clear h1 h2 z1 z2
  go_enter Try.func28, Try.ntmps28
  go_wp2_with fail
  refine (cloneC_any cells a p _ ((H1.out.below (by (repeat (first | with_reducible assumption | with_reducible exact Below.refl _ _ | with_reducible refine bA ?_ | with_reducible refine bD ?_ | ((with_reducible refine bS ?_ ?_); rotate_left; (focus ((try simp); (try omega)))) | ((with_reducible refine bBx ?_ ?_); rotate_left; (focus ((try simp); (try omega)))))))).more (by simp; try omega)) Z1.out m1).mono ?_
  rintro _ w1 ⟨⟨v1, rfl, o1⟩, hb1⟩
  have hs1 := hb1.size
  simp at hs1
  have := fun o => hb1.cell (p := ⟨w.heap.size, o, none⟩) (by simp; omega)
  have := fun o => hb1.frozen (p := ⟨w.heap.size, o, none⟩) (by simp; omega)
  have := fun o => hb1.cell (p := ⟨w.heap.size + 1, o, none⟩) (by simp)
  have := fun o => hb1.frozen (p := ⟨w.heap.size + 1, o, none⟩) (by simp)
  have hB1 : Below w.heap.size w w1 := bT (by (repeat (first | with_reducible assumption | with_reducible exact Below.refl _ _ | with_reducible refine bA ?_ | with_reducible refine bD ?_ | ((with_reducible refine bS ?_ ?_); rotate_left; (focus ((try simp); (try omega)))) | ((with_reducible refine bBx ?_ ?_); rotate_left; (focus ((try simp); (try omega))))))) hb1
  have k0 : w.heap.size < w1.heap.size := by omega
  have k1 : w.heap.size + 1 < w1.heap.size := by omega
  have o1' := own_lo o1 (lo' := w.heap.size + 1 + 1) (by simp)
  obtain ⟨va, vc, rfl, _⟩ := OCells.seg o1
  clear o1 hb1
  go_wp2_with fail
  refine (cloneI_any words b q _ ((H2.out.below hB1).setOther (by simp [World.setCell]; omega) (by simp)) Z2.out m2).mono ?_
  rintro _ w2 ⟨⟨v2, rfl, o2⟩, hb2⟩
  have p1 := own_below (own_store o1' (p := ⟨w.heap.size, 4, none⟩) (own_ne o1' (by (try simp); try omega)) (.slice va cells.length vc)) hb2
  have p2 := own_lo o2 (lo' := w.heap.size + 1 + 1) (by simp [World.setCell]; omega)
  obtain ⟨vb, vd, rfl, _⟩ := OInts.seg o2
  clear o2
  have hs2 := hb2.size
  simp [World.setCell] at hs2
  have hB2 : Below w.heap.size w w2 := bT (by (repeat (first | with_reducible assumption | with_reducible exact Below.refl _ _ | with_reducible refine bA ?_ | with_reducible refine bD ?_ | ((with_reducible refine bS ?_ ?_); rotate_left; (focus ((try simp); (try omega)))) | ((with_reducible refine bBx ?_ ?_); rotate_left; (focus ((try simp); (try omega))))))) hb2
  have := fun o => hb2.cell (p := ⟨w.heap.size, o, none⟩) (by simp [World.setCell]; omega)
  have := fun o => hb2.frozen (p := ⟨w.heap.size, o, none⟩) (by simp [World.setCell]; omega)
  have := fun o => hb2.cell (p := ⟨w.heap.size + 1, o, none⟩) (by simp [World.setCell]; omega)
  have := fun o => hb2.frozen (p := ⟨w.heap.size + 1, o, none⟩) (by simp [World.setCell]; omega)
  clear hb2
  have : w.heap.size < w2.heap.size := by omega
  have : w.heap.size + 1 < w2.heap.size := by omega
  go_wp2_with fail
  refine bodyPost_ret (v := .agg #[.int .i64 cap, .int .i64 sent, .int .i64 got, .int .i64 fin, .slice va cells.length vc, .slice vb words.length vd]) (by simp [results, Try.results28, go_sem, *]) rfl ⟨⟨_, _, rfl, ?_, ?_⟩, ?_⟩
  · refine own_lo (lo := w.heap.size + 1 + 1) ?_ (by omega)
    repeat (first | with_reducible exact p1 | ((with_reducible refine own_store ?_ ?_ _); rotate_left; (focus exact own_ne p1 (by (try simp); try omega))))
  · refine own_lo (lo := w.heap.size + 1 + 1) ?_ (by omega)
    repeat (first | with_reducible exact p2 | ((with_reducible refine own_store ?_ ?_ _); rotate_left; (focus exact own_ne p2 (by (try simp); try omega))))
  · (repeat (first | with_reducible assumption | with_reducible exact Below.refl _ _ | with_reducible refine bA ?_ | with_reducible refine bD ?_ | ((with_reducible refine bS ?_ ?_); rotate_left; (focus ((try simp); (try omega)))) | ((with_reducible refine bBx ?_ ?_); rotate_left; (focus ((try simp); (try omega))))))
end Go.Proofs.Ytpllffabdgngcaa
