/-
  FnCalls returns true for every list of bytes that it is called with, and turns nothing; no condition.
-/
import Derived.Test.YtccbbdmoedmcpaaDrawCall
import Derived.Test.YtccbbdmoedmcpaaDice
import Derived.Test.YtccbbdmoedmcpaaCallLaws
namespace Go.Proofs.Ytccbbdmoedmcpaa
open Go.RowKit
theorem big_any (n cap : Nat) (a : Option Addr) (w : World) : Calls Try.prog 6 #[.slice a n cap] w fun r w' => r = .returned (.bool (decide (4096 < (n : Int)))) ∧ w = w' := by
  go_enter Try.func6, Try.ntmps6
  go_wp2
  go_ret
  exact ⟨rfl, rfl⟩
set_option maxHeartbeats 400000 in
theorem wish_any (B g : Nat) (x : Int) (w : World) (hd : DI w B g) (h0 : 0 ≤ x) (h1 : x ≤ 999) : Calls Try.prog 13 #[.pointer (some ⟨g, 0, none⟩), .int .i64 x] w fun r w' => RightK r ∧ DI w' B g ∧ Gr g w w' := by
  have hl := hd.lt
  have hle := hd.le
  have hc : callOk 1 x = true := by simp [callOk, inB]; omega
  have HC := Lib.hid hc
  clear hc
  go_enter Try.func13, Try.ntmps13
  go_wp2_with fail
  refine (below_any B g 2 _ (hd.alloc) (by omega) (by omega)).mono ?_
  rintro _ w1 ⟨⟨y, rfl, hy0, hy1⟩, hd1, hg1⟩
  have hG1 : Gr g w w1 := gT (gA (gR _ _)) hg1
  have hl1 := hd1.lt
  have hs1 := hg1.size
  (try (simp at hs1))
  have t1 := gCell hg1 (b := w.heap.size) (by simp) (by omega)
  have t2 := gFroz hg1 (b := w.heap.size) (by simp) (by omega)
  have : w.heap.size < w1.heap.size := by omega
  by_cases hy : y = 0
  · subst hy
    go_wp2
    refine bodyPost_ret (v := .agg #[.int .i64 2, .int .i64 0]) (by simp [results, Try.results13, go_sem, *]) rfl ⟨⟨_, _, rfl, by decide⟩, ?_, ?_⟩
    · repeat (first | with_reducible assumption | with_reducible refine DI.alloc ?_ | with_reducible refine DI.drew ?_ | ((with_reducible refine DI.setCell ?_ ?_ ?_); rotate_left; (focus ((try simp); (try omega))); (focus ((try simp); (try omega)))))
    · (repeat (first | with_reducible assumption | with_reducible exact gR _ _ | with_reducible refine gA ?_ | with_reducible refine gD ?_ | ((with_reducible refine gS ?_ (.inr ?_)); rotate_left; (focus ((try simp); (try omega))))))
  · go_wp2
    refine bodyPost_ret (v := .agg #[.int .i64 1, .int .i64 x]) (by simp [results, Try.results13, go_sem, *]) rfl ⟨⟨_, _, rfl, HC.out⟩, ?_, ?_⟩
    · repeat (first | with_reducible assumption | with_reducible refine DI.alloc ?_ | with_reducible refine DI.drew ?_ | ((with_reducible refine DI.setCell ?_ ?_ ?_); rotate_left; (focus ((try simp); (try omega))); (focus ((try simp); (try omega)))))
    · (repeat (first | with_reducible assumption | with_reducible exact gR _ _ | with_reducible refine gA ?_ | with_reducible refine gD ?_ | ((with_reducible refine gS ?_ (.inr ?_)); rotate_left; (focus ((try simp); (try omega))))))
theorem lit1 : replyOk 2 0 2 = true := rfl
theorem lit2 : replyOk 1 3 2 = false := rfl
set_option maxHeartbeats 1000000 in
theorem fnCalls_any (n cap : Nat) (a : Option Addr) (bs : Nat → Int) (w : World) (hbs : ∀ j, 0 ≤ bs j ∧ bs j ≤ 255) (h : Seg w w.heap.size a n 1 (fun j _ => .int .u8 (bs j))) :
    Calls Try.prog 3 #[.slice a n cap] w fun r w' => r = .returned (.bool true) ∧ Below w.heap.size w w' := by
  have HB := Lib.hid hbs
  have HS := Lib.hid h
  clear hbs h
  by_cases hn : (4096 : Int) < (n : Int)
  · go_enter Try.func3, Try.ntmps3
    go_wp2_with fail
    refine (big_any _ _ _ _).mono ?_
    rintro _ _ ⟨rfl, rfl⟩
    go_wp2
    go_ret
    exact ⟨rfl, Below.refl _ _⟩
  · have HC : Hid (Code w w.heap.size a n bs) := ⟨by omega, HB.out, HS.out⟩
    go_enter Try.func3, Try.ntmps3
    go_wp2_with fail
    refine (big_any _ _ _ _).mono ?_
    rintro _ _ ⟨rfl, rfl⟩
    go_wp2_with fail; refine (drawReplyOk_any _ _ _ bs _ ((HC.out.below (by (repeat (first | with_reducible assumption | with_reducible exact Below.refl _ _ | with_reducible refine bA ?_ | with_reducible refine bD ?_ | ((with_reducible refine bS ?_ ?_); rotate_left; (focus ((try simp); (try omega)))) | ((with_reducible refine bBx ?_ ?_); rotate_left; (focus ((try simp); (try omega)))))))).more (by ((try simp); (try omega))))).mono ?_; rintro _ w1 ⟨⟨k, e, x, rfl⟩, hbw1⟩; have hBw1 : Below w.heap.size w w1 := bT (by (repeat (first | with_reducible assumption | with_reducible exact Below.refl _ _ | with_reducible refine bA ?_ | with_reducible refine bD ?_ | ((with_reducible refine bS ?_ ?_); rotate_left; (focus ((try simp); (try omega)))) | ((with_reducible refine bBx ?_ ?_); rotate_left; (focus ((try simp); (try omega))))))) hbw1; have hsw1 := hbw1.size; (try (simp at hsw1))
    go_wp2_with fail; refine (drawCallOk_any _ _ _ bs _ ((HC.out.below (by (repeat (first | with_reducible assumption | with_reducible exact Below.refl _ _ | with_reducible refine bA ?_ | with_reducible refine bD ?_ | ((with_reducible refine bS ?_ ?_); rotate_left; (focus ((try simp); (try omega)))) | ((with_reducible refine bBx ?_ ?_); rotate_left; (focus ((try simp); (try omega)))))))).more (by ((try simp); (try omega))))).mono ?_; rintro _ w2 ⟨⟨k2, e2, rfl⟩, hbw2⟩; have hBw2 : Below w.heap.size w w2 := bT (by (repeat (first | with_reducible assumption | with_reducible exact Below.refl _ _ | with_reducible refine bA ?_ | with_reducible refine bD ?_ | ((with_reducible refine bS ?_ ?_); rotate_left; (focus ((try simp); (try omega)))) | ((with_reducible refine bBx ?_ ?_); rotate_left; (focus ((try simp); (try omega))))))) hbw2; have hsw2 := hbw2.size; (try (simp at hsw2)); have := fun o => hbw2.cell (p := ⟨w1.heap.size, o, none⟩) (by ((try simp); (try omega))); have := fun o => hbw2.frozen (p := ⟨w1.heap.size, o, none⟩) (by ((try simp); (try omega))); have : w1.heap.size < w2.heap.size := (by omega); have : w1.heap.size ≤ w2.heap.size := (by omega); have : w1.heap.size ≤ w2.heap.size + 1 := (by omega)
    go_wp2_with fail
    go_region_held3 (fun w' => w'.cell? ⟨w1.heap.size, 0, none⟩ = some (.int .i64 k) ∧ w'.cell? ⟨w1.heap.size, 1, none⟩ = some (.int .i64 e) ∧ w'.cell? ⟨w2.heap.size, 0, none⟩ = some (.int .i64 k2) ∧ w'.cell? ⟨w2.heap.size, 1, none⟩ = some (.int .i64 e2))
      (first | (simp [*, go_sem]))
      (first | (go_at_call 9; refine (replyOk_any _ _ _ _).mono ?_; rintro _ w7 ⟨rfl, hb7⟩; have hB7 : Below w.heap.size w w7 := bT (by (repeat (first | with_reducible assumption | with_reducible exact Below.refl _ _ | with_reducible refine bA ?_ | with_reducible refine bD ?_ | ((with_reducible refine bS ?_ ?_); rotate_left; (focus ((try simp); (try omega)))) | ((with_reducible refine bBx ?_ ?_); rotate_left; (focus ((try simp); (try omega))))))) hb7; have hs7 := hb7.size; (try (simp at hs7)); have := fun o => hb7.cell (p := ⟨w1.heap.size, o, none⟩) (by ((try simp); (try omega))); have : w1.heap.size < w7.heap.size := (by omega); have := fun o => hb7.cell (p := ⟨w2.heap.size, o, none⟩) (by ((try simp); (try omega))); have : w2.heap.size < w7.heap.size := (by omega); (try rw [lit1]); (try rw [lit2])) | (go_at_call 10; refine (sReplyOk_any _ _ _ _).mono ?_; rintro _ w7 ⟨rfl, hb7⟩; have hB7 : Below w.heap.size w w7 := bT (by (repeat (first | with_reducible assumption | with_reducible exact Below.refl _ _ | with_reducible refine bA ?_ | with_reducible refine bD ?_ | ((with_reducible refine bS ?_ ?_); rotate_left; (focus ((try simp); (try omega)))) | ((with_reducible refine bBx ?_ ?_); rotate_left; (focus ((try simp); (try omega))))))) hb7; have hs7 := hb7.size; (try (simp at hs7)); have := fun o => hb7.cell (p := ⟨w1.heap.size, o, none⟩) (by ((try simp); (try omega))); have : w1.heap.size < w7.heap.size := (by omega); have := fun o => hb7.cell (p := ⟨w2.heap.size, o, none⟩) (by ((try simp); (try omega))); have : w2.heap.size < w7.heap.size := (by omega)) | (go_at_call 11; refine (callOk_any _ _ _).mono ?_; rintro _ w7 ⟨rfl, hb7⟩; have hB7 : Below w.heap.size w w7 := bT (by (repeat (first | with_reducible assumption | with_reducible exact Below.refl _ _ | with_reducible refine bA ?_ | with_reducible refine bD ?_ | ((with_reducible refine bS ?_ ?_); rotate_left; (focus ((try simp); (try omega)))) | ((with_reducible refine bBx ?_ ?_); rotate_left; (focus ((try simp); (try omega))))))) hb7; have hs7 := hb7.size; (try (simp at hs7)); have := fun o => hb7.cell (p := ⟨w1.heap.size, o, none⟩) (by ((try simp); (try omega))); have : w1.heap.size < w7.heap.size := (by omega); have := fun o => hb7.cell (p := ⟨w2.heap.size, o, none⟩) (by ((try simp); (try omega))); have : w2.heap.size < w7.heap.size := (by omega); (try rw [hcw])) | (go_at_call 12; refine (sCallOk_any _ _ _).mono ?_; rintro _ w7 ⟨rfl, hb7⟩; have hB7 : Below w.heap.size w w7 := bT (by (repeat (first | with_reducible assumption | with_reducible exact Below.refl _ _ | with_reducible refine bA ?_ | with_reducible refine bD ?_ | ((with_reducible refine bS ?_ ?_); rotate_left; (focus ((try simp); (try omega)))) | ((with_reducible refine bBx ?_ ?_); rotate_left; (focus ((try simp); (try omega))))))) hb7; have hs7 := hb7.size; (try (simp at hs7)); have := fun o => hb7.cell (p := ⟨w1.heap.size, o, none⟩) (by ((try simp); (try omega))); have : w1.heap.size < w7.heap.size := (by omega); have := fun o => hb7.cell (p := ⟨w2.heap.size, o, none⟩) (by ((try simp); (try omega))); have : w2.heap.size < w7.heap.size := (by omega)) | (go_at_call 14; refine (roll_any _ _ _ bs _ _ ((HC.out.below (by (repeat (first | with_reducible assumption | with_reducible exact Below.refl _ _ | with_reducible refine bA ?_ | with_reducible refine bD ?_ | ((with_reducible refine bS ?_ ?_); rotate_left; (focus ((try simp); (try omega)))) | ((with_reducible refine bBx ?_ ?_); rotate_left; (focus ((try simp); (try omega)))))))).more (by ((try simp); (try omega))))).mono ?_; rintro _ w7 ⟨g7, rfl, hd7, hb7⟩; have hB7 : Below w.heap.size w w7 := bT (by (repeat (first | with_reducible assumption | with_reducible exact Below.refl _ _ | with_reducible refine bA ?_ | with_reducible refine bD ?_ | ((with_reducible refine bS ?_ ?_); rotate_left; (focus ((try simp); (try omega)))) | ((with_reducible refine bBx ?_ ?_); rotate_left; (focus ((try simp); (try omega))))))) hb7; have hs7 := hb7.size; (try (simp at hs7)); have := fun o => hb7.cell (p := ⟨w1.heap.size, o, none⟩) (by ((try simp); (try omega))); have : w1.heap.size < w7.heap.size := (by omega); have := fun o => hb7.cell (p := ⟨w2.heap.size, o, none⟩) (by ((try simp); (try omega))); have : w2.heap.size < w7.heap.size := (by omega); have hle7 := hd7.le; have hl7 := hd7.lt; (try (simp at hle7))) | (go_at_call 13; refine (wish_any _ g7 5 _ hd7 (by omega) (by omega)).mono ?_; rintro _ w8 ⟨⟨kk, ee, rfl, hcw⟩, hd8, hg8⟩; have hB8 : Below w.heap.size w w8 := bG (by (repeat (first | with_reducible assumption | with_reducible exact Below.refl _ _ | with_reducible refine bA ?_ | with_reducible refine bD ?_ | ((with_reducible refine bS ?_ ?_); rotate_left; (focus ((try simp); (try omega)))) | ((with_reducible refine bBx ?_ ?_); rotate_left; (focus ((try simp); (try omega))))))) hg8 (by omega); have hs8 := hg8.size; have := fun o => gCell hg8 (b := w1.heap.size) (by ((try simp); (try omega))) (by omega) (o := o); have : w1.heap.size < w8.heap.size := (by omega); have := fun o => gCell hg8 (b := w2.heap.size) (by ((try simp); (try omega))) (by omega) (o := o); have : w2.heap.size < w8.heap.size := (by omega)))
    go_wp2
    go_ret
    exact ⟨rfl, by (repeat (first | with_reducible assumption | with_reducible exact Below.refl _ _ | with_reducible refine bA ?_ | with_reducible refine bD ?_ | ((with_reducible refine bS ?_ ?_); rotate_left; (focus ((try simp); (try omega)))) | ((with_reducible refine bBx ?_ ?_); rotate_left; (focus ((try simp); (try omega))))))⟩
end Go.Proofs.Ytccbbdmoedmcpaa
