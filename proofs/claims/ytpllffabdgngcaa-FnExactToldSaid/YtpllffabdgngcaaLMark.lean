/-
  The laws' helpers that write numbers into a list of the call's own, and that look for them; lists of at most 1048576 elements.
-/
import Derived.Test.YtpllffabdgngcaaLChan
import Derived.Test.YtpllffabdgngcaaNew
namespace Go.Proofs.Ytpllffabdgngcaa
open Go.RowKit
/- The numbers that are written. -/
def marksI (k : Int) (n : Nat) : List Int := (List.range n).map fun (i : Nat) => k + (i : Int)
def marksC (k : Int) (n : Nat) : List C3 := (List.range n).map fun (i : Nat) => ⟨k + 3 * (i : Int), k + 3 * (i : Int) + 1, k + 3 * (i : Int) + 2⟩
theorem marksI_len (k : Int) (n : Nat) : (marksI k n).length = n := by simp [marksI]
theorem marksC_len (k : Int) (n : Nat) : (marksC k n).length = n := by simp [marksC]
theorem marksI_get {k : Int} {n i : Nat} (h : i < n) : (marksI k n).getD i 0 = k + (i : Int) := by simp [marksI, List.getD, h]
theorem marksC_get {k : Int} {n i : Nat} (h : i < n) : (marksC k n).getD i ⟨0, 0, 0⟩ = ⟨k + 3 * (i : Int), k + 3 * (i : Int) + 1, k + 3 * (i : Int) + 2⟩ := by simp [marksC, List.getD, h]
def mkI (k : Int) (f : Nat → Nat → Value) (m i j : Nat) : Value := if i < m then .int .i64 (k + (i : Int)) else f i j
def mkC (k : Int) (f : Nat → Nat → Value) (m i j : Nat) : Value := if i < m then C3.val ⟨k + 3 * (i : Int), k + 3 * (i : Int) + 1, k + 3 * (i : Int) + 2⟩ j else f i j
theorem mkI_0 (k : Int) (f : Nat → Nat → Value) : mkI k f 0 = f := by funext i j; simp [mkI]
theorem mkC_0 (k : Int) (f : Nat → Nat → Value) : mkC k f 0 = f := by funext i j; simp [mkC]
theorem mkI_step {k x : Int} {f : Nat → Nat → Value} {m : Nat} (h : x = k + (m : Int)) (i j : Nat) : (if i = m then Value.int .i64 x else mkI k f m i j) = mkI k f (m + 1) i j := by
  subst h
  unfold mkI
  by_cases e : i = m
  · subst e; rw [if_pos rfl, if_pos (by omega)]
  · rw [if_neg e]
    by_cases e2 : i < m
    · rw [if_pos e2, if_pos (by omega)]
    · rw [if_neg e2, if_neg (by omega)]
theorem mkC_step {k : Int} {f : Nat → Nat → Value} {m : Nat} {c : C3} (h : c = ⟨k + 3 * (m : Int), k + 3 * (m : Int) + 1, k + 3 * (m : Int) + 2⟩) (i j : Nat) : (if i = m then c.val j else mkC k f m i j) = mkC k f (m + 1) i j := by
  subst h
  unfold mkC
  by_cases e : i = m
  · subst e; rw [if_pos rfl, if_pos (by omega)]
  · rw [if_neg e]
    by_cases e2 : i < m
    · rw [if_pos e2, if_pos (by omega)]
    · rw [if_neg e2, if_neg (by omega)]
theorem mkI_end (k : Int) (f : Nat → Nat → Value) (n : Nat) : ∀ i j, i < n → j < 1 → mkI k f n i j = intF (marksI k n) i j := fun i j hi _ => by simp only [mkI, intF, marksI_get hi, if_pos hi]
theorem mkC_end (k : Int) (f : Nat → Nat → Value) (n : Nat) : ∀ i j, i < n → j < 3 → mkC k f n i j = cellF (marksC k n) i j := fun i j hi _ => by simp only [mkC, cellF, marksC_get hi, if_pos hi]
theorem grS {w W : World} {g : Nat} {p : Addr} {u : Value} (h : w.grownBy W (some g)) (hp : p.block = g) : w.grownBy (W.setCell p u) (some g) :=
  ⟨h.os, h.tape, h.output, by simpa [World.setCell] using h.size, fun k hk hn => (Below.heap_setCell W p u k (by
    rintro rfl
    exact hn (by rw [hp]))).trans (h.block k hk hn)⟩
theorem grR (w : World) (row : Option Nat) : w.grownBy w row := ⟨rfl, rfl, rfl, Nat.le_refl _, fun _ _ _ => rfl⟩
set_option maxHeartbeats 400000 in
theorem markInt64S_any (n : Nat) (f : Nat → Nat → Value) (lo : Nat) (v : Value) (k : Int) (w : World) (h : New w lo v n 1 f) (h0 : 0 ≤ k) (h1 : k ≤ 1099511627776) (hm : n ≤ 1048576) :
    Calls Try.prog 31 #[v, .int .i64 k] w fun r w' => r = .returned (.int .i64 (k + n)) ∧ NewI w' lo v (marksI k n) ∧ w.grownBy w' v.ownBlock := by
  rcases h with ⟨rfl, rfl⟩ | ⟨g, cap, rfl, hl, hL⟩
  · go_enter Try.func31, Try.ntmps31
    go_wp2
    go_loopw [1, 5] (fun q i wr => i = .int .i64 0 ∧ q = .int .i64 k ∧ wr = w) (fun _ i _ => 0 - (intOf i).toNat)
    case atStart => exact ⟨rfl, rfl, rfl⟩
    case round =>
      obtain ⟨rfl, rfl, rfl⟩ := hrel
      go_wp2
      go_ret
      exact ⟨by simp, .inl ⟨rfl, rfl⟩, grR _ _⟩
  · have hW := grR w (some g)
    go_enter Try.func31, Try.ntmps31
    go_wp2
    go_loopw [1, 5] (fun q i wr => ∃ m : Nat, m ≤ n ∧ i = .int .i64 m ∧ q = .int .i64 (k + m) ∧ Lie wr g n 1 (mkI k f m) ∧ w.grownBy wr (some g)) (fun _ i _ => n - (intOf i).toNat)
    case atStart => exact ⟨0, Nat.zero_le _, rfl, by simp, by rw [mkI_0]; exact hL, hW⟩
    case round =>
      clear hL hW
      obtain ⟨m, hk, rfl, rfl, hL, hW⟩ := hrel
      by_cases hlt : m < n
      · have e0 := hL.cell hlt (show 0 < 1 by omega)
        simp only [Nat.add_zero, Nat.mul_one] at e0
        have f1 := hL.frozen
        go_wp2
        go_roundw
        case rel => exact ⟨m + 1, by omega, by go_num, by go_num, (hL.set1 hlt (.int .i64 (k + m))).congr (fun i j _ _ => mkI_step rfl i j), grS hW rfl⟩
        case measure => simp [intOf]; omega
      · have : m = n := by omega
        subst this
        go_wp2
        go_ret
        exact ⟨rfl, .inr ⟨g, cap, by rw [marksI_len], hl, by rw [marksI_len]; exact hL.congr (mkI_end k f m)⟩, hW⟩
set_option maxHeartbeats 1000000 in
theorem markCellS_any (n : Nat) (f : Nat → Nat → Value) (lo : Nat) (v : Value) (k : Int) (w : World) (h : New w lo v n 3 f) (h0 : 0 ≤ k) (h1 : k ≤ 1099511627776) (hm : n ≤ 1048576) :
    Calls Try.prog 30 #[v, .int .i64 k] w fun r w' => r = .returned (.int .i64 (k + 3 * n)) ∧ NewC w' lo v (marksC k n) ∧ w.grownBy w' v.ownBlock := by
  rcases h with ⟨rfl, rfl⟩ | ⟨g, cap, rfl, hl, hL⟩
  · go_enter Try.func30, Try.ntmps30
    go_wp2
    go_loopw [1, 5] (fun q i wr => i = .int .i64 0 ∧ q = .int .i64 k ∧ wr = w) (fun _ i _ => 0 - (intOf i).toNat)
    case atStart => exact ⟨rfl, rfl, rfl⟩
    case round =>
      obtain ⟨rfl, rfl, rfl⟩ := hrel
      go_wp2
      go_ret
      exact ⟨by simp, .inl ⟨rfl, rfl⟩, grR _ _⟩
  · have hW := grR w (some g)
    go_enter Try.func30, Try.ntmps30
    go_wp2
    go_loopw [1, 5] (fun q i wr => ∃ m : Nat, m ≤ n ∧ i = .int .i64 m ∧ q = .int .i64 (k + 3 * m) ∧ Lie wr g n 3 (mkC k f m) ∧ w.grownBy wr (some g)) (fun _ i _ => n - (intOf i).toNat)
    case atStart => exact ⟨0, Nat.zero_le _, rfl, by simp, by rw [mkC_0]; exact hL, hW⟩
    case round =>
      clear hL hW
      obtain ⟨m, hk, rfl, rfl, hL, hW⟩ := hrel
      by_cases hlt : m < n
      · have e0 := hL.cell hlt (show 0 < 3 by omega)
        have e1 := hL.cell hlt (show 1 < 3 by omega)
        have e2 := hL.cell hlt (show 2 < 3 by omega)
        simp only [Nat.add_zero] at e0
        have f1 := hL.frozen
        go_wp2
        go_roundw
        case rel => exact ⟨m + 1, by omega, by go_num, by go_num, (hL.set3 hlt (C3.val ⟨k + 3 * (m : Int), k + 3 * (m : Int) + 1, k + 3 * (m : Int) + 1 + 1⟩)).congr (fun i j _ _ => mkC_step (by congr 1; omega) i j), grS (grS (grS hW rfl) rfl) rfl⟩
        case measure => simp [intOf]; omega
      · have : m = n := by omega
        subst this
        go_wp2
        go_ret
        exact ⟨rfl, .inr ⟨g, cap, by rw [marksC_len], hl, by rw [marksC_len]; exact hL.congr (mkC_end k f m)⟩, hW⟩
set_option maxHeartbeats 1000000 in
theorem heldInt64S_any (n : Nat) (lo : Nat) (v : Value) (k : Int) (w : World) (h : NewI w lo v (marksI k n)) (h0 : 0 ≤ k) (h1 : k ≤ 1099511627776) (hm : n ≤ 1048576) :
    Calls Try.prog 33 #[v, .int .i64 k] w fun r w' => r = .returned (.int .i64 (k + n)) ∧ Below w.heap.size w w' := by
  obtain ⟨a, cap, rfl, hS⟩ := h.seg
  rw [marksI_len] at hS ⊢
  have HS := Lib.hid hS
  clear hS h
  go_enter Try.func33, Try.ntmps33
  go_wp2
  go_loopw [1, 5] (fun q i wr => ∃ m : Nat, m ≤ n ∧ i = .int .i64 m ∧ q = .int .i64 (k + m) ∧ Below w.heap.size w wr) (fun _ i _ => n - (intOf i).toNat)
  case atStart => exact ⟨0, Nat.zero_le _, rfl, by simp, Below.refl _ _⟩
  case round =>
    obtain ⟨m, hk, rfl, rfl, hB⟩ := hrel
    by_cases hlt : m < n
    · obtain h0' | ⟨b, o, rfl, hb, hc⟩ := HS.out
      · omega
      have c0 := (hB.cell (p := ⟨b, o + m * 1 + 0, none⟩) hb).trans (hc m 0 hlt (by omega))
      simp only [intF, Nat.add_zero, Nat.mul_one, marksI_get hlt] at c0
      clear hc
      have hk0 : (0 : Int) ≤ (m : Int) := by omega
      have hk1 : (m : Int) < (n : Int) := by omega
      go_wp2
      go_roundw
      case rel => exact ⟨m + 1, by omega, by go_num, by go_num, by (repeat (first | with_reducible assumption | with_reducible exact Below.refl _ _ | with_reducible refine bA ?_ | with_reducible refine bD ?_ | ((with_reducible refine bS ?_ ?_); rotate_left; (focus ((try simp); (try omega)))) | ((with_reducible refine bBx ?_ ?_); rotate_left; (focus ((try simp); (try omega))))))⟩
      case measure => simp [intOf]; omega
    · have : m = n := by omega
      subst this
      go_wp2
      go_ret
      exact ⟨rfl, hB⟩
set_option maxHeartbeats 1000000 in
theorem heldCellS_any (n : Nat) (lo : Nat) (v : Value) (k : Int) (w : World) (h : NewC w lo v (marksC k n)) (h0 : 0 ≤ k) (h1 : k ≤ 1099511627776) (hm : n ≤ 1048576) :
    Calls Try.prog 32 #[v, .int .i64 k] w fun r w' => r = .returned (.int .i64 (k + 3 * n)) ∧ Below w.heap.size w w' := by
  obtain ⟨a, cap, rfl, hS⟩ := h.seg
  rw [marksC_len] at hS ⊢
  have HS := Lib.hid hS
  clear hS h
  go_enter Try.func32, Try.ntmps32
  go_wp2
  go_loopw [1, 5] (fun q i wr => ∃ m : Nat, m ≤ n ∧ i = .int .i64 m ∧ q = .int .i64 (k + 3 * m) ∧ Below w.heap.size w wr) (fun _ i _ => n - (intOf i).toNat)
  case atStart => exact ⟨0, Nat.zero_le _, rfl, by simp, Below.refl _ _⟩
  case round =>
    obtain ⟨m, hk, rfl, rfl, hB⟩ := hrel
    by_cases hlt : m < n
    · obtain h0' | ⟨b, o, rfl, hb, hc⟩ := HS.out
      · omega
      have c0 := (hB.cell (p := ⟨b, o + m * 3 + 0, none⟩) hb).trans (hc m 0 hlt (by omega))
      have c1 := (hB.cell (p := ⟨b, o + m * 3 + 1, none⟩) hb).trans (hc m 1 hlt (by omega))
      have c2 := (hB.cell (p := ⟨b, o + m * 3 + 2, none⟩) hb).trans (hc m 2 hlt (by omega))
      have e2 : k + 3 * (m : Int) + 2 = k + 3 * (m : Int) + 1 + 1 := by omega
      simp only [cellF, C3.val, Nat.add_zero, marksC_get hlt, e2] at c0 c1 c2
      clear hc
      have hk0 : (0 : Int) ≤ (m : Int) := by omega
      have hk1 : (m : Int) < (n : Int) := by omega
      go_wp2
      go_roundw
      case rel => exact ⟨m + 1, by omega, by go_num, by go_num, by (repeat (first | with_reducible assumption | with_reducible exact Below.refl _ _ | with_reducible refine bA ?_ | with_reducible refine bD ?_ | ((with_reducible refine bS ?_ ?_); rotate_left; (focus ((try simp); (try omega)))) | ((with_reducible refine bBx ?_ ?_); rotate_left; (focus ((try simp); (try omega))))))⟩
      case measure => simp [intOf]; omega
    · have : m = n := by omega
      subst this
      go_wp2
      go_ret
      exact ⟨rfl, hB⟩
end Go.Proofs.Ytpllffabdgngcaa
