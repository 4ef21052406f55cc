/-
  The laws' helpers that write numbers into a list of the call's own, and that look for them; lists of at most 1048576 elements.
-/
import Derived.Test.YteocdelblmgocaaLChan
namespace Go.Proofs.Yteocdelblmgocaa
open Go.RowKit
/-- Block b begins with n elements of k cells each, none frozen; f says what each cell holds. -/
def Lie (w : World) (b n k : Nat) (f : Nat → Nat → Value) : Prop :=
  ∃ (c : Array Value) (t : TypeId), w.heap[b]? = some (.cells c t (0, 0)) ∧ n * k ≤ c.size ∧ ∀ i j, i < n → j < k → c[i * k + j]? = some (f i j)
namespace Lie
variable {w w' : World} {b n k : Nat} {f g : Nat → Nat → Value}
theorem cell (h : Lie w b n k f) {i j : Nat} (hi : i < n) (hj : j < k) : w.cell? ⟨b, i * k + j, none⟩ = some (f i j) := by
  obtain ⟨c, t, hb, _, hc⟩ := h
  simp [World.cell?, hb, hc i j hi hj]
theorem frozen (h : Lie w b n k f) (o : Nat) : w.frozen? ⟨b, o, none⟩ = false := by
  obtain ⟨c, t, hb, _, _⟩ := h
  simp [World.frozen?, hb]
theorem lt (h : Lie w b n k f) : b < w.heap.size := by
  obtain ⟨c, t, hb, _, _⟩ := h
  exact (Array.getElem?_eq_some_iff.1 hb).1
theorem congr (h : Lie w b n k f) (e : ∀ i j, i < n → j < k → f i j = g i j) : Lie w b n k g := by
  obtain ⟨c, t, hb, hn, hc⟩ := h
  exact ⟨c, t, hb, hn, fun i j hi hj => by rw [hc i j hi hj, e i j hi hj]⟩
theorem of_block (h : Lie w b n k f) (e : w'.heap[b]? = w.heap[b]?) : Lie w' b n k f := by
  obtain ⟨c, t, hb, hn, hc⟩ := h
  exact ⟨c, t, e.trans hb, hn, hc⟩
theorem below {B : Nat} (h : Lie w b n k f) (hb : Below B w w') (hB : b < B) : Lie w' b n k f := h.of_block (hb.block b hB)
theorem set (h : Lie w b n k f) {i j : Nat} (hi : i < n) (hj : j < k) (v : Value) : Lie (w.setCell ⟨b, i * k + j, none⟩ v) b n k (fun i' j' => if i' = i ∧ j' = j then v else f i' j') := by
  obtain ⟨c, t, hb, hn, hc⟩ := h
  refine ⟨c.setIfInBounds (i * k + j) v, t, ?_, by simpa using hn, fun i' j' hi' hj' => ?_⟩
  · simp [World.setCell, Array.getElem?_modify, hb]
  · rw [Array.getElem?_setIfInBounds]
    by_cases e : i * k + j = i' * k + j'
    · obtain ⟨rfl, rfl⟩ := Row.idx hj hj' e
      have hlt : i * k + j < c.size := (Array.getElem?_eq_some_iff.1 (hc i j hi hj)).1
      simp [hlt]
    · rw [if_neg e]
      show c[i' * k + j']? = some (if i' = i ∧ j' = j then v else f i' j')
      rw [if_neg (fun h => e (by rw [h.1, h.2]))]
      exact hc i' j' hi' hj'
theorem set3 (h : Lie w b n 3 f) {i : Nat} (hi : i < n) (v : Nat → Value) :
    Lie (((w.setCell ⟨b, i * 3, none⟩ (v 0)).setCell ⟨b, i * 3 + 1, none⟩ (v 1)).setCell ⟨b, i * 3 + 2, none⟩ (v 2)) b n 3 (fun i' j' => if i' = i then v j' else f i' j') := by
  refine (((h.set hi (j := 0) (by omega) (v 0)).set hi (j := 1) (by omega) (v 1)).set hi (j := 2) (by omega) (v 2)).congr fun i' j' _ hj => ?_
  have : j' = 0 ∨ j' = 1 ∨ j' = 2 := by omega
  rcases this with rfl | rfl | rfl <;> by_cases e : i' = i <;> simp [e]
theorem set1 (h : Lie w b n 1 f) {i : Nat} (hi : i < n) (v : Value) :
    Lie (w.setCell ⟨b, i, none⟩ v) b n 1 (fun i' j' => if i' = i then v else f i' j') := by
  have h1 := h.set hi (j := 0) (by omega) v
  simp only [Nat.mul_one, Nat.add_zero] at h1
  refine h1.congr fun i' j' _ hj => ?_
  have : j' = 0 := by omega
  subst this
  by_cases e : i' = i <;> simp [e]
theorem seg (h : Lie w b n k f) : Seg w w.heap.size (some ⟨b, 0, none⟩) n k f := .inr ⟨b, 0, rfl, h.lt, fun i j hi hj => by simpa using h.cell hi hj⟩
end Lie
theorem Row.lie {w : World} {b : Nat} {t : TypeId} {n k : Nat} {f : Nat → Nat → Value} (h : Row w b t n k f) : Lie w b n k f := by
  obtain ⟨c, hb, hn, hc⟩ := h
  exact ⟨c, t, hb, Nat.le_of_eq hn.symm, hc⟩
/-- A list of n elements that is nothing, or lies from the start of a block on that is at or above lo. -/
def New (w : World) (lo : Nat) (v : Value) (n k : Nat) (f : Nat → Nat → Value) : Prop :=
  (v = .slice none 0 0 ∧ n = 0) ∨ ∃ g cap, v = .slice (some ⟨g, 0, none⟩) n cap ∧ lo ≤ g ∧ Lie w g n k f
abbrev NewI (w : World) (lo : Nat) (v : Value) (l : List Int) : Prop := New w lo v l.length 1 (intF l)
abbrev NewC (w : World) (lo : Nat) (v : Value) (cs : List C3) : Prop := New w lo v cs.length 3 (cellF cs)
namespace New
variable {w w1 : World} {lo n k : Nat} {v : Value} {f : Nat → Nat → Value}
theorem below (h : New w lo v n k f) (hb : Below w.heap.size w w1) : New w1 lo v n k f := by
  rcases h with h | ⟨g, cap, h1, h2, h3⟩
  · exact .inl h
  · exact .inr ⟨g, cap, h1, h2, h3.below hb h3.lt⟩
theorem more {lo' : Nat} (h : New w lo v n k f) (hl : lo' ≤ lo) : New w lo' v n k f := by
  rcases h with h | ⟨g, cap, h1, h2, h3⟩
  · exact .inl h
  · exact .inr ⟨g, cap, h1, Nat.le_trans hl h2, h3⟩
theorem kept {row : Option Nat} (h : New w lo v n k f) (hg : w.grownBy w1 row) (hn : row = none ∨ v.ownBlock ≠ row) : New w1 lo v n k f := by
  rcases h with h | ⟨g, cap, h1, h2, h3⟩
  · exact .inl h
  · refine .inr ⟨g, cap, h1, h2, h3.of_block (hg.block g h3.lt fun e => ?_)⟩
    subst h1
    rcases hn with rfl | hn
    · cases e
    · exact hn (by rw [← e]; rfl)
theorem seg (h : New w lo v n k f) : ∃ a cap, v = .slice a n cap ∧ Seg w w.heap.size a n k f := by
  rcases h with ⟨rfl, rfl⟩ | ⟨g, cap, rfl, _, h3⟩
  · exact ⟨none, 0, rfl, .inl rfl⟩
  · exact ⟨_, cap, rfl, h3.seg⟩
theorem lt (h : New w lo v n k f) {b : Nat} (hb : v.ownBlock = some b) : lo ≤ b ∧ b < w.heap.size := by
  rcases h with ⟨rfl, _⟩ | ⟨g, cap, rfl, h2, h3⟩
  · cases hb
  · simp [Value.ownBlock] at hb
    subst hb
    exact ⟨h2, h3.lt⟩
end New
theorem OCells.new {w : World} {lo : Nat} {v : Value} {cs : List C3} (h : OCells w lo v cs) : NewC w lo v cs := by
  rcases h.2 with ⟨h1, h0⟩ | ⟨g, cap, cur, rfl, hl, hg, h4, h5, h6, h7⟩
  · exact .inl ⟨h1, h0⟩
  · refine .inr ⟨g, cap, rfl, hl, cur, _, hg, ?_, fun i j hi hj => ?_⟩
    · have e := congrArg List.length h7
      rw [List.length_take, flatC_len] at e
      simp at e; omega
    · have := h.cells (g := g) rfl (i * 3 + j) _ (flatC_get cs i j hi hj)
      have e2 : (⟨g, 0, none⟩ : Addr).add (i * 3 + j) = ⟨g, i * 3 + j, none⟩ := by generalize i * 3 + j = m; by_cases e : m = 0 <;> simp [Addr.add, e]
      rw [e2] at this
      simpa [World.cell?, hg] using this
theorem OInts.new {w : World} {lo : Nat} {v : Value} {l : List Int} (h : OInts w lo v l) : NewI w lo v l := by
  rcases h.2 with ⟨h1, h0⟩ | ⟨g, cap, cur, rfl, hl, hg, h4, h5, h6, h7⟩
  · exact .inl ⟨h1, h0⟩
  · refine .inr ⟨g, cap, rfl, hl, cur, _, hg, ?_, fun i j hi hj => ?_⟩
    · have e := congrArg List.length h7
      rw [List.length_take, ints_len] at e
      simp at e; omega
    · have hj0 : j = 0 := by omega
      subst hj0
      have := h.cells (g := g) rfl i (intF l i 0) (by simp [ints, intF, List.getD, hi])
      have e2 : (⟨g, 0, none⟩ : Addr).add i = ⟨g, i, none⟩ := by by_cases e : i = 0 <;> simp [Addr.add, e]
      rw [e2] at this
      simpa [World.cell?, hg] using this
/- The numbers that are written. -/
def marksI (k : Int) (n : Nat) : List Int := (List.range n).map fun (i : Nat) => k + (i : Int)
def marksC (k : Int) (n : Nat) : List C3 := (List.range n).map fun (i : Nat) => ⟨k + 3 * (i : Int), k + 3 * (i : Int) + 1, k + 3 * (i : Int) + 2⟩
theorem marksI_len (k : Int) (n : Nat) : (marksI k n).length = n := by simp [marksI]
theorem marksC_len (k : Int) (n : Nat) : (marksC k n).length = n := by simp [marksC]
theorem marksI_get {k : Int} {n i : Nat} (h : i < n) : (marksI k n).getD i 0 = k + (i : Int) := by simp [marksI, List.getD, h]
theorem marksC_get {k : Int} {n i : Nat} (h : i < n) : (marksC k n).getD i ⟨0, 0, 0⟩ = ⟨k + 3 * (i : Int), k + 3 * (i : Int) + 1, k + 3 * (i : Int) + 2⟩ := by simp [marksC, List.getD, h]
def mkI (k : Int) (f : Nat → Nat → Value) (m i j : Nat) : Value := if i < m then .int .i64 (k + (i : Int)) else f i j
def mkC (k : Int) (f : Nat → Nat → Value) (m i j : Nat) : Value := if i < m then C3.val ⟨k + 3 * (i : Int), k + 3 * (i : Int) + 1, k + 3 * (i : Int) + 2⟩ j else f i j
theorem mkI_0 (k : Int) (f : Nat → Nat → Value) : mkI k f 0 = f := by funext i j; simp [mkI]
theorem mkC_0 (k : Int) (f : Nat → Nat → Value) : mkC k f 0 = f := by funext i j; simp [mkC]
theorem mkI_step {k x : Int} {f : Nat → Nat → Value} {m : Nat} (h : x = k + (m : Int)) (i j : Nat) : (if i = m then Value.int .i64 x else mkI k f m i j) = mkI k f (m + 1) i j := by
  subst h
  unfold mkI
  by_cases e : i = m
  · subst e; rw [if_pos rfl, if_pos (by omega)]
  · rw [if_neg e]
    by_cases e2 : i < m
    · rw [if_pos e2, if_pos (by omega)]
    · rw [if_neg e2, if_neg (by omega)]
theorem mkC_step {k : Int} {f : Nat → Nat → Value} {m : Nat} {c : C3} (h : c = ⟨k + 3 * (m : Int), k + 3 * (m : Int) + 1, k + 3 * (m : Int) + 2⟩) (i j : Nat) : (if i = m then c.val j else mkC k f m i j) = mkC k f (m + 1) i j := by
  subst h
  unfold mkC
  by_cases e : i = m
  · subst e; rw [if_pos rfl, if_pos (by omega)]
  · rw [if_neg e]
    by_cases e2 : i < m
    · rw [if_pos e2, if_pos (by omega)]
    · rw [if_neg e2, if_neg (by omega)]
theorem mkI_end (k : Int) (f : Nat → Nat → Value) (n : Nat) : ∀ i j, i < n → j < 1 → mkI k f n i j = intF (marksI k n) i j := fun i j hi _ => by simp only [mkI, intF, marksI_get hi, if_pos hi]
theorem mkC_end (k : Int) (f : Nat → Nat → Value) (n : Nat) : ∀ i j, i < n → j < 3 → mkC k f n i j = cellF (marksC k n) i j := fun i j hi _ => by simp only [mkC, cellF, marksC_get hi, if_pos hi]
theorem grS {w W : World} {g : Nat} {p : Addr} {u : Value} (h : w.grownBy W (some g)) (hp : p.block = g) : w.grownBy (W.setCell p u) (some g) :=
  ⟨h.os, h.tape, h.output, by simpa [World.setCell] using h.size, fun k hk hn => (Below.heap_setCell W p u k (by
    rintro rfl
    exact hn (by rw [hp]))).trans (h.block k hk hn)⟩
theorem grR (w : World) (row : Option Nat) : w.grownBy w row := ⟨rfl, rfl, rfl, Nat.le_refl _, fun _ _ _ => rfl⟩
set_option maxHeartbeats 400000 in
theorem markInt64S_any (n : Nat) (f : Nat → Nat → Value) (lo : Nat) (v : Value) (k : Int) (w : World) (h : New w lo v n 1 f) (h0 : 0 ≤ k) (h1 : k ≤ 1099511627776) (hm : n ≤ 1048576) :
    Calls Try.prog 19 #[v, .int .i64 k] w fun r w' => r = .returned (.int .i64 (k + n)) ∧ NewI w' lo v (marksI k n) ∧ w.grownBy w' v.ownBlock := by
  rcases h with ⟨rfl, rfl⟩ | ⟨g, cap, rfl, hl, hL⟩
  · go_enter Try.func19, Try.ntmps19
    go_wp2
    go_loopw [1, 5] (fun q i wr => i = .int .i64 0 ∧ q = .int .i64 k ∧ wr = w) (fun _ i _ => 0 - (intOf i).toNat)
    case atStart => exact ⟨rfl, rfl, rfl⟩
    case round =>
      obtain ⟨rfl, rfl, rfl⟩ := hrel
      go_wp2
      go_ret
      exact ⟨by simp, .inl ⟨rfl, rfl⟩, grR _ _⟩
  · have hW := grR w (some g)
    go_enter Try.func19, Try.ntmps19
    go_wp2
    go_loopw [1, 5] (fun q i wr => ∃ m : Nat, m ≤ n ∧ i = .int .i64 m ∧ q = .int .i64 (k + m) ∧ Lie wr g n 1 (mkI k f m) ∧ w.grownBy wr (some g)) (fun _ i _ => n - (intOf i).toNat)
    case atStart => exact ⟨0, Nat.zero_le _, rfl, by simp, by rw [mkI_0]; exact hL, hW⟩
    case round =>
      clear hL hW
      obtain ⟨m, hk, rfl, rfl, hL, hW⟩ := hrel
      by_cases hlt : m < n
      · have e0 := hL.cell hlt (show 0 < 1 by omega)
        simp only [Nat.add_zero, Nat.mul_one] at e0
        have f1 := hL.frozen
        go_wp2
        go_roundw
        case rel => exact ⟨m + 1, by omega, by go_num, by go_num, (hL.set1 hlt (.int .i64 (k + m))).congr (fun i j _ _ => mkI_step rfl i j), grS hW rfl⟩
        case measure => simp [intOf]; omega
      · have : m = n := by omega
        subst this
        go_wp2
        go_ret
        exact ⟨rfl, .inr ⟨g, cap, by rw [marksI_len], hl, by rw [marksI_len]; exact hL.congr (mkI_end k f m)⟩, hW⟩
set_option maxHeartbeats 1000000 in
theorem markCellS_any (n : Nat) (f : Nat → Nat → Value) (lo : Nat) (v : Value) (k : Int) (w : World) (h : New w lo v n 3 f) (h0 : 0 ≤ k) (h1 : k ≤ 1099511627776) (hm : n ≤ 1048576) :
    Calls Try.prog 36 #[v, .int .i64 k] w fun r w' => r = .returned (.int .i64 (k + 3 * n)) ∧ NewC w' lo v (marksC k n) ∧ w.grownBy w' v.ownBlock := by
  rcases h with ⟨rfl, rfl⟩ | ⟨g, cap, rfl, hl, hL⟩
  · go_enter Try.func36, Try.ntmps36
    go_wp2
    go_loopw [1, 5] (fun q i wr => i = .int .i64 0 ∧ q = .int .i64 k ∧ wr = w) (fun _ i _ => 0 - (intOf i).toNat)
    case atStart => exact ⟨rfl, rfl, rfl⟩
    case round =>
      obtain ⟨rfl, rfl, rfl⟩ := hrel
      go_wp2
      go_ret
      exact ⟨by simp, .inl ⟨rfl, rfl⟩, grR _ _⟩
  · have hW := grR w (some g)
    go_enter Try.func36, Try.ntmps36
    go_wp2
    go_loopw [1, 5] (fun q i wr => ∃ m : Nat, m ≤ n ∧ i = .int .i64 m ∧ q = .int .i64 (k + 3 * m) ∧ Lie wr g n 3 (mkC k f m) ∧ w.grownBy wr (some g)) (fun _ i _ => n - (intOf i).toNat)
    case atStart => exact ⟨0, Nat.zero_le _, rfl, by simp, by rw [mkC_0]; exact hL, hW⟩
    case round =>
      clear hL hW
      obtain ⟨m, hk, rfl, rfl, hL, hW⟩ := hrel
      by_cases hlt : m < n
      · have e0 := hL.cell hlt (show 0 < 3 by omega)
        have e1 := hL.cell hlt (show 1 < 3 by omega)
        have e2 := hL.cell hlt (show 2 < 3 by omega)
        simp only [Nat.add_zero] at e0
        have f1 := hL.frozen
        go_wp2
        go_roundw
        case rel => exact ⟨m + 1, by omega, by go_num, by go_num, (hL.set3 hlt (C3.val ⟨k + 3 * (m : Int), k + 3 * (m : Int) + 1, k + 3 * (m : Int) + 1 + 1⟩)).congr (fun i j _ _ => mkC_step (by congr 1; omega) i j), grS (grS (grS hW rfl) rfl) rfl⟩
        case measure => simp [intOf]; omega
      · have : m = n := by omega
        subst this
        go_wp2
        go_ret
        exact ⟨rfl, .inr ⟨g, cap, by rw [marksC_len], hl, by rw [marksC_len]; exact hL.congr (mkC_end k f m)⟩, hW⟩
set_option maxHeartbeats 1000000 in
theorem heldInt64S_any (n : Nat) (lo : Nat) (v : Value) (k : Int) (w : World) (h : NewI w lo v (marksI k n)) (h0 : 0 ≤ k) (h1 : k ≤ 1099511627776) (hm : n ≤ 1048576) :
    Calls Try.prog 20 #[v, .int .i64 k] w fun r w' => r = .returned (.int .i64 (k + n)) ∧ Below w.heap.size w w' := by
  obtain ⟨a, cap, rfl, hS⟩ := h.seg
  rw [marksI_len] at hS ⊢
  have HS := Lib.hid hS
  clear hS h
  go_enter Try.func20, Try.ntmps20
  go_wp2
  go_loopw [1, 5] (fun q i wr => ∃ m : Nat, m ≤ n ∧ i = .int .i64 m ∧ q = .int .i64 (k + m) ∧ Below w.heap.size w wr) (fun _ i _ => n - (intOf i).toNat)
  case atStart => exact ⟨0, Nat.zero_le _, rfl, by simp, Below.refl _ _⟩
  case round =>
    obtain ⟨m, hk, rfl, rfl, hB⟩ := hrel
    by_cases hlt : m < n
    · obtain h0' | ⟨b, o, rfl, hb, hc⟩ := HS.out
      · omega
      have c0 := (hB.cell (p := ⟨b, o + m * 1 + 0, none⟩) hb).trans (hc m 0 hlt (by omega))
      simp only [intF, Nat.add_zero, Nat.mul_one, marksI_get hlt] at c0
      clear hc
      have hk0 : (0 : Int) ≤ (m : Int) := by omega
      have hk1 : (m : Int) < (n : Int) := by omega
      go_wp2
      go_roundw
      case rel => exact ⟨m + 1, by omega, by go_num, by go_num, by (repeat (first | with_reducible assumption | with_reducible exact Below.refl _ _ | with_reducible refine bA ?_ | with_reducible refine bD ?_ | ((with_reducible refine bS ?_ ?_); rotate_left; (focus ((try simp); (try omega))))))⟩
      case measure => simp [intOf]; omega
    · have : m = n := by omega
      subst this
      go_wp2
      go_ret
      exact ⟨rfl, hB⟩
set_option maxHeartbeats 1000000 in
theorem heldCellS_any (n : Nat) (lo : Nat) (v : Value) (k : Int) (w : World) (h : NewC w lo v (marksC k n)) (h0 : 0 ≤ k) (h1 : k ≤ 1099511627776) (hm : n ≤ 1048576) :
    Calls Try.prog 37 #[v, .int .i64 k] w fun r w' => r = .returned (.int .i64 (k + 3 * n)) ∧ Below w.heap.size w w' := by
  obtain ⟨a, cap, rfl, hS⟩ := h.seg
  rw [marksC_len] at hS ⊢
  have HS := Lib.hid hS
  clear hS h
  go_enter Try.func37, Try.ntmps37
  go_wp2
  go_loopw [1, 5] (fun q i wr => ∃ m : Nat, m ≤ n ∧ i = .int .i64 m ∧ q = .int .i64 (k + 3 * m) ∧ Below w.heap.size w wr) (fun _ i _ => n - (intOf i).toNat)
  case atStart => exact ⟨0, Nat.zero_le _, rfl, by simp, Below.refl _ _⟩
  case round =>
    obtain ⟨m, hk, rfl, rfl, hB⟩ := hrel
    by_cases hlt : m < n
    · obtain h0' | ⟨b, o, rfl, hb, hc⟩ := HS.out
      · omega
      have c0 := (hB.cell (p := ⟨b, o + m * 3 + 0, none⟩) hb).trans (hc m 0 hlt (by omega))
      have c1 := (hB.cell (p := ⟨b, o + m * 3 + 1, none⟩) hb).trans (hc m 1 hlt (by omega))
      have c2 := (hB.cell (p := ⟨b, o + m * 3 + 2, none⟩) hb).trans (hc m 2 hlt (by omega))
      have e2 : k + 3 * (m : Int) + 2 = k + 3 * (m : Int) + 1 + 1 := by omega
      simp only [cellF, C3.val, Nat.add_zero, marksC_get hlt, e2] at c0 c1 c2
      clear hc
      have hk0 : (0 : Int) ≤ (m : Int) := by omega
      have hk1 : (m : Int) < (n : Int) := by omega
      go_wp2
      go_roundw
      case rel => exact ⟨m + 1, by omega, by go_num, by go_num, by (repeat (first | with_reducible assumption | with_reducible exact Below.refl _ _ | with_reducible refine bA ?_ | with_reducible refine bD ?_ | ((with_reducible refine bS ?_ ?_); rotate_left; (focus ((try simp); (try omega))))))⟩
      case measure => simp [intOf]; omega
    · have : m = n := by omega
      subst this
      go_wp2
      go_ret
      exact ⟨rfl, hB⟩
end Go.Proofs.Yteocdelblmgocaa
