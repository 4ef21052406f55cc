/-
  The draw of a list of cells: some list of at most 41 cells, in memory of its own.
-/
import Derived.Test.YtkmlmbahjbfimaaDrawC
namespace Go.Proofs.Ytkmlmbahjbfimaa
open Go.RowKit
theorem news3 (w : World) (x y z : Value) (t : TypeId) : ∀ j u, [x, y, z][j]? = some u → (w.alloc (.cells #[x, y, z] t)).cell? ((⟨w.heap.size, 0, none⟩ : Addr).add j) = some u := by
  intro j u h
  have hj : j < 3 := (List.getElem?_eq_some_iff.1 h).1
  have : j = 0 ∨ j = 1 ∨ j = 2 := by omega
  rcases this with rfl | rfl | rfl <;> simp [Addr.add] at h ⊢ <;> exact h
def flatC (cs : List C3) : List Value := cs.flatMap fun c => [.int .i64 c.s, .int .i64 c.e, .int .i64 c.t]
theorem flatC_snoc (cs : List C3) (c : C3) : flatC (cs ++ [c]) = flatC cs ++ [.int .i64 c.s, .int .i64 c.e, .int .i64 c.t] := by simp [flatC]
theorem flatC_get : ∀ (cs : List C3) (i j : Nat), i < cs.length → j < 3 → (flatC cs)[i * 3 + j]? = some (cellF cs i j)
  | [], i, j, hi, _ => by simp at hi
  | c :: cs, 0, j, _, hj => by
    have : j = 0 ∨ j = 1 ∨ j = 2 := by omega
    rcases this with rfl | rfl | rfl <;> simp [flatC, cellF, C3.val]
  | c :: cs, i + 1, j, hi, hj => by
    have h := flatC_get cs i j (by simpa using hi) hj
    have e : (i + 1) * 3 + j = (i * 3 + j) + 3 := by omega
    rw [e]
    simpa [flatC, cellF] using h
/-- A row of cells that the call owns lies in memory as a list of cells. -/
theorem seg_of_own {w : World} {base : Nat} {v : Value} {cs : List C3} {t : TypeId} (h : w.ownsRow base t 3 v cs.length (flatC cs)) :
    ∃ (a : Option Addr) (cap : Nat), v = .slice a cs.length cap ∧ Seg w w.heap.size a cs.length 3 (cellF cs) := by
  rcases h.2 with ⟨rfl, h0⟩ | ⟨g, cap, cur, rfl, _, hg, _⟩
  · exact ⟨none, 0, by rw [h0], .inl h0⟩
  · refine ⟨_, cap, rfl, .inr ⟨g, 0, rfl, (Array.getElem?_eq_some_iff.1 hg).1, fun i j hi hj => ?_⟩⟩
    have := h.cells (g := g) rfl (i * 3 + j) _ (flatC_get cs i j hi hj)
    rw [← this]
    congr 1
    by_cases e : i * 3 + j = 0 <;> simp [Addr.add, e] <;> omega
theorem own_ds_ne {w : World} {base B g : Nat} {v : Value} {n : Nat} {xs : List Value} (h : w.ownsRow base 25 3 v n xs) (hd : DS w B g) : v.ownBlock ≠ some g := by
  rcases h.2 with ⟨rfl, _⟩ | ⟨g', cap, cur, rfl, _, hg, _⟩
  · simp [Value.ownBlock]
  · intro he
    have : g' = g := by simpa [Value.ownBlock] using he
    subst this
    obtain ⟨_, _, _, _, _, _, hg', _⟩ := hd
    rw [hg] at hg'
    simp at hg'
theorem ds_grown {w w' : World} {B g : Nat} {row : Option Nat} (h : DS w B g) (hg : w.grownBy w' row) (hne : row ≠ some g) (hr : ∀ k, row = some k → B ≤ k) : DS w' B g :=
  h.keep (hg.block g h.lt (fun e => hne e.symm)) ((Below.refl _ _).grown hg (by have := h.lt; have := h.le; omega) hr)
theorem num_pred {k : Nat} (h : 0 < k) : Value.int .i64 ((k : Int) - 1) = .int .i64 ((k - 1 : Nat) : Int) := by congr 1; omega
theorem zeroC_get (m : Nat) : ∀ i j, i < m → j < 3 → #[Value.int .i64 0, .int .i64 0, .int .i64 0][j]! = cellF (List.replicate m ⟨0, 0, 0⟩) i j := by
  intro i j hi hj
  have : j = 0 ∨ j = 1 ∨ j = 2 := by omega
  rcases this with rfl | rfl | rfl <;> simp [cellF, C3.val, hi]
set_option maxHeartbeats 1000000 in
theorem drawLiveIn_any (n cap : Nat) (a : Option Addr) (bs : Nat → Int) (w : World) (h : Code w w.heap.size a n bs) :
    Calls Try.prog 13 #[.slice a n cap] w fun r w' => (∃ (a' : Option Addr) (cs : List C3) (cap' : Nat), r = .returned (.slice a' cs.length cap') ∧ cs.length ≤ 41 ∧ Seg w' w'.heap.size a' cs.length 3 (cellF cs)) ∧ Below w.heap.size w w' := by
  obtain ⟨i0, hi0, hz0, hz1, hz2⟩ := info_parts infoCell
  go_enter Try.func13, Try.ntmps13
  go_wp2_with fail; refine (new_any w.heap.size _ _ _ bs _ (h.below (by (repeat (first | with_reducible assumption | with_reducible exact Below.refl _ _ | with_reducible refine bA ?_ | with_reducible refine bD ?_ | ((with_reducible refine bS ?_ ?_); rotate_left; (focus ((try simp); (try omega)))))))) (by ((try simp); (try omega)))).mono ?_; rintro _ w1 ⟨g, rfl, hdw1, hgle, hbw1⟩; have hBw1 : Below w.heap.size w w1 := bT (by (repeat (first | with_reducible assumption | with_reducible exact Below.refl _ _ | with_reducible refine bA ?_ | with_reducible refine bD ?_ | ((with_reducible refine bS ?_ ?_); rotate_left; (focus ((try simp); (try omega))))))) hbw1; have hlw1 := hdw1.lt; have hsw1 := hbw1.size; (try (simp at hsw1)); (try (simp at hgle))
  have hown0 := World.ownsRow_made (base := w.heap.size) (e := 25) (size := 3) w1 #[] 0 hBw1.size (by simp) (by simp)
  go_wp2_with fail; refine (l1Below_any w.heap.size g 8  _ (by (repeat (first | with_reducible assumption | with_reducible refine DS.alloc ?_ | with_reducible refine DS.drew ?_ | ((with_reducible refine DS.setCell ?_ ?_ ?_); rotate_left; (focus ((try simp); (try omega))); (focus ((try simp); (try omega)))))))  (by omega) (by omega)).mono ?_; rintro _ w2 ⟨⟨x2, rfl, h20, h21⟩, hdw2, hgw2⟩; have hBw2 : Below w.heap.size w w2 := bG (by (repeat (first | with_reducible assumption | with_reducible exact Below.refl _ _ | with_reducible refine bA ?_ | with_reducible refine bD ?_ | ((with_reducible refine bS ?_ ?_); rotate_left; (focus ((try simp); (try omega))))))) hgw2 (by omega); have hlw2 := hdw2.lt; have hsw2 := hgw2.size; (try (simp at hsw2)); have := gCell hgw2 (b := w1.heap.size) ((by ((try simp); (try omega)))) (by omega); have := gFroz hgw2 (b := w1.heap.size) ((by ((try simp); (try omega)))) (by omega); have : w1.heap.size < w2.heap.size := (by omega); have : w1.heap.size ≤ w2.heap.size := (by omega); have : w1.heap.size ≤ w2.heap.size + 1 := (by omega)
  have hown2 := hown0.kept hgw2 (.inr (by simp [Value.ownBlock]; omega))
  obtain ⟨n2, rfl⟩ := Int.eq_ofNat_of_zero_le h20
  have hn2 : n2 ≤ 7 := by omega
  clear h20 h21 hown0
  go_wp2_with fail
  go_loopw [4, 5] (fun l i wr => ∃ (cs : List C3) (k : Nat), i = .int .i64 k ∧ cs.length + k ≤ 7 ∧ wr.ownsRow w.heap.size 25 3 l cs.length (flatC cs) ∧ l.ownBlock ≠ some g ∧ DS wr w.heap.size g ∧ Below w.heap.size w wr) (fun _ i _ => (intOf i).toNat)
  case atStart => exact ⟨[], n2, rfl, by simpa using hn2, hown2, by simp [Value.ownBlock]; omega, by assumption, by assumption⟩
  case round =>
    obtain ⟨cs, k, rfl, hk, hown, hne, hdr, hB⟩ := hrel
    have hs := hB.size
    have hlr := hdr.lt
    by_cases hlt : 0 < k
    · have hlt' : (0 : Int) < (k : Int) := by omega
      go_wp2_with fail; refine (l1DrawCell_any w.heap.size g  _ (by (repeat (first | with_reducible assumption | with_reducible refine DS.alloc ?_ | with_reducible refine DS.drew ?_ | ((with_reducible refine DS.setCell ?_ ?_ ?_); rotate_left; (focus ((try simp); (try omega))); (focus ((try simp); (try omega))))))) ).mono ?_; rintro _ w3 ⟨⟨x1, x2, x3, rfl⟩, hdw3, hgw3⟩; have hBw3 : Below w.heap.size w w3 := bG (by (repeat (first | with_reducible assumption | with_reducible exact Below.refl _ _ | with_reducible refine bA ?_ | with_reducible refine bD ?_ | ((with_reducible refine bS ?_ ?_); rotate_left; (focus ((try simp); (try omega))))))) hgw3 (by omega); have hlw3 := hdw3.lt; have hsw3 := hgw3.size; (try (simp at hsw3))
      have hown3 := hown.kept hgw3 (.inr hne)
      go_wp2_with (first | (at_builtin; refine wpList_append_own _ rfl _ _ 32 rfl w.heap.size 25 i0 _ 3 24 Try.underlying32 hi0 hz0 hz1 hz2 rfl (by decide) _ _ _ rfl (hown3.alloc _) ⟨w3.heap.size, 0, none⟩ 1 1 [.int .i64 x1, .int .i64 x2, .int .i64 x3] rfl rfl (news3 _ _ _ _ _) (by simp [Value.oneCell']) ?c3 ?c4 ?c5 ?_))
      case c3 => unfold maxLen; omega
      case c4 => omega
      case c5 => simp; omega
      intro v' w4 hown4 hgrow _
      have hd4 := ds_grown (hdw3.alloc) hgrow hne (fun q hq => (hown.lt q hq).1)
      have hB4 : Below w.heap.size w w4 := Below.grown (by (repeat (first | with_reducible assumption | with_reducible exact Below.refl _ _ | with_reducible refine bA ?_ | with_reducible refine bD ?_ | ((with_reducible refine bS ?_ ?_); rotate_left; (focus ((try simp); (try omega))))))) hgrow (by simp; omega) (fun q hq => (hown.lt q hq).1)
      go_wp2
      go_roundw
      case rel => exact ⟨cs ++ [⟨x1, x2, x3⟩], k - 1, num_pred hlt, by simp; omega, by rw [flatC_snoc]; simpa using hown4, own_ds_ne hown4 hd4, hd4, hB4⟩
      case measure => simp [intOf]; omega
    · have : k = 0 := by omega
      subst this
      go_wp2_with fail; refine (l1Once_any w.heap.size g 30  _ (by (repeat (first | with_reducible assumption | with_reducible refine DS.alloc ?_ | with_reducible refine DS.drew ?_ | ((with_reducible refine DS.setCell ?_ ?_ ?_); rotate_left; (focus ((try simp); (try omega))); (focus ((try simp); (try omega)))))))  (by omega) (by omega)).mono ?_; rintro _ w3 ⟨⟨y3, rfl⟩, hdw3, hgw3⟩; have hBw3 : Below w.heap.size w w3 := bG (by (repeat (first | with_reducible assumption | with_reducible exact Below.refl _ _ | with_reducible refine bA ?_ | with_reducible refine bD ?_ | ((with_reducible refine bS ?_ ?_); rotate_left; (focus ((try simp); (try omega))))))) hgw3 (by omega); have hlw3 := hdw3.lt; have hsw3 := hgw3.size; (try (simp at hsw3))
      cases y3
      · have hown3 := hown.kept hgw3 (.inr hne)
        go_wp2
        go_ret
        obtain ⟨av, capv, hv, hseg⟩ := seg_of_own hown3
        exact ⟨⟨av, cs, capv, by rw [← hv]; rfl, by omega, hseg⟩, by assumption⟩
      · go_wp2_with fail; refine (l1Below_any w.heap.size g 2  _ (by (repeat (first | with_reducible assumption | with_reducible refine DS.alloc ?_ | with_reducible refine DS.drew ?_ | ((with_reducible refine DS.setCell ?_ ?_ ?_); rotate_left; (focus ((try simp); (try omega))); (focus ((try simp); (try omega)))))))  (by omega) (by omega)).mono ?_; rintro _ w4 ⟨⟨x4, rfl, h40, h41⟩, hdw4, hgw4⟩; have hBw4 : Below w.heap.size w w4 := bG (by (repeat (first | with_reducible assumption | with_reducible exact Below.refl _ _ | with_reducible refine bA ?_ | with_reducible refine bD ?_ | ((with_reducible refine bS ?_ ?_); rotate_left; (focus ((try simp); (try omega))))))) hgw4 (by omega); have hlw4 := hdw4.lt; have hsw4 := hgw4.size; (try (simp at hsw4))
        obtain ⟨m, rfl⟩ := Int.eq_ofNat_of_zero_le h40
        have hm : m ≤ 1 := by omega
        have hmk := mkCells (40 + m) (by omega)
        have e40 : ((40 + m : Nat) : Int) = 40 + (m : Int) := by omega
        rw [e40] at hmk
        have HE := Lib.hid e40
        clear e40 h40 h41
        go_wp2
        go_ret
        refine ⟨⟨_, List.replicate (40 + m) ⟨0, 0, 0⟩, _, by rw [List.length_replicate]; rfl, by simp; omega, ?_⟩, by (repeat (first | with_reducible assumption | with_reducible exact Below.refl _ _ | with_reducible refine bA ?_ | with_reducible refine bD ?_ | ((with_reducible refine bS ?_ ?_); rotate_left; (focus ((try simp); (try omega))))))⟩
        rw [List.length_replicate]
        exact ((Row.made w4 #[.int .i64 0, .int .i64 0, .int .i64 0] (40 + m) _).congr (fun i j hi hj => zeroC_get _ i j hi (by simpa using hj))).seg
end Go.Proofs.Ytkmlmbahjbfimaa
