/-
  The program's functions of chapter 3 that tell a word, and its copies of lists; lists lie in memory and hold at most 2 ^ 40 elements.
-/
import Derived.Test.YtpllffabdgngcaaSWord
import Derived.Test.YtpllffabdgngcaaIChan
import Derived.Laws.Cover3
namespace Go.Proofs.Ytpllffabdgngcaa
open Go.RowKit
set_option maxHeartbeats 400000 in
theorem isWaiter_any (c : Ch) (v : Int) (b : Option Addr) (q : Nat) (w : World) :
    Calls Try.prog 24 #[.slice b c.words.length q, .int .i64 v] w fun r w' => r = .returned (.bool (hasW c v)) ∧ Below w.heap.size w w' := by
  go_enter Try.func24, Try.ntmps24
  go_wp2
  all_goals go_ret
  all_goals exact ⟨ret_bool (by simp [hasW, inB, *] <;> omega), by (repeat (first | with_reducible assumption | with_reducible exact Below.refl _ _ | with_reducible refine bA ?_ | with_reducible refine bD ?_ | ((with_reducible refine bS ?_ ?_); rotate_left; (focus ((try simp); (try omega)))) | ((with_reducible refine bBx ?_ ?_); rotate_left; (focus ((try simp); (try omega))))))⟩
set_option maxRecDepth 100000 in
set_option maxHeartbeats 1000000 in
theorem wordOf_any (c : Ch) (v : Int) (a b : Option Addr) (p q : Nat) (w : World) (h1 : Seg w w.heap.size a c.cells.length 3 (cellF c.cells)) (h2 : Seg w w.heap.size b c.words.length 1 (intF c.words)) (m1 : c.cells.length ≤ maxLen) (m2 : c.words.length ≤ maxLen) :
    Calls Try.prog 9 #[.agg #[.int .i64 c.cap, .int .i64 c.sent, .int .i64 c.got, .int .i64 c.fin, .slice a c.cells.length p, .slice b c.words.length q], .int .i64 v] w fun r w' => r = .returned (.int .i64 (wordOf c v)) ∧ Below w.heap.size w w' := by
  have H1 := Lib.hid h1
  have H2 := Lib.hid h2
  have m3 := m2
  unfold maxLen at m3
  clear h1 h2
  by_cases hc : chanOk c = true
  · by_cases hh : hasW c v = true
    · obtain ⟨v1, v2⟩ := hasW_iff.1 hh
      obtain ⟨i, rfl⟩ : ∃ i : Nat, v = (i : Int) + 1 := ⟨(v - 1).toNat, by omega⟩
      have hi : i < c.words.length := by omega
      obtain ⟨bb, bo, rfl, hb, hcell⟩ : ∃ b' o, b = some ⟨b', o, none⟩ ∧ b' < w.heap.size ∧ w.cell? ⟨b', o + i, none⟩ = some (.int .i64 (c.words.getD i 0)) := by
        rcases H2.out with h0 | ⟨b', o', e, h1, h2⟩
        · omega
        · exact ⟨b', o', e, h1, by simpa [intF] using h2 i 0 hi (by omega)⟩
      have HV := Lib.hid (wordOf_yes hc hh)
      have e : wordAt c ((i : Int) + 1) = c.words.getD i 0 := by simp [wordAt]
      have HE := Lib.hid e
      clear e
      generalize c.words.getD i 0 = x at hcell HE
      have hi0 : (0 : Int) ≤ (i : Int) := by omega
      have hi1 : (i : Int) < (c.words.length : Int) := by omega
      go_enter Try.func9, Try.ntmps9
      go_wp2_with fail
      refine (chanOk_any c a _ p q _ (((H1.out).below (by (repeat (first | with_reducible assumption | with_reducible exact Below.refl _ _ | with_reducible refine bA ?_ | with_reducible refine bD ?_ | ((with_reducible refine bS ?_ ?_); rotate_left; (focus ((try simp); (try omega)))) | ((with_reducible refine bBx ?_ ?_); rotate_left; (focus ((try simp); (try omega)))))))).more (by simp)) (((H2.out).below (by (repeat (first | with_reducible assumption | with_reducible exact Below.refl _ _ | with_reducible refine bA ?_ | with_reducible refine bD ?_ | ((with_reducible refine bS ?_ ?_); rotate_left; (focus ((try simp); (try omega)))) | ((with_reducible refine bBx ?_ ?_); rotate_left; (focus ((try simp); (try omega)))))))).more (by simp)) m1 m2).mono ?_
      rintro _ w1 ⟨rfl, hb1⟩
      have hB1 : Below w.heap.size w w1 := bT (by (repeat (first | with_reducible assumption | with_reducible exact Below.refl _ _ | with_reducible refine bA ?_ | with_reducible refine bD ?_ | ((with_reducible refine bS ?_ ?_); rotate_left; (focus ((try simp); (try omega)))) | ((with_reducible refine bBx ?_ ?_); rotate_left; (focus ((try simp); (try omega))))))) hb1
      have hs1 := hb1.size
      simp at hs1
      have := fun o => hb1.cell (p := ⟨w.heap.size, o, none⟩) (by simp)
      have hcell1 := (hB1.cell (p := ⟨bb, bo + i, none⟩) hb).trans hcell
      go_wp2_with fail
      refine (isWaiter_any c _ _ q _).mono ?_
      rintro _ w2 ⟨rfl, hb2⟩
      have hB2 : Below w.heap.size w w2 := bT (by (repeat (first | with_reducible assumption | with_reducible exact Below.refl _ _ | with_reducible refine bA ?_ | with_reducible refine bD ?_ | ((with_reducible refine bS ?_ ?_); rotate_left; (focus ((try simp); (try omega)))) | ((with_reducible refine bBx ?_ ?_); rotate_left; (focus ((try simp); (try omega))))))) hb2
      have := fun o => hb2.cell (p := ⟨w.heap.size, o, none⟩) (by simp; omega)
      have hcell2 := (hB2.cell (p := ⟨bb, bo + i, none⟩) hb).trans hcell
      go_wp2
      go_ret
      exact ⟨ret_i64 (by rw [← HV.out, HE.out]), by (repeat (first | with_reducible assumption | with_reducible exact Below.refl _ _ | with_reducible refine bA ?_ | with_reducible refine bD ?_ | ((with_reducible refine bS ?_ ?_); rotate_left; (focus ((try simp); (try omega)))) | ((with_reducible refine bBx ?_ ?_); rotate_left; (focus ((try simp); (try omega))))))⟩
    · have HV := Lib.hid (wordOf_no (c := c) (v := v) (by simp [hh]))
      go_enter Try.func9, Try.ntmps9
      go_wp2_with fail
      refine (chanOk_any c a b p q _ (((H1.out).below (by (repeat (first | with_reducible assumption | with_reducible exact Below.refl _ _ | with_reducible refine bA ?_ | with_reducible refine bD ?_ | ((with_reducible refine bS ?_ ?_); rotate_left; (focus ((try simp); (try omega)))) | ((with_reducible refine bBx ?_ ?_); rotate_left; (focus ((try simp); (try omega)))))))).more (by simp)) (((H2.out).below (by (repeat (first | with_reducible assumption | with_reducible exact Below.refl _ _ | with_reducible refine bA ?_ | with_reducible refine bD ?_ | ((with_reducible refine bS ?_ ?_); rotate_left; (focus ((try simp); (try omega)))) | ((with_reducible refine bBx ?_ ?_); rotate_left; (focus ((try simp); (try omega)))))))).more (by simp)) m1 m2).mono ?_
      rintro _ w1 ⟨rfl, hb1⟩
      have hB1 : Below w.heap.size w w1 := bT (by (repeat (first | with_reducible assumption | with_reducible exact Below.refl _ _ | with_reducible refine bA ?_ | with_reducible refine bD ?_ | ((with_reducible refine bS ?_ ?_); rotate_left; (focus ((try simp); (try omega)))) | ((with_reducible refine bBx ?_ ?_); rotate_left; (focus ((try simp); (try omega))))))) hb1
      have hs1 := hb1.size
      simp at hs1
      have := fun o => hb1.cell (p := ⟨w.heap.size, o, none⟩) (by simp)
      go_wp2_with fail
      refine (isWaiter_any c _ b q _).mono ?_
      rintro _ w2 ⟨rfl, hb2⟩
      have hB2 : Below w.heap.size w w2 := bT (by (repeat (first | with_reducible assumption | with_reducible exact Below.refl _ _ | with_reducible refine bA ?_ | with_reducible refine bD ?_ | ((with_reducible refine bS ?_ ?_); rotate_left; (focus ((try simp); (try omega)))) | ((with_reducible refine bBx ?_ ?_); rotate_left; (focus ((try simp); (try omega))))))) hb2
      go_wp2
      go_ret
      exact ⟨ret_i64 HV.out, by (repeat (first | with_reducible assumption | with_reducible exact Below.refl _ _ | with_reducible refine bA ?_ | with_reducible refine bD ?_ | ((with_reducible refine bS ?_ ?_); rotate_left; (focus ((try simp); (try omega)))) | ((with_reducible refine bBx ?_ ?_); rotate_left; (focus ((try simp); (try omega))))))⟩
  · have HV := Lib.hid (wordOf_no (c := c) (v := v) (by simp [hc]))
    go_enter Try.func9, Try.ntmps9
    go_wp2_with fail
    refine (chanOk_any c a b p q _ (((H1.out).below (by (repeat (first | with_reducible assumption | with_reducible exact Below.refl _ _ | with_reducible refine bA ?_ | with_reducible refine bD ?_ | ((with_reducible refine bS ?_ ?_); rotate_left; (focus ((try simp); (try omega)))) | ((with_reducible refine bBx ?_ ?_); rotate_left; (focus ((try simp); (try omega)))))))).more (by simp)) (((H2.out).below (by (repeat (first | with_reducible assumption | with_reducible exact Below.refl _ _ | with_reducible refine bA ?_ | with_reducible refine bD ?_ | ((with_reducible refine bS ?_ ?_); rotate_left; (focus ((try simp); (try omega)))) | ((with_reducible refine bBx ?_ ?_); rotate_left; (focus ((try simp); (try omega)))))))).more (by simp)) m1 m2).mono ?_
    rintro _ w1 ⟨rfl, hb1⟩
    have hB1 : Below w.heap.size w w1 := bT (by (repeat (first | with_reducible assumption | with_reducible exact Below.refl _ _ | with_reducible refine bA ?_ | with_reducible refine bD ?_ | ((with_reducible refine bS ?_ ?_); rotate_left; (focus ((try simp); (try omega)))) | ((with_reducible refine bBx ?_ ?_); rotate_left; (focus ((try simp); (try omega))))))) hb1
    go_wp2
    go_ret
    exact ⟨ret_i64 HV.out, by (repeat (first | with_reducible assumption | with_reducible exact Below.refl _ _ | with_reducible refine bA ?_ | with_reducible refine bD ?_ | ((with_reducible refine bS ?_ ?_); rotate_left; (focus ((try simp); (try omega)))) | ((with_reducible refine bBx ?_ ?_); rotate_left; (focus ((try simp); (try omega))))))⟩
theorem eqlNil (t e : TypeId) (a : Option Addr) (l c : Nat) (h : Try.prog.underlying t = some (.slice e)) (w : World) : (binOp .eql t (.slice a l c) (.slice none 0 0)).run Try.prog w = .ok (.bool a.isNone) w := by
  simp only [binOp]
  simp [run_equal_slice_nil w t e a l c h]
set_option maxHeartbeats 400000 in
theorem cloneI_any (l : List Int) (b : Option Addr) (q : Nat) (w : World) (h : Seg w w.heap.size b l.length 1 (intF l)) (hz : b = none → q = 0) (hm : l.length ≤ 1099511627776) :
    Calls Try.prog 45 #[.slice b l.length q] w fun r w' => (∃ v, r = .returned v ∧ OInts w' w.heap.size v l) ∧ Below w.heap.size w w' := by
  obtain ⟨i0, hi0, hz0, hz1, hz2⟩ := info_parts infoInt
  have hE := eqlNil _ _ b l.length q Try.underlying23
  rcases b with _ | ⟨bb, bo, sp⟩
  · obtain rfl := hz rfl
    have hn : l.length = 0 := by rcases h with h | ⟨_, _, h, _⟩; exact h; cases h
    obtain rfl : l = [] := List.eq_nil_of_length_eq_zero hn
    simp at hE
    go_enter Try.func45, Try.ntmps45
    go_wp2
    go_ret
    exact ⟨⟨_, rfl, World.ownsRow_nil _ _ _ _⟩, by (repeat (first | with_reducible assumption | with_reducible exact Below.refl _ _ | with_reducible refine bA ?_ | with_reducible refine bD ?_ | ((with_reducible refine bS ?_ ?_); rotate_left; (focus ((try simp); (try omega)))) | ((with_reducible refine bBx ?_ ?_); rotate_left; (focus ((try simp); (try omega))))))⟩
  · have HN : Hid (∀ j u, (ints l)[j]? = some u → w.cell? ((⟨bb, bo, sp⟩ : Addr).add j) = some u) := by
      rcases h with h0 | ⟨b', o', e, h1, h2⟩
      · obtain rfl : l = [] := List.eq_nil_of_length_eq_zero h0
        intro j u hu; simp [ints] at hu
      · simp at e
        obtain ⟨rfl, rfl, rfl⟩ := e
        exact Seg.newsI (.inr ⟨bb, bo, rfl, h1, h2⟩)
    clear h hz
    simp at hE
    go_enter Try.func45, Try.ntmps45
    go_wp2_with (at_builtin; refine wpList_append_own _ rfl _ _ 23 rfl w.heap.size 2 i0 _ 1 8 Try.underlying23 hi0 hz0 hz1 hz2 rfl (by decide) _ 0 [] rfl (own_made _ _ _ _ (Nat.le_refl _)) ⟨bb, bo, sp⟩ l.length q (ints l) rfl (by simp [ints]) ?c0 (ints_one l) ?c3 ?c4 ?c5 ?_)
    case c0 => exact fun j u hu => cell_alloc_of (HN.out j u hu)
    case c3 => unfold maxLen; omega
    case c4 => omega
    case c5 => simp
    intro v w1 hown hg _
    go_wp2
    go_ret
    exact ⟨⟨_, rfl, by simpa using hown⟩, bOwn (by (repeat (first | with_reducible assumption | with_reducible exact Below.refl _ _ | with_reducible refine bA ?_ | with_reducible refine bD ?_ | ((with_reducible refine bS ?_ ?_); rotate_left; (focus ((try simp); (try omega)))) | ((with_reducible refine bBx ?_ ?_); rotate_left; (focus ((try simp); (try omega))))))) hg (by simp) (by simp [Value.ownBlock])⟩
set_option maxHeartbeats 400000 in
theorem cloneC_any (l : List C3) (b : Option Addr) (q : Nat) (w : World) (h : Seg w w.heap.size b l.length 3 (cellF l)) (hz : b = none → q = 0) (hm : l.length ≤ 1099511627776) :
    Calls Try.prog 44 #[.slice b l.length q] w fun r w' => (∃ v, r = .returned v ∧ OCells w' w.heap.size v l) ∧ Below w.heap.size w w' := by
  obtain ⟨i0, hi0, hz0, hz1, hz2⟩ := info_parts infoCell'
  have hE := eqlNil _ _ b l.length q Try.underlying28
  rcases b with _ | ⟨bb, bo, sp⟩
  · obtain rfl := hz rfl
    have hn : l.length = 0 := by rcases h with h | ⟨_, _, h, _⟩; exact h; cases h
    obtain rfl : l = [] := List.eq_nil_of_length_eq_zero hn
    simp at hE
    go_enter Try.func44, Try.ntmps44
    go_wp2
    go_ret
    exact ⟨⟨_, rfl, World.ownsRow_nil _ _ _ _⟩, by (repeat (first | with_reducible assumption | with_reducible exact Below.refl _ _ | with_reducible refine bA ?_ | with_reducible refine bD ?_ | ((with_reducible refine bS ?_ ?_); rotate_left; (focus ((try simp); (try omega)))) | ((with_reducible refine bBx ?_ ?_); rotate_left; (focus ((try simp); (try omega))))))⟩
  · have HN : Hid (∀ j u, (flatC l)[j]? = some u → w.cell? ((⟨bb, bo, sp⟩ : Addr).add j) = some u) := by
      rcases h with h0 | ⟨b', o', e, h1, h2⟩
      · obtain rfl : l = [] := List.eq_nil_of_length_eq_zero h0
        intro j u hu; simp [flatC] at hu
      · simp at e
        obtain ⟨rfl, rfl, rfl⟩ := e
        exact Seg.newsC (.inr ⟨bb, bo, rfl, h1, h2⟩)
    clear h hz
    simp at hE
    go_enter Try.func44, Try.ntmps44
    go_wp2_with (at_builtin; refine wpList_append_own _ rfl _ _ 28 rfl w.heap.size 57 i0 _ 3 24 Try.underlying28 hi0 hz0 hz1 hz2 rfl (by decide) _ 0 [] rfl (own_made _ _ _ _ (Nat.le_refl _)) ⟨bb, bo, sp⟩ l.length q (flatC l) rfl (flatC_len l) ?c0 (flatC_one l) ?c3 ?c4 ?c5 ?_)
    case c0 => exact fun j u hu => cell_alloc_of (HN.out j u hu)
    case c3 => unfold maxLen; omega
    case c4 => omega
    case c5 => simp
    intro v w1 hown hg _
    go_wp2
    go_ret
    exact ⟨⟨_, rfl, by simpa using hown⟩, bOwn (by (repeat (first | with_reducible assumption | with_reducible exact Below.refl _ _ | with_reducible refine bA ?_ | with_reducible refine bD ?_ | ((with_reducible refine bS ?_ ?_); rotate_left; (focus ((try simp); (try omega)))) | ((with_reducible refine bBx ?_ ?_); rotate_left; (focus ((try simp); (try omega))))))) hg (by simp) (by simp [Value.ownBlock])⟩
end Go.Proofs.Ytpllffabdgngcaa
