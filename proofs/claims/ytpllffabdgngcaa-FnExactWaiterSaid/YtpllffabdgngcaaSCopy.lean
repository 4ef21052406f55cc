/-
  The reference model's copies of lists and of a channel: the same in new memory; lists lie in memory and hold at most 2 ^ 40 elements.
-/
import Derived.Test.YtpllffabdgngcaaOwn
import Derived.Test.YtpllffabdgngcaaModel
namespace Go.Proofs.Ytpllffabdgngcaa
open Go.RowKit
set_option maxHeartbeats 400000 in
theorem l1Copy_any (l : List Int) (b : Option Addr) (q : Nat) (w : World) (h : Seg w w.heap.size b l.length 1 (intF l)) (hz : b = none → q = 0) (hm : l.length ≤ 1099511627776) :
    Calls Try.prog 47 #[.slice b l.length q] w fun r w' => (∃ v, r = .returned v ∧ OInts w' w.heap.size v l) ∧ Below w.heap.size w w' := by
  obtain ⟨i0, hi0, hz0, hz1, hz2⟩ := info_parts infoInt
  rcases b with _ | ⟨bb, bo, sp⟩
  · obtain rfl := hz rfl
    have hn : l.length = 0 := by rcases h with h | ⟨_, _, h, _⟩; exact h; cases h
    obtain rfl : l = [] := List.eq_nil_of_length_eq_zero hn
    go_enter Try.func47, Try.ntmps47
    go_wp2_with (at_builtin; refine wpList_append_own_none rfl _ _ 23 rfl w.heap.size 2 i0 1 Try.underlying23 hi0 _ 0 [] rfl (own_made _ _ _ _ (Nat.le_refl _)) rfl ?_)
    go_ret
    exact ⟨⟨_, rfl, own_made _ _ _ _ (Nat.le_refl _)⟩, by (repeat (first | with_reducible assumption | with_reducible exact Below.refl _ _ | with_reducible refine bA ?_ | with_reducible refine bD ?_ | ((with_reducible refine bS ?_ ?_); rotate_left; (focus ((try simp); (try omega)))) | ((with_reducible refine bBx ?_ ?_); rotate_left; (focus ((try simp); (try omega))))))⟩
  · have HN : Hid (∀ j u, (ints l)[j]? = some u → w.cell? ((⟨bb, bo, sp⟩ : Addr).add j) = some u) := by
      rcases h with h0 | ⟨b', o', e, h1, h2⟩
      · obtain rfl : l = [] := List.eq_nil_of_length_eq_zero h0
        intro j u hu; simp [ints] at hu
      · simp at e
        obtain ⟨rfl, rfl, rfl⟩ := e
        exact Seg.newsI (.inr ⟨bb, bo, rfl, h1, h2⟩)
    clear h hz
    go_enter Try.func47, Try.ntmps47
    go_wp2_with (at_builtin; refine wpList_append_own _ rfl _ _ 23 rfl w.heap.size 2 i0 _ 1 8 Try.underlying23 hi0 hz0 hz1 hz2 rfl (by decide) _ 0 [] rfl (own_made _ _ _ _ (Nat.le_refl _)) ⟨bb, bo, sp⟩ l.length q (ints l) rfl (by simp [ints]) ?c0 (ints_one l) ?c3 ?c4 ?c5 ?_)
    case c0 => exact fun j u hu => cell_alloc_of (HN.out j u hu)
    case c3 => unfold maxLen; omega
    case c4 => omega
    case c5 => simp
    intro v w1 hown hg _
    go_wp2
    go_ret
    exact ⟨⟨_, rfl, by simpa using hown⟩, bOwn (by (repeat (first | with_reducible assumption | with_reducible exact Below.refl _ _ | with_reducible refine bA ?_ | with_reducible refine bD ?_ | ((with_reducible refine bS ?_ ?_); rotate_left; (focus ((try simp); (try omega)))) | ((with_reducible refine bBx ?_ ?_); rotate_left; (focus ((try simp); (try omega))))))) hg (by simp) (by simp [Value.ownBlock])⟩
theorem infoCell' : (Try.prog.info? 57).map (fun i => (i.zero, i.size, i.bytes)) = some (some (.agg #[.int .i64 0, .int .i64 0, .int .i64 0]), 3, 24) := by kernel_rfl
set_option maxRecDepth 100000 in
set_option maxHeartbeats 1000000 in
theorem l2Copy_any (c : Ch) (a b : Option Addr) (p q : Nat) (w : World) (h1 : Seg w w.heap.size a c.cells.length 3 (cellF c.cells)) (z1 : a = none → p = 0) (h2 : Seg w w.heap.size b c.words.length 1 (intF c.words)) (z2 : b = none → q = 0) (m1 : c.cells.length ≤ 1099511627776) (m2 : c.words.length ≤ 1099511627776) :
    Calls Try.prog 34 #[.agg #[.int .i64 c.cap, .int .i64 c.sent, .int .i64 c.got, .int .i64 c.fin, .slice a c.cells.length p, .slice b c.words.length q]] w fun r w' =>
      (∃ v1 v2, r = .returned (.agg #[.int .i64 c.cap, .int .i64 c.sent, .int .i64 c.got, .int .i64 c.fin, v1, v2]) ∧ OCells w' w.heap.size v1 c.cells ∧ OInts w' w.heap.size v2 c.words) ∧ Below w.heap.size w w' := by
  obtain ⟨i0, hi0, hz0, hz1, hz2⟩ := info_parts infoCell'
  obtain ⟨cap, sent, got, fin, cells, words⟩ := c
  simp only at *
  have H2 := Lib.hid h2
  have Z2 := Lib.hid z2
  clear h2 z2
  rcases a with _ | ⟨bb, bo, sp⟩
  · obtain rfl := z1 rfl
    have hn : cells.length = 0 := by rcases h1 with h | ⟨_, _, h, _⟩; exact h; cases h
    obtain rfl : cells = [] := List.eq_nil_of_length_eq_zero hn
    clear h1 z1 hn m1
    go_enter Try.func34, Try.ntmps34
    go_wp2_with (at_builtin; refine wpList_append_own_none rfl _ _ 28 rfl (w.heap.size + 1 + 1) 57 i0 3 Try.underlying28 hi0 _ 0 [] rfl (own_made_at _ _ _ _ _ (by simp) (by simp)) rfl ?_)
    refine (l1Copy_any words b q _ ((H2.out.below (by (repeat (first | with_reducible assumption | with_reducible exact Below.refl _ _ | with_reducible refine bA ?_ | with_reducible refine bD ?_ | ((with_reducible refine bS ?_ ?_); rotate_left; (focus ((try simp); (try omega)))) | ((with_reducible refine bBx ?_ ?_); rotate_left; (focus ((try simp); (try omega)))))))).more (by simp; try omega)) Z2.out m2).mono ?_
    rintro _ w2 ⟨⟨v2, rfl, hown2⟩, hb2⟩
    have hown3 : OCells w2 (w.heap.size + 1 + 1) (.slice (some ⟨w.heap.size + 1 + 1, 0, none⟩) 0 0) [] := own_below (own_made_at _ _ _ _ _ (by simp) (by simp)) hb2
    have hown4 := own_lo hown2 (lo' := w.heap.size + 1 + 1) (by simp; try omega)
    obtain ⟨vb, vd, rfl, _⟩ := OInts.seg hown2
    clear hown2
    have hs2 := hb2.size
    simp at hs2
    have hB2 : Below w.heap.size w w2 := bT (by (repeat (first | with_reducible assumption | with_reducible exact Below.refl _ _ | with_reducible refine bA ?_ | with_reducible refine bD ?_ | ((with_reducible refine bS ?_ ?_); rotate_left; (focus ((try simp); (try omega)))) | ((with_reducible refine bBx ?_ ?_); rotate_left; (focus ((try simp); (try omega))))))) hb2
    have := fun o => hb2.cell (p := ⟨w.heap.size, o, none⟩) (by simp; try omega)
    have := fun o => hb2.cell (p := ⟨w.heap.size + 1, o, none⟩) (by simp; try omega)
    have := fun o => hb2.frozen (p := ⟨w.heap.size, o, none⟩) (by simp; try omega)
    have := fun o => hb2.frozen (p := ⟨w.heap.size + 1, o, none⟩) (by simp; try omega)
    clear hb2
    have : w.heap.size < w.heap.size + 1 + 1 := by omega
    have : w.heap.size ≤ w.heap.size + 1 := by omega
    go_wp2_with fail
    refine bodyPost_ret (v := .agg #[.int .i64 cap, .int .i64 sent, .int .i64 got, .int .i64 fin, .slice (some ⟨w.heap.size + 1 + 1, 0, none⟩) 0 0, .slice vb words.length vd]) (by simp [results, Try.results34, go_sem, *]) rfl ⟨⟨_, _, rfl, ?_, ?_⟩, ?_⟩
    · refine own_lo (lo := w.heap.size + 1 + 1) ?_ (by omega)
      repeat (first | with_reducible exact hown3 | ((with_reducible refine own_store ?_ ?_ _); rotate_left; (focus exact own_ne hown3 (by (try simp); try omega))))
    · refine own_lo (lo := w.heap.size + 1 + 1) ?_ (by omega)
      repeat (first | with_reducible exact hown4 | ((with_reducible refine own_store ?_ ?_ _); rotate_left; (focus exact own_ne hown4 (by (try simp); try omega))))
    · (repeat (first | with_reducible assumption | with_reducible exact Below.refl _ _ | with_reducible refine bA ?_ | with_reducible refine bD ?_ | ((with_reducible refine bS ?_ ?_); rotate_left; (focus ((try simp); (try omega)))) | ((with_reducible refine bBx ?_ ?_); rotate_left; (focus ((try simp); (try omega))))))
  · have HN : Hid (∀ j u, (flatC cells)[j]? = some u → w.cell? ((⟨bb, bo, sp⟩ : Addr).add j) = some u) := by
      rcases h1 with h0 | ⟨b', o', e, h1, h2⟩
      · obtain rfl : cells = [] := List.eq_nil_of_length_eq_zero h0
        intro j u hu; simp [flatC] at hu
      · simp at e
        obtain ⟨rfl, rfl, rfl⟩ := e
        exact Seg.newsC (.inr ⟨bb, bo, rfl, h1, h2⟩)
    clear h1 z1
    go_enter Try.func34, Try.ntmps34
    go_wp2_with (at_builtin; refine wpList_append_own _ rfl _ _ 28 rfl (w.heap.size + 1 + 1) 57 i0 _ 3 24 Try.underlying28 hi0 hz0 hz1 hz2 rfl (by decide) _ 0 [] rfl (own_made_at _ _ _ _ _ (by simp) (by simp; try omega)) ⟨bb, bo, sp⟩ cells.length p (flatC cells) rfl (flatC_len cells) ?c0 (flatC_one cells) ?c3 ?c4 ?c5 ?_)
    case c0 => exact fun j u hu => cell_alloc_of (cell_alloc_of (cell_alloc_of (HN.out j u hu)))
    case c3 => unfold maxLen; omega
    case c4 => omega
    case c5 => (simp; try omega)
    intro v w1 hown hg _
    simp [Value.ownBlock] at hg
    have hs1 := hg.size
    simp at hs1
    have := rCell (b := w.heap.size) hg (by simp; omega) (by omega)
    have := rCell (b := w.heap.size + 1) hg (by simp) (by omega)
    have := rFroz (b := w.heap.size) hg (by simp; omega) (by omega)
    have := rFroz (b := w.heap.size + 1) hg (by simp) (by omega)
    have : w.heap.size < w1.heap.size := by omega
    have : w.heap.size ≤ w1.heap.size := by omega
    have hB1 : Below w.heap.size w w1 := bOwn (by (repeat (first | with_reducible assumption | with_reducible exact Below.refl _ _ | with_reducible refine bA ?_ | with_reducible refine bD ?_ | ((with_reducible refine bS ?_ ?_); rotate_left; (focus ((try simp); (try omega)))) | ((with_reducible refine bBx ?_ ?_); rotate_left; (focus ((try simp); (try omega))))))) hg (by simp; omega) (by simp; omega)
    have hown1 : OCells w1 (w.heap.size + 1 + 1) v cells := by simpa using hown
    clear hown
    obtain ⟨va, vc, rfl, _⟩ := OCells.seg hown1
    go_wp2_with fail
    refine (l1Copy_any words b q _ ((H2.out.below hB1).setOther (by simp [World.setCell]; omega) (by simp)) Z2.out m2).mono ?_
    rintro _ w2 ⟨⟨v2, rfl, hown2⟩, hb2⟩
    have hown3 := own_below (own_store hown1 (p := ⟨w.heap.size, 4, none⟩) (own_ne hown1 (by (try simp); try omega)) (.slice va cells.length vc)) hb2
    have hown4 := own_lo hown2 (lo' := w.heap.size + 1 + 1) (by simp [World.setCell]; omega)
    obtain ⟨vb, vd, rfl, _⟩ := OInts.seg hown2
    clear hown2
    have hs2 := hb2.size
    simp [World.setCell] at hs2
    have hB2 : Below w.heap.size w w2 := bT (by (repeat (first | with_reducible assumption | with_reducible exact Below.refl _ _ | with_reducible refine bA ?_ | with_reducible refine bD ?_ | ((with_reducible refine bS ?_ ?_); rotate_left; (focus ((try simp); (try omega)))) | ((with_reducible refine bBx ?_ ?_); rotate_left; (focus ((try simp); (try omega))))))) hb2
    have := fun o => hb2.cell (p := ⟨w.heap.size, o, none⟩) (by simp [World.setCell]; omega)
    have := fun o => hb2.cell (p := ⟨w.heap.size + 1, o, none⟩) (by simp [World.setCell]; omega)
    have := fun o => hb2.frozen (p := ⟨w.heap.size, o, none⟩) (by simp [World.setCell]; omega)
    have := fun o => hb2.frozen (p := ⟨w.heap.size + 1, o, none⟩) (by simp [World.setCell]; omega)
    clear hb2
    have : w.heap.size < w.heap.size + 1 + 1 := by omega
    have : w.heap.size ≤ w.heap.size + 1 := by omega
    go_wp2_with fail
    refine bodyPost_ret (v := .agg #[.int .i64 cap, .int .i64 sent, .int .i64 got, .int .i64 fin, .slice va cells.length vc, .slice vb words.length vd]) (by simp [results, Try.results34, go_sem, *]) rfl ⟨⟨_, _, rfl, ?_, ?_⟩, ?_⟩
    · refine own_lo (lo := w.heap.size + 1 + 1) ?_ (by omega)
      repeat (first | with_reducible exact hown3 | ((with_reducible refine own_store ?_ ?_ _); rotate_left; (focus exact own_ne hown3 (by (try simp); try omega))))
    · refine own_lo (lo := w.heap.size + 1 + 1) ?_ (by omega)
      repeat (first | with_reducible exact hown4 | ((with_reducible refine own_store ?_ ?_ _); rotate_left; (focus exact own_ne hown4 (by (try simp); try omega))))
    · (repeat (first | with_reducible assumption | with_reducible exact Below.refl _ _ | with_reducible refine bA ?_ | with_reducible refine bD ?_ | ((with_reducible refine bS ?_ ?_); rotate_left; (focus ((try simp); (try omega)))) | ((with_reducible refine bBx ?_ ?_); rotate_left; (focus ((try simp); (try omega))))))
end Go.Proofs.Ytpllffabdgngcaa
