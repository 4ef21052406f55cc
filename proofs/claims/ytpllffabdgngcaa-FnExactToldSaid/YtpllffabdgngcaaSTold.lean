/-
  The reference model's telling of a word; lists lie in memory and hold at most 2 ^ 40 elements.
-/
import Derived.Test.YtpllffabdgngcaaSWord
import Derived.Test.YtpllffabdgngcaaNew
namespace Go.Proofs.Ytpllffabdgngcaa
open Go.RowKit
theorem tellB_no1 {c : Ch} {v x : Int} (h : hasW c v = false) : tellB c v x = false := by simp [tellB, h]
theorem tellC_no {c : Ch} {v x : Int} (h : tellB c v x = false) : tellC c v x = c := by simp [tellC, h]
/-- A list of numbers that is not empty lies in a block of its own. -/
theorem OInts.open1 {w : World} {lo : Nat} {v : Value} {l : List Int} (h : OInts w lo v l) {i : Nat} (hi : i < l.length) :
    ∃ g cap, v = .slice (some ⟨g, 0, none⟩) l.length cap ∧ lo ≤ g ∧ g < w.heap.size ∧ w.cell? ⟨g, i, none⟩ = some (.int .i64 (l.getD i 0)) ∧ ∀ o, w.frozen? ⟨g, o, none⟩ = false := by
  have h2 := h
  rcases h.2 with ⟨_, h0⟩ | ⟨g, cap, cur, rfl, hl, hg, _⟩
  · omega
  · refine ⟨g, cap, rfl, hl, (Array.getElem?_eq_some_iff.1 hg).1, ?_, fun o => by simp [World.frozen?, hg]⟩
    have := h2.cells (g := g) rfl i (.int .i64 (l.getD i 0)) (by simp [ints, List.getD, hi])
    rw [← this]; congr 1; by_cases e : i = 0 <;> simp [Addr.add, e]
theorem OInts.set {w : World} {lo g cap : Nat} {l : List Int} (h : OInts w lo (.slice (some ⟨g, 0, none⟩) l.length cap) l) {i : Nat} (hi : i < l.length) (x : Int) :
    OInts (w.setCell ⟨g, i, none⟩ (.int .i64 x)) lo (.slice (some ⟨g, 0, none⟩) l.length cap) (l.set i x) := by
  have := own_set_cell h i (by rw [ints_len]; exact hi) (.int .i64 x)
  unfold OInts
  rw [ints_set, List.length_set]
  exact this
theorem own_ne' {w : World} {lo : Nat} {e : TypeId} {k n : Nat} {v : Value} {xs : List Value} (h : w.ownsRow lo e k v n xs) {b : Nat} (hb : w.heap.size ≤ b) : v.ownBlock ≠ some b := fun he => by have := (h.lt b he).2; omega
theorem OCells.ne {w : World} {lo lo' : Nat} {v v' : Value} {cs : List C3} {l : List Int} (h : OCells w lo v cs) (h' : OInts w lo' v' l) (i : Nat) (hi : v.ownBlock = some i) : v'.ownBlock ≠ some i := by
  intro hi'
  rcases h.2 with ⟨rfl, _⟩ | ⟨g, cap, cur, rfl, _, hg, _⟩
  · cases hi
  rcases h'.2 with ⟨rfl, _⟩ | ⟨g', cap', cur', rfl, _, hg', _⟩
  · cases hi'
  simp [Value.ownBlock] at hi hi'
  subst hi hi'
  rw [hg] at hg'
  simp at hg'
theorem own_off {w : World} {lo lo' : Nat} {v v' : Value} {cs : List C3} {l : List Int} (h : OCells w lo v cs) (h' : OInts w lo' v' l) : v.ownBlock = none ∨ v.ownBlock ≠ v'.ownBlock := by
  cases e : v.ownBlock with
  | none => exact .inl rfl
  | some j => exact .inr fun e2 => OCells.ne h h' j e e2.symm
set_option maxRecDepth 100000 in
set_option maxHeartbeats 1000000 in
theorem l3Told_any (c : Ch) (v x : Int) (a b : Option Addr) (p q : Nat) (w : World) (h1 : Seg w w.heap.size a c.cells.length 3 (cellF c.cells)) (z1 : a = none → p = 0) (h2 : Seg w w.heap.size b c.words.length 1 (intF c.words)) (z2 : b = none → q = 0) (m1 : c.cells.length ≤ 1099511627776) (m2 : c.words.length ≤ 1099511627776) :
    Calls Try.prog 27 #[.agg #[.int .i64 c.cap, .int .i64 c.sent, .int .i64 c.got, .int .i64 c.fin, .slice a c.cells.length p, .slice b c.words.length q], .int .i64 v, .int .i64 x] w fun r w' =>
      (∃ v1 v2, r = .returned (.tuple #[.agg #[.int .i64 c.cap, .int .i64 c.sent, .int .i64 c.got, .int .i64 c.fin, v1, v2], .bool (tellB c v x)]) ∧ OCells w' w.heap.size v1 c.cells ∧ OInts w' w.heap.size v2 (tellC c v x).words) ∧ Below w.heap.size w w' := by
  have H1 := Lib.hid h1
  have H2 := Lib.hid h2
  have Z1 := Lib.hid z1
  have Z2 := Lib.hid z2
  clear h1 h2 z1 z2
  go_enter Try.func27, Try.ntmps27
  go_wp2_with fail; refine (l2Copy_any c a b p q _ ((H1.out.below (by (repeat (first | with_reducible assumption | with_reducible exact Below.refl _ _ | with_reducible refine bA ?_ | with_reducible refine bD ?_ | ((with_reducible refine bS ?_ ?_); rotate_left; (focus ((try simp); (try omega)))) | ((with_reducible refine bBx ?_ ?_); rotate_left; (focus ((try simp); (try omega)))))))).more (by ((try simp); (try omega)))) Z1.out ((H2.out.below (by (repeat (first | with_reducible assumption | with_reducible exact Below.refl _ _ | with_reducible refine bA ?_ | with_reducible refine bD ?_ | ((with_reducible refine bS ?_ ?_); rotate_left; (focus ((try simp); (try omega)))) | ((with_reducible refine bBx ?_ ?_); rotate_left; (focus ((try simp); (try omega)))))))).more (by ((try simp); (try omega)))) Z2.out m1 m2).mono ?_; rintro _ w1 ⟨⟨v1, v2, rfl, o1, o2⟩, hbw1⟩; have hCw1 : Below w.heap.size w w1 := bT (by (repeat (first | with_reducible assumption | with_reducible exact Below.refl _ _ | with_reducible refine bA ?_ | with_reducible refine bD ?_ | ((with_reducible refine bS ?_ ?_); rotate_left; (focus ((try simp); (try omega)))) | ((with_reducible refine bBx ?_ ?_); rotate_left; (focus ((try simp); (try omega))))))) hbw1; have hsw1 := hbw1.size; (try (simp at hsw1)); have zz := fun o => hbw1.cell (p := ⟨w.heap.size + 1, o, none⟩) (by ((try simp) <;> (try omega))); (first | (simp [go_sem, x_wp, l_wp, l_w, k0, k1, k2, k3] at zz) | (simp [go_sem, x_wp, l_wp, l_w] at zz) | (simp [go_sem] at zz) | skip); (try clear x_wp); have x_wp := zz; clear zz; have zz := fun o => hbw1.frozen (p := ⟨w.heap.size + 1, o, none⟩) (by ((try simp) <;> (try omega))); (first | (simp [go_sem, f_wp, l_wp, l_w, k0, k1, k2, k3] at zz) | (simp [go_sem, f_wp, l_wp, l_w] at zz) | (simp [go_sem] at zz) | skip); (try clear f_wp); have f_wp := zz; clear zz; (try clear l_wp); have l_wp : w.heap.size + 1 < w1.heap.size := (by omega); have zz := fun o => hbw1.cell (p := ⟨w.heap.size, o, none⟩) (by ((try simp) <;> (try omega))); (first | (simp [go_sem, x_w, l_w, l_w, k0, k1, k2, k3] at zz) | (simp [go_sem, x_w, l_w, l_w] at zz) | (simp [go_sem] at zz) | skip); (try clear x_w); have x_w := zz; clear zz; have zz := fun o => hbw1.frozen (p := ⟨w.heap.size, o, none⟩) (by ((try simp) <;> (try omega))); (first | (simp [go_sem, f_w, l_w, l_w, k0, k1, k2, k3] at zz) | (simp [go_sem, f_w, l_w, l_w] at zz) | (simp [go_sem] at zz) | skip); (try clear f_w); have f_w := zz; clear zz; (try clear l_w); have l_w : w.heap.size < w1.heap.size := (by omega); clear hbw1
  try simp at o1 o2
  obtain ⟨a1, q1, rfl, _⟩ := o1.seg
  by_cases hh : hasW c v = true
  · obtain ⟨g1, g2⟩ := hasW_iff.1 hh
    obtain ⟨i, rfl⟩ : ∃ i : Nat, v = (i : Int) + 1 := ⟨(v - 1).toNat, by omega⟩
    have hi : i < c.words.length := by omega
    obtain ⟨g, cap, rfl, hlo, hlt, hcell, hfr⟩ := o2.open1 hi
    obtain ⟨bb, bo, rfl, hb, hcell0⟩ : ∃ b' o, b = some ⟨b', o, none⟩ ∧ b' < w.heap.size ∧ w.cell? ⟨b', o + i, none⟩ = some (.int .i64 (c.words.getD i 0)) := by
      rcases H2.out with h0 | ⟨b', o', e, h1, h2⟩
      · omega
      · exact ⟨b', o', e, h1, by simpa [intF] using h2 i 0 hi (by omega)⟩
    have e : wordAt c ((i : Int) + 1) = c.words.getD i 0 := by simp [wordAt]
    have HE := Lib.hid e
    clear e
    generalize c.words.getD i 0 = y at hcell hcell0 HE
    have hi0 : (0 : Int) ≤ (i : Int) := by omega
    have hi1 : (i : Int) < (c.words.length : Int) := by omega
    have hcell1 := (hCw1.cell (p := ⟨bb, bo + i, none⟩) hb).trans hcell0
    go_wp2_with fail; refine (l3Has_any c _ a _ p q _).mono ?_; rintro _ w2 ⟨rfl, hbw2⟩; have hCw2 : Below w.heap.size w w2 := bT (by (repeat (first | with_reducible assumption | with_reducible exact Below.refl _ _ | with_reducible refine bA ?_ | with_reducible refine bD ?_ | ((with_reducible refine bS ?_ ?_); rotate_left; (focus ((try simp); (try omega)))) | ((with_reducible refine bBx ?_ ?_); rotate_left; (focus ((try simp); (try omega))))))) hbw2; have hsw2 := hbw2.size; (try (simp at hsw2)); have zz := fun o => hbw2.cell (p := ⟨w1.heap.size, o, none⟩) (by ((try simp) <;> (try omega))); (first | (simp [go_sem, x_w1, l_w1, l_w1, k0, k1, k2, k3] at zz) | (simp [go_sem, x_w1, l_w1, l_w1] at zz) | (simp [go_sem] at zz) | skip); (try clear x_w1); have x_w1 := zz; clear zz; have zz := fun o => hbw2.frozen (p := ⟨w1.heap.size, o, none⟩) (by ((try simp) <;> (try omega))); (first | (simp [go_sem, f_w1, l_w1, l_w1, k0, k1, k2, k3] at zz) | (simp [go_sem, f_w1, l_w1, l_w1] at zz) | (simp [go_sem] at zz) | skip); (try clear f_w1); have f_w1 := zz; clear zz; (try clear l_w1); have l_w1 : w1.heap.size < w2.heap.size := (by omega); have zz := fun o => hbw2.cell (p := ⟨w.heap.size + 1, o, none⟩) (by ((try simp) <;> (try omega))); (first | (simp [go_sem, x_wp, l_wp, l_w, k0, k1, k2, k3] at zz) | (simp [go_sem, x_wp, l_wp, l_w] at zz) | (simp [go_sem] at zz) | skip); (try clear x_wp); have x_wp := zz; clear zz; have zz := fun o => hbw2.frozen (p := ⟨w.heap.size + 1, o, none⟩) (by ((try simp) <;> (try omega))); (first | (simp [go_sem, f_wp, l_wp, l_w, k0, k1, k2, k3] at zz) | (simp [go_sem, f_wp, l_wp, l_w] at zz) | (simp [go_sem] at zz) | skip); (try clear f_wp); have f_wp := zz; clear zz; (try clear l_wp); have l_wp : w.heap.size + 1 < w2.heap.size := (by omega); have zz := fun o => hbw2.cell (p := ⟨w.heap.size, o, none⟩) (by ((try simp) <;> (try omega))); (first | (simp [go_sem, x_w, l_w, l_w, k0, k1, k2, k3] at zz) | (simp [go_sem, x_w, l_w, l_w] at zz) | (simp [go_sem] at zz) | skip); (try clear x_w); have x_w := zz; clear zz; have zz := fun o => hbw2.frozen (p := ⟨w.heap.size, o, none⟩) (by ((try simp) <;> (try omega))); (first | (simp [go_sem, f_w, l_w, l_w, k0, k1, k2, k3] at zz) | (simp [go_sem, f_w, l_w, l_w] at zz) | (simp [go_sem] at zz) | skip); (try clear f_w); have f_w := zz; clear zz; (try clear l_w); have l_w : w.heap.size < w2.heap.size := (by omega); have hKw2 : Below w1.heap.size w1 w2 := bT (by (repeat (first | with_reducible assumption | with_reducible exact Below.refl _ _ | with_reducible refine bA ?_ | with_reducible refine bD ?_ | ((with_reducible refine bS ?_ ?_); rotate_left; (focus ((try simp); (try omega)))) | ((with_reducible refine bBx ?_ ?_); rotate_left; (focus ((try simp); (try omega))))))) hbw2; clear hbw2
    have p1 := own_below o1 hKw2
    have p2 := own_below o2 hKw2
    have hcell2 := (hKw2.cell (p := ⟨g, i, none⟩) hlt).trans hcell
    have hfr2 := fun o => (hKw2.frozen (p := ⟨g, o, none⟩) hlt).trans (hfr o)
    have hcell3 := (hCw2.cell (p := ⟨bb, bo + i, none⟩) hb).trans hcell0
    have hny : w1.heap.size ≠ g := by omega
    by_cases ht : tellB c ((i : Int) + 1) x = true
    · have ht2 := ht
      unfold tellB at ht2
      rw [HE.out] at ht2
      simp [hh] at ht2
      obtain ⟨rfl, hin⟩ := ht2
      have HW : Hid ((tellC c ((i : Int) + 1) x).words = c.words.set i x) := by unfold tellC; rw [if_pos ht]; simp [Hid]
      have HT := Lib.hid ht
      clear ht HE
      go_wp2_with (go_at_call 35; refine (l1In_any _ _ _ _).mono ?_; rintro _ _ ⟨rfl, rfl⟩)
      rw [HT.out, HW.out]
      refine bodyPost_ret (v := .tuple #[.agg #[.int .i64 c.cap, .int .i64 c.sent, .int .i64 c.got, .int .i64 c.fin, .slice a1 c.cells.length q1, .slice (some ⟨g, 0, none⟩) c.words.length cap], .bool true]) (by simp [results, Try.results27, go_sem, *]) rfl ⟨⟨_, _, rfl, own_lo (lo := w.heap.size + 1 + 1) ?_ (by omega), own_lo (lo := w.heap.size + 1 + 1) ?_ (by omega)⟩, by (repeat (first | with_reducible assumption | with_reducible exact Below.refl _ _ | with_reducible refine bA ?_ | with_reducible refine bD ?_ | ((with_reducible refine bS ?_ ?_); rotate_left; (focus ((try simp); (try omega)))) | ((with_reducible refine bBx ?_ ?_); rotate_left; (focus ((try simp); (try omega))))))⟩
      · (repeat (first | with_reducible exact p1 | with_reducible refine World.ownsRow.alloc ?_ _ | with_reducible refine World.ownsRow.drew ?_ | ((with_reducible refine own_store ?_ ?_ _); rotate_left; (focus (first | (refine own_ne o1 ?_; (try dsimp only); omega) | (refine own_ne' o1 ?_; (try dsimp only); omega) | exact fun h => OCells.ne o1 o2 _ h rfl))) | ((with_reducible refine own_box ?_ ?_); rotate_left; (focus (first | (refine own_ne o1 ?_; (try dsimp only); omega) | (refine own_ne' o1 ?_; (try dsimp only); omega) | exact fun h => OCells.ne o1 o2 _ h rfl)))))
      · have P2 := OInts.set p2 hi x
        (repeat (first | with_reducible exact P2 | with_reducible refine World.ownsRow.alloc ?_ _ | with_reducible refine World.ownsRow.drew ?_ | ((with_reducible refine own_store ?_ ?_ _); rotate_left; (focus (first | (refine own_ne o2 ?_; (try dsimp only); omega) | (refine own_ne' o2 ?_; (try dsimp only); omega)))) | ((with_reducible refine own_box ?_ ?_); rotate_left; (focus (first | (refine own_ne o2 ?_; (try dsimp only); omega) | (refine own_ne' o2 ?_; (try dsimp only); omega))))))
    · have e1 : tellB c ((i : Int) + 1) x = false := by simpa using ht
      have HT := Lib.hid e1
      have HW := Lib.hid (tellC_no e1)
      unfold tellB at e1
      rw [HE.out] at e1
      simp [hh] at e1
      clear HE ht
      by_cases hy : y = 0
      · subst hy
        have hin := e1 rfl
        clear e1
        go_wp2_with (go_at_call 35; refine (l1In_any _ _ _ _).mono ?_; rintro _ _ ⟨rfl, rfl⟩)
        rw [HT.out, HW.out]
        refine bodyPost_ret (v := .tuple #[.agg #[.int .i64 c.cap, .int .i64 c.sent, .int .i64 c.got, .int .i64 c.fin, .slice a1 c.cells.length q1, .slice (some ⟨g, 0, none⟩) c.words.length cap], .bool false]) (by simp [results, Try.results27, go_sem, *]) rfl ⟨⟨_, _, rfl, own_lo (lo := w.heap.size + 1 + 1) ?_ (by omega), own_lo (lo := w.heap.size + 1 + 1) ?_ (by omega)⟩, by (repeat (first | with_reducible assumption | with_reducible exact Below.refl _ _ | with_reducible refine bA ?_ | with_reducible refine bD ?_ | ((with_reducible refine bS ?_ ?_); rotate_left; (focus ((try simp); (try omega)))) | ((with_reducible refine bBx ?_ ?_); rotate_left; (focus ((try simp); (try omega))))))⟩
        · (repeat (first | with_reducible exact p1 | with_reducible refine World.ownsRow.alloc ?_ _ | with_reducible refine World.ownsRow.drew ?_ | ((with_reducible refine own_store ?_ ?_ _); rotate_left; (focus (first | (refine own_ne o1 ?_; (try dsimp only); omega) | (refine own_ne' o1 ?_; (try dsimp only); omega)))) | ((with_reducible refine own_box ?_ ?_); rotate_left; (focus (first | (refine own_ne o1 ?_; (try dsimp only); omega) | (refine own_ne' o1 ?_; (try dsimp only); omega))))))
        · (repeat (first | with_reducible exact p2 | with_reducible refine World.ownsRow.alloc ?_ _ | with_reducible refine World.ownsRow.drew ?_ | ((with_reducible refine own_store ?_ ?_ _); rotate_left; (focus (first | (refine own_ne o2 ?_; (try dsimp only); omega) | (refine own_ne' o2 ?_; (try dsimp only); omega)))) | ((with_reducible refine own_box ?_ ?_); rotate_left; (focus (first | (refine own_ne o2 ?_; (try dsimp only); omega) | (refine own_ne' o2 ?_; (try dsimp only); omega))))))
      · have hy2 : (y != 0) = true := by simpa using hy
        clear e1 hy
        go_wp2_with (go_at_call 35; refine (l1In_any _ _ _ _).mono ?_; rintro _ _ ⟨rfl, rfl⟩)
        rw [HT.out, HW.out]
        refine bodyPost_ret (v := .tuple #[.agg #[.int .i64 c.cap, .int .i64 c.sent, .int .i64 c.got, .int .i64 c.fin, .slice a1 c.cells.length q1, .slice (some ⟨g, 0, none⟩) c.words.length cap], .bool false]) (by simp [results, Try.results27, go_sem, *]) rfl ⟨⟨_, _, rfl, own_lo (lo := w.heap.size + 1 + 1) ?_ (by omega), own_lo (lo := w.heap.size + 1 + 1) ?_ (by omega)⟩, by (repeat (first | with_reducible assumption | with_reducible exact Below.refl _ _ | with_reducible refine bA ?_ | with_reducible refine bD ?_ | ((with_reducible refine bS ?_ ?_); rotate_left; (focus ((try simp); (try omega)))) | ((with_reducible refine bBx ?_ ?_); rotate_left; (focus ((try simp); (try omega))))))⟩
        · (repeat (first | with_reducible exact p1 | with_reducible refine World.ownsRow.alloc ?_ _ | with_reducible refine World.ownsRow.drew ?_ | ((with_reducible refine own_store ?_ ?_ _); rotate_left; (focus (first | (refine own_ne o1 ?_; (try dsimp only); omega) | (refine own_ne' o1 ?_; (try dsimp only); omega)))) | ((with_reducible refine own_box ?_ ?_); rotate_left; (focus (first | (refine own_ne o1 ?_; (try dsimp only); omega) | (refine own_ne' o1 ?_; (try dsimp only); omega))))))
        · (repeat (first | with_reducible exact p2 | with_reducible refine World.ownsRow.alloc ?_ _ | with_reducible refine World.ownsRow.drew ?_ | ((with_reducible refine own_store ?_ ?_ _); rotate_left; (focus (first | (refine own_ne o2 ?_; (try dsimp only); omega) | (refine own_ne' o2 ?_; (try dsimp only); omega)))) | ((with_reducible refine own_box ?_ ?_); rotate_left; (focus (first | (refine own_ne o2 ?_; (try dsimp only); omega) | (refine own_ne' o2 ?_; (try dsimp only); omega))))))
  · have e1 := tellB_no1 (x := x) (by simpa using hh)
    have HT := Lib.hid e1
    have HW := Lib.hid (tellC_no e1)
    clear e1
    obtain ⟨a2, q2, rfl, _⟩ := o2.seg
    go_wp2_with fail; refine (l3Has_any c _ a b p q _).mono ?_; rintro _ w2 ⟨rfl, hbw2⟩; have hCw2 : Below w.heap.size w w2 := bT (by (repeat (first | with_reducible assumption | with_reducible exact Below.refl _ _ | with_reducible refine bA ?_ | with_reducible refine bD ?_ | ((with_reducible refine bS ?_ ?_); rotate_left; (focus ((try simp); (try omega)))) | ((with_reducible refine bBx ?_ ?_); rotate_left; (focus ((try simp); (try omega))))))) hbw2; have hsw2 := hbw2.size; (try (simp at hsw2)); have zz := fun o => hbw2.cell (p := ⟨w1.heap.size, o, none⟩) (by ((try simp) <;> (try omega))); (first | (simp [go_sem, x_w1, l_w1, l_w1, k0, k1, k2, k3] at zz) | (simp [go_sem, x_w1, l_w1, l_w1] at zz) | (simp [go_sem] at zz) | skip); (try clear x_w1); have x_w1 := zz; clear zz; have zz := fun o => hbw2.frozen (p := ⟨w1.heap.size, o, none⟩) (by ((try simp) <;> (try omega))); (first | (simp [go_sem, f_w1, l_w1, l_w1, k0, k1, k2, k3] at zz) | (simp [go_sem, f_w1, l_w1, l_w1] at zz) | (simp [go_sem] at zz) | skip); (try clear f_w1); have f_w1 := zz; clear zz; (try clear l_w1); have l_w1 : w1.heap.size < w2.heap.size := (by omega); have zz := fun o => hbw2.cell (p := ⟨w.heap.size + 1, o, none⟩) (by ((try simp) <;> (try omega))); (first | (simp [go_sem, x_wp, l_wp, l_w, k0, k1, k2, k3] at zz) | (simp [go_sem, x_wp, l_wp, l_w] at zz) | (simp [go_sem] at zz) | skip); (try clear x_wp); have x_wp := zz; clear zz; have zz := fun o => hbw2.frozen (p := ⟨w.heap.size + 1, o, none⟩) (by ((try simp) <;> (try omega))); (first | (simp [go_sem, f_wp, l_wp, l_w, k0, k1, k2, k3] at zz) | (simp [go_sem, f_wp, l_wp, l_w] at zz) | (simp [go_sem] at zz) | skip); (try clear f_wp); have f_wp := zz; clear zz; (try clear l_wp); have l_wp : w.heap.size + 1 < w2.heap.size := (by omega); have zz := fun o => hbw2.cell (p := ⟨w.heap.size, o, none⟩) (by ((try simp) <;> (try omega))); (first | (simp [go_sem, x_w, l_w, l_w, k0, k1, k2, k3] at zz) | (simp [go_sem, x_w, l_w, l_w] at zz) | (simp [go_sem] at zz) | skip); (try clear x_w); have x_w := zz; clear zz; have zz := fun o => hbw2.frozen (p := ⟨w.heap.size, o, none⟩) (by ((try simp) <;> (try omega))); (first | (simp [go_sem, f_w, l_w, l_w, k0, k1, k2, k3] at zz) | (simp [go_sem, f_w, l_w, l_w] at zz) | (simp [go_sem] at zz) | skip); (try clear f_w); have f_w := zz; clear zz; (try clear l_w); have l_w : w.heap.size < w2.heap.size := (by omega); have hKw2 : Below w1.heap.size w1 w2 := bT (by (repeat (first | with_reducible assumption | with_reducible exact Below.refl _ _ | with_reducible refine bA ?_ | with_reducible refine bD ?_ | ((with_reducible refine bS ?_ ?_); rotate_left; (focus ((try simp); (try omega)))) | ((with_reducible refine bBx ?_ ?_); rotate_left; (focus ((try simp); (try omega))))))) hbw2; clear hbw2
    have p1 := own_below o1 hKw2
    have p2 := own_below o2 hKw2
    go_wp2
    rw [HT.out, HW.out]
    refine bodyPost_ret (v := .tuple #[.agg #[.int .i64 c.cap, .int .i64 c.sent, .int .i64 c.got, .int .i64 c.fin, .slice a1 c.cells.length q1, .slice a2 c.words.length q2], .bool false]) (by simp [results, Try.results27, go_sem, *]) rfl ⟨⟨_, _, rfl, own_lo (lo := w.heap.size + 1 + 1) ?_ (by omega), own_lo (lo := w.heap.size + 1 + 1) ?_ (by omega)⟩, by (repeat (first | with_reducible assumption | with_reducible exact Below.refl _ _ | with_reducible refine bA ?_ | with_reducible refine bD ?_ | ((with_reducible refine bS ?_ ?_); rotate_left; (focus ((try simp); (try omega)))) | ((with_reducible refine bBx ?_ ?_); rotate_left; (focus ((try simp); (try omega))))))⟩
    · (repeat (first | with_reducible exact p1 | with_reducible refine World.ownsRow.alloc ?_ _ | with_reducible refine World.ownsRow.drew ?_ | ((with_reducible refine own_store ?_ ?_ _); rotate_left; (focus (first | (refine own_ne o1 ?_; (try dsimp only); omega) | (refine own_ne' o1 ?_; (try dsimp only); omega)))) | ((with_reducible refine own_box ?_ ?_); rotate_left; (focus (first | (refine own_ne o1 ?_; (try dsimp only); omega) | (refine own_ne' o1 ?_; (try dsimp only); omega))))))
    · (repeat (first | with_reducible exact p2 | with_reducible refine World.ownsRow.alloc ?_ _ | with_reducible refine World.ownsRow.drew ?_ | ((with_reducible refine own_store ?_ ?_ _); rotate_left; (focus (first | (refine own_ne o2 ?_; (try dsimp only); omega) | (refine own_ne' o2 ?_; (try dsimp only); omega)))) | ((with_reducible refine own_box ?_ ?_); rotate_left; (focus (first | (refine own_ne o2 ?_; (try dsimp only); omega) | (refine own_ne' o2 ?_; (try dsimp only); omega))))))
end Go.Proofs.Ytpllffabdgngcaa
