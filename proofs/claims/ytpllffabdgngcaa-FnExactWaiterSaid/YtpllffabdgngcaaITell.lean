/-
  The program's telling of a word: the closure that tells, and who makes it; lists hold at most 2 ^ 40 elements.
-/
import Derived.Test.YtpllffabdgngcaaICopy
import Derived.Test.YtpllffabdgngcaaSTold
namespace Go.Proofs.Ytpllffabdgngcaa
open Go.RowKit
theorem gr_of_below {w w' : World} {row : Option Nat} (h : Below w.heap.size w w') : w.grownBy w' row := ⟨h.os, h.tape, h.output, h.size, fun i hi _ => h.block i hi⟩
theorem gr_set {w w' : World} {g : Nat} (h : Below w.heap.size w w') (o : Nat) (u : Value) : w.grownBy (w'.setCell ⟨g, o, none⟩ u) (some g) :=
  ⟨h.os, h.tape, h.output, by simp [World.setCell]; exact h.size, fun i hi hn => by rw [Below.heap_setCell w' ⟨g, o, none⟩ u i (fun e => hn (by rw [e]))]; exact h.block i hi⟩
set_option maxRecDepth 100000 in
set_option maxHeartbeats 1000000 in
theorem teller1_any (c : Ch) (v x : Int) (g1 g2 : Nat) (v2 : Value) (lo : Nat) (w : World) (h : OInts w lo v2 c.words) (c1 : w.cell? ⟨g1, 0, none⟩ = some v2) (c2 : w.cell? ⟨g2, 0, none⟩ = some (.int .i64 v)) (hm : c.words.length ≤ 1099511627776) :
    Calls Try.prog 46 #[.int .i64 x, .pointer (some ⟨g1, 0, none⟩), .pointer (some ⟨g2, 0, none⟩)] w fun r w' => r = .returned (.bool (tellB c v x)) ∧ OInts w' lo v2 (tellC c v x).words ∧ w.grownBy w' v2.ownBlock := by
  have l1 := World.block_lt_of_cell? w _ c1
  have l2 := World.block_lt_of_cell? w _ c2
  simp only at l1 l2
  by_cases hh : hasW c v = true
  · obtain ⟨a1, a2⟩ := hasW_iff.1 hh
    obtain ⟨i, rfl⟩ : ∃ i : Nat, v = (i : Int) + 1 := ⟨(v - 1).toNat, by omega⟩
    have hi : i < c.words.length := by omega
    obtain ⟨g, cap, rfl, hlo, hlt, hcell, hfr⟩ := h.open1 hi
    have e : wordAt c ((i : Int) + 1) = c.words.getD i 0 := by simp [wordAt]
    have HE := Lib.hid e
    have HO := Lib.hid h
    clear e h
    generalize c.words.getD i 0 = y at hcell HE
    have hi0 : (0 : Int) ≤ (i : Int) := by omega
    have hi1 : (i : Int) < (c.words.length : Int) := by omega
    go_enter Try.func46, Try.ntmps46
    go_wp2_with fail
    refine (isWaiter_any c _ _ cap _).mono ?_
    rintro _ w1 ⟨rfl, hb1⟩
    have d1 := (hb1.cell (p := ⟨g1, 0, none⟩) l1).trans c1
    have d2 := (hb1.cell (p := ⟨g2, 0, none⟩) l2).trans c2
    have d3 := (hb1.cell (p := ⟨g, i, none⟩) hlt).trans hcell
    have d4 := fun o => (hb1.frozen (p := ⟨g, o, none⟩) hlt).trans (hfr o)
    have o1 := own_below HO.out hb1
    by_cases ht : tellB c ((i : Int) + 1) x = true
    · have ht2 := ht
      unfold tellB at ht2
      rw [HE.out] at ht2
      simp [hh] at ht2
      obtain ⟨rfl, hin⟩ := ht2
      have HW : Hid ((tellC c ((i : Int) + 1) x).words = c.words.set i x) := by unfold tellC; rw [if_pos ht]; simp [Hid]
      have HT := Lib.hid ht
      have hx : x = 1 ∨ x = 2 := by simp [inB] at hin; omega
      have hx2 : (x != 1 && x != 2) = false := by rcases hx with rfl | rfl <;> rfl
      clear ht HE hin
      rcases hx with rfl | rfl
      all_goals go_wp2
      all_goals go_ret
      all_goals exact ⟨ret_bool (by rw [HT.out]), by rw [HW.out]; exact OInts.set o1 hi _, gr_set hb1 _ _⟩
    · have e1 : tellB c ((i : Int) + 1) x = false := by simpa using ht
      have HT := Lib.hid e1
      have HW := Lib.hid (tellC_no e1)
      unfold tellB at e1
      rw [HE.out] at e1
      simp [hh] at e1
      clear HE ht
      by_cases hy : y = 0
      · subst hy
        have hin := e1 rfl
        have hx1 : (x != 1) = true := by simp [inB] at hin; simp; omega
        have hx2 : (x != 2) = true := by simp [inB] at hin; simp; omega
        clear e1 hin
        go_wp2
        go_ret
        exact ⟨ret_bool (by rw [HT.out]), by rw [HW.out]; exact o1, gr_of_below hb1⟩
      · have hy2 : (y != 0) = true := by simpa using hy
        clear e1 hy
        go_wp2
        go_ret
        exact ⟨ret_bool (by rw [HT.out]), by rw [HW.out]; exact o1, gr_of_below hb1⟩
  · have e1 := tellB_no1 (x := x) (by simpa using hh)
    have HT := Lib.hid e1
    have HW := Lib.hid (tellC_no e1)
    clear e1
    have HO := Lib.hid h
    obtain ⟨a2, q2, rfl, _⟩ := h.seg
    clear h
    go_enter Try.func46, Try.ntmps46
    go_wp2_with fail
    refine (isWaiter_any c _ _ q2 _).mono ?_
    rintro _ w1 ⟨rfl, hb1⟩
    have o1 := own_below HO.out hb1
    go_wp2
    go_ret
    exact ⟨ret_bool (by rw [HT.out]), by rw [HW.out]; exact o1, gr_of_below hb1⟩
/- What is answered to a telling and to a waiter. -/
def told (c : Ch) (v x : Int) : Ch := if chanOk c then tellC c v x else Ch.zero
def toldB (c : Ch) (v x : Int) : Bool := chanOk c && tellB c v x
def waitC (c : Ch) : Ch := if chanOk c then (if 80 ≤ c.words.length then c else { c with words := c.words ++ [0] }) else Ch.zero
def waitN (c : Ch) : Int := if chanOk c then (if 80 ≤ c.words.length then 0 else c.words.length + 1) else 0
theorem told_no {c : Ch} {v x : Int} (h : chanOk c = false) : told c v x = Ch.zero ∧ toldB c v x = false := by simp [told, toldB, h]
theorem told_yes {c : Ch} {v x : Int} (h : chanOk c = true) : told c v x = tellC c v x ∧ toldB c v x = tellB c v x := by simp [told, toldB, h]
theorem tellC_cells (c : Ch) (v x : Int) : (tellC c v x).cells = c.cells ∧ (tellC c v x).cap = c.cap ∧ (tellC c v x).sent = c.sent ∧ (tellC c v x).got = c.got ∧ (tellC c v x).fin = c.fin := by unfold tellC; split <;> simp
theorem tellC_len (c : Ch) (v x : Int) : (tellC c v x).words.length = c.words.length := by unfold tellC; split <;> simp
end Go.Proofs.Ytpllffabdgngcaa
