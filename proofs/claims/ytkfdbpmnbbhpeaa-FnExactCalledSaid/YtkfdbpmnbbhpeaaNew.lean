/-
  Lists of a call's own that lie from the start of a block on; no condition.
-/
import Derived.Test.YtkfdbpmnbbhpeaaOwn
set_option linter.unusedSimpArgs false
set_option linter.unusedVariables false
namespace Go.Proofs.Ytkfdbpmnbbhpeaa
open Go.RowKit
/-- Block b begins with n elements of k cells each, none frozen; f says what each cell holds. -/
def Lie (w : World) (b n k : Nat) (f : Nat → Nat → Value) : Prop :=
  ∃ (c : Array Value) (t : TypeId), w.heap[b]? = some (.cells c t (0, 0)) ∧ n * k ≤ c.size ∧ ∀ i j, i < n → j < k → c[i * k + j]? = some (f i j)
namespace Lie
variable {w w' : World} {b n k : Nat} {f g : Nat → Nat → Value}
theorem cell (h : Lie w b n k f) {i j : Nat} (hi : i < n) (hj : j < k) : w.cell? ⟨b, i * k + j, none⟩ = some (f i j) := by
  obtain ⟨c, t, hb, _, hc⟩ := h
  simp [World.cell?, hb, hc i j hi hj]
theorem frozen (h : Lie w b n k f) (o : Nat) : w.frozen? ⟨b, o, none⟩ = false := by
  obtain ⟨c, t, hb, _, _⟩ := h
  simp [World.frozen?, hb]
theorem lt (h : Lie w b n k f) : b < w.heap.size := by
  obtain ⟨c, t, hb, _, _⟩ := h
  exact (Array.getElem?_eq_some_iff.1 hb).1
theorem congr (h : Lie w b n k f) (e : ∀ i j, i < n → j < k → f i j = g i j) : Lie w b n k g := by
  obtain ⟨c, t, hb, hn, hc⟩ := h
  exact ⟨c, t, hb, hn, fun i j hi hj => by rw [hc i j hi hj, e i j hi hj]⟩
theorem of_block (h : Lie w b n k f) (e : w'.heap[b]? = w.heap[b]?) : Lie w' b n k f := by
  obtain ⟨c, t, hb, hn, hc⟩ := h
  exact ⟨c, t, e.trans hb, hn, hc⟩
theorem below {B : Nat} (h : Lie w b n k f) (hb : Below B w w') (hB : b < B) : Lie w' b n k f := h.of_block (hb.block b hB)
theorem set (h : Lie w b n k f) {i j : Nat} (hi : i < n) (hj : j < k) (v : Value) : Lie (w.setCell ⟨b, i * k + j, none⟩ v) b n k (fun i' j' => if i' = i ∧ j' = j then v else f i' j') := by
  obtain ⟨c, t, hb, hn, hc⟩ := h
  refine ⟨c.setIfInBounds (i * k + j) v, t, ?_, by simpa using hn, fun i' j' hi' hj' => ?_⟩
  · simp [World.setCell, Array.getElem?_modify, hb]
  · rw [Array.getElem?_setIfInBounds]
    by_cases e : i * k + j = i' * k + j'
    · obtain ⟨rfl, rfl⟩ := Row.idx hj hj' e
      have hlt : i * k + j < c.size := (Array.getElem?_eq_some_iff.1 (hc i j hi hj)).1
      simp [hlt]
    · rw [if_neg e]
      show c[i' * k + j']? = some (if i' = i ∧ j' = j then v else f i' j')
      rw [if_neg (fun h => e (by rw [h.1, h.2]))]
      exact hc i' j' hi' hj'
theorem set3 (h : Lie w b n 3 f) {i : Nat} (hi : i < n) (v : Nat → Value) :
    Lie (((w.setCell ⟨b, i * 3, none⟩ (v 0)).setCell ⟨b, i * 3 + 1, none⟩ (v 1)).setCell ⟨b, i * 3 + 2, none⟩ (v 2)) b n 3 (fun i' j' => if i' = i then v j' else f i' j') := by
  refine (((h.set hi (j := 0) (by omega) (v 0)).set hi (j := 1) (by omega) (v 1)).set hi (j := 2) (by omega) (v 2)).congr fun i' j' _ hj => ?_
  have : j' = 0 ∨ j' = 1 ∨ j' = 2 := by omega
  rcases this with rfl | rfl | rfl <;> by_cases e : i' = i <;> simp [e]
theorem set1 (h : Lie w b n 1 f) {i : Nat} (hi : i < n) (v : Value) :
    Lie (w.setCell ⟨b, i, none⟩ v) b n 1 (fun i' j' => if i' = i then v else f i' j') := by
  have h1 := h.set hi (j := 0) (by omega) v
  simp only [Nat.mul_one, Nat.add_zero] at h1
  refine h1.congr fun i' j' _ hj => ?_
  have : j' = 0 := by omega
  subst this
  by_cases e : i' = i <;> simp [e]
theorem seg (h : Lie w b n k f) : Seg w w.heap.size (some ⟨b, 0, none⟩) n k f := .inr ⟨b, 0, rfl, h.lt, fun i j hi hj => by simpa using h.cell hi hj⟩
end Lie
theorem Row.lie {w : World} {b : Nat} {t : TypeId} {n k : Nat} {f : Nat → Nat → Value} (h : Row w b t n k f) : Lie w b n k f := by
  obtain ⟨c, hb, hn, hc⟩ := h
  exact ⟨c, t, hb, Nat.le_of_eq hn.symm, hc⟩
/-- A list of n elements that is nothing, or lies from the start of a block on that is at or above lo. -/
def New (w : World) (lo : Nat) (v : Value) (n k : Nat) (f : Nat → Nat → Value) : Prop :=
  (v = .slice none 0 0 ∧ n = 0) ∨ ∃ g cap, v = .slice (some ⟨g, 0, none⟩) n cap ∧ lo ≤ g ∧ Lie w g n k f
abbrev NewI (w : World) (lo : Nat) (v : Value) (l : List Int) : Prop := New w lo v l.length 1 (intF l)
abbrev NewC (w : World) (lo : Nat) (v : Value) (cs : List C3) : Prop := New w lo v cs.length 3 (cellF cs)
namespace New
variable {w w1 : World} {lo n k : Nat} {v : Value} {f : Nat → Nat → Value}
theorem below (h : New w lo v n k f) (hb : Below w.heap.size w w1) : New w1 lo v n k f := by
  rcases h with h | ⟨g, cap, h1, h2, h3⟩
  · exact .inl h
  · exact .inr ⟨g, cap, h1, h2, h3.below hb h3.lt⟩
theorem more {lo' : Nat} (h : New w lo v n k f) (hl : lo' ≤ lo) : New w lo' v n k f := by
  rcases h with h | ⟨g, cap, h1, h2, h3⟩
  · exact .inl h
  · exact .inr ⟨g, cap, h1, Nat.le_trans hl h2, h3⟩
theorem kept {row : Option Nat} (h : New w lo v n k f) (hg : w.grownBy w1 row) (hn : row = none ∨ v.ownBlock ≠ row) : New w1 lo v n k f := by
  rcases h with h | ⟨g, cap, h1, h2, h3⟩
  · exact .inl h
  · refine .inr ⟨g, cap, h1, h2, h3.of_block (hg.block g h3.lt fun e => ?_)⟩
    subst h1
    rcases hn with rfl | hn
    · cases e
    · exact hn (by rw [← e]; rfl)
theorem seg (h : New w lo v n k f) : ∃ a cap, v = .slice a n cap ∧ Seg w w.heap.size a n k f := by
  rcases h with ⟨rfl, rfl⟩ | ⟨g, cap, rfl, _, h3⟩
  · exact ⟨none, 0, rfl, .inl rfl⟩
  · exact ⟨_, cap, rfl, h3.seg⟩
theorem lt (h : New w lo v n k f) {b : Nat} (hb : v.ownBlock = some b) : lo ≤ b ∧ b < w.heap.size := by
  rcases h with ⟨rfl, _⟩ | ⟨g, cap, rfl, h2, h3⟩
  · cases hb
  · simp [Value.ownBlock] at hb
    subst hb
    exact ⟨h2, h3.lt⟩
end New
theorem OInts.new {w : World} {lo : Nat} {v : Value} {l : List Int} (h : OInts w lo v l) : NewI w lo v l := by
  rcases h.2 with ⟨h1, h0⟩ | ⟨g, cap, cur, rfl, hl, hg, h4, h5, h6, h7⟩
  · exact .inl ⟨h1, h0⟩
  · refine .inr ⟨g, cap, rfl, hl, cur, _, hg, ?_, fun i j hi hj => ?_⟩
    · have e := congrArg List.length h7
      rw [List.length_take, ints_len] at e
      simp at e; omega
    · have hj0 : j = 0 := by omega
      subst hj0
      have := h.cells (g := g) rfl i (intF l i 0) (by simp [ints, intF, List.getD, hi])
      have e2 : (⟨g, 0, none⟩ : Addr).add i = ⟨g, i, none⟩ := by by_cases e : i = 0 <;> simp [Addr.add, e]
      rw [e2] at this
      simpa [World.cell?, hg] using this
/-- Of what was there, the blocks a and b alone may have turned. -/
def Onl (a b : Option Nat) (w w' : World) : Prop :=
  w'.os = w.os ∧ w'.tape = w.tape ∧ w'.output = w.output ∧ w.heap.size ≤ w'.heap.size ∧ ∀ i, i < w.heap.size → some i ≠ a → some i ≠ b → w'.heap[i]? = w.heap[i]?
theorem onlB {a b : Option Nat} {w W : World} (h : Below w.heap.size w W) : Onl a b w W := ⟨h.os, h.tape, h.output, h.size, fun i hi _ _ => h.block i hi⟩
theorem onlT {a b : Option Nat} {w W w1 : World} (h : Onl a b w W) (k : Onl a b W w1) : Onl a b w w1 :=
  ⟨k.1.trans h.1, k.2.1.trans h.2.1, k.2.2.1.trans h.2.2.1, Nat.le_trans h.2.2.2.1 k.2.2.2.1, fun i hi h1 h2 => (k.2.2.2.2 i (Nat.lt_of_lt_of_le hi h.2.2.2.1) h1 h2).trans (h.2.2.2.2 i hi h1 h2)⟩
theorem onl1 {a b : Option Nat} {w W : World} (h : w.grownBy W a) : Onl a b w W := ⟨h.os, h.tape, h.output, h.size, fun i hi h1 _ => h.block i hi h1⟩
theorem onl2 {a b : Option Nat} {w W : World} (h : w.grownBy W b) : Onl a b w W := ⟨h.os, h.tape, h.output, h.size, fun i hi _ h1 => h.block i hi h1⟩
/-- What turned nothing but a and b, both above, made memory only. -/
theorem bOnl {a b : Option Nat} {w W w1 : World} (h : Below w.heap.size w W) (k : Onl a b W w1) (ha : ∀ i, a = some i → w.heap.size ≤ i) (hb : ∀ i, b = some i → w.heap.size ≤ i) : Below w.heap.size w w1 :=
  ⟨k.1.trans h.os, k.2.1.trans h.tape, k.2.2.1.trans h.output, Nat.le_trans h.size k.2.2.2.1, fun i hi => (k.2.2.2.2 i (Nat.lt_of_lt_of_le hi h.size) (fun e => by have := ha i e.symm; omega) (fun e => by have := hb i e.symm; omega)).trans (h.block i hi)⟩
theorem New.keptO {w w1 : World} {lo n k : Nat} {v : Value} {f : Nat → Nat → Value} {a b : Option Nat} (h : New w lo v n k f) (ho : Onl a b w w1) (h1 : ∀ i, v.ownBlock = some i → a ≠ some i) (h2 : ∀ i, v.ownBlock = some i → b ≠ some i) : New w1 lo v n k f := by
  rcases h with h | ⟨g, cap, e, h3, h4⟩
  · exact .inl h
  · subst e
    exact .inr ⟨g, cap, rfl, h3, h4.of_block (ho.2.2.2.2 g h4.lt (fun e => h1 g rfl e.symm) (fun e => h2 g rfl e.symm))⟩
theorem onlCell {a b : Option Nat} {w w1 : World} (ho : Onl a b w w1) {i : Nat} (hi : i < w.heap.size) (h1 : some i ≠ a) (h2 : some i ≠ b) (o : Nat) : w1.cell? ⟨i, o, none⟩ = w.cell? ⟨i, o, none⟩ := World.cell?_of_block (ho.2.2.2.2 i hi h1 h2)
theorem onlFroz {a b : Option Nat} {w w1 : World} (ho : Onl a b w w1) {i : Nat} (hi : i < w.heap.size) (h1 : some i ≠ a) (h2 : some i ≠ b) (o : Nat) : w1.frozen? ⟨i, o, none⟩ = w.frozen? ⟨i, o, none⟩ := World.frozen?_of_block (ho.2.2.2.2 i hi h1 h2)
theorem grCell {r : Option Nat} {b : Nat} {w w1 : World} (h : w.grownBy w1 r) (hb : b < w.heap.size) (hn : some b ≠ r) (o : Nat) : w1.cell? ⟨b, o, none⟩ = w.cell? ⟨b, o, none⟩ := World.cell?_of_block (h.block b hb hn)
theorem grA {w W : World} {r : Option Nat} (o : Obj) (h : (w.alloc o).grownBy W r) : w.grownBy W r :=
  ⟨h.os, h.tape, h.output, Nat.le_trans (by simp) h.size, fun i hi hn => (h.block i (by simp; omega) hn).trans (Below.heap_alloc w o i hi)⟩
theorem grFroz {r : Option Nat} {b : Nat} {w w1 : World} (h : w.grownBy w1 r) (hb : b < w.heap.size) (hn : some b ≠ r) (o : Nat) : w1.frozen? ⟨b, o, none⟩ = w.frozen? ⟨b, o, none⟩ := World.frozen?_of_block (h.block b hb hn)
theorem grB {w W w1 : World} {r : Option Nat} (h : Below w.heap.size w W) (k : W.grownBy w1 r) : w.grownBy w1 r :=
  ⟨k.os.trans h.os, k.tape.trans h.tape, k.output.trans h.output, Nat.le_trans h.size k.size, fun i hi hn => (k.block i (Nat.lt_of_lt_of_le hi h.size) hn).trans (h.block i hi)⟩
end Go.Proofs.Ytkfdbpmnbbhpeaa
