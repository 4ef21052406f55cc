/-
  Lists in memory that a call has made itself, and lists that are appended to them; no condition.
-/
import Derived.Test.YtkfdbpmnbbhpeaaBase
import Derived.Laws.AppendOwnNone
set_option linter.unusedSimpArgs false
set_option linter.unusedVariables false
namespace Go.Proofs.Ytkfdbpmnbbhpeaa
open Go.RowKit
theorem rCell {g b : Nat} {w w1 : World} (h : w.grownBy w1 (some g)) (hb : b < w.heap.size) (hn : b ≠ g) (o : Nat) : w1.cell? ⟨b, o, none⟩ = w.cell? ⟨b, o, none⟩ := World.cell?_of_block (h.block b hb (by simpa using hn))
theorem rFroz {g b : Nat} {w w1 : World} (h : w.grownBy w1 (some g)) (hb : b < w.heap.size) (hn : b ≠ g) (o : Nat) : w1.frozen? ⟨b, o, none⟩ = w.frozen? ⟨b, o, none⟩ := World.frozen?_of_block (h.block b hb (by simpa using hn))
def intF (l : List Int) (i _j : Nat) : Value := .int .i64 (l.getD i 0)
def flatC (cs : List C3) : List Value := cs.flatMap fun c => [.int .i64 c.s, .int .i64 c.e, .int .i64 c.t]
theorem flatC_snoc (cs : List C3) (c : C3) : flatC (cs ++ [c]) = flatC cs ++ [.int .i64 c.s, .int .i64 c.e, .int .i64 c.t] := by simp [flatC]
theorem flatC_len (cs : List C3) : (flatC cs).length = cs.length * 3 := by
  induction cs with
  | nil => rfl
  | cons c cs ih => simp [flatC] at *; omega
theorem flatC_get : ∀ (cs : List C3) (i j : Nat), i < cs.length → j < 3 → (flatC cs)[i * 3 + j]? = some (cellF cs i j)
  | [], i, j, hi, _ => by simp at hi
  | c :: cs, 0, j, _, hj => by
    have : j = 0 ∨ j = 1 ∨ j = 2 := by omega
    rcases this with rfl | rfl | rfl <;> simp [flatC, cellF, C3.val]
  | c :: cs, i + 1, j, hi, hj => by
    have h := flatC_get cs i j (by simpa using hi) hj
    have e : (i + 1) * 3 + j = (i * 3 + j) + 3 := by omega
    rw [e]
    simpa [flatC, cellF] using h
theorem flatC_one (cs : List C3) : ∀ u ∈ flatC cs, u.oneCell' = true := by
  intro u hu
  simp only [flatC, List.mem_flatMap] at hu
  obtain ⟨c, _, hc⟩ := hu
  simp at hc
  rcases hc with rfl | rfl | rfl <;> rfl
def ints (l : List Int) : List Value := l.map (Value.int .i64)
theorem ints_one (l : List Int) : ∀ u ∈ ints l, u.oneCell' = true := by
  intro u hu
  obtain ⟨x, _, rfl⟩ := List.mem_map.1 hu
  rfl
theorem bOwn {w W w1 : World} {lo : Nat} {row : Option Nat} (h : Below lo w W) (hg : W.grownBy w1 row) (hB : lo ≤ W.heap.size) (hr : ∀ k, row = some k → lo ≤ k) : Below lo w w1 := h.grown hg hB hr
abbrev OInts (w : World) (lo : Nat) (v : Value) (l : List Int) : Prop := w.ownsRow lo 2 1 v l.length (ints l)
theorem news3 (w : World) (x y z : Value) (t : TypeId) : ∀ j u, [x, y, z][j]? = some u → (w.alloc (.cells #[x, y, z] t)).cell? ((⟨w.heap.size, 0, none⟩ : Addr).add j) = some u := by
  intro j u h
  have hj : j < 3 := (List.getElem?_eq_some_iff.1 h).1
  have : j = 0 ∨ j = 1 ∨ j = 2 := by omega
  rcases this with rfl | rfl | rfl <;> simp [Addr.add] at h ⊢ <;> exact h
theorem OInts.seg {w : World} {lo : Nat} {v : Value} {l : List Int} (h : OInts w lo v l) : ∃ (a : Option Addr) (cap : Nat), v = .slice a l.length cap ∧ Seg w w.heap.size a l.length 1 (intF l) := by
  rcases h.2 with ⟨rfl, h0⟩ | ⟨g, cap, cur, rfl, _, hg, _⟩
  · exact ⟨none, 0, by rw [h0], .inl h0⟩
  · refine ⟨_, cap, rfl, .inr ⟨g, 0, rfl, (Array.getElem?_eq_some_iff.1 hg).1, fun i j hi hj => ?_⟩⟩
    have hj0 : j = 0 := by omega
    subst hj0
    have := h.cells (g := g) rfl i (intF l i 0) (by simp [ints, intF, List.getD, hi])
    rw [← this]
    congr 1
    by_cases e : i = 0 <;> simp [Addr.add, e] <;> omega
theorem OInts.snoc {w : World} {lo : Nat} {v : Value} {l : List Int} {x : Int} (h : w.ownsRow lo 2 1 v (l.length + 1) (ints l ++ [.int .i64 x])) : OInts w lo v (l ++ [x]) := by
  have e : ints (l ++ [x]) = ints l ++ [.int .i64 x] := by simp [ints]
  unfold OInts
  rw [e, List.length_append]
  exact h
/-- What lies from an address on, cell by cell. -/
theorem Seg.newsC {w : World} {B b o : Nat} {cs : List C3} (h : Seg w B (some ⟨b, o, none⟩) cs.length 3 (cellF cs)) : ∀ j u, (flatC cs)[j]? = some u → w.cell? ((⟨b, o, none⟩ : Addr).add j) = some u := by
  intro j u hu
  have hj : j < cs.length * 3 := by rw [← flatC_len]; exact (List.getElem?_eq_some_iff.1 hu).1
  rcases h with h0 | ⟨b', o', e, _, hc⟩
  · omega
  · simp at e
    obtain ⟨rfl, rfl⟩ := e
    have e2 : j = j / 3 * 3 + j % 3 := by omega
    have h1 := flatC_get cs (j / 3) (j % 3) (by omega) (by omega)
    rw [← e2] at h1
    have h2 := hc (j / 3) (j % 3) (by omega) (by omega)
    rw [h1] at hu
    simp at hu
    rw [← hu, ← h2]
    congr 1
    by_cases e : j = 0 <;> simp [Addr.add, e] <;> omega
theorem Seg.newsI {w : World} {B b o : Nat} {l : List Int} (h : Seg w B (some ⟨b, o, none⟩) l.length 1 (intF l)) : ∀ j u, (ints l)[j]? = some u → w.cell? ((⟨b, o, none⟩ : Addr).add j) = some u := by
  intro j u hu
  have hj : j < l.length := by have := (List.getElem?_eq_some_iff.1 hu).1; simpa [ints] using this
  rcases h with h0 | ⟨b', o', e, _, hc⟩
  · omega
  · simp at e
    obtain ⟨rfl, rfl⟩ := e
    have h2 := hc j 0 hj (by omega)
    have : u = intF l j 0 := by simp [ints, hj] at hu; simp [intF, List.getD, hj, ← hu]
    rw [this, ← h2]
    congr 1
    by_cases e : j = 0 <;> simp [Addr.add, e]
/-- An empty row that has just been made. -/
theorem own_made (w : World) (lo : Nat) (e : TypeId) (k : Nat) (h : lo ≤ w.heap.size) : (w.alloc (.cells #[] e)).ownsRow lo e k (.slice (some ⟨w.heap.size, 0, none⟩) 0 0) 0 [] :=
  World.ownsRow_made w #[] 0 h (by simp) (by simp)
theorem own_made_at (w : World) (lo : Nat) (e : TypeId) (k n : Nat) (hn : n = w.heap.size) (h : lo ≤ w.heap.size) : (w.alloc (.cells #[] e)).ownsRow lo e k (.slice (some ⟨n, 0, none⟩) 0 0) 0 [] := by
  subst hn; exact own_made w lo e k h
theorem cell_alloc_of {w : World} {p : Addr} {u : Value} {o : Obj} (h : w.cell? p = some u) : (w.alloc o).cell? p = some u := by
  rw [World.cell?_alloc_lt _ _ _ (World.block_lt_of_cell? w p h)]; exact h
theorem own_lo {w : World} {lo lo' : Nat} {e : TypeId} {k n : Nat} {v : Value} {xs : List Value} (h : w.ownsRow lo e k v n xs) (hl : lo' ≤ lo) : w.ownsRow lo' e k v n xs := by
  refine ⟨h.1, ?_⟩
  rcases h.2 with h | ⟨g, cap, cur, h1, h2, h3⟩
  · exact .inl h
  · exact .inr ⟨g, cap, cur, h1, Nat.le_trans hl h2, h3⟩
theorem own_ne {w : World} {lo : Nat} {e : TypeId} {k n : Nat} {v : Value} {xs : List Value} (h : w.ownsRow lo e k v n xs) {b : Nat} (hb : b < lo) : v.ownBlock ≠ some b := fun he => by have := (h.lt b he).1; omega
theorem own_below {w w1 : World} {lo : Nat} {e : TypeId} {k n : Nat} {v : Value} {xs : List Value} (h : w.ownsRow lo e k v n xs) (hb : Below w.heap.size w w1) : w1.ownsRow lo e k v n xs :=
  h.kept (row := none) ⟨hb.os, hb.tape, hb.output, hb.size, fun i hi _ => hb.block i hi⟩ (by cases v.ownBlock <;> simp)
theorem oAl {w : World} {lo : Nat} {e : TypeId} {k n : Nat} {v : Value} {xs : List Value} (h : w.ownsRow lo e k v n xs) (o : Obj) : (w.alloc o).ownsRow lo e k v n xs := World.ownsRow.alloc h o
theorem oDr {w : World} {lo : Nat} {e : TypeId} {k n : Nat} {v : Value} {xs : List Value} (h : w.ownsRow lo e k v n xs) : w.drew.ownsRow lo e k v n xs := h
theorem own_store {w : World} {lo : Nat} {e : TypeId} {k n : Nat} {v : Value} {xs : List Value} (h : w.ownsRow lo e k v n xs) {p : Addr} (hp : v.ownBlock ≠ some p.block) (u : Value) : (w.setCell p u).ownsRow lo e k v n xs :=
  h.kept (row := some p.block) ⟨rfl, rfl, rfl, by simp [World.setCell], fun i _ hn => Below.heap_setCell w p u i (fun e => hn (by rw [e]))⟩ (.inr hp)
theorem own_set_cell {w : World} {lo : Nat} {e : TypeId} {k g n cap : Nat} {xs : List Value} (h : w.ownsRow lo e k (.slice (some ⟨g, 0, none⟩) n cap) n xs) (i : Nat) (hi : i < xs.length) (u : Value) :
    (w.setCell ⟨g, i, none⟩ u).ownsRow lo e k (.slice (some ⟨g, 0, none⟩) n cap) n (xs.set i u) := by
  refine ⟨by simpa using h.1, ?_⟩
  rcases h.2 with ⟨h0, _⟩ | ⟨g', cap', cur, h1, h2, h3, h4, h5, h6, h7⟩
  · simp at h0
  · simp at h1
    obtain ⟨rfl, rfl⟩ := h1
    refine .inr ⟨g, cap, cur.setIfInBounds i u, rfl, h2, by simp [World.setCell, Array.getElem?_modify, h3], h4, h5, by simpa using h6, ?_⟩
    rw [Array.toList_setIfInBounds, ← h7, List.take_set]
theorem ints_set (l : List Int) (i : Nat) (x : Int) : ints (l.set i x) = (ints l).set i (.int .i64 x) := by simp [ints, List.map_set]
theorem ints_len (l : List Int) : (ints l).length = l.length := by simp [ints]
theorem flatC_set : ∀ (cs : List C3) (i : Nat) (c : C3), flatC (cs.set i c) = (((flatC cs).set (i * 3) (.int .i64 c.s)).set (i * 3 + 1) (.int .i64 c.e)).set (i * 3 + 2) (.int .i64 c.t)
  | [], i, c => by simp [flatC]
  | d :: cs, 0, c => by simp [flatC]
  | d :: cs, i + 1, c => by
    have h := flatC_set cs i c
    have e0 : (i + 1) * 3 = i * 3 + 3 := by omega
    rw [e0]
    simpa [flatC] using h
theorem infoInt : (Try.prog.info? 2).map (fun i => (i.zero, i.size, i.bytes)) = some (some (.int .i64 0), 1, 8) := by kernel_rfl
/-- Only block g may have turned. -/
abbrev Gr (g : Nat) (w w' : World) : Prop := w.grownBy w' (some g)
theorem gR (g : Nat) (w : World) : Gr g w w := ⟨rfl, rfl, rfl, Nat.le_refl _, fun _ _ _ => rfl⟩
theorem gD {g : Nat} {w W : World} (h : Gr g w W) : Gr g w W.drew := ⟨h.os, h.tape, h.output, h.size, h.block⟩
theorem gDN {g : Nat} {w W : World} (h : Gr g w W) (n : Nat) : Gr g w (W.drewN n) := ⟨h.os, h.tape, h.output, h.size, h.block⟩
theorem gA {g : Nat} {w W : World} {o : Obj} (h : Gr g w W) : Gr g w (W.alloc o) := ⟨h.os, h.tape, h.output, Nat.le_trans h.size (by simp), fun k hk hn => (Below.heap_alloc W o k (Nat.lt_of_lt_of_le hk h.size)).trans (h.block k hk hn)⟩
theorem gS {g : Nat} {w W : World} {p : Addr} {u : Value} (h : Gr g w W) (hp : p.block = g ∨ w.heap.size ≤ p.block) : Gr g w (W.setCell p u) :=
  ⟨h.os, h.tape, h.output, by simpa [World.setCell] using h.size, fun k hk hn => (Below.heap_setCell W p u k (by
    rintro rfl
    rcases hp with hp | hp
    · exact hn (by rw [hp])
    · omega)).trans (h.block k hk hn)⟩
theorem gT {g : Nat} {w W w1 : World} (h : Gr g w W) (k : Gr g W w1) : Gr g w w1 :=
  ⟨k.os.trans h.os, k.tape.trans h.tape, k.output.trans h.output, Nat.le_trans h.size k.size, fun i hi hn => (k.block i (Nat.lt_of_lt_of_le hi h.size) hn).trans (h.block i hi hn)⟩
theorem bDN {B : Nat} {a w : World} (h : Below B a w) (n : Nat) : Below B a (w.drewN n) := ⟨h.os, h.tape, h.output, h.size, h.block⟩
theorem gCell {g b : Nat} {w w1 : World} (h : Gr g w w1) (hb : b < w.heap.size) (hn : b ≠ g) (o : Nat) : w1.cell? ⟨b, o, none⟩ = w.cell? ⟨b, o, none⟩ :=
  World.cell?_of_block (h.block b hb (by simpa using hn))
theorem gFroz {g b : Nat} {w w1 : World} (h : Gr g w w1) (hb : b < w.heap.size) (hn : b ≠ g) (o : Nat) : w1.frozen? ⟨b, o, none⟩ = w.frozen? ⟨b, o, none⟩ :=
  World.frozen?_of_block (h.block b hb (by simpa using hn))
theorem bG {g : Nat} {w W w1 : World} (h : Below w.heap.size w W) (k : Gr g W w1) (hg : w.heap.size ≤ g) : Below w.heap.size w w1 :=
  ⟨k.os.trans h.os, k.tape.trans h.tape, k.output.trans h.output, Nat.le_trans h.size k.size, fun i hi => (k.block i (Nat.lt_of_lt_of_le hi h.size) (by simp; omega)).trans (h.block i hi)⟩
theorem gOfB {g : Nat} {w w1 : World} (h : Below w.heap.size w w1) : Gr g w w1 := ⟨h.os, h.tape, h.output, h.size, fun i hi _ => h.block i hi⟩
end Go.Proofs.Ytkfdbpmnbbhpeaa
