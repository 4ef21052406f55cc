/-
  Small lemmas on worlds, lists in memory and cells; no condition.
-/
import Derived.Test.YtkfdbpmnbbhpeaaProg
import Derived.WalkKit
import Derived.WalkSpells
import Derived.WalkLawsBesides
import Derived.Lib.Hide
import Derived.BigQuiet
import Derived.Deep.QuietTactic
import Derived.Deep.RegionHeld3
import Derived.StillTailTactics
set_option linter.unusedSimpArgs false
set_option linter.unusedVariables false
namespace Go.Proofs.Ytkfdbpmnbbhpeaa
open Go.RowKit
theorem bR {n : Nat} {w : World} : Below n w w := Below.refl _ _
theorem bHit {P : Program} {f : FuncId} {args : Array Value} {W : World} {Q : Ending → World → Prop} (w : World) (h : Below w.heap.size w W) (k : Below w.heap.size w W → Calls P f args W Q) : Calls P f args W Q := k h
theorem bA {w W : World} {o : Obj} (h : Below w.heap.size w W) : Below w.heap.size w (W.alloc o) := h.alloc h.size o
theorem bD {w W : World} (h : Below w.heap.size w W) : Below w.heap.size w W.drew := h.drew
theorem bS {w W : World} {p : Addr} {u : Value} (h : Below w.heap.size w W) (hp : w.heap.size ≤ p.block) : Below w.heap.size w (W.setCell p u) := h.setCell hp u
theorem bT {w W w1 : World} (h : Below w.heap.size w W) (k : Below W.heap.size W w1) : Below w.heap.size w w1 := h.trans (k.mono h.size)
theorem ret_bool {a b : Bool} (h : a = b) : Ending.returned (.bool a) = .returned (.bool b) := by rw [h]
def inB (n lo hi : Int) : Bool := decide (lo ≤ n) && decide (n ≤ hi)
theorem inB_yes {n lo hi : Int} (h1 : lo ≤ n) (h2 : n ≤ hi) : inB n lo hi = true := by simp [inB, h1, h2]
theorem inB_no {n lo hi : Int} (h : n < lo ∨ hi < n) : inB n lo hi = false := by simp [inB]; omega
theorem inB_lo {n lo hi : Int} (h : lo ≤ n) : decide (n ≤ hi) = inB n lo hi := by simp [inB, h]
theorem inB_iff {n lo hi : Int} : inB n lo hi = true ↔ lo ≤ n ∧ n ≤ hi := by simp [inB]
def liveB (n : Int) : Bool := inB n 2 4
/- Cells -/
def cellB (s e t : Int) : Bool := inB s 0 10 && inB e 0 999 && inB t 0 80
theorem cellB_1 {s e t : Int} (h : ¬ inB s 0 10 = true) : false = cellB s e t := by simp [cellB, h]
theorem cellB_2 {s e t : Int} (h : ¬ inB e 0 999 = true) : false = cellB s e t := by simp [cellB, h]
theorem cellB_3 {s e t : Int} (h : inB s 0 10 = true) (h2 : inB e 0 999 = true) : inB t 0 80 = cellB s e t := by simp [cellB, h, h2]
theorem eqB_1 {a b : Int} {r : Bool} (h : (a != b) = true) : false = (a == b && r) := by simp at h; simp [h]
theorem eqB_2 {a b : Int} {r : Bool} (h : (a != b) = false) : (a == b && r) = r := by simp at h; simp [h]
def eqC (s e t s' e' t' : Int) : Bool := s == s' && (e == e' && (t == t' && true))
theorem eqC_refl (s e t : Int) : eqC s e t s e t = true := by simp [eqC]
def laidF (s e t m : Int) : Int := if cellB s e t && inB m 0 999 then m else e
theorem laidF_1 {s e t m : Int} (h : ¬ cellB s e t = true) : laidF s e t m = e := by simp [laidF, h]
theorem laidF_2 {s e t m : Int} (h : (!inB m 0 999) = true) : laidF s e t m = e := by simp at h; simp [laidF, h]
theorem laidF_3 {s e t m : Int} (h1 : cellB s e t = true) (h : (!inB m 0 999) = false) : laidF s e t m = m := by simp at h; simp [laidF, h1, h]
def turnB (s e t f n v : Int) : Bool := s == f && (cellB s e t && cellB n e v)
def turnS (s e t f n v : Int) : Int := if turnB s e t f n v then n else s
def turnW (s e t f n v : Int) : Int := if turnB s e t f n v then v else t
theorem turn_1 {s e t f n v : Int} (h : ¬ s = f) : turnB s e t f n v = false := by simp [turnB, h]
theorem turn_2 {s e t f n v : Int} (h : ¬ cellB s e t = true) : turnB s e t f n v = false := by simp [turnB, h]
theorem turn_3 {s e t f n v : Int} (h : (!cellB n e v) = true) : turnB s e t f n v = false := by simp at h; simp [turnB, h]
theorem turn_4 {s e t n v : Int} (h1 : cellB s e t = true) (h : (!cellB n e v) = false) : turnB s e t s n v = true := by simp at h; simp [turnB, h, h1]
def TurnR (s e t f n v : Int) (r : Ending) : Prop := r = .returned (.tuple #[.agg #[.int .i64 (turnS s e t f n v), .int .i64 e, .int .i64 (turnW s e t f n v)], .bool (turnB s e t f n v)])
theorem turnR_no {s e t f n v : Int} (h : turnB s e t f n v = false) : TurnR s e t f n v (.returned (.tuple #[.agg #[.int .i64 s, .int .i64 e, .int .i64 t], .bool false])) := by simp [TurnR, turnS, turnW, h]
theorem turnR_yes {s e t f n v : Int} (h : turnB s e t f n v = true) : TurnR s e t f n v (.returned (.tuple #[.agg #[.int .i64 n, .int .i64 e, .int .i64 v], .bool true])) := by simp [TurnR, turnS, turnW, h]
/-- n elements of k cells each lie from address a on, below block B; f says what each cell holds. -/
def Seg (w : World) (B : Nat) (a : Option Addr) (n k : Nat) (f : Nat → Nat → Value) : Prop :=
  n = 0 ∨ ∃ b o, a = some ⟨b, o, none⟩ ∧ b < B ∧ ∀ i j, i < n → j < k → w.cell? ⟨b, o + i * k + j, none⟩ = some (f i j)
/-- Block b is just n elements of k cells each, of type t, none frozen; f says what each cell holds. -/
def Row (w : World) (b : Nat) (t : TypeId) (n k : Nat) (f : Nat → Nat → Value) : Prop :=
  ∃ c : Array Value, w.heap[b]? = some (.cells c t (0, 0)) ∧ c.size = n * k ∧ ∀ i j, i < n → j < k → c[i * k + j]? = some (f i j)
namespace Row
variable {w w' : World} {b : Nat} {t : TypeId} {n k : Nat} {f g : Nat → Nat → Value}
theorem cell (h : Row w b t n k f) {i j : Nat} (hi : i < n) (hj : j < k) : w.cell? ⟨b, i * k + j, none⟩ = some (f i j) := by
  obtain ⟨c, hb, _, hc⟩ := h
  simp [World.cell?, hb, hc i j hi hj]
theorem frozen (h : Row w b t n k f) (o : Nat) : w.frozen? ⟨b, o, none⟩ = false := by
  obtain ⟨c, hb, _, _⟩ := h
  simp [World.frozen?, hb]
theorem lt (h : Row w b t n k f) : b < w.heap.size := by
  obtain ⟨c, hb, _, _⟩ := h
  obtain ⟨hlt, _⟩ := Array.getElem?_eq_some_iff.1 hb
  exact hlt
theorem congr (h : Row w b t n k f) (e : ∀ i j, i < n → j < k → f i j = g i j) : Row w b t n k g := by
  obtain ⟨c, hb, hn, hc⟩ := h
  exact ⟨c, hb, hn, fun i j hi hj => by rw [hc i j hi hj, e i j hi hj]⟩
theorem of_block (h : Row w b t n k f) (e : w'.heap[b]? = w.heap[b]?) : Row w' b t n k f := by
  obtain ⟨c, hb, hn, hc⟩ := h
  exact ⟨c, e.trans hb, hn, hc⟩
theorem below {B : Nat} (h : Row w b t n k f) (hb : Below B w w') (hB : b < B) : Row w' b t n k f := h.of_block (hb.block b hB)
theorem idx {i j i' j' k : Nat} (hj : j < k) (hj' : j' < k) (h : i * k + j = i' * k + j') : i = i' ∧ j = j' := by
  have h1 : (i * k + j) / k = i := by rw [Nat.mul_comm, Nat.mul_add_div (by omega), Nat.div_eq_of_lt hj]; rfl
  have h2 : (i' * k + j') / k = i' := by rw [Nat.mul_comm, Nat.mul_add_div (by omega), Nat.div_eq_of_lt hj']; rfl
  have : i = i' := by rw [← h1, ← h2, h]
  subst this
  exact ⟨rfl, by omega⟩
theorem set (h : Row w b t n k f) {i j : Nat} (hi : i < n) (hj : j < k) (v : Value) : Row (w.setCell ⟨b, i * k + j, none⟩ v) b t n k (fun i' j' => if i' = i ∧ j' = j then v else f i' j') := by
  obtain ⟨c, hb, hn, hc⟩ := h
  refine ⟨c.setIfInBounds (i * k + j) v, ?_, by simpa using hn, fun i' j' hi' hj' => ?_⟩
  · simp [World.setCell, Array.getElem?_modify, hb]
  · rw [Array.getElem?_setIfInBounds]
    by_cases e : i * k + j = i' * k + j'
    · obtain ⟨rfl, rfl⟩ := idx hj hj' e
      have hlt : i * k + j < c.size := (Array.getElem?_eq_some_iff.1 (hc i j hi hj)).1
      simp [hlt]
    · rw [if_neg e]
      show c[i' * k + j']? = some (if i' = i ∧ j' = j then v else f i' j')
      rw [if_neg (fun h => e (by rw [h.1, h.2]))]
      exact hc i' j' hi' hj'
theorem set3 (h : Row w b t n 3 f) {i : Nat} (hi : i < n) (v : Nat → Value) :
    Row (((w.setCell ⟨b, i * 3, none⟩ (v 0)).setCell ⟨b, i * 3 + 1, none⟩ (v 1)).setCell ⟨b, i * 3 + 2, none⟩ (v 2)) b t n 3 (fun i' j' => if i' = i then v j' else f i' j') := by
  refine (((h.set hi (j := 0) (by omega) (v 0)).set hi (j := 1) (by omega) (v 1)).set hi (j := 2) (by omega) (v 2)).congr fun i' j' _ hj => ?_
  have : j' = 0 ∨ j' = 1 ∨ j' = 2 := by omega
  rcases this with rfl | rfl | rfl <;> by_cases e : i' = i <;> simp [e]
theorem alloc (h : Row w b t n k f) (o : Obj) : Row (w.alloc o) b t n k f := h.of_block (Below.heap_alloc w o b h.lt)
theorem setOther (h : Row w b t n k f) {a : Addr} (ha : b ≠ a.block) (v : Value) : Row (w.setCell a v) b t n k f := h.of_block (Below.heap_setCell w a v b ha)
theorem seg (h : Row w b t n k f) : Seg w w.heap.size (some ⟨b, 0, none⟩) n k f := .inr ⟨b, 0, rfl, h.lt, fun i j hi hj => by simpa using h.cell hi hj⟩
theorem made (w : World) (z : Array Value) (n : Nat) (t : TypeId) : Row (w.alloc (.cells (madeCells z (n * z.size)) t)) w.heap.size t n z.size (fun _ j => z[j]!) := by
  refine ⟨_, heap_alloc_new w _, size_madeCells _ _, fun i j hi hj => ?_⟩
  have hlt : i * z.size + j < n * z.size := by
    have := Nat.mul_le_mul_right z.size (show i + 1 ≤ n from hi)
    rw [Nat.add_mul] at this
    omega
  simp [madeCells, hlt, Nat.mod_eq_of_lt hj]
end Row
theorem Seg.below {w w' : World} {B : Nat} {a : Option Addr} {n k : Nat} {f : Nat → Nat → Value} (h : Seg w B a n k f) (hb : Below B w w') : Seg w' B a n k f := by
  rcases h with h | ⟨b, o, ha, hB, hc⟩
  · exact .inl h
  · exact .inr ⟨b, o, ha, hB, fun i j hi hj => (hb.cell (p := ⟨b, o + i * k + j, none⟩) hB).trans (hc i j hi hj)⟩
theorem Seg.more {w : World} {B B' : Nat} {a : Option Addr} {n k : Nat} {f : Nat → Nat → Value} (h : Seg w B a n k f) (hb : B ≤ B') : Seg w B' a n k f := by
  rcases h with h | ⟨b, o, ha, hB, hc⟩
  · exact .inl h
  · exact .inr ⟨b, o, ha, Nat.lt_of_lt_of_le hB hb, hc⟩
theorem Seg.setOther {w : World} {B B' : Nat} {a : Option Addr} {n k : Nat} {f : Nat → Nat → Value} {p : Addr} {u : Value} (h : Seg w B a n k f) (hB : B ≤ B') (hp : B ≤ p.block) : Seg (w.setCell p u) B' a n k f := by
  rcases h with h | ⟨b, o, ha, hb, hc⟩
  · exact .inl h
  · exact .inr ⟨b, o, ha, Nat.lt_of_lt_of_le hb hB, fun i j hi hj => (World.cell?_setCell_other _ _ _ _ (fun e => by subst e; simp at hp; omega)).trans (hc i j hi hj)⟩
structure C3 where
  s : Int
  e : Int
  t : Int
def C3.val (c : C3) (j : Nat) : Value := match j with | 0 => .int .i64 c.s | 1 => .int .i64 c.e | _ => .int .i64 c.t
def cellF (cs : List C3) (i j : Nat) : Value := (cs.getD i ⟨0, 0, 0⟩).val j
def okC (c : C3) : Bool := cellB c.s c.e c.t
def liveC (c : C3) : Bool := liveB c.s
def liveN (cs : List C3) : Int := (cs.filter liveC).length
def liveF (cs : List C3) : Int := if 40 < cs.length || !(cs.all okC) then -1 else liveN cs
theorem not_true {b : Bool} (h : (!b) = true) : b = false := by simpa using h
theorem not_false {b : Bool} (h : (!b) = false) : b = true := by simpa using h
theorem not_tt {b : Bool} (h : ¬ b = true) : b = false := by simpa using h
theorem ret_i64 {a b : Int} (h : a = b) : Ending.returned (.int .i64 a) = .returned (.int .i64 b) := by rw [h]
theorem liveB_def {n : Int} : liveB n = inB n 2 4 := rfl
theorem liveF_long {cs : List C3} (h : 40 < cs.length) : -1 = liveF cs := by simp [liveF, h]
theorem liveF_bad {cs : List C3} {k : Nat} (hk : k < cs.length) (h : okC (cs.getD k ⟨0, 0, 0⟩) = false) : -1 = liveF cs := by
  have : cs.all okC = false := by
    rw [List.all_eq_false]
    refine ⟨cs[k], List.getElem_mem hk, ?_⟩
    simpa [List.getD, List.getElem?_eq_getElem hk] using h
  simp [liveF, this]
theorem liveF_end {cs : List C3} (h : cs.length ≤ 40) (ha : (cs.take cs.length).all okC = true) : liveN (cs.take cs.length) = liveF cs := by
  rw [List.take_length] at *
  simp [liveF, ha]; omega
theorem take_snocC (cs : List C3) (k : Nat) (h : k < cs.length) : cs.take (k + 1) = cs.take k ++ [cs.getD k ⟨0, 0, 0⟩] := by
  rw [List.take_succ_eq_append_getElem h]; simp [List.getD, List.getElem?_eq_getElem h]
theorem all_snoc {cs : List C3} {k : Nat} (hk : k < cs.length) (h : (cs.take k).all okC = true) (h1 : okC (cs.getD k ⟨0, 0, 0⟩) = true) : (cs.take (k + 1)).all okC = true := by
  rw [take_snocC cs k hk, List.all_append, h]; simp only [List.all_cons, h1, List.all_nil]; rfl
theorem live_snoc1 {cs : List C3} {k : Nat} (hk : k < cs.length) (h : liveC (cs.getD k ⟨0, 0, 0⟩) = true) : liveN (cs.take (k + 1)) = liveN (cs.take k) + 1 := by
  rw [take_snocC cs k hk]; unfold liveN; rw [List.filter_append, List.filter_cons, h]; simp
theorem live_snoc0 {cs : List C3} {k : Nat} (hk : k < cs.length) (h : liveC (cs.getD k ⟨0, 0, 0⟩) = false) : liveN (cs.take (k + 1)) = liveN (cs.take k) := by
  rw [take_snocC cs k hk]; unfold liveN; rw [List.filter_append, List.filter_cons, h]; simp
theorem liveN_bd (cs : List C3) (k : Nat) : 0 ≤ liveN (cs.take k) ∧ liveN (cs.take k) ≤ k := by
  unfold liveN
  have h1 := List.length_filter_le liveC (cs.take k)
  have h2 := List.length_take_le k cs
  omega
/-- The first k elements are those of cs, the rest is zero. -/
def partF (cs : List C3) (k i j : Nat) : Value := if i < k then cellF cs i j else .int .i64 0
theorem part_at0 (cs : List C3) (k : Nat) : partF cs k = fun i j => if i < k then cellF cs i j else .int .i64 0 := rfl
theorem part_step {cs : List C3} {k : Nat} {c : C3} (h : cs.getD k ⟨0, 0, 0⟩ = c) (i j : Nat) : (if i = k then c.val j else partF cs k i j) = partF cs (k + 1) i j := by
  unfold partF
  by_cases e : i = k
  · subst e; simp only [if_true]; rw [if_pos (by omega), cellF, h]
  · rw [if_neg e]
    by_cases e2 : i < k
    · rw [if_pos e2, if_pos (by omega)]
    · rw [if_neg e2, if_neg (by omega)]
theorem part_end (cs : List C3) : ∀ i j, i < cs.length → j < 3 → partF cs cs.length i j = cellF cs i j := fun i j hi _ => by simp [partF, hi]
def eqCC (c d : C3) : Bool := eqC c.s c.e c.t d.s d.e d.t
end Go.Proofs.Ytkfdbpmnbbhpeaa
