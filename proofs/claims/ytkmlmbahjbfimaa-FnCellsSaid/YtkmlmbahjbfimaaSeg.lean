/-
  Lists of cells in memory, and the contracts of the functions of chapter 1 that take such lists; no condition but that a list lies where it is said to lie.
-/
import Derived.Test.YtkmlmbahjbfimaaLeaf
import Derived.BigQuiet
import Derived.Deep.QuietTactic
import Derived.Deep.RegionHeld3
import Derived.StillTailTactics
namespace Go.Proofs.Ytkmlmbahjbfimaa
open Go.RowKit
/-- n elements of k cells each lie from address a on, below block B; f says what each cell holds. -/
def Seg (w : World) (B : Nat) (a : Option Addr) (n k : Nat) (f : Nat → Nat → Value) : Prop :=
  n = 0 ∨ ∃ b o, a = some ⟨b, o, none⟩ ∧ b < B ∧ ∀ i j, i < n → j < k → w.cell? ⟨b, o + i * k + j, none⟩ = some (f i j)
/-- Block b is just n elements of k cells each, of type t, none frozen; f says what each cell holds. -/
def Row (w : World) (b : Nat) (t : TypeId) (n k : Nat) (f : Nat → Nat → Value) : Prop :=
  ∃ c : Array Value, w.heap[b]? = some (.cells c t (0, 0)) ∧ c.size = n * k ∧ ∀ i j, i < n → j < k → c[i * k + j]? = some (f i j)
namespace Row
variable {w w' : World} {b : Nat} {t : TypeId} {n k : Nat} {f g : Nat → Nat → Value}
theorem cell (h : Row w b t n k f) {i j : Nat} (hi : i < n) (hj : j < k) : w.cell? ⟨b, i * k + j, none⟩ = some (f i j) := by
  obtain ⟨c, hb, _, hc⟩ := h
  simp [World.cell?, hb, hc i j hi hj]
theorem frozen (h : Row w b t n k f) (o : Nat) : w.frozen? ⟨b, o, none⟩ = false := by
  obtain ⟨c, hb, _, _⟩ := h
  simp [World.frozen?, hb]
theorem lt (h : Row w b t n k f) : b < w.heap.size := by
  obtain ⟨c, hb, _, _⟩ := h
  obtain ⟨hlt, _⟩ := Array.getElem?_eq_some_iff.1 hb
  exact hlt
theorem congr (h : Row w b t n k f) (e : ∀ i j, i < n → j < k → f i j = g i j) : Row w b t n k g := by
  obtain ⟨c, hb, hn, hc⟩ := h
  exact ⟨c, hb, hn, fun i j hi hj => by rw [hc i j hi hj, e i j hi hj]⟩
theorem of_block (h : Row w b t n k f) (e : w'.heap[b]? = w.heap[b]?) : Row w' b t n k f := by
  obtain ⟨c, hb, hn, hc⟩ := h
  exact ⟨c, e.trans hb, hn, hc⟩
theorem below {B : Nat} (h : Row w b t n k f) (hb : Below B w w') (hB : b < B) : Row w' b t n k f := h.of_block (hb.block b hB)
theorem idx {i j i' j' k : Nat} (hj : j < k) (hj' : j' < k) (h : i * k + j = i' * k + j') : i = i' ∧ j = j' := by
  have h1 : (i * k + j) / k = i := by rw [Nat.mul_comm, Nat.mul_add_div (by omega), Nat.div_eq_of_lt hj]; rfl
  have h2 : (i' * k + j') / k = i' := by rw [Nat.mul_comm, Nat.mul_add_div (by omega), Nat.div_eq_of_lt hj']; rfl
  have : i = i' := by rw [← h1, ← h2, h]
  subst this
  exact ⟨rfl, by omega⟩
theorem set (h : Row w b t n k f) {i j : Nat} (hi : i < n) (hj : j < k) (v : Value) : Row (w.setCell ⟨b, i * k + j, none⟩ v) b t n k (fun i' j' => if i' = i ∧ j' = j then v else f i' j') := by
  obtain ⟨c, hb, hn, hc⟩ := h
  refine ⟨c.setIfInBounds (i * k + j) v, ?_, by simpa using hn, fun i' j' hi' hj' => ?_⟩
  · simp [World.setCell, Array.getElem?_modify, hb]
  · rw [Array.getElem?_setIfInBounds]
    by_cases e : i * k + j = i' * k + j'
    · obtain ⟨rfl, rfl⟩ := idx hj hj' e
      have hlt : i * k + j < c.size := (Array.getElem?_eq_some_iff.1 (hc i j hi hj)).1
      simp [hlt]
    · rw [if_neg e]
      show c[i' * k + j']? = some (if i' = i ∧ j' = j then v else f i' j')
      rw [if_neg (fun h => e (by rw [h.1, h.2]))]
      exact hc i' j' hi' hj'
theorem set3 (h : Row w b t n 3 f) {i : Nat} (hi : i < n) (v : Nat → Value) :
    Row (((w.setCell ⟨b, i * 3, none⟩ (v 0)).setCell ⟨b, i * 3 + 1, none⟩ (v 1)).setCell ⟨b, i * 3 + 2, none⟩ (v 2)) b t n 3 (fun i' j' => if i' = i then v j' else f i' j') := by
  refine (((h.set hi (j := 0) (by omega) (v 0)).set hi (j := 1) (by omega) (v 1)).set hi (j := 2) (by omega) (v 2)).congr fun i' j' _ hj => ?_
  have : j' = 0 ∨ j' = 1 ∨ j' = 2 := by omega
  rcases this with rfl | rfl | rfl <;> by_cases e : i' = i <;> simp [e]
theorem alloc (h : Row w b t n k f) (o : Obj) : Row (w.alloc o) b t n k f := h.of_block (Below.heap_alloc w o b h.lt)
theorem setOther (h : Row w b t n k f) {a : Addr} (ha : b ≠ a.block) (v : Value) : Row (w.setCell a v) b t n k f := h.of_block (Below.heap_setCell w a v b ha)
theorem seg (h : Row w b t n k f) : Seg w w.heap.size (some ⟨b, 0, none⟩) n k f := .inr ⟨b, 0, rfl, h.lt, fun i j hi hj => by simpa using h.cell hi hj⟩
theorem made (w : World) (z : Array Value) (n : Nat) (t : TypeId) : Row (w.alloc (.cells (madeCells z (n * z.size)) t)) w.heap.size t n z.size (fun _ j => z[j]!) := by
  refine ⟨_, heap_alloc_new w _, size_madeCells _ _, fun i j hi hj => ?_⟩
  have hlt : i * z.size + j < n * z.size := by
    have := Nat.mul_le_mul_right z.size (show i + 1 ≤ n from hi)
    rw [Nat.add_mul] at this
    omega
  simp [madeCells, hlt, Nat.mod_eq_of_lt hj]
end Row
theorem Seg.below {w w' : World} {B : Nat} {a : Option Addr} {n k : Nat} {f : Nat → Nat → Value} (h : Seg w B a n k f) (hb : Below B w w') : Seg w' B a n k f := by
  rcases h with h | ⟨b, o, ha, hB, hc⟩
  · exact .inl h
  · exact .inr ⟨b, o, ha, hB, fun i j hi hj => (hb.cell (p := ⟨b, o + i * k + j, none⟩) hB).trans (hc i j hi hj)⟩
theorem Seg.more {w : World} {B B' : Nat} {a : Option Addr} {n k : Nat} {f : Nat → Nat → Value} (h : Seg w B a n k f) (hb : B ≤ B') : Seg w B' a n k f := by
  rcases h with h | ⟨b, o, ha, hB, hc⟩
  · exact .inl h
  · exact .inr ⟨b, o, ha, Nat.lt_of_lt_of_le hB hb, hc⟩
structure C3 where
  s : Int
  e : Int
  t : Int
def C3.val (c : C3) (j : Nat) : Value := match j with | 0 => .int .i64 c.s | 1 => .int .i64 c.e | _ => .int .i64 c.t
def cellF (cs : List C3) (i j : Nat) : Value := (cs.getD i ⟨0, 0, 0⟩).val j
def okC (c : C3) : Bool := cellB c.s c.e c.t
def liveC (c : C3) : Bool := liveB c.s
def liveN (cs : List C3) : Int := (cs.filter liveC).length
def liveF (cs : List C3) : Int := if 40 < cs.length || !(cs.all okC) then -1 else liveN cs
theorem not_true {b : Bool} (h : (!b) = true) : b = false := by simpa using h
theorem not_false {b : Bool} (h : (!b) = false) : b = true := by simpa using h
theorem not_tt {b : Bool} (h : ¬ b = true) : b = false := by simpa using h
theorem ret_i64 {a b : Int} (h : a = b) : Ending.returned (.int .i64 a) = .returned (.int .i64 b) := by rw [h]
theorem liveB_def {n : Int} : liveB n = inB n 2 4 := rfl
theorem liveF_long {cs : List C3} (h : 40 < cs.length) : -1 = liveF cs := by simp [liveF, h]
theorem liveF_bad {cs : List C3} {k : Nat} (hk : k < cs.length) (h : okC (cs.getD k ⟨0, 0, 0⟩) = false) : -1 = liveF cs := by
  have : cs.all okC = false := by
    rw [List.all_eq_false]
    refine ⟨cs[k], List.getElem_mem hk, ?_⟩
    simpa [List.getD, List.getElem?_eq_getElem hk] using h
  simp [liveF, this]
theorem liveF_end {cs : List C3} (h : cs.length ≤ 40) (ha : (cs.take cs.length).all okC = true) : liveN (cs.take cs.length) = liveF cs := by
  rw [List.take_length] at *
  simp [liveF, ha]; omega
theorem take_snocC (cs : List C3) (k : Nat) (h : k < cs.length) : cs.take (k + 1) = cs.take k ++ [cs.getD k ⟨0, 0, 0⟩] := by
  rw [List.take_succ_eq_append_getElem h]; simp [List.getD, List.getElem?_eq_getElem h]
theorem all_snoc {cs : List C3} {k : Nat} (hk : k < cs.length) (h : (cs.take k).all okC = true) (h1 : okC (cs.getD k ⟨0, 0, 0⟩) = true) : (cs.take (k + 1)).all okC = true := by
  rw [take_snocC cs k hk, List.all_append, h]; simp only [List.all_cons, h1, List.all_nil]; rfl
theorem live_snoc1 {cs : List C3} {k : Nat} (hk : k < cs.length) (h : liveC (cs.getD k ⟨0, 0, 0⟩) = true) : liveN (cs.take (k + 1)) = liveN (cs.take k) + 1 := by
  rw [take_snocC cs k hk]; unfold liveN; rw [List.filter_append, List.filter_cons, h]; simp
theorem live_snoc0 {cs : List C3} {k : Nat} (hk : k < cs.length) (h : liveC (cs.getD k ⟨0, 0, 0⟩) = false) : liveN (cs.take (k + 1)) = liveN (cs.take k) := by
  rw [take_snocC cs k hk]; unfold liveN; rw [List.filter_append, List.filter_cons, h]; simp
theorem liveN_bd (cs : List C3) (k : Nat) : 0 ≤ liveN (cs.take k) ∧ liveN (cs.take k) ≤ k := by
  unfold liveN
  have h1 := List.length_filter_le liveC (cs.take k)
  have h2 := List.length_take_le k cs
  omega
set_option maxHeartbeats 400000 in
theorem liveIn_any (cs : List C3) (a : Option Addr) (cap : Nat) (w : World) (h : Seg w w.heap.size a cs.length 3 (cellF cs)) (hm : cs.length ≤ maxLen) :
    Calls Try.prog 17 #[.slice a cs.length cap] w fun r w' => r = .returned (.int .i64 (liveF cs)) ∧ Below w.heap.size w w' := by
  unfold maxLen at hm
  by_cases hlen : 40 < cs.length
  · go_enter Try.func17, Try.ntmps17
    go_wp2
    go_ret
    exact ⟨ret_i64 (liveF_long hlen), Below.refl _ _⟩
  · have hd : decide (40 < (cs.length : Int)) = false := by simp; omega
    have hle : cs.length ≤ 40 := by omega
    clear hlen
    have HS := Lib.hid h
    clear h
    go_enter Try.func17, Try.ntmps17
    go_wp2
    go_loopw [3, 11] (fun n i wr => ∃ k : Nat, k ≤ cs.length ∧ i = .int .i64 k ∧ n = .int .i64 (liveN (cs.take k)) ∧ Hid ((cs.take k).all okC = true) ∧ Below w.heap.size w wr) (fun _ i _ => cs.length - (intOf i).toNat)
    case atStart => exact ⟨0, Nat.zero_le _, rfl, rfl, rfl, Below.refl _ _⟩
    case round =>
      obtain ⟨k, hk, rfl, rfl, hall, hB⟩ := hrel
      have hs := hB.size
      have hbd := liveN_bd cs k
      by_cases hlt : k < cs.length
      · obtain h0 | ⟨b, o, rfl, hb, hc⟩ := HS.out
        · omega
        have c0 := (hB.cell (p := ⟨b, o + k * 3 + 0, none⟩) hb).trans (hc k 0 hlt (by omega))
        have c1 := (hB.cell (p := ⟨b, o + k * 3 + 1, none⟩) hb).trans (hc k 1 hlt (by omega))
        have c2 := (hB.cell (p := ⟨b, o + k * 3 + 2, none⟩) hb).trans (hc k 2 hlt (by omega))
        simp only [cellF, C3.val, Nat.add_zero] at c0 c1 c2
        clear hc
        generalize hcg : cs.getD k ⟨0, 0, 0⟩ = c at c0 c1 c2
        have HC := Lib.hid hcg
        clear hcg
        go_wp2_with (first | (go_at_call 19; refine (cellOk_any _ _ _ _).mono ?_; rintro _ w1 ⟨rfl, hbw1⟩; have hBw1 : Below w.heap.size w w1 := bT (by (repeat (first | with_reducible assumption | with_reducible exact Below.refl _ _ | with_reducible refine bA ?_ | with_reducible refine bD ?_ | (with_reducible refine bS ?_ ?_; rotate_left; focus (simp; try omega))))) hbw1; have hsw1 := hbw1.size; (try (simp at hsw1)); have := fun o => hbw1.cell (p := ⟨wr.heap.size, o, none⟩) (by ((try simp); (try omega))); have := fun o => hbw1.frozen (p := ⟨wr.heap.size, o, none⟩) (by ((try simp); (try omega))); have : wr.heap.size < w1.heap.size := (by omega); have : wr.heap.size ≤ w1.heap.size := (by omega); have : wr.heap.size ≤ w1.heap.size + 1 := (by omega)) | (go_at_call 34; refine (isLive_any _ _).mono ?_; rintro _ _ ⟨rfl, rfl⟩))
        · go_ret
          exact ⟨ret_i64 (liveF_bad hlt (by rw [HC.out]; exact not_true ‹_›)), by (repeat (first | with_reducible assumption | with_reducible exact Below.refl _ _ | with_reducible refine bA ?_ | with_reducible refine bD ?_ | (with_reducible refine bS ?_ ?_; rotate_left; focus (simp; try omega))))⟩
        · go_roundw
          case rel => exact ⟨k + 1, by omega, by go_num, by rw [live_snoc1 hlt (by rw [HC.out]; assumption)], all_snoc hlt hall.out (by rw [HC.out]; exact not_false ‹_›), by (repeat (first | with_reducible assumption | with_reducible exact Below.refl _ _ | with_reducible refine bA ?_ | with_reducible refine bD ?_ | (with_reducible refine bS ?_ ?_; rotate_left; focus (simp; try omega))))⟩
          case measure => simp [intOf]; omega
        · go_roundw
          case rel => exact ⟨k + 1, by omega, by go_num, by rw [live_snoc0 hlt (by rw [HC.out]; assumption)], all_snoc hlt hall.out (by rw [HC.out]; exact not_false ‹_›), by (repeat (first | with_reducible assumption | with_reducible exact Below.refl _ _ | with_reducible refine bA ?_ | with_reducible refine bD ?_ | (with_reducible refine bS ?_ ?_; rotate_left; focus (simp; try omega))))⟩
          case measure => simp [intOf]; omega
      · have : k = cs.length := by omega
        subst this
        go_wp2
        go_ret
        exact ⟨ret_i64 (liveF_end hle hall.out), hB⟩
set_option maxHeartbeats 400000 in
theorem sLiveIn_any (cs : List C3) (a : Option Addr) (cap : Nat) (w : World) (h : Seg w w.heap.size a cs.length 3 (cellF cs)) (hm : cs.length ≤ maxLen) :
    Calls Try.prog 18 #[.slice a cs.length cap] w fun r w' => r = .returned (.int .i64 (liveF cs)) ∧ Below w.heap.size w w' := by
  unfold maxLen at hm
  have HS := Lib.hid h
  clear h
  go_enter Try.func18, Try.ntmps18
  go_wp2
  go_loopw [3, 4] (fun n i wr => ∃ k : Nat, k ≤ cs.length ∧ i = .int .i64 k ∧ n = .int .i64 (liveN (cs.take k)) ∧ Hid ((cs.take k).all okC = true) ∧ Below w.heap.size w wr) (fun _ i _ => cs.length - (intOf i).toNat)
  case atStart => exact ⟨0, Nat.zero_le _, rfl, rfl, rfl, Below.refl _ _⟩
  case round =>
    obtain ⟨k, hk, rfl, rfl, hall, hB⟩ := hrel
    have hs := hB.size
    have hbd := liveN_bd cs k
    by_cases hlt : k < cs.length
    · obtain h0 | ⟨b, o, rfl, hb, hc⟩ := HS.out
      · omega
      have c0 := (hB.cell (p := ⟨b, o + k * 3 + 0, none⟩) hb).trans (hc k 0 hlt (by omega))
      have c1 := (hB.cell (p := ⟨b, o + k * 3 + 1, none⟩) hb).trans (hc k 1 hlt (by omega))
      have c2 := (hB.cell (p := ⟨b, o + k * 3 + 2, none⟩) hb).trans (hc k 2 hlt (by omega))
      have d0 := hc k 0 hlt (by omega)
      simp only [cellF, C3.val, Nat.add_zero] at c0 c1 c2 d0
      clear hc
      generalize hcg : cs.getD k ⟨0, 0, 0⟩ = c at c0 c1 c2 d0
      have HC := Lib.hid hcg
      clear hcg
      go_wp2_with (first | (go_at_call 20; refine (sCellOk_any _ _ _ _).mono ?_; rintro _ w1 ⟨rfl, hbw1⟩; have hBw1 : Below w.heap.size w w1 := bT (by (repeat (first | with_reducible assumption | with_reducible exact Below.refl _ _ | with_reducible refine bA ?_ | with_reducible refine bD ?_ | (with_reducible refine bS ?_ ?_; rotate_left; focus (simp; try omega))))) hbw1; have hsw1 := hbw1.size; (try (simp at hsw1)); have := fun oo => hBw1.cell (p := ⟨b, oo, none⟩) hb) | (go_at_call 35; refine (l1In_any _ _ _ _).mono ?_; rintro _ _ ⟨rfl, rfl⟩; rw [← liveB_def]))
      · go_ret
        exact ⟨ret_i64 (liveF_bad hlt (by rw [HC.out]; exact not_true ‹_›)), by (repeat (first | with_reducible assumption | with_reducible exact Below.refl _ _ | with_reducible refine bA ?_ | with_reducible refine bD ?_ | (with_reducible refine bS ?_ ?_; rotate_left; focus (simp; try omega))))⟩
      · go_roundw
        case rel => exact ⟨k + 1, by omega, by go_num, by rw [live_snoc1 hlt (by rw [HC.out]; assumption)], all_snoc hlt hall.out (by rw [HC.out]; exact not_false ‹_›), by (repeat (first | with_reducible assumption | with_reducible exact Below.refl _ _ | with_reducible refine bA ?_ | with_reducible refine bD ?_ | (with_reducible refine bS ?_ ?_; rotate_left; focus (simp; try omega))))⟩
        case measure => simp [intOf]; omega
      · go_roundw
        case rel => exact ⟨k + 1, by omega, by go_num, by rw [live_snoc0 hlt (by rw [HC.out]; assumption)], all_snoc hlt hall.out (by rw [HC.out]; exact not_false ‹_›), by (repeat (first | with_reducible assumption | with_reducible exact Below.refl _ _ | with_reducible refine bA ?_ | with_reducible refine bD ?_ | (with_reducible refine bS ?_ ?_; rotate_left; focus (simp; try omega))))⟩
        case measure => simp [intOf]; omega
    · have : k = cs.length := by omega
      subst this
      by_cases hlen : 40 < cs.length
      · go_wp2
        go_ret
        exact ⟨ret_i64 (liveF_long hlen), hB⟩
      · go_wp2
        go_ret
        exact ⟨ret_i64 (liveF_end (by omega) hall.out), hB⟩
/-- The first k elements are those of cs, the rest is zero. -/
def partF (cs : List C3) (k i j : Nat) : Value := if i < k then cellF cs i j else .int .i64 0
theorem infoCell : (Try.prog.info? 25).map (fun i => (i.zero, i.size, i.bytes)) = some (some (.agg #[.int .i64 0, .int .i64 0, .int .i64 0]), 3, 24) := by kernel_rfl
theorem mkCells (n : Nat) (h : n ≤ 1048576) (W : World) : (Instr.makeSlice 32 (.int .i64 n) (.int .i64 n)).run Try.prog W = .ok (.slice (some ⟨W.heap.size, 0, none⟩) n n) (W.alloc (.cells (madeCells #[.int .i64 0, .int .i64 0, .int .i64 0] (n * 3)) 25)) := by
  obtain ⟨i, hi, hz, hs, hb⟩ := info_parts infoCell
  have := run_make (P := Try.prog) W 32 25 i _ Try.underlying32 hi hz .i64 .i64 n n (by omega) (by omega) (by rw [hb]; omega) (by omega)
  rw [this, hs]
  simp [Value.cells]
theorem part_at0 (cs : List C3) (k : Nat) : partF cs k = fun i j => if i < k then cellF cs i j else .int .i64 0 := rfl
theorem part_step {cs : List C3} {k : Nat} {c : C3} (h : cs.getD k ⟨0, 0, 0⟩ = c) (i j : Nat) : (if i = k then c.val j else partF cs k i j) = partF cs (k + 1) i j := by
  unfold partF
  by_cases e : i = k
  · subst e; simp only [if_true]; rw [if_pos (by omega), cellF, h]
  · rw [if_neg e]
    by_cases e2 : i < k
    · rw [if_pos e2, if_pos (by omega)]
    · rw [if_neg e2, if_neg (by omega)]
theorem part_end (cs : List C3) : ∀ i j, i < cs.length → j < 3 → partF cs cs.length i j = cellF cs i j := fun i j hi _ => by simp [partF, hi]
set_option maxHeartbeats 400000 in
theorem toCellS_any (cs : List C3) (a : Option Addr) (cap : Nat) (w : World) (h : Seg w w.heap.size a cs.length 3 (cellF cs)) (hm : cs.length ≤ 1048576) :
    Calls Try.prog 24 #[.slice a cs.length cap] w fun r w' => r = .returned (.slice (some ⟨w.heap.size, 0, none⟩) cs.length cs.length) ∧ Row w' w.heap.size 25 cs.length 3 (cellF cs) ∧ Below w.heap.size w w' := by
  have HS := Lib.hid h
  clear h
  have hmk := mkCells cs.length hm
  have hR0 := (Row.made w #[.int .i64 0, .int .i64 0, .int .i64 0] cs.length 25).congr (g := partF cs 0) (fun i j _ hj => by
    have : j = 0 ∨ j = 1 ∨ j = 2 := by simp at hj; omega
    rcases this with rfl | rfl | rfl <;> simp [partF])
  go_enter Try.func24, Try.ntmps24
  go_wp2
  go_loopw [4] (fun i wr => ∃ k : Nat, k ≤ cs.length ∧ i = .int .i64 k ∧ Row wr w.heap.size 25 cs.length 3 (partF cs k) ∧ Below w.heap.size w wr) (fun i _ => cs.length - (intOf i).toNat)
  case atStart => exact ⟨0, Nat.zero_le _, rfl, hR0, (Below.refl _ _).alloc (Nat.le_refl _) _⟩
  case round =>
    obtain ⟨k, hk, rfl, hR, hB⟩ := hrel
    have hs := hB.size
    have hl := hR.lt
    by_cases hlt : k < cs.length
    · obtain h0 | ⟨b, o, rfl, hb, hc⟩ := HS.out
      · omega
      have c0 := (hB.cell (p := ⟨b, o + k * 3 + 0, none⟩) hb).trans (hc k 0 hlt (by omega))
      have c1 := (hB.cell (p := ⟨b, o + k * 3 + 1, none⟩) hb).trans (hc k 1 hlt (by omega))
      have c2 := (hB.cell (p := ⟨b, o + k * 3 + 2, none⟩) hb).trans (hc k 2 hlt (by omega))
      simp only [cellF, C3.val, Nat.add_zero] at c0 c1 c2
      clear hc
      generalize hcg : cs.getD k ⟨0, 0, 0⟩ = c at c0 c1 c2
      have HC := Lib.hid hcg
      clear hcg
      go_wp2_with ((go_at_call 21; refine (toCell_any _ _ _ _).mono ?_; rintro _ w1 ⟨rfl, hbw1⟩; have hBw1 : Below w.heap.size w w1 := bT (by (repeat (first | with_reducible assumption | with_reducible exact Below.refl _ _ | with_reducible refine bA ?_ | with_reducible refine bD ?_ | (with_reducible refine bS ?_ ?_; rotate_left; focus (simp; try omega))))) hbw1; have hsw1 := hbw1.size; (try (simp at hsw1))); have hR1 := hR.below hbw1 hl; have e0 := hR1.cell hlt (show 0 < 3 by omega); have e1 := hR1.cell hlt (show 1 < 3 by omega); have e2 := hR1.cell hlt (show 2 < 3 by omega); simp only [Nat.add_zero] at e0; have f1 := hR1.frozen)
      go_roundw
      case rel => exact ⟨k + 1, by omega, by go_num, (hR1.set3 hlt c.val).congr (fun i j _ _ => part_step HC.out i j), by (repeat (first | with_reducible assumption | with_reducible exact Below.refl _ _ | with_reducible refine bA ?_ | with_reducible refine bD ?_ | (with_reducible refine bS ?_ ?_; rotate_left; focus (simp; try omega))))⟩
      case measure => simp [intOf]; omega
    · have : k = cs.length := by omega
      subst this
      go_wp2
      go_ret
      exact ⟨rfl, hR.congr (part_end cs), hB⟩
def eqCC (c d : C3) : Bool := eqC c.s c.e c.t d.s d.e d.t
set_option maxHeartbeats 400000 in
theorem eqCellS_any (cs : List C3) (a a' : Option Addr) (cap cap' : Nat) (w : World) (h : Seg w w.heap.size a cs.length 3 (cellF cs)) (h' : Seg w w.heap.size a' cs.length 3 (cellF cs)) (hm : cs.length ≤ 1048576) :
    Calls Try.prog 25 #[.slice a cs.length cap, .slice a' cs.length cap'] w fun r w' => r = .returned (.bool true) ∧ Below w.heap.size w w' := by
  have HS := Lib.hid h
  have HS' := Lib.hid h'
  clear h h'
  go_enter Try.func25, Try.ntmps25
  go_wp2
  go_loopw [5] (fun i wr => ∃ k : Nat, k ≤ cs.length ∧ i = .int .i64 k ∧ Below w.heap.size w wr) (fun i _ => cs.length - (intOf i).toNat)
  case atStart => exact ⟨0, Nat.zero_le _, rfl, Below.refl _ _⟩
  case round =>
    obtain ⟨k, hk, rfl, hB⟩ := hrel
    have hs := hB.size
    by_cases hlt : k < cs.length
    · obtain h0 | ⟨b, o, rfl, hb, hc⟩ := HS.out
      · omega
      obtain h0 | ⟨b', o', rfl, hb', hc'⟩ := HS'.out
      · omega
      have c0 := (hB.cell (p := ⟨b, o + k * 3 + 0, none⟩) hb).trans (hc k 0 hlt (by omega))
      have c1 := (hB.cell (p := ⟨b, o + k * 3 + 1, none⟩) hb).trans (hc k 1 hlt (by omega))
      have c2 := (hB.cell (p := ⟨b, o + k * 3 + 2, none⟩) hb).trans (hc k 2 hlt (by omega))
      have d0 := (hB.cell (p := ⟨b', o' + k * 3 + 0, none⟩) hb').trans (hc' k 0 hlt (by omega))
      have d1 := (hB.cell (p := ⟨b', o' + k * 3 + 1, none⟩) hb').trans (hc' k 1 hlt (by omega))
      have d2 := (hB.cell (p := ⟨b', o' + k * 3 + 2, none⟩) hb').trans (hc' k 2 hlt (by omega))
      simp only [cellF, C3.val, Nat.add_zero] at c0 c1 c2 d0 d1 d2
      clear hc hc'
      generalize hcg : cs.getD k ⟨0, 0, 0⟩ = c at c0 c1 c2 d0 d1 d2
      have HC := Lib.hid hcg
      clear hcg
      have hk0 : (0 : Int) ≤ (k : Int) := by omega
      have hk1 : (k : Int) < (cs.length : Int) := by omega
      go_wp2_with fail
      go_still_tail 8, (by kernel_rfl)
      go_wp2_with (go_at_call 22; refine (eqCell_any _ _ _ _ _ _ _).mono ?_; rintro _ w1 ⟨rfl, hbw1⟩; have hBw1 : Below w.heap.size w w1 := bT (by (repeat (first | with_reducible assumption | with_reducible exact Below.refl _ _ | with_reducible refine bA ?_ | with_reducible refine bD ?_ | (with_reducible refine bS ?_ ?_; rotate_left; focus (simp; try omega))))) hbw1; have hsw1 := hbw1.size; (try (simp at hsw1)))
      · rename_i hq
        rw [eqC_refl] at hq
        simp at hq
      · go_roundw
        case rel => exact ⟨k + 1, by omega, by go_num, by (repeat (first | with_reducible assumption | with_reducible exact Below.refl _ _ | with_reducible refine bA ?_ | with_reducible refine bD ?_ | (with_reducible refine bS ?_ ?_; rotate_left; focus (simp; try omega))))⟩
        case measure => simp [intOf]; omega
    · have : k = cs.length := by omega
      subst this
      go_wp2
      go_ret
      exact ⟨rfl, hB⟩
set_option maxHeartbeats 400000 in
theorem szCellS_any (n : Nat) (a : Option Addr) (cap : Nat) (left : Int) (w : World) (h0 : 0 ≤ left) (h1 : left ≤ 1048576) (hm : n ≤ maxLen) :
    Calls Try.prog 23 #[.slice a n cap, .int .i64 left] w fun r w' => r = .returned (.int .i64 (if left < n then -1 else left - n)) ∧ w = w' := by
  unfold maxLen at hm
  by_cases h : left < n
  · have hn : left - n < 0 := by omega
    rw [if_pos h]
    clear h
    go_enter Try.func23, Try.ntmps23
    go_wp2
    go_ret
    exact ⟨rfl, rfl⟩
  · have hn : ¬ left - n < 0 := by omega
    rw [if_neg h]
    go_enter Try.func23, Try.ntmps23
    go_wp2
    go_ret
    exact ⟨rfl, rfl⟩
end Go.Proofs.Ytkmlmbahjbfimaa
