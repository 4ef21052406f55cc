/-
  Structs that are kept, loaded and stored as one value; no condition.
-/
import Derived.Test.YtkfdbpmnbbhpeaaModel2
import Derived.Test.YtkfdbpmnbbhpeaaNew
import Derived.Laws.IdiomCopy
set_option linter.unusedSimpArgs false
set_option linter.unusedVariables false
namespace Go.Proofs.Ytkfdbpmnbbhpeaa
open Go.RowKit
/-- A hand as it lies in memory. -/
def hvals (h : Ha) : Array Value := #[.int .i64 h.pos, .int .i64 h.code, .int .i64 h.elem, .int .i64 h.cell, .int .i64 h.seen, .int .i64 h.wait, .int .i64 h.fin, .int .i64 h.come, .int .i64 h.grow, .int .i64 h.mine, .int .i64 h.nxt, .int .i64 h.beg, .int .i64 h.reply, .int .i64 h.out]
theorem hv_ne (h : Ha) : (hvals h = #[]) = False := by simp [hvals]
theorem hv_size (h : Ha) : (hvals h).size = 14 := rfl
theorem hv_get0 (h : Ha) : (hvals h)[0]? = some (.int .i64 h.pos) := rfl
theorem hv_set0 (h : Ha) (x : Int) : (hvals h).setIfInBounds 0 (.int .i64 x) = hvals { h with pos := x } := rfl
theorem hv_get1 (h : Ha) : (hvals h)[1]? = some (.int .i64 h.code) := rfl
theorem hv_set1 (h : Ha) (x : Int) : (hvals h).setIfInBounds 1 (.int .i64 x) = hvals { h with code := x } := rfl
theorem hv_get2 (h : Ha) : (hvals h)[2]? = some (.int .i64 h.elem) := rfl
theorem hv_set2 (h : Ha) (x : Int) : (hvals h).setIfInBounds 2 (.int .i64 x) = hvals { h with elem := x } := rfl
theorem hv_get3 (h : Ha) : (hvals h)[3]? = some (.int .i64 h.cell) := rfl
theorem hv_set3 (h : Ha) (x : Int) : (hvals h).setIfInBounds 3 (.int .i64 x) = hvals { h with cell := x } := rfl
theorem hv_get4 (h : Ha) : (hvals h)[4]? = some (.int .i64 h.seen) := rfl
theorem hv_set4 (h : Ha) (x : Int) : (hvals h).setIfInBounds 4 (.int .i64 x) = hvals { h with seen := x } := rfl
theorem hv_get5 (h : Ha) : (hvals h)[5]? = some (.int .i64 h.wait) := rfl
theorem hv_set5 (h : Ha) (x : Int) : (hvals h).setIfInBounds 5 (.int .i64 x) = hvals { h with wait := x } := rfl
theorem hv_get6 (h : Ha) : (hvals h)[6]? = some (.int .i64 h.fin) := rfl
theorem hv_set6 (h : Ha) (x : Int) : (hvals h).setIfInBounds 6 (.int .i64 x) = hvals { h with fin := x } := rfl
theorem hv_get7 (h : Ha) : (hvals h)[7]? = some (.int .i64 h.come) := rfl
theorem hv_set7 (h : Ha) (x : Int) : (hvals h).setIfInBounds 7 (.int .i64 x) = hvals { h with come := x } := rfl
theorem hv_get8 (h : Ha) : (hvals h)[8]? = some (.int .i64 h.grow) := rfl
theorem hv_set8 (h : Ha) (x : Int) : (hvals h).setIfInBounds 8 (.int .i64 x) = hvals { h with grow := x } := rfl
theorem hv_get9 (h : Ha) : (hvals h)[9]? = some (.int .i64 h.mine) := rfl
theorem hv_set9 (h : Ha) (x : Int) : (hvals h).setIfInBounds 9 (.int .i64 x) = hvals { h with mine := x } := rfl
theorem hv_get10 (h : Ha) : (hvals h)[10]? = some (.int .i64 h.nxt) := rfl
theorem hv_set10 (h : Ha) (x : Int) : (hvals h).setIfInBounds 10 (.int .i64 x) = hvals { h with nxt := x } := rfl
theorem hv_get11 (h : Ha) : (hvals h)[11]? = some (.int .i64 h.beg) := rfl
theorem hv_set11 (h : Ha) (x : Int) : (hvals h).setIfInBounds 11 (.int .i64 x) = hvals { h with beg := x } := rfl
theorem hv_get12 (h : Ha) : (hvals h)[12]? = some (.int .i64 h.reply) := rfl
theorem hv_set12 (h : Ha) (x : Int) : (hvals h).setIfInBounds 12 (.int .i64 x) = hvals { h with reply := x } := rfl
theorem hv_get13 (h : Ha) : (hvals h)[13]? = some (.int .i64 h.out) := rfl
theorem hv_set13 (h : Ha) (x : Int) : (hvals h).setIfInBounds 13 (.int .i64 x) = hvals { h with out := x } := rfl
/-- A channel as it lies in memory, with its lists. -/
def cvals (c : Ch) (v1 v2 : Value) : Array Value := #[.int .i64 c.cap, .int .i64 c.sent, .int .i64 c.got, .int .i64 c.fin, v1, v2]
theorem cv_ne (c : Ch) (v1 v2 : Value) : (cvals c v1 v2 = #[]) = False := by simp [cvals]
theorem cv_size (c : Ch) (v1 v2 : Value) : (cvals c v1 v2).size = 6 := rfl
theorem cv_get0 (c : Ch) (v1 v2 : Value) : (cvals c v1 v2)[0]? = some (.int .i64 c.cap) := rfl
theorem cv_set0 (c : Ch) (v1 v2 : Value) (x : Int) : (cvals c v1 v2).setIfInBounds 0 (.int .i64 x) = cvals { c with cap := x } v1 v2 := rfl
theorem cv_get1 (c : Ch) (v1 v2 : Value) : (cvals c v1 v2)[1]? = some (.int .i64 c.sent) := rfl
theorem cv_set1 (c : Ch) (v1 v2 : Value) (x : Int) : (cvals c v1 v2).setIfInBounds 1 (.int .i64 x) = cvals { c with sent := x } v1 v2 := rfl
theorem cv_get2 (c : Ch) (v1 v2 : Value) : (cvals c v1 v2)[2]? = some (.int .i64 c.got) := rfl
theorem cv_set2 (c : Ch) (v1 v2 : Value) (x : Int) : (cvals c v1 v2).setIfInBounds 2 (.int .i64 x) = cvals { c with got := x } v1 v2 := rfl
theorem cv_get3 (c : Ch) (v1 v2 : Value) : (cvals c v1 v2)[3]? = some (.int .i64 c.fin) := rfl
theorem cv_set3 (c : Ch) (v1 v2 : Value) (x : Int) : (cvals c v1 v2).setIfInBounds 3 (.int .i64 x) = cvals { c with fin := x } v1 v2 := rfl
theorem cv_get4 (c : Ch) (v1 v2 : Value) : (cvals c v1 v2)[4]? = some v1 := rfl
theorem cv_get5 (c : Ch) (v1 v2 : Value) : (cvals c v1 v2)[5]? = some v2 := rfl
theorem cv_set4 (c : Ch) (v1 v2 x : Value) : (cvals c v1 v2).setIfInBounds 4 x = cvals c x v2 := rfl
theorem cv_set5 (c : Ch) (v1 v2 x : Value) : (cvals c v1 v2).setIfInBounds 5 x = cvals c v1 x := rfl
def setBoxO (vs : Array Value) : Obj → Obj
  | .cells _ t fr => .cells vs t fr
  | o => o
def setCellO (i : Nat) (v : Value) : Obj → Obj
  | .cells c t fr => .cells (c.setIfInBounds i v) t fr
  | o => o
/-- Block b is written whole. -/
def setBox (w : World) (b : Nat) (vs : Array Value) : World := { w with heap := w.heap.modify b (setBoxO vs) }
/-- What lies in block b. -/
def hp (w : World) (b : Nat) : Option Obj := w.heap[b]?
def okO (n : Nat) : Option Obj → Bool
  | some (.cells c _ fr) => c.size == n && (fr.1 == 0 && fr.2 == 0)
  | _ => false
def cellsO : Option Obj → Array Value
  | some (.cells c _ _) => c
  | _ => #[]
theorem setBoxO_cells (vs c : Array Value) (t : TypeId) : setBoxO vs (.cells c t) = .cells vs t := rfl
theorem setCellO_cells (i : Nat) (v : Value) (c : Array Value) (t : TypeId) : setCellO i v (.cells c t) = .cells (c.setIfInBounds i v) t := rfl
theorem okO_cells (n : Nat) (c : Array Value) (t : TypeId) : okO n (some (.cells c t)) = (c.size == n) := by simp [okO]
theorem cellsO_cells (c : Array Value) (t : TypeId) : cellsO (some (.cells c t)) = c := rfl
theorem okO_elim {n : Nat} {o : Option Obj} (h : okO n o = true) : ∃ c t, o = some (.cells c t) ∧ c.size = n := by
  unfold okO at h
  split at h
  · rename_i c t fr
    obtain ⟨f1, f2⟩ := fr
    simp at h
    obtain ⟨h1, rfl, rfl⟩ := h
    exact ⟨c, t, rfl, h1⟩
  · cases h
theorem lt_2 (n : Nat) : n < n + 1 + 1 := by omega
theorem lt_3 (n : Nat) : n < n + 1 + 1 + 1 := by omega
theorem lt_4 (n : Nat) : n < n + 1 + 1 + 1 + 1 := by omega
theorem lt_5 (n : Nat) : n < n + 1 + 1 + 1 + 1 + 1 := by omega
variable {w W : World} {b b' n i : Nat} {vs us : Array Value} {v : Value}
theorem bx_size : (setBox w b vs).heap.size = w.heap.size := by simp [setBox]
theorem bx_heap_at : hp (setBox w b vs) b = (hp w b).map (setBoxO vs) := by simp [hp, setBox, Array.getElem?_modify]
theorem bx_heap_ne (h : b' ≠ b) : (setBox w b vs).heap[b']? = w.heap[b']? := by simp [setBox, Array.getElem?_modify, Ne.symm h]
theorem bx_heap_lt (h : b' < b) : hp (setBox w b vs) b' = hp w b' := bx_heap_ne (by omega)
theorem bx_heap_gt (h : b < b') : hp (setBox w b vs) b' = hp w b' := bx_heap_ne (by omega)
theorem bx_cell_at (h : okO vs.size (hp w b) = true) : (setBox w b vs).cell? ⟨b, i, none⟩ = vs[i]? := by
  obtain ⟨c, t, e, _⟩ := okO_elim h
  unfold hp at e
  simp [World.cell?, setBox, Array.getElem?_modify, e, setBoxO]
theorem bx_cell_ne (h : b' ≠ b) : (setBox w b vs).cell? ⟨b', i, none⟩ = w.cell? ⟨b', i, none⟩ := World.cell?_of_block (bx_heap_ne h)
theorem bx_cell_lt (h : b' < b) : (setBox w b vs).cell? ⟨b', i, none⟩ = w.cell? ⟨b', i, none⟩ := bx_cell_ne (by omega)
theorem bx_cell_gt (h : b < b') : (setBox w b vs).cell? ⟨b', i, none⟩ = w.cell? ⟨b', i, none⟩ := bx_cell_ne (by omega)
theorem bx_frozen : (setBox w b vs).frozen? ⟨b', i, none⟩ = w.frozen? ⟨b', i, none⟩ := by
  simp only [World.frozen?, setBox, Array.getElem?_modify]
  by_cases e : b = b'
  · subst e
    simp only [if_true]
    cases w.heap[b]? with
    | none => rfl
    | some o => cases o <;> rfl
  · simp [e]
theorem bx_alloc_at {c : Array Value} {t : TypeId} (hn : n = w.heap.size) : setBox (w.alloc (.cells c t)) n vs = w.alloc (.cells vs t) := by
  subst hn
  unfold setBox World.alloc
  congr 1
  apply Array.ext_getElem?
  intro k
  simp only [Array.getElem?_modify, Array.getElem?_push]
  by_cases hk : k = w.heap.size
  · subst hk; simp [setBoxO]
  · simp [hk, Ne.symm hk]
theorem bx_alloc_past {o : Obj} (hn : n < w.heap.size) : setBox (w.alloc o) n vs = (setBox w n vs).alloc o := by
  unfold setBox World.alloc
  congr 1
  apply Array.ext_getElem?
  intro k
  simp only [Array.getElem?_modify, Array.getElem?_push, Array.size_modify]
  by_cases hk : k = w.heap.size
  · subst hk; simp [Nat.ne_of_lt hn]
  · simp [hk]
theorem bx_twice : setBox (setBox w b vs) b us = setBox w b us := by
  unfold setBox
  congr 1
  apply Array.ext_getElem?
  intro k
  simp only [Array.getElem?_modify]
  by_cases e : b = k
  · subst e
    simp only [if_true]
    cases w.heap[b]? with
    | none => rfl
    | some o => cases o <;> rfl
  · simp [e]
theorem bx_setCell : (setBox w b vs).setCell ⟨b, i, none⟩ v = setBox w b (vs.setIfInBounds i v) := by
  unfold setBox World.setCell
  congr 1
  apply Array.ext_getElem?
  intro k
  simp only [Array.getElem?_modify]
  by_cases e : b = k
  · subst e
    simp only [if_true]
    cases w.heap[b]? with
    | none => rfl
    | some o => cases o <;> rfl
  · simp [e]
theorem bx_drew : setBox w.drew b vs = (setBox w b vs).drew := rfl
theorem hp_drew : hp w.drew b = hp w b := rfl
theorem hp_alloc_at {o : Obj} (hn : n = w.heap.size) : hp (w.alloc o) n = some o := by subst hn; exact heap_alloc_new w o
theorem hp_alloc_past {o : Obj} (hn : n < w.heap.size) : hp (w.alloc o) n = hp w n := Below.heap_alloc w o n hn
theorem hp_set_at : hp (w.setCell ⟨b, i, none⟩ v) b = (hp w b).map (setCellO i v) := by
  simp only [hp, World.setCell, Array.getElem?_modify]
  cases w.heap[b]? with
  | none => simp
  | some o => cases o <;> simp [setCellO]
theorem hp_set_lt (h : b' < b) : hp (w.setCell ⟨b, i, none⟩ v) b' = hp w b' := Below.heap_setCell w _ v b' (by simp; omega)
theorem hp_set_gt (h : b < b') : hp (w.setCell ⟨b, i, none⟩ v) b' = hp w b' := Below.heap_setCell w _ v b' (by simp; omega)
theorem grHp {r : Option Nat} (h : w.grownBy W r) (hb : b < w.heap.size) (hn : some b ≠ r) : hp W b = hp w b := h.block b hb hn
theorem onlHp {r r' : Option Nat} (h : Onl r r' w W) (hb : i < w.heap.size) (h1 : some i ≠ r) (h2 : some i ≠ r') : hp W i = hp w i := h.2.2.2.2 i hb h1 h2
theorem bO {w : World} {b : Nat} {cs : Array Value} {t : TypeId} (h : hp w b = some (.cells cs t)) : (∀ o, w.cell? ⟨b, o, none⟩ = cs[o]?) ∧ (∀ o, w.frozen? ⟨b, o, none⟩ = false) ∧ b < w.heap.size :=
  ⟨fun o => cell_of_row w b o cs t _ h, fun o => by have h2 : w.heap[b]? = some (.cells cs t) := h; simp [World.frozen?, h2], (Array.getElem?_eq_some_iff.1 h).1⟩
theorem hpB (h : Below n w W) (hb : b < n) : hp W b = hp w b := h.block b hb
theorem bBx {lo : Nat} (h : Below lo w W) (hb : lo ≤ b) : Below lo w (setBox W b vs) :=
  ⟨h.os, h.tape, h.output, by rw [bx_size]; exact h.size, fun k hk => (bx_heap_ne (by omega)).trans (h.block k hk)⟩
theorem gBx {g : Nat} (h : Gr g w W) (hb : b = g ∨ w.heap.size ≤ b) : Gr g w (setBox W b vs) :=
  ⟨h.os, h.tape, h.output, by rw [bx_size]; exact h.size, fun k hk hn => (bx_heap_ne (by rcases hb with hb | hb; exact fun e => hn (by rw [e, hb]); omega)).trans (h.block k hk hn)⟩
theorem own_box {lo : Nat} {e : TypeId} {k m : Nat} {x : Value} {xs : List Value} (h : w.ownsRow lo e k x m xs) (hp : x.ownBlock ≠ some b) : (setBox w b vs).ownsRow lo e k x m xs :=
  h.kept (row := some b) ⟨rfl, rfl, rfl, by rw [bx_size]; exact Nat.le_refl _, fun i _ hn => bx_heap_ne (fun e => hn (by rw [e]))⟩ (.inr hp)
theorem rowA {r : Option Nat} {o : Obj} (h : w.grownBy W r) : w.grownBy (W.alloc o) r := ⟨h.os, h.tape, h.output, Nat.le_trans h.size (by simp), fun k hk hn => (Below.heap_alloc W o k (Nat.lt_of_lt_of_le hk h.size)).trans (h.block k hk hn)⟩
theorem rowD {r : Option Nat} (h : w.grownBy W r) : w.grownBy W.drew r := ⟨h.os, h.tape, h.output, h.size, h.block⟩
theorem rowS {r : Option Nat} {p : Addr} {u : Value} (h : w.grownBy W r) (hp : w.heap.size ≤ p.block) : w.grownBy (W.setCell p u) r :=
  ⟨h.os, h.tape, h.output, by simpa [World.setCell] using h.size, fun k hk hn => (Below.heap_setCell W p u k (by omega)).trans (h.block k hk hn)⟩
theorem rowX {r : Option Nat} (h : w.grownBy W r) (hb : w.heap.size ≤ b) : w.grownBy (setBox W b vs) r :=
  ⟨h.os, h.tape, h.output, by rw [bx_size]; exact h.size, fun k hk hn => (bx_heap_ne (by omega)).trans (h.block k hk hn)⟩
theorem oA {r r' : Option Nat} {o : Obj} (h : Onl r r' w W) : Onl r r' w (W.alloc o) :=
  ⟨h.1, h.2.1, h.2.2.1, Nat.le_trans h.2.2.2.1 (by simp), fun k hk h1 h2 => (Below.heap_alloc W o k (Nat.lt_of_lt_of_le hk h.2.2.2.1)).trans (h.2.2.2.2 k hk h1 h2)⟩
theorem oD {r r' : Option Nat} (h : Onl r r' w W) : Onl r r' w W.drew := h
theorem oS {r r' : Option Nat} {p : Addr} {u : Value} (h : Onl r r' w W) (hp : w.heap.size ≤ p.block) : Onl r r' w (W.setCell p u) :=
  ⟨h.1, h.2.1, h.2.2.1, by simpa [World.setCell] using h.2.2.2.1, fun k hk h1 h2 => (Below.heap_setCell W p u k (by omega)).trans (h.2.2.2.2 k hk h1 h2)⟩
theorem oX {r r' : Option Nat} (h : Onl r r' w W) (hb : w.heap.size ≤ b) : Onl r r' w (setBox W b vs) :=
  ⟨h.1, h.2.1, h.2.2.1, by rw [bx_size]; exact h.2.2.2.1, fun k hk h1 h2 => (bx_heap_ne (by omega)).trans (h.2.2.2.2 k hk h1 h2)⟩
/- Loading and storing whole. -/
variable {P : Program} {T : TypeId}
theorem load_box (hA : ∀ w, (isAgg T).run P w = .ok true w) (hS : ∀ w, (sizeOf T).run P w = .ok n w) (h : okO n (hp w b) = true) :
    (loadVar T ⟨b, 0, none⟩).run P w = .ok (.agg (cellsO (hp w b))) w := by
  unfold hp at *
  obtain ⟨c, t, e, hc⟩ := okO_elim h
  have h1 : (loadCells ⟨b, 0, none⟩ c.toList.length).run P w = .ok c.toList.toArray w := run_loadCells_list w ⟨b, 0, none⟩ c.toList (fun j v hj => by
    have e2 : (⟨b, 0, none⟩ : Addr).add j = ⟨b, j, none⟩ := by by_cases h0 : j = 0 <;> simp [Addr.add, h0]
    rw [e2]
    simp only [World.cell?, e]
    simpa using hj)
  simp only [Array.length_toList, hc] at h1
  rw [e, cellsO_cells]
  simp only [loadVar, Sem.run_bind, hA, hS, Result.andThen_ok, if_true, h1, Sem.run_pure]
theorem setCells_heap (b : Nat) : ∀ (l : List Value) (o : Nat) (w : World), w.setCells b o l = { w with heap := w.heap.modify b (fun x => match x with | .cells c t fr => .cells ((l.zipIdx o).foldl (fun c p => c.setIfInBounds p.2 p.1) c) t fr | x => x) }
  | [], o, w => by
    unfold World.setCells
    have e : w.heap.modify b (fun x => match x with | .cells c t fr => .cells ((([] : List Value).zipIdx o).foldl (fun c p => c.setIfInBounds p.2 p.1) c) t fr | x => x) = w.heap := by
      apply Array.ext_getElem?
      intro k
      simp only [Array.getElem?_modify]
      by_cases e : b = k
      · subst e
        simp only [if_true]
        cases w.heap[b]? with
        | none => rfl
        | some x => cases x <;> rfl
      · simp [e]
    rw [e]
  | v :: l, o, w => by
    unfold World.setCells
    rw [setCells_heap b l (o + 1)]
    simp only [World.setCell]
    congr 1
    apply Array.ext_getElem?
    intro k
    simp only [Array.getElem?_modify]
    by_cases e : b = k
    · subst e
      simp only [if_true]
      cases w.heap[b]? with
      | none => rfl
      | some x => cases x <;> simp [List.zipIdx_cons]
    · simp [e]
theorem fold_get : ∀ (l : List Value) (o : Nat) (c : Array Value) (k : Nat), o + l.length ≤ c.size → ((l.zipIdx o).foldl (fun c p => c.setIfInBounds p.2 p.1) c)[k]? = if o ≤ k ∧ k < o + l.length then l[k - o]? else c[k]?
  | [], o, c, k, _ => by
    have : ¬ (o ≤ k ∧ k < o + ([] : List Value).length) := by simp
    rw [if_neg this]; rfl
  | v :: l, o, c, k, h => by
    simp only [List.zipIdx_cons, List.foldl_cons, List.length_cons] at *
    rw [fold_get l (o + 1) _ k (by rw [Array.size_setIfInBounds]; omega)]
    by_cases e : k = o
    · subst e
      rw [if_neg (by omega), if_pos (by omega), Array.getElem?_setIfInBounds, if_pos rfl, if_pos (by omega)]; simp
    · by_cases e2 : o + 1 ≤ k ∧ k < o + 1 + l.length
      · rw [if_pos e2, if_pos (by omega)]
        obtain ⟨m, rfl⟩ : ∃ m, k = o + 1 + m := ⟨k - (o + 1), by omega⟩
        rw [show o + 1 + m - (o + 1) = m by omega, show o + 1 + m - o = m + 1 by omega]; rfl
      · rw [if_neg e2, if_neg (by omega), Array.getElem?_setIfInBounds, if_neg (fun h => e h.symm)]
theorem fold_all (vs c : Array Value) (h : c.size = vs.size) : ((vs.toList.zipIdx 0).foldl (fun c p => c.setIfInBounds p.2 p.1) c) = vs := by
  apply Array.ext_getElem?
  intro k
  rw [fold_get _ _ _ _ (by simp; omega)]
  by_cases e : k < vs.size
  · rw [if_pos (by simp; omega)]; simp
  · rw [if_neg (by simp; omega), Array.getElem?_eq_none (by omega), Array.getElem?_eq_none (by omega)]
theorem store_cells (h : okO n (hp w b) = true) (hv : vs.size = n) (h1 : ∀ v ∈ vs.toList, v.oneCell' = true) :
    (storeCells ⟨b, 0, none⟩ vs.toList).run P w = .ok () (setBox w b vs) := by
  unfold hp at h
  obtain ⟨c, t, e, hc⟩ := okO_elim h
  have h2 := run_storeCells_cells (P := P) b 0 vs.toList 0 w (fun j hj => by
      have : j < c.size := by rw [hc, ← hv]; simpa using hj
      simp [World.cell?, e, this]) (fun j hj => by simp [World.frozen?, e]) h1
  have h3 : w.setCells b (0 + 0) vs.toList = setBox w b vs := by
    rw [setCells_heap]
    unfold setBox
    congr 1
    apply Array.ext_getElem?
    intro k
    simp only [Array.getElem?_modify]
    by_cases ek : b = k
    · subst ek
      simp only [if_true, e, Option.map_some, setBoxO]
      rw [fold_all vs c (by omega)]
    · simp [ek]
  rw [h3] at h2
  exact h2
theorem store_box (hS : ∀ w, (sizeOf T).run P w = .ok n w) (h : okO n (hp w b) = true) (hv : vs.size = n) (h1 : ∀ v ∈ vs.toList, v.oneCell' = true) :
    (storeVar T ⟨b, 0, none⟩ (.agg vs)).run P w = .ok () (setBox w b vs) := by
  have h2 := store_cells (P := P) h hv h1
  simp only [storeVar, Sem.run_bind, hS, Result.andThen_ok, Value.cells, hv, ne_eq, not_true_eq_false, if_false]
  simpa using h2
/- Results that lie in memory. -/
variable {fn : Func} {p q u : Tmp} {S : TypeId} {tmps : Array Value} {a a' : Addr} {x y : Value}
theorem res_c (h : fn.results = #[.cell p T]) (hp : tmps.getD p undef = .pointer (some a)) (hl : (loadVar T a).run P w = .ok x w) : (results fn tmps).run P w = .ok x w := by
  simp only [results, h]
  simp [Sem.run_bind, Result.andThen, asAddr] at *
  simp [hp, hl]
theorem res_ct (h : fn.results = #[.cell p T, .tmp u]) (hp : tmps.getD p undef = .pointer (some a)) (hl : (loadVar T a).run P w = .ok x w) : (results fn tmps).run P w = .ok (.tuple #[x, tmps.getD u undef]) w := by
  simp only [results, h]
  simp [Sem.run_bind, Result.andThen, asAddr] at *
  simp [hp, hl]
theorem res_cc (h : fn.results = #[.cell p T, .cell q S]) (hp : tmps.getD p undef = .pointer (some a)) (hl : (loadVar T a).run P w = .ok x w) (hp' : tmps.getD q undef = .pointer (some a')) (hl' : (loadVar S a').run P w = .ok y w) : (results fn tmps).run P w = .ok (.tuple #[x, y]) w := by
  simp only [results, h]
  simp [Sem.run_bind, Result.andThen, asAddr] at *
  simp [hp, hl, hp', hl']
theorem res_cct (h : fn.results = #[.cell p T, .cell q S, .tmp u]) (hp : tmps.getD p undef = .pointer (some a)) (hl : (loadVar T a).run P w = .ok x w) (hp' : tmps.getD q undef = .pointer (some a')) (hl' : (loadVar S a').run P w = .ok y w) : (results fn tmps).run P w = .ok (.tuple #[x, y, tmps.getD u undef]) w := by
  simp only [results, h]
  simp [Sem.run_bind, Result.andThen, asAddr] at *
  simp [hp, hl, hp', hl']
end Go.Proofs.Ytkfdbpmnbbhpeaa
