/-
  The reference model's KeptIn, WaitingIn and NewChan; lists lie in memory and hold at most 2 ^ 40 elements.
-/
import Derived.Test.YteocdelblmgocaaSChan
import Derived.Deep.AppendLies
namespace Go.Proofs.Yteocdelblmgocaa
open Go.RowKit
theorem news1 (w : World) (x : Value) (t : TypeId) : ∀ j u, [x][j]? = some u → (w.alloc (.cells #[x] t)).cell? ((⟨w.heap.size, 0, none⟩ : Addr).add j) = some u := by
  intro j u h
  have hj : j < 1 := (List.getElem?_eq_some_iff.1 h).1
  have : j = 0 := by omega
  subst this
  simp [Addr.add] at h ⊢; exact h
theorem atFrom_snoc (st : Int) (c : C3) : ∀ (l : List C3) (n : Nat), atFrom st n (l ++ [c]) = atFrom st n l ++ (if c.s == st then [((n + l.length : Nat) : Int)] else [])
  | [], n => by simp [atFrom]
  | d :: l, n => by
    have h := atFrom_snoc st c l (n + 1)
    have e : n + 1 + l.length = n + (d :: l).length := by simp; omega
    rw [e] at h
    simp only [List.cons_append, atFrom]
    split <;> simp [h]
theorem atFrom_len (st : Int) : ∀ (l : List C3) (n : Nat), (atFrom st n l).length ≤ l.length
  | [], n => by simp [atFrom]
  | d :: l, n => by
    have h := atFrom_len st l (n + 1)
    simp only [atFrom]
    split <;> simp <;> omega
def atTo (cells : List C3) (st : Int) (k : Nat) : List Int := atFrom st 0 (cells.take k)
theorem atTo_0 (cells : List C3) (st : Int) : atTo cells st 0 = [] := by simp [atTo, atFrom]
theorem atTo_yes {cells : List C3} {st : Int} {k : Nat} {c : C3} (hk : k < cells.length) (hc : cells.getD k ⟨0, 0, 0⟩ = c) (h : (c.s == st) = true) : atTo cells st (k + 1) = atTo cells st k ++ [(k : Int)] := by
  unfold atTo
  rw [take_snocC cells k hk, hc, atFrom_snoc, if_pos h, List.length_take_of_le (by omega)]; simp
theorem atTo_no {cells : List C3} {st : Int} {k : Nat} {c : C3} (hk : k < cells.length) (hc : cells.getD k ⟨0, 0, 0⟩ = c) (h : (c.s == st) = false) : atTo cells st (k + 1) = atTo cells st k := by
  unfold atTo
  rw [take_snocC cells k hk, hc, atFrom_snoc, h]; simp
theorem atTo_end (c : Ch) (st : Int) : atTo c.cells st c.cells.length = atS c st := by simp [atTo, atS]
theorem atTo_len (cells : List C3) (st : Int) (k : Nat) : (atTo cells st k).length ≤ k := by
  have h := atFrom_len st (cells.take k) 0
  have := List.length_take_le k cells
  unfold atTo; omega
set_option maxRecDepth 100000 in
set_option maxHeartbeats 1000000 in
theorem l2At_any (c : Ch) (st : Int) (a b : Option Addr) (p q : Nat) (w : World) (h1 : Seg w w.heap.size a c.cells.length 3 (cellF c.cells)) (hm : c.cells.length ≤ 1099511627776) :
    Calls Try.prog 38 #[.agg #[.int .i64 c.cap, .int .i64 c.sent, .int .i64 c.got, .int .i64 c.fin, .slice a c.cells.length p, .slice b c.words.length q], .int .i64 st] w fun r w' => (∃ v, r = .returned v ∧ OInts w' w.heap.size v (atS c st)) ∧ Below w.heap.size w w' := by
  obtain ⟨i0, hi0, hz0, hz1, hz2⟩ := info_parts infoInt
  have HE := Lib.hid (atTo_end c st)
  obtain ⟨cap, sent, got, fin, cells, words⟩ := c
  simp only at *
  have H1 := Lib.hid h1
  clear h1
  go_enter Try.func38, Try.ntmps38
  go_wp2
  go_loopw [5, 6] (fun v i wr => ∃ k : Nat, k ≤ cells.length ∧ i = .int .i64 k ∧ OInts wr (w.heap.size + 1) v (atTo cells st k) ∧ wr.cell? ⟨w.heap.size, 4, none⟩ = some (.slice a cells.length p) ∧ w.heap.size < wr.heap.size ∧ Below w.heap.size w wr) (fun _ i _ => cells.length - (intOf i).toNat)
  case atStart => exact ⟨0, Nat.zero_le _, rfl, by rw [atTo_0]; exact own_made_at _ _ _ _ _ (by simp) (by simp), by simp, by (simp; try omega), by (repeat (first | with_reducible assumption | with_reducible exact Below.refl _ _ | with_reducible refine bA ?_ | with_reducible refine bD ?_ | ((with_reducible refine bS ?_ ?_); rotate_left; (focus ((try simp); (try omega))))))⟩
  case round =>
    obtain ⟨k, hk, rfl, hown, x4, hlt1, hB⟩ := hrel
    by_cases hlt : k < cells.length
    · obtain h0 | ⟨bb, bo, rfl, hb, hc⟩ := H1.out
      · omega
      have c0 := (hB.cell (p := ⟨bb, bo + k * 3 + 0, none⟩) hb).trans (hc k 0 hlt (by omega))
      simp only [cellF, C3.val, Nat.add_zero] at c0
      clear hc
      generalize hcg : cells.getD k ⟨0, 0, 0⟩ = c at c0
      have HC := Lib.hid hcg
      clear hcg
      have hle := atTo_len cells st k
      have hk0 : (0 : Int) ≤ (k : Int) := by omega
      have hk1 : (k : Int) < (cells.length : Int) := by omega
      go_wp2_with (at_builtin; refine wpList_append_own _ rfl _ _ 23 rfl (w.heap.size + 1) 2 i0 _ 1 8 Try.underlying23 hi0 hz0 hz1 hz2 rfl (by decide) _ _ _ rfl (hown.alloc _) ⟨wr.heap.size, 0, none⟩ 1 1 [.int .i64 k] rfl rfl (news1 _ _ _) (by simp [Value.oneCell']) ?c3 ?c4 ?c5 ?_)
      case c3 => unfold maxLen; omega
      case c4 => omega
      case c5 => simp; omega
      · intro v4 w4 hown4 hg _
        have hne := own_ne hown (b := w.heap.size) (by omega)
        have hx4 : w4.cell? ⟨w.heap.size, 4, none⟩ = some (.slice (some ⟨bb, bo, none⟩) cells.length p) :=
          (World.cell?_of_block (hg.block w.heap.size (by simp; omega) (fun e => hne e.symm))).trans (cell_alloc_of x4)
        have hs4 := hg.size
        simp at hs4
        have hB4 : Below w.heap.size w w4 := bOwn (by (repeat (first | with_reducible assumption | with_reducible exact Below.refl _ _ | with_reducible refine bA ?_ | with_reducible refine bD ?_ | ((with_reducible refine bS ?_ ?_); rotate_left; (focus ((try simp); (try omega))))))) hg (by simp; omega) (fun q hq => by have := (hown.lt q hq).1; omega)
        have ht : (c.s == st) = true := by assumption
        have hown5 : OInts w4 (w.heap.size + 1) v4 (atTo cells st (k + 1)) := by
          rw [atTo_yes hlt HC.out ht]; exact OInts.snoc hown4
        clear hown4 hg hne x4 hown
        go_wp2
        go_roundw
        case rel => exact ⟨k + 1, by omega, by go_num, hown5, hx4, by omega, hB4⟩
        case measure => simp [intOf]; omega
      · go_roundw
        case rel => exact ⟨k + 1, by omega, by go_num, by rw [atTo_no hlt HC.out ‹_›]; exact hown, x4, hlt1, hB⟩
        case measure => simp [intOf]; omega
    · have : k = cells.length := by omega
      subst this
      go_wp2
      go_ret
      exact ⟨⟨_, rfl, own_lo (HE.out ▸ hown) (by omega)⟩, hB⟩
set_option maxRecDepth 100000 in
set_option maxHeartbeats 1000000 in
theorem sWaitingIn_any (c : Ch) (st : Int) (a b : Option Addr) (p q : Nat) (w : World) (h1 : Seg w w.heap.size a c.cells.length 3 (cellF c.cells)) (h2 : Seg w w.heap.size b c.words.length 1 (intF c.words)) (hm : c.cells.length ≤ 1099511627776) :
    Calls Try.prog 21 #[.agg #[.int .i64 c.cap, .int .i64 c.sent, .int .i64 c.got, .int .i64 c.fin, .slice a c.cells.length p, .slice b c.words.length q], .int .i64 st] w fun r w' => (∃ v, r = .returned v ∧ OInts w' w.heap.size v (waitingIn c st)) ∧ Below w.heap.size w w' := by
  have H1 := Lib.hid h1
  have H2 := Lib.hid h2
  clear h1 h2
  by_cases hc : chanOk c = true
  · have HV : Hid (waitingIn c st = atS c st) := by simp [waitingIn, hc, Hid]
    go_enter Try.func21, Try.ntmps21
    go_wp2_with fail
    refine (sChanOk_any c a b p q _ (((H1.out).below (by (repeat (first | with_reducible assumption | with_reducible exact Below.refl _ _ | with_reducible refine bA ?_ | with_reducible refine bD ?_ | ((with_reducible refine bS ?_ ?_); rotate_left; (focus ((try simp); (try omega)))))))).more (by simp)) (((H2.out).below (by (repeat (first | with_reducible assumption | with_reducible exact Below.refl _ _ | with_reducible refine bA ?_ | with_reducible refine bD ?_ | ((with_reducible refine bS ?_ ?_); rotate_left; (focus ((try simp); (try omega)))))))).more (by simp))).mono ?_
    rintro _ w1 ⟨rfl, hb1⟩
    have hB1 : Below w.heap.size w w1 := bT (by (repeat (first | with_reducible assumption | with_reducible exact Below.refl _ _ | with_reducible refine bA ?_ | with_reducible refine bD ?_ | ((with_reducible refine bS ?_ ?_); rotate_left; (focus ((try simp); (try omega))))))) hb1
    have hs1 := hb1.size
    simp at hs1
    have := fun o => hb1.cell (p := ⟨w.heap.size, o, none⟩) (by simp)
    go_wp2_with fail
    refine (l2At_any c st a b p q _ (((H1.out).below hB1).more (by omega)) hm).mono ?_
    rintro _ w2 ⟨⟨v2, rfl, hown2⟩, hb2⟩
    have hB2 : Below w.heap.size w w2 := bT (by (repeat (first | with_reducible assumption | with_reducible exact Below.refl _ _ | with_reducible refine bA ?_ | with_reducible refine bD ?_ | ((with_reducible refine bS ?_ ?_); rotate_left; (focus ((try simp); (try omega))))))) hb2
    go_wp2
    go_ret
    exact ⟨⟨_, rfl, own_lo (HV.out ▸ hown2) (by omega)⟩, hB2⟩
  · have HV : Hid (waitingIn c st = []) := by simp [waitingIn, hc, Hid]
    go_enter Try.func21, Try.ntmps21
    go_wp2_with fail
    refine (sChanOk_any c a b p q _ (((H1.out).below (by (repeat (first | with_reducible assumption | with_reducible exact Below.refl _ _ | with_reducible refine bA ?_ | with_reducible refine bD ?_ | ((with_reducible refine bS ?_ ?_); rotate_left; (focus ((try simp); (try omega)))))))).more (by simp)) (((H2.out).below (by (repeat (first | with_reducible assumption | with_reducible exact Below.refl _ _ | with_reducible refine bA ?_ | with_reducible refine bD ?_ | ((with_reducible refine bS ?_ ?_); rotate_left; (focus ((try simp); (try omega)))))))).more (by simp))).mono ?_
    rintro _ w1 ⟨rfl, hb1⟩
    have hB1 : Below w.heap.size w w1 := bT (by (repeat (first | with_reducible assumption | with_reducible exact Below.refl _ _ | with_reducible refine bA ?_ | with_reducible refine bD ?_ | ((with_reducible refine bS ?_ ?_); rotate_left; (focus ((try simp); (try omega))))))) hb1
    have hs1 := hb1.size
    simp at hs1
    go_wp2
    go_ret
    refine ⟨⟨_, rfl, ?_⟩, by (repeat (first | with_reducible assumption | with_reducible exact Below.refl _ _ | with_reducible refine bA ?_ | with_reducible refine bD ?_ | ((with_reducible refine bS ?_ ?_); rotate_left; (focus ((try simp); (try omega))))))⟩
    rw [HV.out]
    exact own_made _ _ _ _ (by omega)
theorem atFrom_mem (st : Int) : ∀ (l : List C3) (n : Nat) (x : Int), x ∈ atFrom st n l → ∃ k : Nat, x = (k : Int) ∧ n ≤ k ∧ k < n + l.length
  | [], n, x, h => by simp [atFrom] at h
  | d :: l, n, x, h => by
    simp only [atFrom] at h
    have hr : x ∈ atFrom st (n + 1) l → ∃ k : Nat, x = (k : Int) ∧ n ≤ k ∧ k < n + (d :: l).length := fun h => by
      obtain ⟨k, h1, h2, h3⟩ := atFrom_mem st l (n + 1) x h
      exact ⟨k, h1, by omega, by simp; omega⟩
    split at h
    · rcases List.mem_cons.1 h with rfl | h
      · exact ⟨n, rfl, Nat.le_refl _, by simp⟩
      · exact hr h
    · exact hr h
def elemOf (cells : List C3) (i : Int) : Int := (cells.getD i.toNat ⟨0, 0, 0⟩).e
def keptTo (cells : List C3) (l : List Int) (k : Nat) : List Int := (l.take k).map (elemOf cells)
theorem keptTo_snoc {cells : List C3} {l : List Int} {k : Nat} {x : Int} (hk : k < l.length) (hx : l.getD k 0 = x) : keptTo cells l (k + 1) = keptTo cells l k ++ [elemOf cells x] := by
  unfold keptTo
  have e : l.take (k + 1) = l.take k ++ [x] := by
    rw [List.take_succ_eq_append_getElem hk, ← hx]; simp [List.getD, List.getElem?_eq_getElem hk]
  rw [e, List.map_append]; rfl
theorem keptTo_len (cells : List C3) (l : List Int) (k : Nat) : (keptTo cells l k).length ≤ k := by
  have := List.length_take_le k l
  simp [keptTo]; omega
theorem keptTo_end {c : Ch} (h : chanOk c = true) : keptTo c.cells (atS c 2) (atS c 2).length = keptIn c := by
  unfold keptTo keptIn
  rw [List.take_length, h]; rfl
set_option maxRecDepth 100000 in
set_option maxHeartbeats 2000000 in
theorem sKeptIn_any (c : Ch) (a b : Option Addr) (p q : Nat) (w : World) (h1 : Seg w w.heap.size a c.cells.length 3 (cellF c.cells)) (h2 : Seg w w.heap.size b c.words.length 1 (intF c.words)) (hm : c.cells.length ≤ 1099511627776) :
    Calls Try.prog 16 #[.agg #[.int .i64 c.cap, .int .i64 c.sent, .int .i64 c.got, .int .i64 c.fin, .slice a c.cells.length p, .slice b c.words.length q]] w fun r w' => (∃ v, r = .returned v ∧ OInts w' w.heap.size v (keptIn c)) ∧ Below w.heap.size w w' := by
  obtain ⟨i0, hi0, hz0, hz1, hz2⟩ := info_parts infoInt
  have H1 := Lib.hid h1
  have H2 := Lib.hid h2
  clear h1 h2
  by_cases hc : chanOk c = true
  · have HV := Lib.hid (keptTo_end hc)
    have HL : Hid (∀ x ∈ atS c 2, ∃ k : Nat, x = (k : Int) ∧ k < c.cells.length) := fun x hx => by
      obtain ⟨k, h1, _, h3⟩ := atFrom_mem 2 c.cells 0 x hx
      exact ⟨k, h1, by omega⟩
    have hll : (atS c 2).length ≤ c.cells.length := by have := atFrom_len 2 c.cells 0; unfold atS; omega
    go_enter Try.func16, Try.ntmps16
    go_wp2_with fail
    refine (sChanOk_any c a b p q _ (((H1.out).below (by (repeat (first | with_reducible assumption | with_reducible exact Below.refl _ _ | with_reducible refine bA ?_ | with_reducible refine bD ?_ | ((with_reducible refine bS ?_ ?_); rotate_left; (focus ((try simp); (try omega)))))))).more (by simp; try omega)) (((H2.out).below (by (repeat (first | with_reducible assumption | with_reducible exact Below.refl _ _ | with_reducible refine bA ?_ | with_reducible refine bD ?_ | ((with_reducible refine bS ?_ ?_); rotate_left; (focus ((try simp); (try omega)))))))).more (by simp; try omega))).mono ?_
    rintro _ w1 ⟨rfl, hb1⟩
    have hB1 : Below w.heap.size w w1 := bT (by (repeat (first | with_reducible assumption | with_reducible exact Below.refl _ _ | with_reducible refine bA ?_ | with_reducible refine bD ?_ | ((with_reducible refine bS ?_ ?_); rotate_left; (focus ((try simp); (try omega))))))) hb1
    have hs1 := hb1.size
    simp at hs1
    have := fun o => hb1.cell (p := ⟨w.heap.size, o, none⟩) (by simp; try omega)
    have hout1 : OInts w1 (w.heap.size + 1) (.slice (some ⟨w.heap.size + 1, 0, none⟩) 0 0) [] := own_below (own_made_at _ _ _ _ _ (by simp) (by simp)) hb1
    go_wp2_with fail
    refine (l2At_any c 2 a b p q _ (((H1.out).below hB1).more (by omega)) hm).mono ?_
    rintro _ w2 ⟨⟨v2, rfl, hown2⟩, hb2⟩
    have hB2 : Below w.heap.size w w2 := bT (by (repeat (first | with_reducible assumption | with_reducible exact Below.refl _ _ | with_reducible refine bA ?_ | with_reducible refine bD ?_ | ((with_reducible refine bS ?_ ?_); rotate_left; (focus ((try simp); (try omega))))))) hb2
    have hs2 := hb2.size
    have hx4 : w2.cell? ⟨w.heap.size, 4, none⟩ = some (.slice a c.cells.length p) := (hb2.cell (by simp; omega)).trans (by simp [*, go_sem])
    have hout2 := own_below hout1 hb2
    have hne2 : ∀ g, (Value.slice (some ⟨w.heap.size + 1, 0, none⟩) 0 0).ownBlock = some g → v2.ownBlock ≠ some g := fun g hg he => by
      simp [Value.ownBlock] at hg
      subst hg
      have := (hown2.lt _ he).1
      omega
    obtain ⟨la, lc, rfl, _⟩ := OInts.seg hown2
    generalize hatl : atS c 2 = l at *
    have HA := Lib.hid hatl
    clear hatl hout1 hb1 hb2
    go_wp2_with fail
    go_loopw [3, 5] (fun v i wr => ∃ k : Nat, k ≤ l.length ∧ i = .int .i64 k ∧ OInts wr (w.heap.size + 1) v (keptTo c.cells l k) ∧ (∀ g, v.ownBlock = some g → (Value.slice la l.length lc).ownBlock ≠ some g) ∧ OInts wr w1.heap.size (.slice la l.length lc) l ∧ wr.cell? ⟨w.heap.size, 4, none⟩ = some (.slice a c.cells.length p) ∧ w.heap.size < wr.heap.size ∧ Below w.heap.size w wr) (fun _ i _ => l.length - (intOf i).toNat)
    case atStart => exact ⟨0, Nat.zero_le _, rfl, (show keptTo c.cells l 0 = [] from rfl) ▸ hout2, hne2, hown2, hx4, by omega, hB2⟩
    case round =>
      clear hout2 hne2 hown2 hx4 hB2
      obtain ⟨k, hk, rfl, hown, hne, hol, x4, hlt1, hB⟩ := hrel
      by_cases hlt : k < l.length
      · obtain ⟨i, hxi, hi⟩ := HL.out (l.getD k 0) (by rw [List.getD, List.getElem?_eq_getElem hlt]; exact List.getElem_mem hlt)
        have hgl : ∃ g, la = some ⟨g, 0, none⟩ ∧ wr.cell? ⟨g, k, none⟩ = some (.int .i64 (l.getD k 0)) := by
          rcases hol.2 with ⟨h0, h00⟩ | ⟨g, cap, cur, h0, _⟩
          · omega
          · simp at h0
            refine ⟨g, h0.1, ?_⟩
            have := hol.cells (g := g) (by rw [h0.1]; rfl) k (.int .i64 (l.getD k 0)) (by simp [ints, List.getD, List.getElem?_eq_getElem hlt])
            rw [← this]; congr 1; by_cases e : k = 0 <;> simp [Addr.add, e]
        obtain ⟨g, rfl, cl⟩ := hgl
        obtain h0 | ⟨bb, bo, rfl, hb, hcc⟩ := H1.out
        · omega
        have c1 := (hB.cell (p := ⟨bb, bo + i * 3 + 1, none⟩) hb).trans (hcc i 1 hi (by omega))
        simp only [cellF, C3.val] at c1
        clear hcc
        have he : elemOf c.cells (l.getD k 0) = (c.cells.getD i ⟨0, 0, 0⟩).e := by rw [hxi]; simp [elemOf]
        have HEx := Lib.hid he
        generalize (c.cells.getD i ⟨0, 0, 0⟩).e = ev at c1 HEx
        clear he
        have HX := Lib.hid hxi
        rw [hxi] at cl
        clear hxi
        have hle := keptTo_len c.cells l k
        have hk0 : (0 : Int) ≤ (k : Int) := by omega
        have hk1 : (k : Int) < (l.length : Int) := by omega
        have hin0 : (0 : Int) ≤ (i : Int) := by omega
        have hin1 : (i : Int) < (c.cells.length : Int) := by omega
        go_wp2_with fail
        have hgw : g < wr.heap.size := World.block_lt_of_cell? _ _ cl
        have hbw : bb < wr.heap.size := by omega
        have hn1 : some w.heap.size ≠ u3.ownBlock := fun e => own_ne hown (b := w.heap.size) (by omega) e.symm
        have hn2 : some g ≠ u3.ownBlock := fun e => hne g e.symm rfl
        have hn3 : some bb ≠ u3.ownBlock := fun e => own_ne hown (b := bb) (by omega) e.symm
        go_region_held3 (fun w' => w'.cell? ⟨w.heap.size, 4, none⟩ = some (.slice (some ⟨bb, bo, none⟩) c.cells.length p) ∧ w'.cell? ⟨g, k, none⟩ = some (.int .i64 i) ∧ w'.cell? ⟨bb, bo + i * 3 + 1, none⟩ = some (.int .i64 ev))
          (first
            | (simp [*, go_sem])
            | (refine ⟨World.grownBy.cell hgrow (by simp [*, go_sem]) hn1, World.grownBy.cell hgrow (by simp [*, go_sem]) hn2, World.grownBy.cell hgrow (by simp [*, go_sem]) hn3⟩))
          (first | (refine step_append_lies _ (by rfl) _ _ _ (by rfl) (w.heap.size + 1) 2 i0 _ 1 8 Try.underlying23 hi0 hz0 hz1 hz2 rfl (by omega) u3 _ _ (by rfl) (World.ownsRow.drew (hown.alloc _)) ⟨wr.heap.size, 0, none⟩ 1 1 [.int .i64 ev] (by rfl) (by rfl) (World.news_of_block (cs := #[.int .i64 ev]) (t := 2) (fr := (0, 0)) (heap_alloc_new wr _)) (by simp [Value.oneCell']) (by omega) (by unfold maxLen; omega) (by omega) (by simp; omega) (wr.heap.size + 1) (by simp) ?_; intro gg cap w4 hown4 hgrow hat hlt4))
        have hx4 : w4.cell? ⟨w.heap.size, 4, none⟩ = some (.slice (some ⟨bb, bo, none⟩) c.cells.length p) := World.grownBy.cell hgrow (by simp [*, go_sem]) hn1
        have hs4 := hgrow.size
        simp at hs4
        have hB4 : Below w.heap.size w w4 := bOwn (by (repeat (first | with_reducible assumption | with_reducible exact Below.refl _ _ | with_reducible refine bA ?_ | with_reducible refine bD ?_ | ((with_reducible refine bS ?_ ?_); rotate_left; (focus ((try simp); (try omega))))))) hgrow (by simp; omega) (fun q hq => by have := (hown.lt q hq).1; omega)
        have hol4 : OInts w4 w1.heap.size (.slice (some ⟨g, 0, none⟩) l.length lc) l := (World.ownsRow.drew (hol.alloc _)).kept hgrow (.inr hn2)
        have hown5 : OInts w4 (w.heap.size + 1) (.slice (some ⟨gg, 0, none⟩) ((keptTo c.cells l k).length + 1) cap) (keptTo c.cells l (k + 1)) := by
          rw [keptTo_snoc hlt rfl, HEx.out]; exact OInts.snoc hown4
        have hgg : g ≠ gg := by
          rcases hat with hat | hat
          · intro e; exact hn2 (by rw [hat, e])
          · omega
        clear hown4 hgrow hn1 hn2 hn3 hown hol hne x4 hat
        go_wp2
        go_roundw
        case rel => exact ⟨k + 1, by omega, by go_num, hown5, fun g' e1 e2 => hgg (by simp [Value.ownBlock] at e1 e2; omega), hol4, hx4, by omega, hB4⟩
        case measure => simp [intOf]; omega
      · have : k = l.length := by omega
        subst this
        go_wp2
        go_ret
        exact ⟨⟨_, rfl, own_lo (HV.out ▸ hown) (by omega)⟩, hB⟩
  · have HV : Hid (keptIn c = []) := by simp [keptIn, hc, Hid]
    go_enter Try.func16, Try.ntmps16
    go_wp2_with fail
    refine (sChanOk_any c a b p q _ (((H1.out).below (by (repeat (first | with_reducible assumption | with_reducible exact Below.refl _ _ | with_reducible refine bA ?_ | with_reducible refine bD ?_ | ((with_reducible refine bS ?_ ?_); rotate_left; (focus ((try simp); (try omega)))))))).more (by simp; try omega)) (((H2.out).below (by (repeat (first | with_reducible assumption | with_reducible exact Below.refl _ _ | with_reducible refine bA ?_ | with_reducible refine bD ?_ | ((with_reducible refine bS ?_ ?_); rotate_left; (focus ((try simp); (try omega)))))))).more (by simp; try omega))).mono ?_
    rintro _ w1 ⟨rfl, hb1⟩
    have hB1 : Below w.heap.size w w1 := bT (by (repeat (first | with_reducible assumption | with_reducible exact Below.refl _ _ | with_reducible refine bA ?_ | with_reducible refine bD ?_ | ((with_reducible refine bS ?_ ?_); rotate_left; (focus ((try simp); (try omega))))))) hb1
    have hout1 : OInts w1 w.heap.size (.slice (some ⟨w.heap.size + 1, 0, none⟩) 0 0) [] := own_below (own_made_at _ _ _ _ _ (by simp) (by simp)) hb1
    go_wp2
    go_ret
    refine ⟨⟨_, rfl, ?_⟩, by (repeat (first | with_reducible assumption | with_reducible exact Below.refl _ _ | with_reducible refine bA ?_ | with_reducible refine bD ?_ | ((with_reducible refine bS ?_ ?_); rotate_left; (focus ((try simp); (try omega))))))⟩
    rw [HV.out]
    exact hout1
end Go.Proofs.Yteocdelblmgocaa
