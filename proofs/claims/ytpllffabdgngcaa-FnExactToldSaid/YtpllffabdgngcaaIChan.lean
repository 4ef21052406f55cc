/-
  The program's functions of chapter 2; lists lie in memory and hold at most what memory can hold.
-/
import Derived.Test.YtpllffabdgngcaaModel
import Derived.Test.YtpllffabdgngcaaNew
import Derived.Test.YtpllffabdgngcaaIOk
import Derived.Test.YtpllffabdgngcaaSChan
namespace Go.Proofs.Ytpllffabdgngcaa
open Go.RowKit
def wordsB (l : List Int) : Bool := decide (l.length ≤ 80) && l.all (fun x => inB x 0 2)
def cellsB (n : Nat) (cs : List C3) : Bool := decide (cs.length = 40) && cs.all (cellFits n)
def countB (c : Ch) : Bool := inB c.sent 0 40 && (inB c.got 0 40 && inB c.fin 0 40)
theorem chanOk_parts (c : Ch) : chanOk c = (inB c.cap 0 4 && (countB c && (wordsB c.words && cellsB c.words.length c.cells))) := by
  unfold chanOk chanHead countB wordsB cellsB
  cases inB c.cap 0 4 <;> cases inB c.sent 0 40 <;> cases inB c.got 0 40 <;> cases inB c.fin 0 40 <;> cases decide (c.cells.length = 40) <;> cases decide (c.words.length ≤ 80) <;> cases c.cells.all (cellFits c.words.length) <;> cases c.words.all (fun x => inB x 0 2) <;> rfl
set_option maxRecDepth 100000 in
theorem countersOk_any (c : Ch) (v1 v2 : Value) (w : World) :
    Calls Try.prog 40 #[.agg #[.int .i64 c.cap, .int .i64 c.sent, .int .i64 c.got, .int .i64 c.fin, v1, v2]] w fun r w' => r = .returned (.bool (countB c)) ∧ Below w.heap.size w w' := by
  go_enter Try.func40, Try.ntmps40
  go_wp2_with (go_at_call 39; refine (inRange_any _ _ _).mono ?_; rintro _ _ ⟨rfl, rfl⟩)
  all_goals go_ret
  all_goals exact ⟨ret_bool (by simp [countB, *]), by (repeat (first | with_reducible assumption | with_reducible exact Below.refl _ _ | with_reducible refine bA ?_ | with_reducible refine bD ?_ | ((with_reducible refine bS ?_ ?_); rotate_left; (focus ((try simp); (try omega)))) | ((with_reducible refine bBx ?_ ?_); rotate_left; (focus ((try simp); (try omega))))))⟩
theorem wordsB_bad {l : List Int} {k : Nat} {x : Int} (hk : k < l.length) (hc : l.getD k 0 = x) (h : inB x 0 2 = false) : false = wordsB l := by
  have : l.all (fun x => inB x 0 2) = false := by
    rw [List.all_eq_false]
    refine ⟨l[k], List.getElem_mem hk, ?_⟩
    rw [← hc] at h
    simpa [List.getD, List.getElem?_eq_getElem hk] using h
  simp [wordsB, this]
theorem wordsB_end {l : List Int} (h : l.length ≤ 80) (h2 : (l.take l.length).all (fun x => inB x 0 2) = true) : true = wordsB l := by
  rw [List.take_length] at h2
  simp only [wordsB, h2, h, decide_true]; rfl
set_option maxRecDepth 100000 in
set_option maxHeartbeats 400000 in
theorem wordsOk_any (l : List Int) (a : Option Addr) (p : Nat) (w : World) (h : Seg w w.heap.size a l.length 1 (intF l)) (hm : l.length ≤ maxLen) :
    Calls Try.prog 41 #[.slice a l.length p] w fun r w' => r = .returned (.bool (wordsB l)) ∧ Below w.heap.size w w' := by
  unfold maxLen at hm
  by_cases hlen : 80 < l.length
  · have hV : Hid (false = wordsB l) := by simp [wordsB, Hid]; omega
    go_enter Try.func41, Try.ntmps41
    go_wp2
    go_ret
    exact ⟨ret_bool hV.out, Below.refl _ _⟩
  · have hd : decide (80 < (l.length : Int)) = false := by simp; omega
    have hle : l.length ≤ 80 := by omega
    clear hlen
    have HS := Lib.hid h
    clear h
    go_enter Try.func41, Try.ntmps41
    go_wp2
    go_loopw [10] (fun i wr => ∃ k : Nat, k ≤ l.length ∧ i = .int .i64 k ∧ Hid ((l.take k).all (fun x => inB x 0 2) = true) ∧ Below w.heap.size w wr) (fun i _ => l.length - (intOf i).toNat)
    case atStart => exact ⟨0, Nat.zero_le _, rfl, rfl, Below.refl _ _⟩
    case round =>
      obtain ⟨k, hk, rfl, hall, hB⟩ := hrel
      by_cases hlt : k < l.length
      · obtain h0 | ⟨b, o, rfl, hb, hc⟩ := HS.out
        · omega
        have c0 := (hB.cell (p := ⟨b, o + k * 1 + 0, none⟩) hb).trans (hc k 0 hlt (by omega))
        simp only [intF, Nat.add_zero, Nat.mul_one] at c0
        clear hc
        generalize hcg : l.getD k 0 = x at c0
        have HC := Lib.hid hcg
        clear hcg
        go_wp2_with (go_at_call 39; refine (inRange_any _ _ _).mono ?_; rintro _ _ ⟨rfl, rfl⟩)
        · go_ret
          exact ⟨ret_bool (wordsB_bad hlt HC.out (not_true ‹_›)), hB⟩
        · go_roundw
          case rel => exact ⟨k + 1, by omega, by go_num, words_snoc hlt HC.out hall.out (not_false ‹_›), hB⟩
          case measure => simp [intOf]; omega
      · have : k = l.length := by omega
        subst this
        go_wp2
        go_ret
        exact ⟨ret_bool (wordsB_end hle hall.out), hB⟩
theorem cellsB_bad {n : Nat} {cs : List C3} {k : Nat} {c : C3} (hk : k < cs.length) (hc : cs.getD k ⟨0, 0, 0⟩ = c) (h : cellFits n c = false) : false = cellsB n cs := by
  have : cs.all (cellFits n) = false := by
    rw [List.all_eq_false]
    refine ⟨cs[k], List.getElem_mem hk, ?_⟩
    rw [← hc] at h
    simpa [List.getD, List.getElem?_eq_getElem hk] using h
  simp [cellsB, this]
theorem cellsB_end {n : Nat} {cs : List C3} (h : cs.length = 40) (h2 : (cs.take cs.length).all (cellFits n) = true) : true = cellsB n cs := by
  rw [List.take_length] at h2
  simp only [cellsB, h2, h, decide_true]; rfl
theorem cellsB_snoc {n : Nat} {cs : List C3} {k : Nat} {c : C3} (hk : k < cs.length) (hc : cs.getD k ⟨0, 0, 0⟩ = c) (h : (cs.take k).all (cellFits n) = true) (h1 : cellFits n c = true) : (cs.take (k + 1)).all (cellFits n) = true := by
  rw [take_snocC cs k hk, hc, List.all_append, h]; simp [h1]
set_option maxRecDepth 100000 in
set_option maxHeartbeats 400000 in
theorem cellsOk_any (n : Nat) (cs : List C3) (a : Option Addr) (p : Nat) (w : World) (h : Seg w w.heap.size a cs.length 3 (cellF cs)) (hm : cs.length ≤ maxLen) :
    Calls Try.prog 42 #[.slice a cs.length p, .int .i64 n] w fun r w' => r = .returned (.bool (cellsB n cs)) ∧ Below w.heap.size w w' := by
  unfold maxLen at hm
  by_cases hlen : cs.length = 40
  · have hd : ((cs.length : Int) != 40) = false := by simp; omega
    have hle : cs.length ≤ 40 := by omega
    have HL := Lib.hid hlen
    clear hlen
    have HS := Lib.hid h
    clear h
    go_enter Try.func42, Try.ntmps42
    go_wp2
    go_loopw [12] (fun i wr => ∃ k : Nat, k ≤ cs.length ∧ i = .int .i64 k ∧ Hid ((cs.take k).all (cellFits n) = true) ∧ Below w.heap.size w wr) (fun i _ => cs.length - (intOf i).toNat)
    case atStart => exact ⟨0, Nat.zero_le _, rfl, rfl, Below.refl _ _⟩
    case round =>
      obtain ⟨k, hk, rfl, hall, hB⟩ := hrel
      have hs := hB.size
      by_cases hlt : k < cs.length
      · obtain h0 | ⟨b, o, rfl, hb, hc⟩ := HS.out
        · omega
        have c0 := (hB.cell (p := ⟨b, o + k * 3 + 0, none⟩) hb).trans (hc k 0 hlt (by omega))
        have c1 := (hB.cell (p := ⟨b, o + k * 3 + 1, none⟩) hb).trans (hc k 1 hlt (by omega))
        have c2 := (hB.cell (p := ⟨b, o + k * 3 + 2, none⟩) hb).trans (hc k 2 hlt (by omega))
        simp only [cellF, C3.val, Nat.add_zero] at c0 c1 c2
        clear hc
        generalize hcg : cs.getD k ⟨0, 0, 0⟩ = c at c0 c1 c2
        have HC := Lib.hid hcg
        clear hcg
        go_wp2_with (go_at_call 50; refine (cellOk_any _ _ _ _).mono ?_; rintro _ w1 ⟨rfl, hbw1⟩; have hBw1 : Below w.heap.size w w1 := bT (by (repeat (first | with_reducible assumption | with_reducible exact Below.refl _ _ | with_reducible refine bA ?_ | with_reducible refine bD ?_ | ((with_reducible refine bS ?_ ?_); rotate_left; (focus ((try simp); (try omega)))) | ((with_reducible refine bBx ?_ ?_); rotate_left; (focus ((try simp); (try omega))))))) hbw1; have hsw1 := hbw1.size; (try (simp at hsw1)); have := fun o => hbw1.cell (p := ⟨wr.heap.size, o, none⟩) (by ((try simp); (try omega))); have := fun o => hbw1.frozen (p := ⟨wr.heap.size, o, none⟩) (by ((try simp); (try omega))); have : wr.heap.size < w1.heap.size := (by omega); have : wr.heap.size ≤ w1.heap.size := (by omega); have : wr.heap.size ≤ w1.heap.size + 1 := (by omega))
        all_goals first
          | (go_ret; exact ⟨ret_bool (cellsB_bad hlt HC.out (by simp_all [cellFits, okC])), by (repeat (first | with_reducible assumption | with_reducible exact Below.refl _ _ | with_reducible refine bA ?_ | with_reducible refine bD ?_ | ((with_reducible refine bS ?_ ?_); rotate_left; (focus ((try simp); (try omega)))) | ((with_reducible refine bBx ?_ ?_); rotate_left; (focus ((try simp); (try omega))))))⟩)
          | (go_roundw
             case rel => exact ⟨k + 1, by omega, by go_num, cellsB_snoc hlt HC.out hall.out (by simp_all [cellFits, okC]), by (repeat (first | with_reducible assumption | with_reducible exact Below.refl _ _ | with_reducible refine bA ?_ | with_reducible refine bD ?_ | ((with_reducible refine bS ?_ ?_); rotate_left; (focus ((try simp); (try omega)))) | ((with_reducible refine bBx ?_ ?_); rotate_left; (focus ((try simp); (try omega))))))⟩
             case measure => simp [intOf]; omega)
      · have : k = cs.length := by omega
        subst this
        go_wp2
        go_ret
        exact ⟨ret_bool (cellsB_end HL.out hall.out), hB⟩
  · have hd : ((cs.length : Int) != 40) = true := by simp; omega
    have hV : Hid (false = cellsB n cs) := by simp [cellsB, Hid, hlen]
    clear hlen
    go_enter Try.func42, Try.ntmps42
    go_wp2
    go_ret
    exact ⟨ret_bool hV.out, Below.refl _ _⟩
set_option maxRecDepth 100000 in
set_option maxHeartbeats 400000 in
theorem chanOk_any (c : Ch) (a b : Option Addr) (p q : Nat) (w : World) (h1 : Seg w w.heap.size a c.cells.length 3 (cellF c.cells)) (h2 : Seg w w.heap.size b c.words.length 1 (intF c.words)) (m1 : c.cells.length ≤ maxLen) (m2 : c.words.length ≤ maxLen) :
    Calls Try.prog 23 #[.agg #[.int .i64 c.cap, .int .i64 c.sent, .int .i64 c.got, .int .i64 c.fin, .slice a c.cells.length p, .slice b c.words.length q]] w fun r w' => r = .returned (.bool (chanOk c)) ∧ Below w.heap.size w w' := by
  rw [chanOk_parts]
  have H1 := Lib.hid h1
  have H2 := Lib.hid h2
  have M1 := Lib.hid m1
  have M2 := Lib.hid m2
  clear h1 h2 m1 m2
  go_enter Try.func23, Try.ntmps23
  go_wp2_with (first | (go_at_call 39; refine (inRange_any _ _ _).mono ?_; rintro _ _ ⟨rfl, rfl⟩) | (go_at_call 40; refine (countersOk_any c _ _ _).mono ?_; rintro _ w1 ⟨rfl, hbw1⟩; have hBw1 : Below w.heap.size w w1 := bT (by (repeat (first | with_reducible assumption | with_reducible exact Below.refl _ _ | with_reducible refine bA ?_ | with_reducible refine bD ?_ | ((with_reducible refine bS ?_ ?_); rotate_left; (focus ((try simp); (try omega)))) | ((with_reducible refine bBx ?_ ?_); rotate_left; (focus ((try simp); (try omega))))))) hbw1; have hsw1 := hbw1.size; (try (simp at hsw1)); have := fun o => hbw1.cell (p := ⟨w.heap.size, o, none⟩) (by ((try simp); (try omega))); have := fun o => hbw1.frozen (p := ⟨w.heap.size, o, none⟩) (by ((try simp); (try omega))); have : w.heap.size < w1.heap.size := (by omega); have : w.heap.size ≤ w1.heap.size := (by omega); have : w.heap.size ≤ w1.heap.size + 1 := (by omega)) | (go_at_call 41; refine (wordsOk_any c.words b q _ ((H2.out.below (by (repeat (first | with_reducible assumption | with_reducible exact Below.refl _ _ | with_reducible refine bA ?_ | with_reducible refine bD ?_ | ((with_reducible refine bS ?_ ?_); rotate_left; (focus ((try simp); (try omega)))) | ((with_reducible refine bBx ?_ ?_); rotate_left; (focus ((try simp); (try omega)))))))).more (by (try simp); omega)) M2.out).mono ?_; rintro _ w2 ⟨rfl, hb2⟩; have hB2 : Below w.heap.size w w2 := bT (by (repeat (first | with_reducible assumption | with_reducible exact Below.refl _ _ | with_reducible refine bA ?_ | with_reducible refine bD ?_ | ((with_reducible refine bS ?_ ?_); rotate_left; (focus ((try simp); (try omega)))) | ((with_reducible refine bBx ?_ ?_); rotate_left; (focus ((try simp); (try omega))))))) hb2; have hs2 := hb2.size; have := fun o => hb2.cell (p := ⟨w.heap.size, o, none⟩) (by (try simp); omega)) | (go_at_call 42; refine (cellsOk_any c.words.length c.cells a p _ ((H1.out.below (by (repeat (first | with_reducible assumption | with_reducible exact Below.refl _ _ | with_reducible refine bA ?_ | with_reducible refine bD ?_ | ((with_reducible refine bS ?_ ?_); rotate_left; (focus ((try simp); (try omega)))) | ((with_reducible refine bBx ?_ ?_); rotate_left; (focus ((try simp); (try omega)))))))).more (by (try simp); omega)) M1.out).mono ?_; rintro _ w3 ⟨rfl, hb3⟩; have hB3 : Below w.heap.size w w3 := bT (by (repeat (first | with_reducible assumption | with_reducible exact Below.refl _ _ | with_reducible refine bA ?_ | with_reducible refine bD ?_ | ((with_reducible refine bS ?_ ?_); rotate_left; (focus ((try simp); (try omega)))) | ((with_reducible refine bBx ?_ ?_); rotate_left; (focus ((try simp); (try omega))))))) hb3))
  all_goals go_ret
  all_goals exact ⟨ret_bool (by simp [*]), by (repeat (first | with_reducible assumption | with_reducible exact Below.refl _ _ | with_reducible refine bA ?_ | with_reducible refine bD ?_ | ((with_reducible refine bS ?_ ?_); rotate_left; (focus ((try simp); (try omega)))) | ((with_reducible refine bBx ?_ ?_); rotate_left; (focus ((try simp); (try omega))))))⟩
end Go.Proofs.Ytpllffabdgngcaa
