/-
  Hands and channels of the program, loaded and stored whole; no condition.
-/
import Derived.Test.YtkfdbpmnbbhpeaaBox
set_option linter.unusedSimpArgs false
set_option linter.unusedVariables false
namespace Go.Proofs.Ytkfdbpmnbbhpeaa
open Go.RowKit
theorem infoHand : (Try.prog.info? 29).map (fun i => (i.zero, i.size, i.bytes)) = some (some (.agg (hvals Ha.zero)), 14, 112) := by kernel_rfl
theorem zeroHand (w : World) : (zeroValue 29).run Try.prog w = .ok (.agg (hvals Ha.zero)) w := by
  obtain ⟨i, hi, hz, _⟩ := info_parts infoHand
  have e : Try.prog.info? 29 = some Try.t29 := by kernel_rfl
  obtain rfl : Try.t29 = i := by rw [e] at hi; exact Option.some.inj hi
  simp [zeroValue, go_sem, hz]
theorem aggHand (w : World) : (isAgg 29).run Try.prog w = .ok true w := by simp [isAgg, go_sem]
theorem szHand (w : World) : (sizeOf 29).run Try.prog w = .ok 14 w := by simp [go_sem]
variable {w : World} {b : Nat}
theorem loadHandV (h : okO 14 (hp w b) = true) : (loadVar 29 ⟨b, 0, none⟩).run Try.prog w = .ok (.agg (cellsO (hp w b))) w := load_box aggHand szHand h
theorem loadHand (h : okO 14 (hp w b) = true) : (Instr.loadAt 29 (.pointer (some ⟨b, 0, none⟩))).run Try.prog w = .ok (.agg (cellsO (hp w b))) w := by
  simp only [Instr.loadAt, Instr.sureAddr, Sem.run_bind, Sem.run_pure, Result.andThen_ok, loadHandV h]
theorem storeHand (x : Ha) (h : okO 14 (hp w b) = true) : (Instr.storeAt 29 (.pointer (some ⟨b, 0, none⟩)) (.agg (hvals x))).run Try.prog w = .ok () (setBox w b (hvals x)) := by
  simp only [Instr.storeAt, Instr.sureAddr, Sem.run_bind, Sem.run_pure, Result.andThen_ok]
  exact store_box szHand h rfl (by simp [hvals, Value.oneCell'])
theorem storeHandC (x : Ha) (h : okO 14 (hp w b) = true) : (storeCells ⟨b, 0, none⟩ (hvals x).toList).run Try.prog w = .ok () (setBox w b (hvals x)) := store_cells h rfl (by simp [hvals, Value.oneCell'])
theorem storeChanC (c : Ch) (x y : Option Addr) (n p m q : Nat) (h : okO 6 (hp w b) = true) : (storeCells ⟨b, 0, none⟩ (cvals c (.slice x n p) (.slice y m q)).toList).run Try.prog w = .ok () (setBox w b (cvals c (.slice x n p) (.slice y m q))) := store_cells h rfl (by simp [cvals, Value.oneCell'])
/-- Loading whole, as one word. -/
def LHand (x : Value) : Sem Value := Instr.loadAt 29 x
def VHand (x : Addr) : Sem Value := loadVar 29 x
theorem toLHand (x : Value) : Instr.loadAt 29 x = LHand x := by unfold LHand; simp
theorem toVHand (x : Addr) : loadVar 29 x = VHand x := by unfold VHand; simp
theorem runLHand (h : okO 14 (hp w b) = true) : (LHand (.pointer (some ⟨b, 0, none⟩))).run Try.prog w = .ok (.agg (cellsO (hp w b))) w := loadHand h
theorem runVHand (h : okO 14 (hp w b) = true) : (VHand ⟨b, 0, none⟩).run Try.prog w = .ok (.agg (cellsO (hp w b))) w := loadHandV h
theorem ldHand (x : Ha) (h : hp w b = some (.cells (hvals x) 29)) : (loadVar 29 ⟨b, 0, none⟩).run Try.prog w = .ok (.agg (hvals x)) w := by
  have := loadHandV (w := w) (b := b) (by rw [h]; simp [okO, hv_size])
  rw [h] at this
  exact this
attribute [go_sem] runLHand runVHand bx_size bx_heap_at bx_heap_lt bx_heap_gt bx_cell_at bx_cell_lt bx_cell_gt bx_frozen bx_alloc_at bx_alloc_past bx_twice bx_setCell bx_drew hp_drew hp_alloc_at hp_alloc_past hp_set_at hp_set_lt hp_set_gt okO_cells cellsO_cells setBoxO_cells setCellO_cells Option.map_some lt_2 lt_3 lt_4 lt_5 hv_ne hv_size hv_get0 hv_set0 hv_get1 hv_set1 hv_get2 hv_set2 hv_get3 hv_set3 hv_get4 hv_set4 hv_get5 hv_set5 hv_get6 hv_set6 hv_get7 hv_set7 hv_get8 hv_set8 hv_get9 hv_set9 hv_get10 hv_set10 hv_get11 hv_set11 hv_get12 hv_set12 hv_get13 hv_set13
attribute [go_sem] cv_ne cv_size cv_get0 cv_set0 cv_get1 cv_set1 cv_get2 cv_set2 cv_get3 cv_set3 cv_get4 cv_set4 cv_get5 cv_set5
end Go.Proofs.Ytkfdbpmnbbhpeaa
