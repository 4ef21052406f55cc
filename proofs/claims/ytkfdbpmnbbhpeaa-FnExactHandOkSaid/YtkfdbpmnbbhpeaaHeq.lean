/-
  Two hands that are kept whole are compared as structs; no condition.
-/
import Derived.Test.YtkfdbpmnbbhpeaaBoxT
import Derived.Laws.StructEq
set_option linter.unusedSimpArgs false
set_option linter.unusedVariables false
namespace Go.Proofs.Ytkfdbpmnbbhpeaa
open Go.RowKit
def eqHa (a b : Ha) : Bool := a.pos == b.pos && ((a.code == b.code && a.elem == b.elem) && (a.cell == b.cell && (a.seen == b.seen && (a.wait == b.wait && (a.fin == b.fin && (a.come == b.come && (a.grow == b.grow && (a.mine == b.mine && (a.nxt == b.nxt && (a.beg == b.beg && (a.reply == b.reply && a.out == b.out)))))))))))
theorem eqHa_iff (a b : Ha) : eqHa a b = true ↔ a = b := by
  obtain ⟨a1, a2, a3, a4, a5, a6, a7, a8, a9, a10, a11, a12, a13, a14⟩ := a
  obtain ⟨b1, b2, b3, b4, b5, b6, b7, b8, b9, b10, b11, b12, b13, b14⟩ := b
  simp [eqHa, and_assoc]
theorem eqHa_self (a : Ha) : eqHa a a = true := (eqHa_iff a a).2 rfl
theorem eqCallV (a b c d : Int) (n : Nat) (w : World) : (Op.equalIn (n + 1 + 1) 27 (.agg #[.int .i64 a, .int .i64 b]) (.agg #[.int .i64 c, .int .i64 d])).run Try.prog w = .ok (a == c && b == d) w := by
  have u3 := Try.underlying2
  have a3 := Try.isAgg2
  have z3 := Try.sizeOf2
  have hS : Try.prog.underlying 27 = some (.struct (Try.prog.fieldsOf 27)) := by kernel_rfl
  rw [run_equalIn_agg w (n + 1) 27 _ _ hS (by kernel_rfl)]
  simp only [Program.fieldsOf, Try.underlying27]
  go_simp
  by_cases h1 : a = c <;> by_cases h2 : b = d <;> simp [h1, h2]
theorem eqHandV (x y : Ha) (w : World) : (Op.equalIn 10000 29 (.agg (hvals x)) (.agg (hvals y))).run Try.prog w = .ok (eqHa x y) w := by
  have u3 := Try.underlying2
  have a3 := Try.isAgg2
  have z3 := Try.sizeOf2
  have a4 := Try.isAgg27
  have z4 := Try.sizeOf27
  have hS : Try.prog.underlying 29 = some (.struct (Try.prog.fieldsOf 29)) := by kernel_rfl
  rw [show (10000 : Nat) = 9998 + 1 + 1 from rfl, run_equalIn_agg w (9998 + 1) 29 _ _ hS (by kernel_rfl)]
  simp only [Program.fieldsOf, Try.underlying29]
  simp [hvals, Op.eqFields, go_sem, eqCallV, eqHa, *]
  by_cases h0 : x.pos = y.pos <;> simp [h0]
  by_cases h1 : x.code = y.code <;> simp [h1]
  by_cases h2 : x.elem = y.elem <;> simp [h2]
  by_cases h3 : x.cell = y.cell <;> simp [h3]
  by_cases h4 : x.seen = y.seen <;> simp [h4]
  by_cases h5 : x.wait = y.wait <;> simp [h5]
  by_cases h6 : x.fin = y.fin <;> simp [h6]
  by_cases h7 : x.come = y.come <;> simp [h7]
  by_cases h8 : x.grow = y.grow <;> simp [h8]
  by_cases h9 : x.mine = y.mine <;> simp [h9]
  by_cases h10 : x.nxt = y.nxt <;> simp [h10]
  by_cases h11 : x.beg = y.beg <;> simp [h11]
  by_cases h12 : x.reply = y.reply <;> simp [h12]
  by_cases h13 : x.out = y.out <;> simp [h13]
end Go.Proofs.Ytkfdbpmnbbhpeaa
