/-
  The reference model's writing into a cell of a channel of one's own; the lists are the call's own.
  The reference model's functions of chapter 6, on hands and channels that are kept whole; lists hold at most 2 ^ 40 elements.
  The reference model's waiting in a cell, on hands and channels that are kept whole; the lists are the call's own and hold at most 2 ^ 40 elements.
  The reference model's putting into a cell, on hands and channels that are kept whole; the lists are the call's own and hold at most 2 ^ 40 elements.
  The reference model's putting into a cell that is turned, on hands and channels that are kept whole; the lists are the call's own and hold at most 2 ^ 40 elements.
  The reference model's putting into a cell that is turned, on hands and channels that are kept whole; the lists are the call's own and hold at most 2 ^ 40 elements.
-/
import Derived.Test.YtgpdocmclkpknaaP03
import Derived.Test.YtgpdocmclkpknaaP13
import Derived.Test.YtgpdocmclkpknaaP05
import Derived.Deep.AppendLies
set_option linter.unusedSimpArgs false
set_option linter.unusedVariables false
namespace Go.Proofs.Ytgpdocmclkpknaa
open Go.RowKit
/-- A list of cells that is not empty lies in a block of its own. -/
theorem OCells.open1 {w:World} {lo:Nat} {v:Value} {cs:List C3} (h:OCells w lo v cs) {i:Nat} (hi:i<cs.length) :
    ∃ g cap,v=.slice (some ⟨g,0,none⟩) cs.length cap∧lo≤g∧g<w.heap.size∧(∀ j,j<3→w.cell? ⟨g,i*3+j,none⟩=some ((cs.getD i ⟨0,0,0⟩).val j))∧∀ o,w.frozen? ⟨g,o,none⟩=false:=by
  have h2:=h
  rcases h.2 with ⟨_,h0⟩|⟨g,cap,cur,rfl,hl,hg,_⟩
  · omega
  · refine ⟨g,cap,rfl,hl,(Array.getElem?_eq_some_iff.1 hg).1,fun j hj=>?_,fun o=>by simp [World.frozen?,hg]⟩
    have:=h2.cells (g:=g) rfl (i*3+j) _ (flatC_get cs i j hi hj)
    have e2:(⟨g,0,none⟩:Addr).add (i*3+j)=⟨g,i*3+j,none⟩:=by generalize i*3+j=m;by_cases e:m=0 <;> simp [Addr.add,e]
    rw [e2] at this
    exact this
theorem OCells.set {w:World} {lo g cap:Nat} {cs:List C3} (h:OCells w lo (.slice (some ⟨g,0,none⟩) cs.length cap) cs) {i:Nat} (hi:i<cs.length) (x:C3) :
    OCells (((w.setCell ⟨g,i*3,none⟩ (.int .i64 x.s)).setCell ⟨g,i*3+1,none⟩ (.int .i64 x.e)).setCell ⟨g,i*3+2,none⟩ (.int .i64 x.t)) lo (.slice (some ⟨g,0,none⟩) cs.length cap) (cs.set i x):=by
  have h1:=own_set_cell h (i*3) (by rw [flatC_len];omega) (.int .i64 x.s)
  have h2:=own_set_cell h1 (i*3+1) (by rw [List.length_set,flatC_len];omega) (.int .i64 x.e)
  have h3:=own_set_cell h2 (i*3+2) (by rw [List.length_set,List.length_set,flatC_len];omega) (.int .i64 x.t)
  unfold OCells
  rw [flatC_set,List.length_set]
  exact h3
end Go.Proofs.Ytgpdocmclkpknaa
set_option linter.unusedSimpArgs false
set_option linter.unusedVariables false
namespace Go.Proofs.Ytgpdocmclkpknaa
open Go.RowKit
set_option linter.unusedSimpArgs false
attribute [local simp] bx_size
attribute [local go_sem ↓] zeroHand zeroChan toLHand toLChan toVHand toVChan storeHand storeChan storeHandC storeChanC
end Go.Proofs.Ytgpdocmclkpknaa
set_option linter.unusedSimpArgs false
set_option linter.unusedVariables false
namespace Go.Proofs.Ytgpdocmclkpknaa
open Go.RowKit
set_option linter.unusedSimpArgs false
attribute [local simp] bx_size
attribute [local go_sem ↓] zeroHand zeroChan toLHand toLChan toVHand toVChan storeHand storeChan storeHandC storeChanC
end Go.Proofs.Ytgpdocmclkpknaa
set_option linter.unusedSimpArgs false
set_option linter.unusedVariables false
namespace Go.Proofs.Ytgpdocmclkpknaa
open Go.RowKit
set_option linter.unusedSimpArgs false
attribute [local simp] bx_size
attribute [local go_sem ↓] zeroHand zeroChan toLHand toLChan toVHand toVChan storeHand storeChan storeHandC storeChanC
theorem Fresh.trans {w W:World} {v v1 v2:Value} (h:Fresh w v v1) (k:Fresh W v1 v2) (hs:w.heap.size≤W.heap.size):Fresh w v v2:=fun j hj=>by
  rcases k j hj with h1|h1
  · exact h j h1
  · exact .inr (Nat.le_trans hs h1)
end Go.Proofs.Ytgpdocmclkpknaa
set_option linter.unusedSimpArgs false
set_option linter.unusedVariables false
namespace Go.Proofs.Ytgpdocmclkpknaa
open Go.RowKit
set_option linter.unusedSimpArgs false
attribute [local simp] bx_size
attribute [local go_sem ↓] zeroHand zeroChan toLHand toLChan toVHand toVChan storeHand storeChan storeHandC storeChanC
end Go.Proofs.Ytgpdocmclkpknaa
set_option linter.unusedSimpArgs false
set_option linter.unusedVariables false
namespace Go.Proofs.Ytgpdocmclkpknaa
open Go.RowKit
set_option linter.unusedSimpArgs false
attribute [local simp] bx_size
attribute [local go_sem ↓] zeroHand zeroChan toLHand toLChan toVHand toVChan storeHand storeChan storeHandC storeChanC
end Go.Proofs.Ytgpdocmclkpknaa
