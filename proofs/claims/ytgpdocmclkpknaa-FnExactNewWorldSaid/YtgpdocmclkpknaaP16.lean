/-
  Calling, among the reference model's steps of sending, on hands and channels that are kept whole; lists lie in memory and hold at most 2 ^ 40 elements.
  Steps of receiving of the reference model, on hands and channels that are kept whole; lists lie in memory and hold at most 2 ^ 40 elements.
  More steps of receiving of the reference model, on hands and channels that are kept whole; lists lie in memory and hold at most 2 ^ 40 elements.
  Steps of looking of the reference model's receiving, on hands and channels that are kept whole; lists lie in memory and hold at most 2 ^ 40 elements.
  Turning a cell in chapter 7 of the reference model, on hands and channels that are kept whole; lists lie in memory and hold at most 2 ^ 40 elements.
  Taking from a cell in chapter 7 of the reference model, on hands and channels that are kept whole; lists lie in memory and hold at most 2 ^ 40 elements.
-/
import Derived.Test.YtgpdocmclkpknaaP15
import Derived.BigRegion
import Derived.Test.YtgpdocmclkpknaaP03
set_option linter.unusedSimpArgs false
set_option linter.unusedVariables false
namespace Go.Proofs.Ytgpdocmclkpknaa
open Go.RowKit
set_option linter.unusedSimpArgs false
attribute [local simp] bx_size
attribute [local go_sem ↓] zeroHand zeroChan toLHand toLChan toVHand toVChan storeHand storeChan storeHandC storeChanC
theorem OCells.zero {w:World} {lo n q:Nat} {a:Option Addr} {cs:List C3} (h:OCells w lo (.slice a n q) cs) (e:a=none):q=0:=by
  subst e
  rcases h.2 with ⟨h1,_⟩|⟨g,cap,cur,h1,_⟩
  · simp at h1;exact h1.2
  · simp at h1
theorem OInts.zero {w:World} {lo n q:Nat} {a:Option Addr} {l:List Int} (h:OInts w lo (.slice a n q) l) (e:a=none):q=0:=by
  subst e
  rcases h.2 with ⟨h1,_⟩|⟨g,cap,cur,h1,_⟩
  · simp at h1;exact h1.2
  · simp at h1
theorem OCells.segAt {w:World} {lo q:Nat} {a:Option Addr} {cs:List C3} (h:OCells w lo (.slice a cs.length q) cs):Seg w w.heap.size a cs.length 3 (cellF cs):=by
  obtain ⟨a',q',e,hs⟩:=h.seg
  simp at e
  obtain ⟨rfl,rfl⟩:=e
  exact hs
theorem OInts.segAt {w:World} {lo q:Nat} {a:Option Addr} {l:List Int} (h:OInts w lo (.slice a l.length q) l):Seg w w.heap.size a l.length 1 (intF l):=by
  obtain ⟨a',q',e,hs⟩:=h.seg
  simp at e
  obtain ⟨rfl,rfl⟩:=e
  exact hs
end Go.Proofs.Ytgpdocmclkpknaa
set_option linter.unusedSimpArgs false
set_option linter.unusedVariables false
namespace Go.Proofs.Ytgpdocmclkpknaa
open Go.RowKit
set_option linter.unusedSimpArgs false
attribute [local simp] bx_size
attribute [local go_sem ↓] zeroHand zeroChan toLHand toLChan toVHand toVChan storeHand storeChan storeHandC storeChanC
end Go.Proofs.Ytgpdocmclkpknaa
set_option linter.unusedSimpArgs false
set_option linter.unusedVariables false
namespace Go.Proofs.Ytgpdocmclkpknaa
open Go.RowKit
set_option linter.unusedSimpArgs false
attribute [local simp] bx_size
attribute [local go_sem ↓] zeroHand zeroChan toLHand toLChan toVHand toVChan storeHand storeChan storeHandC storeChanC
end Go.Proofs.Ytgpdocmclkpknaa
set_option linter.unusedSimpArgs false
set_option linter.unusedVariables false
namespace Go.Proofs.Ytgpdocmclkpknaa
open Go.RowKit
set_option linter.unusedSimpArgs false
attribute [local simp] bx_size
attribute [local go_sem ↓] zeroHand zeroChan toLHand toLChan toVHand toVChan storeHand storeChan storeHandC storeChanC
end Go.Proofs.Ytgpdocmclkpknaa
set_option linter.unusedSimpArgs false
set_option linter.unusedVariables false
namespace Go.Proofs.Ytgpdocmclkpknaa
open Go.RowKit
set_option linter.unusedSimpArgs false
attribute [local simp] bx_size
attribute [local go_sem ↓] zeroHand zeroChan toLHand toLChan toVHand toVChan storeHand storeChan storeHandC storeChanC
end Go.Proofs.Ytgpdocmclkpknaa
set_option linter.unusedSimpArgs false
set_option linter.unusedVariables false
namespace Go.Proofs.Ytgpdocmclkpknaa
open Go.RowKit
set_option linter.unusedSimpArgs false
attribute [local simp] bx_size
attribute [local go_sem ↓] zeroHand zeroChan toLHand toLChan toVHand toVChan storeHand storeChan storeHandC storeChanC
end Go.Proofs.Ytgpdocmclkpknaa
