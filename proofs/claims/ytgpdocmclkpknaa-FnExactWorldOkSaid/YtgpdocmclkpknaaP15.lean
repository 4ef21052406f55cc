/-
  The reference model's putting into a cell, all cases; the lists are the call's own and hold at most 2 ^ 40 elements.
  What who is parked does, of the reference model, on hands and channels that are kept whole; lists lie in memory and hold at most 2 ^ 40 elements.
  The reference model's calling of a receiver, on hands and channels that are kept whole; lists hold at most 2 ^ 40 elements.
  The reference model's steps of sending, on hands and channels that are kept whole; lists lie in memory and hold at most 2 ^ 40 elements.
  The last step of sending of the reference model, on hands and channels that are kept whole; lists lie in memory and hold at most 2 ^ 40 elements.
  The reference model's looks at a cell of chapters 7 and 8, on hands and channels that are kept whole; lists lie in memory.
-/
import Derived.Test.YtgpdocmclkpknaaP14
import Derived.Test.YtgpdocmclkpknaaP03
import Derived.BigRegion
import Derived.Test.YtgpdocmclkpknaaP13
set_option linter.unusedSimpArgs false
set_option linter.unusedVariables false
namespace Go.Proofs.Ytgpdocmclkpknaa
open Go.RowKit
end Go.Proofs.Ytgpdocmclkpknaa
set_option linter.unusedSimpArgs false
set_option linter.unusedVariables false
namespace Go.Proofs.Ytgpdocmclkpknaa
open Go.RowKit
set_option linter.unusedSimpArgs false
attribute [local simp] bx_size
attribute [local go_sem ↓] zeroHand zeroChan toLHand toLChan toVHand toVChan storeHand storeChan storeHandC storeChanC
end Go.Proofs.Ytgpdocmclkpknaa
set_option linter.unusedSimpArgs false
set_option linter.unusedVariables false
namespace Go.Proofs.Ytgpdocmclkpknaa
open Go.RowKit
set_option linter.unusedSimpArgs false
attribute [local simp] bx_size
attribute [local go_sem ↓] zeroHand zeroChan toLHand toLChan toVHand toVChan storeHand storeChan storeHandC storeChanC
end Go.Proofs.Ytgpdocmclkpknaa
set_option linter.unusedSimpArgs false
set_option linter.unusedVariables false
namespace Go.Proofs.Ytgpdocmclkpknaa
open Go.RowKit
set_option linter.unusedSimpArgs false
attribute [local simp] bx_size
attribute [local go_sem ↓] zeroHand zeroChan toLHand toLChan toVHand toVChan storeHand storeChan storeHandC storeChanC
theorem Fresh.off2 {w:World} {v v':Value} {lim b:Nat} (h:Fresh w v v') (hv:∀ j,v.ownBlock=some j→lim≤j) (h2:b<lim) (h3:lim≤w.heap.size):v'.ownBlock≠some b:=fun e=>by
  rcases h b e with h|h
  · have:=hv b h;omega
  · omega
theorem Fresh.up {w:World} {v v':Value} {lim n:Nat} (h:Fresh w v v') (hv:∀ j,v.ownBlock=some j→lim≤j) (h1:n≤lim) (h2:n≤w.heap.size) (j:Nat) (hj:v'.ownBlock=some j):n≤j:=by
  rcases h j hj with h|h
  · have:=hv j h;omega
  · omega
end Go.Proofs.Ytgpdocmclkpknaa
set_option linter.unusedSimpArgs false
set_option linter.unusedVariables false
namespace Go.Proofs.Ytgpdocmclkpknaa
open Go.RowKit
set_option linter.unusedSimpArgs false
attribute [local simp] bx_size
attribute [local go_sem ↓] zeroHand zeroChan toLHand toLChan toVHand toVChan storeHand storeChan storeHandC storeChanC
end Go.Proofs.Ytgpdocmclkpknaa
set_option linter.unusedSimpArgs false
set_option linter.unusedVariables false
namespace Go.Proofs.Ytgpdocmclkpknaa
open Go.RowKit
set_option linter.unusedSimpArgs false
attribute [local simp] bx_size
attribute [local go_sem ↓] zeroHand zeroChan toLHand toLChan toVHand toVChan storeHand storeChan storeHandC storeChanC
end Go.Proofs.Ytgpdocmclkpknaa
