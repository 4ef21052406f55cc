/-
  Asking, of the reference model; lists lie in memory and hold at most 2 ^ 40 elements.
  Asking who can be asked, of the reference model; lists lie in memory and hold at most 2 ^ 40 elements.
  A world in a box of the call's own: loading and storing its channel, its hands; no condition but where it lies.
-/
import Derived.Test.YtmnpgkcdfielbaaP10
import Derived.Test.YtmnpgkcdfielbaaP19
import Derived.Test.YtmnpgkcdfielbaaP14
set_option linter.unusedSimpArgs false
set_option linter.unusedVariables false
namespace Go.Proofs.Ytmnpgkcdfielbaa
open Go.RowKit
set_option linter.unusedSimpArgs false
attribute [local simp] bx_size
attribute [local go_sem ↓] zeroHand toLHand toVHand toSHand storeHandC
attribute [local go_sem] runSHand
end Go.Proofs.Ytmnpgkcdfielbaa
set_option linter.unusedSimpArgs false
set_option linter.unusedVariables false
namespace Go.Proofs.Ytmnpgkcdfielbaa
open Go.RowKit
set_option linter.unusedSimpArgs false
attribute [local simp] bx_size
attribute [local go_sem ↓] zeroHand toLHand toVHand toSHand storeHandC
attribute [local go_sem] runSHand
section
variable {w:World} {b b' o i:Nat} {x:Ha}
theorem se_cell (hi:b'<w.heap.size) (h:b'≠b):(setElem w b o x).cell? ⟨b',i,none⟩=w.cell? ⟨b',i,none⟩:=grCell (setElem_gr w b o x) hi (by simpa using h) i
theorem se_frozen (hi:b'<w.heap.size) (h:b'≠b):(setElem w b o x).frozen? ⟨b',i,none⟩=w.frozen? ⟨b',i,none⟩:=grFroz (setElem_gr w b o x) hi (by simpa using h) i
end
attribute [local go_sem] se_cell se_frozen setElem_size
end Go.Proofs.Ytmnpgkcdfielbaa
set_option linter.unusedSimpArgs false
set_option linter.unusedVariables false
namespace Go.Proofs.Ytmnpgkcdfielbaa
open Go.RowKit
set_option linter.unusedSimpArgs false
theorem own_segS {w:World} {lo:Nat} {t:TypeId} {n k p:Nat} {a:Option Addr} {xs:List Value} {f:Nat→Nat→Value} (h:w.ownsRow lo t k (.slice a n p) n xs) (hf:∀ i j,i<n→j<k→xs[i*k+j]?=some (f i j)):Seg w w.heap.size a n k f∧(a=none→p=0)∧n≤maxLen:=by
  obtain ⟨a',p',e,s⟩:=own_seg h hf
  simp at e
  obtain ⟨rfl,rfl⟩:=e
  refine ⟨s,fun e=>?_,?_⟩
  · rcases h.2 with ⟨e2,_⟩|⟨g,cap,cur,e2,_⟩
    · simp at e2;exact e2.2.2
    · simp at e2;rw [e] at e2;cases e2.1
  · rcases h.2 with ⟨_,h1⟩|⟨g,cap,cur,_,_,_,h1,h2,_⟩
    · omega
    · exact Nat.le_trans h1 h2
theorem ldChanW {w:World} {B:Nat} {x:Wo} {v1 v2 v3 v4:Value} (z:hp w B=some (.cells (wvals x v1 v2 v3 v4) 37)):(LChan (.pointer (some ⟨B,0,none⟩))).run Try.prog w=.ok (.agg (cvals x.ch v1 v2)) w:=by
  have h0:w.cell? ⟨B,0,none⟩=some (.int .i64 x.ch.cap):=(bO z).1 0
  have h1:w.cell? ⟨B,1,none⟩=some (.int .i64 x.ch.sent):=(bO z).1 1
  have h2:w.cell? ⟨B,2,none⟩=some (.int .i64 x.ch.got):=(bO z).1 2
  have h3:w.cell? ⟨B,3,none⟩=some (.int .i64 x.ch.fin):=(bO z).1 3
  have h4:w.cell? ⟨B,4,none⟩=some v1:=(bO z).1 4
  have h5:w.cell? ⟨B,5,none⟩=some v2:=(bO z).1 5
  unfold LChan
  simp [cvals,go_sem, *]
def stC (w:World) (B:Nat) (c:Ch) (v1 v2:Value):World:=(((((w.setCell ⟨B,0,none⟩ (.int .i64 c.cap)).setCell ⟨B,1,none⟩ (.int .i64 c.sent)).setCell ⟨B,2,none⟩ (.int .i64 c.got)).setCell ⟨B,3,none⟩ (.int .i64 c.fin)).setCell ⟨B,4,none⟩ v1).setCell ⟨B,5,none⟩ v2
theorem stC_gr (w:World) (B:Nat) (c:Ch) (v1 v2:Value):w.grownBy (stC w B c v1 v2) (some B):=by
  unfold stC
  repeat (first|with_reducible exact gR _ _|with_reducible refine gS ?_ (.inl rfl))
theorem stC_hp {w:World} {B:Nat} {x:Wo} {u1 u2 v3 v4:Value} {T:TypeId} (z:hp w B=some (.cells (wvals x u1 u2 v3 v4) T)) (c:Ch) (v1 v2:Value):hp (stC w B c v1 v2) B=some (.cells (wvals { x with ch:=c } v1 v2 v3 v4) T):=by
  unfold stC
  simp only [hp_set_at,z,Option.map_some,setCellO_cells]
  rfl
theorem stChanW {w:World} {B:Nat} {x:Wo} {v1 v2 v3 v4:Value} (z:hp w B=some (.cells (wvals x v1 v2 v3 v4) 37)) (c:Ch) (a b:Option Addr) (n p m q:Nat):(storeCells ⟨B,0,none⟩ (cvals c (.slice a n p) (.slice b m q)).toList).run Try.prog w=.ok () (stC w B c (.slice a n p) (.slice b m q)):=by
  have h:=(bO z).1
  have f:=(bO z).2.1
  simp only [wvals] at h
  simp [cvals,storeCells,Addr.add,go_sem,h,f,stC]
attribute [local simp] bx_size
attribute [local go_sem ↓] zeroHand zeroChan toLHand toLChan toVHand toVChan storeHand storeChan storeHandC storeChanC
attribute [local go_sem ↓] toSHand
attribute [local go_sem] runSHand
theorem OHands.ldAt {w:World} {lo g cap:Nat} {hs:List Ha} (h:OHands w lo (.slice (some ⟨g,0,none⟩) hs.length cap) hs) {i:Nat} (hi:i<hs.length):(LHand (.pointer (some ⟨g,i*14,none⟩))).run Try.prog w=.ok (.agg (hvals (hs.getD i Ha.zero))) w:=by
  obtain ⟨g',cap',e,_,_,hc,hf⟩:=h.open1 hi
  simp at e
  obtain ⟨rfl,rfl⟩:=e
  exact ldHandE _ hc
theorem ints_at (l:List Int):∀ i j,i<l.length→j<1→(ints l)[i*1+j]?=some (intF l i j):=fun i j hi hj=>by
  have:j=0:=by omega
  subst this
  simp [ints,intF,List.getD,hi]
end Go.Proofs.Ytmnpgkcdfielbaa
