/-
  The draw of a world in which some things have happened: a right one, of at most 37 words; only the cursor turns; the drawn bytes are at most 4096.
-/
import Derived.Test.YtffhjmepfojhnaaGreatR34
import Derived.Test.YtffhjmepfojhnaaGreatR38
set_option linter.unusedSimpArgs false
set_option linter.unusedVariables false
namespace Go.Proofs.YtffhjmepfojhnaaGreat
open Go.RowKit
attribute [local simp] aC
attribute [local go_sem ↓] aB aL aM fe au
attribute [local go_sem] eB
theorem ry.segs {w:World} {lo:Nat} {a b d e:Option Addr} {p q r s:Nat} {y:Wo} (h:ry w lo (.slice a y.ch.cells.length p) (.slice b y.ch.words.length q) (.slice d y.hands.length r) (.slice e y.deals.length s) y):eY w w.heap.size a y.ch.cells∧(a=none→p=0)∧eQ w w.heap.size b y.ch.words∧(b=none→q=0)∧Jn w w.heap.size d y.hands∧(d=none→y.hands.length=0∧r=0)∧Jo w w.heap.size e y.deals∧(e=none→y.deals.length=0∧s=0):=by
 obtain ⟨a',b',d',e',p',q',r',s',e1,e2,e3,e4,H⟩:=h.opens
 simp at e1 e2 e3 e4
 obtain ⟨rfl,rfl⟩:=e1
 obtain ⟨rfl,rfl⟩:=e2
 obtain ⟨rfl,rfl⟩:=e3
 obtain ⟨rfl,rfl⟩:=e4
 exact H
end Go.Proofs.YtffhjmepfojhnaaGreat
