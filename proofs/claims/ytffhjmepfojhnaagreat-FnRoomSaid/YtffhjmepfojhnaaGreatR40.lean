/-
  The draw of a channel: at most 40 cells and 38 words, its words the call's own; only the cursor turns; the drawn bytes are at most 4096.
-/
import Derived.Test.YtffhjmepfojhnaaGreatR39
import Derived.Deep.RegionLaw
import Derived.Test.YtffhjmepfojhnaaGreatR04
import Derived.Test.YtffhjmepfojhnaaGreatR09
import Derived.Test.YtffhjmepfojhnaaGreatR29
import Derived.Test.YtffhjmepfojhnaaGreatR01
import Derived.Test.YtffhjmepfojhnaaGreatR34
set_option linter.unusedSimpArgs false
set_option linter.unusedVariables false
namespace Go.Proofs.YtffhjmepfojhnaaGreat
section
open Go.RowKit
attribute [local simp] aC
attribute [local go_sem ↓] aB aL aM fe au
attribute [local go_sem] eB
theorem ai.segz {w:World} {lo p:Nat} {a:Option Addr} {l:List Int} (h:ai w lo (.slice a l.length p) l):eQ w w.heap.size a l∧(a=none→p=0):=by
 obtain ⟨a',p',e,hs,hz⟩:=lD (f:=gX l) h fun i j hi hj=>by
  have:j=0:=by omega
  subst this
  simp [ints,gX,List.getD,hi]
 simp at e
 obtain ⟨rfl,rfl⟩:=e
 exact ⟨hs,fun h=>(hz h).2⟩
end
section
open Go.RowKit
attribute [local simp] aC
def Hi (lo:Nat) (a:Option Addr):Prop:=∀ ad,a=some ad→lo≤ad.block
theorem zM {w:World} {lo:Nat} {t:TypeId} {k n p:Nat} {a:Option Addr} {xs:List Value} (h:w.ownsRow lo t k (.slice a n p) n xs):Hi lo a:=fun ad e=>(h.lt ad.block (by subst e;rfl)).1
theorem La {w:World} {lo:Nat} {x:Wo} {a b d e:Option Addr} {p1 p2 p3 p4:Nat} (h:ry w lo (.slice a x.ch.cells.length p1) (.slice b x.ch.words.length p2) (.slice d x.hands.length p3) (.slice e x.deals.length p4) x):iG w w.heap.size x a b d e∧kT x a b d e p1 p2 p3 p4∧Hi lo a∧Hi lo b∧Hi lo d∧Hi lo e:=by
 obtain ⟨s1,t1,s2,t2,s3,t3,s4,t4⟩:=h.segs
 exact ⟨⟨s1,s2,s3,s4⟩,⟨t1,t2,t3,t4⟩,zM h.1,zM h.2.1,zM h.2.2.1,zM h.2.2.2⟩
end
section
end
section
open Go.RowKit
attribute [local simp] aC
attribute [local go_sem ↓] aB aL aM fe au
attribute [local go_sem] eB
end
end Go.Proofs.YtffhjmepfojhnaaGreat
