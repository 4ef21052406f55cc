/-
  A step of a world that does not end, of the reference model; lists lie in memory and hold at most 2 ^ 40 elements.
-/
import Derived.Test.YtffhjmepfojhnaaGreatR29
import Derived.Test.YtffhjmepfojhnaaGreatR01
import Derived.Test.YtffhjmepfojhnaaGreatR07
set_option linter.unusedSimpArgs false
set_option linter.unusedVariables false
namespace Go.Proofs.YtffhjmepfojhnaaGreat
section
open Go.RowKit
attribute [local simp] aC
attribute [local go_sem ↓] aB aL aM fe au
attribute [local go_sem] eB
attribute [local go_sem] qK mR jM
end
section
open Go.RowKit
attribute [local simp] aC
attribute [local go_sem ↓] aB aL aM fe au
attribute [local go_sem] eB
attribute [local go_sem] qK mR jM
end
section
open Go.RowKit
end
section
end
section
structure EB (x:Wo):Prop where
 ch:aK x.ch=true
 h1:1≤x.hands.length
 h6:x.hands.length≤6
 d:x.deals.length≤1000
 n0:0≤x.now
 n1:x.now≤20000
 hs:∀ h ∈ x.hands,bW h=true∧h.beg≤x.now
 ds:∀ d ∈ x.deals,iX x.hands.length x.now d=true
theorem EC (x:Wo):bJ x=true↔EB x:=by
 constructor
 ·intro h
  simp only [bJ,fV,dm,Bool.and_eq_true,decide_eq_true_eq,List.all_eq_true,eH] at h
  obtain ⟨⟨a,b,c,d,e,f⟩,g,i⟩:=h
  exact ⟨a,b,c,d,e,f,g,i⟩
 ·intro h
  simp only [bJ,fV,dm,Bool.and_eq_true,decide_eq_true_eq,List.all_eq_true,eH]
  exact ⟨⟨h.ch,h.h1,h.h6,h.d,h.n0,h.n1⟩,h.hs,h.ds⟩
theorem qi {c:Ch} (e:aK c=true):c.cells.length=40∧c.words.length≤80:=by
 simp only [aK,fq,Bool.and_eq_true,decide_eq_true_eq] at e
 exact ⟨e.1.2.2.2.2.1,e.1.2.2.2.2.2⟩
end
section
open Go.RowKit
end
end Go.Proofs.YtffhjmepfojhnaaGreat
