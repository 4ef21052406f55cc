/-
  How a list of bytes is opened that is an argument of a law; no condition but that it can be read.
-/
import Derived.Test.YtffhjmepfojhnaaGreatS36
set_option maxRecDepth 100000
set_option linter.unusedSimpArgs false
set_option linter.unusedVariables false
namespace Go.Proofs.YtffhjmepfojhnaaGreat
open _root_.Go.Proofs.Tryz
open Go.ChangeShapes Go.WideShapes Go.ChangeAt Go.RowKit Go.Deep
section
variable {H:Type} {enc:TypeId × Value→H} {w:World} {spare:Nat→Bool} {held:Bool}
theorem Qd {r:Reach} {z:Nat} {v:Value} {d:DataW H} {p:List MemPlace} (G:Value.okWide prog w r z 22 v) (h:DataW.Trod enc prog w 0 spare held 22 v d p) :
  ∃ (a:Option Addr) (n cap:Nat) (bs:Nat→Int),v=.slice a n cap∧n≤maxLen∧(∀ j,0≤bs j∧bs j≤255)∧Seg w w a n 1 (fun j _=>.int .u8 (bs j)):=by
 obtain ⟨a,len,cap,rfl⟩:=okWide_slice underlying22 G
 obtain ⟨m,F⟩:=h
 obtain ⟨K,l,y,q,h1,A,D,E⟩:=Qa 1 (fun (c:Int) _=>.int .u8 c) (fun c=>0≤c∧c≤255) 0 underlying22 (by kernel_rfl) (by decide) (fun m cs x J=>by
  obtain ⟨c,rfl,_,I⟩:=DataW.trod_int underlying5 J
  refine ⟨c,?_,fun j u=>?_⟩
  ·simp [Lit.wf,IntKind.min,IntKind.max,IntKind.signed,IntKind.bits] at I;omega
  ·have:j=0:=by omega
   subst this;rfl) F
 simp [Value.cells] at q
 obtain ⟨rfl,rfl,rfl⟩:=q
 refine ⟨a,l.length,cap,fun j=>l.getD j 0,rfl,Nat.le_trans h1 A,fun j=>?_,E⟩
 by_cases u:j<l.length
 ·have:=D l[j] (List.getElem_mem u)
  simpa [List.getD,u] using this
 ·have:l.getD j 0=0:=by simp [List.getD,Nat.le_of_not_lt u]
  show 0≤l.getD j 0∧l.getD j 0≤255
  rw [this];omega
end
end Go.Proofs.YtffhjmepfojhnaaGreat
