/-
  The draws of chapter 1: a cursor over at most 4096 bytes is made; what is drawn of it are some cells and some numbers.
-/
import Derived.Test.YtffhjmepfojhnaaGreatR33
import Derived.Test.YtffhjmepfojhnaaGreatR01
import Derived.Test.YtffhjmepfojhnaaGreatR32
set_option linter.unusedSimpArgs false
set_option linter.unusedVariables false
namespace Go.Proofs.YtffhjmepfojhnaaGreat
section
open Go.RowKit
structure Code (w:World) (B:Nat) (a:Option Addr) (n:Nat) (bs:Nat→Int):Prop where
 len:n≤4096
 bd:∀ j,0≤bs j∧bs j≤255
 seg:Seg w B a n 1 (fun j _=>.int .u8 (bs j))
theorem Code.below {w w':World} {B n:Nat} {a:Option Addr} {bs:Nat→Int} (h:Code w B a n bs) (k:Below B w w'):Code w' B a n bs:=⟨h.len,h.bd,h.seg.below k⟩
theorem Code.more {w:World} {B B' n:Nat} {a:Option Addr} {bs:Nat→Int} (h:Code w B a n bs) (k:B≤B'):Code w B' a n bs:=⟨h.len,h.bd,h.seg.more k⟩
end
section
open Go.RowKit
end
section
end
end Go.Proofs.YtffhjmepfojhnaaGreat
