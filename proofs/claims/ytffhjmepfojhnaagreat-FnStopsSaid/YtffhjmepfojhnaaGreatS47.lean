/-
  A script that the dice throw; lists lie in memory.
-/
import Derived.Test.YtffhjmepfojhnaaGreatS42
import Derived.Test.YtffhjmepfojhnaaGreatS21
import Derived.Test.YtffhjmepfojhnaaGreatS07
set_option maxRecDepth 100000
set_option maxHeartbeats 4000000
set_option linter.unusedSimpArgs false
set_option linter.unusedVariables false
namespace Go.Proofs.YtffhjmepfojhnaaGreat
open _root_.Go.Proofs.Tryz
open Go.RowKit
attribute [local simp] aP
attribute [local go_sem ↓] aQ aY aZ gK aN
attribute [local go_sem] fF
theorem Nq (B g:Nat) (m:Int) (w:World) (h:DI w B g):Calls prog 27 #[.pointer (some ⟨g,0,none⟩),.int .i64 m] w fun r w'=>(∃ k e,r=.returned (.agg #[.int .i64 k,.int .i64 e])∧((k=2∧e=0)∨(k=1∧e=m)))∧DI w' B g∧Gr g w w':=by
 have L:=h.lt
 have G:=h.le
 have H:some w.heap.size≠some g:=by simp;omega
 have D:=aA h
 clear h
 go_enter func27,ntmps27
 go_wp2_with fail
 refine (Jt B g 2 _ (by repeat (with_reducible first|exact D.out|refine DI.alloc ?_|refine DI.drew ?_)) tO tO).mono ?_
 rintro _ I ⟨⟨z,rfl,K,h1⟩,u,q⟩
 have y:=q.size;(try (simp at y));have A:=Ro q (b:=w);(try simp [go_sem] at A);replace J:=PD A;clear A
 have F:Gr g w I:=gT lh q
 have E:=aA u
 clear u
 by_cases M:z=0
 ·go_wp2
  refine bodyPost_ret (v:=.agg #[.int .i64 2,.int .i64 0]) (by simp [results,results27,go_sem, *]) rfl ⟨⟨2,0,rfl,.inl ⟨rfl,rfl⟩⟩,?_,?_⟩
  ·(repeat (with_reducible first|exact D2.out|exact E.out|exact D3.out|((with_reducible refine DI.setCell ?_ ?_ ?_);rotate_left;(focus (simp;omega));(focus (simp;omega)))|((with_reducible refine DI.box ?_ ?_ ?_);rotate_left;(focus (simp;omega));(focus (simp;omega)))|refine DI.alloc ?_|refine DI.drew ?_))
  ·exact lh
 ·go_wp2
  refine bodyPost_ret (v:=.agg #[.int .i64 1,.int .i64 m]) (by simp [results,results27,go_sem, *]) rfl ⟨⟨1,m,rfl,.inr ⟨rfl,rfl⟩⟩,?_,?_⟩
  ·(repeat (with_reducible first|exact D2.out|exact E.out|exact D3.out|((with_reducible refine DI.setCell ?_ ?_ ?_);rotate_left;(focus (simp;omega));(focus (simp;omega)))|((with_reducible refine DI.box ?_ ?_ ?_);rotate_left;(focus (simp;omega));(focus (simp;omega)))|refine DI.alloc ?_|refine DI.drew ?_))
  ·exact lh
theorem DI.box {w:World} {B g b:Nat} {r:Array Value} (h:DI w B g) (m:B≤b) (q:g≠b):DI (dF w b r) B g:=h.keep (aR q) (BK (Below.refl _ _) m)
end Go.Proofs.YtffhjmepfojhnaaGreat
