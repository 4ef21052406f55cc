/-
  The program's taking of what is in a cell, on hands and channels that are kept whole; the lists are the call's own.
-/
import Derived.Test.YtffhjmepfojhnaaGreatS01
import Derived.Test.YtffhjmepfojhnaaGreatS19
import Derived.Test.YtffhjmepfojhnaaGreatS16
import Derived.Test.YtffhjmepfojhnaaGreatS26
import Derived.BigRegion
import Derived.Deep.DeepCutAuto
import Derived.Test.YtffhjmepfojhnaaGreatS29
import Derived.Test.YtffhjmepfojhnaaGreatS07
import Derived.Test.YtffhjmepfojhnaaGreatS03
import Derived.Test.YtffhjmepfojhnaaGreatS27
import Derived.Test.YtffhjmepfojhnaaGreatS21
import Derived.Test.YtffhjmepfojhnaaGreatS04
set_option maxRecDepth 100000
set_option maxHeartbeats 4000000
set_option linter.unusedSimpArgs false
set_option linter.unusedVariables false
namespace Go.Proofs.YtffhjmepfojhnaaGreat
open _root_.Go.Proofs.Tryz
section
open Go.RowKit
attribute [local simp] aP
attribute [local go_sem ↓] aQ bF aY bY aZ bZ aX bB aN aU
theorem sH (c:Ch) (h:Ha) (v1 v2:Value) (lo:Nat) (w:World) (h1:aD w lo v1 c.cells) (h2:aG w lo v2 c.words) (a0:0≤h.cell) (a3:h.cell<c.cells.length) (hc:aW c=true) (a5:lo≤w.heap.size) (hx:h.come≤h.cell) (a4:(h.seen == 0)=true∨((h.seen == 0)=false∧(h.seen == 1)=true)) :
  dG 263 c h v1 v2 lo w (zw c 4 (eQ h 1) { h with pos:=10 }):=by
 rcases a4 with hs|⟨a6,hs⟩
 all_goals
  have T0:=fun W a b D=>wD c 4 (eQ h 1) { h with pos:=10 } v1 v2 lo W a b a0 a3 hc D
  change ∀ W,_→_→_→Calls _ _ _ _ (fun r w'=>StepB W w' lo v1 v2 (zw c 4 (eQ h 1) { h with pos:=10 }) r) at T0
  have hy:¬ h.cell<h.come:=by omega
  clear hc a0 a3
  generalize zw c 4 (eQ h 1) { h with pos:=10 }=x at *
  obtain ⟨R,X,U,Y,rfl,rfl,O1,O2,b1,b2⟩:=rR h1 h2
  clear h1 h2
  have T:=aA T0
  clear T0
  have o1:=O1.out
  have o2:=O2.out
  go_enter func263,ntmps263
  go_upto_region 8 with fail
  refine iT [[],[],[1],[],[3],[0,1,2,3,4],[0,1,2,3,4,5],[0,1,2,3,4,5],[0,1,2,3,4,5],[0,1,2,3,4,5,6],[0,1,2,3,4,5,7],[0,1,2,3,4,5,8]] [23,24,25,26,27,28,29,30,31,6] (fun l s E=>(jI (Value.slice R c.cells X).ownBlock (Value.slice U c.words Y).ownBlock w E)∧(w+1+1+1+1≤E.heap.size)∧(hp E w=some (.cells (aF c (.slice R c.cells X) (.slice U c.words Y)) 31))∧(hp E (w+1)=some (.cells (aB h) 49))∧(hp E (w+1+1)=some (.cells (cond (l 9) (aF x.1 (s 1003) (s 1004)) (aF Ch.zero (.slice none 0 0) (.slice none 0 0))) 31))∧(hp E (w+1+1+1)=some (.cells (cond (l 10) (aB x.2.1) (aB Ha.zero)) 49))∧(l 5=false→aD E lo (.slice R c.cells X) c.cells)∧(l 5=false→aG E lo (.slice U c.words Y) c.words)∧(l 0=true→s 23=.agg (aF c (.slice R c.cells X) (.slice U c.words Y)))∧(l 1=true→s 24=.agg (aB h))∧(l 2=true→s 25=.agg (aB (eQ h 1)))∧(l 3=true→s 26=.agg (aB h))∧(l 4=true→s 27=.agg (aB ({ h with pos:=10 })))∧(l 5=true→s 28=.tuple #[.agg (aF x.1 (s 1003) (s 1004)),.agg (aB x.2.1),.bool x.2.2]∧aD E lo (s 1003) x.1.cells∧aG E lo (s 1004) x.1.words∧fC w (.slice R c.cells X) (s 1003)∧fC w (.slice U c.words Y) (s 1004))∧(l 6=true→s 29=.agg (aF x.1 (s 1003) (s 1004)))∧(l 7=true→s 30=.agg (aB x.2.1))∧(l 8=true→s 31=.bool x.2.2)∧(l 11=true→s 6=.bool x.2.2)) (fun s=>⟨dR zB,by simp,by simp [go_sem, *],by simp [go_sem, *],by simp [go_sem, *],by simp [go_sem, *],fun _=>by exact zO o1 o1,fun _=>by exact zO o2 o2,nB,nB,nB,nB,nB,nB,nB,nB,nB,nB⟩) ?_ ?_
  refine ⟨?_,?_,?_,?_,?_,?_,?_,?_,?_,?_,?_,?_,trivial⟩;iterate 12 (intro l s E D z A m K H;rotate_left)
  ·intro l s E y m
   have I:=m.1
   have z1:=m.2.2.2.2.1
   have z2:=(jC m).2.1
   rw [y 9 rfl] at z1
   rw [y 10 rfl] at z2
   dsimp only [cond] at z1 z2
   obtain ⟨_,L,M,N,O⟩:=((jC (jD m)).2.1 (y 5 rfl))
   have ec:=((jE m).2 (y 11 rfl))
   simp only [ec]
   clear ec m y
   go_wp2
   exact bodyPost_ret (jZ results263 rfl (aO x.1 _ _ z1) rfl (aJ x.2.1 z2)) rfl ⟨⟨_,_,rfl,L,M,N,O⟩,I⟩
  ·have zc:=m.out.2.2.1
   go_simp
   refine H.out (upd s 23 (.agg (aF c (.slice R c.cells X) (.slice U c.words Y)))) _ _ (by simp [aC] <;> rfl) (kD (kX (fun _=>rfl) id) m.out)
  ·have zh:=m.out.2.2.2.1
   go_simp
   refine H.out (upd s 24 (.agg (aB h))) _ _ (by simp [aC] <;> rfl) (kD (kA (kX (fun _=>rfl) id)) m.out)
  ·have e1:=((jD m.out).2.1 (z 1 rfl))
   go_simp
   go_at_call 264
   refine (nC h 1 _).mono ?_
   rintro _ wy ⟨rfl,u⟩
   refine H.out (upd s 25 (.agg (aB (eQ h 1)))) _ _ (by simp [aC,e1] <;> rfl) (kX (gU m.out.1 (dR u)) (kX (Nat.le_trans m.out.2.1 (Below.size u)) (kX (eP m.out.2.2.1 u) (kX (eP m.out.2.2.2.1 u) (kX (eP m.out.2.2.2.2.1 u) (kX (eP (jC m.out).2.1 u) (kX (fun q=>own_below ((jC m.out).2.2.1 q) u) (kX (fun q=>own_below ((jC m.out).2.2.2.1 q) u) (kB (kX (fun _=>rfl) (kB (kX (nU (A 5 rfl)) (kX (nU (A 6 rfl)) (kX (nU (A 7 rfl)) (kX (nU (A 8 rfl)) (fun _=>nU (A 11 rfl)))))))))))))))) m.out)
  ·have zh:=m.out.2.2.2.1
   go_simp
   refine H.out (upd s 26 (.agg (aB h))) _ _ (by simp [aC] <;> rfl) (kD (kB (kA (kX (fun _=>rfl) id))) m.out)
  ·have e3:=((jD m.out).2.2.2.1 (z 3 rfl))
   go_simp
   go_at_call 247
   refine (dL h 10 _).mono ?_
   rintro _ wy ⟨rfl,u⟩
   refine H.out (upd s 27 (.agg (aB ({ h with pos:=10 })))) _ _ (by simp [aC,e3] <;> rfl) (kX (gU m.out.1 (dR u)) (kX (Nat.le_trans m.out.2.1 (Below.size u)) (kX (eP m.out.2.2.1 u) (kX (eP m.out.2.2.2.1 u) (kX (eP m.out.2.2.2.2.1 u) (kX (eP (jC m.out).2.1 u) (kX (fun q=>own_below ((jC m.out).2.2.1 q) u) (kX (fun q=>own_below ((jC m.out).2.2.2.1 q) u) (kC (kX (fun _=>rfl) (kX (nU (A 5 rfl)) (kX (nU (A 6 rfl)) (kX (nU (A 7 rfl)) (kX (nU (A 8 rfl)) (fun _=>nU (A 11 rfl))))))))))))))) m.out)
  ·have e0:=((jD m.out).1 (z 0 rfl))
   have e2:=((jD m.out).2.2.1 (z 2 rfl))
   have e4:=((jC (jD m.out)).1 (z 4 rfl))
   go_simp
   go_at_call 255
   refine (T.out _ ((jC m.out).2.2.1 D) ((jC m.out).2.2.2.1 D) (Nat.le_trans a5 m.out.1.2.2.2.1)).mono ?_
   rintro _ wy ⟨⟨y1,y2,rfl,L,M,N,O⟩,u⟩
   have I:=dR (a:=(Value.slice R c.cells X).ownBlock) (b:=(Value.slice U c.words Y).ownBlock) u
   refine H.out (upd (upd (upd s 1003 (y1)) 1004 (y2)) 28 (.tuple #[.agg (aF x.1 y1 y2),.agg (aB x.2.1),.bool x.2.2])) _ _ (by simp [aC,e0,e2,e4] <;> rfl) (kX (gU m.out.1 I) (kX (Nat.le_trans m.out.2.1 I.2.2.2.1) (kX (gW m.out.2.2.1 I ((jC m.out).2.2.1 D) ((jC m.out).2.2.2.1 D) (by decide) (by decide)) (kX (gW m.out.2.2.2.1 I ((jC m.out).2.2.1 D) ((jC m.out).2.2.2.1 D) (by decide) (by decide)) (kX (by (have Z:l 9=false:=A 9 rfl);(have F:=m.out.2.2.2.2.1);rw [Z] at F;rw [show upd l 5 true 9=false from Z];exact gW F I ((jC m.out).2.2.1 D) ((jC m.out).2.2.2.1 D) (by decide) (by decide)) (kX (by (have Z:l 10=false:=A 10 rfl);(have F:=(jC m.out).2.1);rw [Z] at F;rw [show upd l 5 true 10=false from Z];exact gW F I ((jC m.out).2.2.1 D) ((jC m.out).2.2.2.1 D) (by decide) (by decide)) (kX (fun q=>nU q (show upd l 5 true 5=true from rfl)) (kX (fun q=>nU q (show upd l 5 true 5=true from rfl)) (kC (kA (kX (fun _=>⟨rfl,L,M,fun j hj=>(N j hj).imp id (fun h=>Nat.le_trans m.out.1.2.2.2.1 h),fun j hj=>(O j hj).imp id (fun h=>Nat.le_trans m.out.1.2.2.2.1 h)⟩) (kX (nU (A 6 rfl)) (kX (nU (A 7 rfl)) (kX (nU (A 8 rfl)) (fun _=>nU (A 11 rfl))))))))))))))) m.out)
  ·have G:=((jC (jD m.out)).2.1 (z 5 rfl)).1
   go_simp
   refine H.out (upd s 29 (.agg (aF x.1 (s 1003) (s 1004)))) _ _ (by simp [aC,G] <;> rfl) (kD (kC (kB (kX (fun _=>rfl) id))) m.out)
  ·have G:=((jC (jD m.out)).2.1 (z 5 rfl)).1
   go_simp
   refine H.out (upd s 30 (.agg (aB x.2.1))) _ _ (by simp [aC,G] <;> rfl) (kD (kC (kB (kA (kX (fun _=>rfl) id)))) m.out)
  ·have G:=((jC (jD m.out)).2.1 (z 5 rfl)).1
   go_simp
   refine H.out (upd s 31 (.bool x.2.2)) _ _ (by simp [aC,G] <;> rfl) (kE (kX (fun _=>rfl) id) m.out)
  ·have e6:=((jC (jD m.out)).2.2.1 (z 6 rfl))
   have G:=((jC (jD m.out)).2.1 (z 5 rfl))
   have L:=G.2.1
   have M:=G.2.2.1
   clear G
   have J:=m.out.2.2.2.2.1
   rw [D] at J
   dsimp only [cond] at J
   obtain ⟨xa,xp,ea,_⟩:=L.seg
   obtain ⟨xb,xq,V,_⟩:=M.seg
   rw [ea,V] at e6
   have zn:hp (dF E (w+1+1) (aF x.1 (.slice xa x.1.cells xp) (.slice xb x.1.words xq))) (w+1+1)=some (.cells (aF x.1 (s 1003) (s 1004)) 31):=by rw [ea,V];exact ib J
   have I:=m.out.1
   go_simp
   refine H.out (s) _ _ (by simp [aC,e6,ea,V] <;> rfl) (kX (oX I tO) (kX (Nat.le_trans m.out.2.1 (Nat.le_of_eq aP.symm)) (kX ((aR tO).trans m.out.2.2.1) (kX ((aR tO).trans m.out.2.2.2.1) (kX (zn) (kX ((aR tO).trans (jC m.out).2.1) (kX (fun q=>nU q (show upd l 9 true 5=true from z 5 rfl)) (kX (fun q=>nU q (show upd l 9 true 5=true from z 5 rfl)) (kC (kA (kX (fun h=>(let ⟨e,L,M,N,O⟩:=(jC (jD m.out)).2.1 h;⟨e,dI L J (by decide),dI M J (by decide),N,O⟩)) id)))))))))) m.out)
  ·have e7:=((jC (jD m.out)).2.2.2.1 (z 7 rfl))
   have G:=((jC (jD m.out)).2.1 (z 5 rfl))
   have L:=G.2.1
   have M:=G.2.2.1
   clear G
   have J:=(jC m.out).2.1
   rw [D] at J
   dsimp only [cond] at J
   have zn:hp (dF E (w+1+1+1) (aB x.2.1)) (w+1+1+1)=some (.cells (aB x.2.1) 49):=by exact ib J
   have I:=m.out.1
   go_simp
   refine H.out (s) _ _ (by simp [aC,e7] <;> rfl) (kX (oX I tO) (kX (Nat.le_trans m.out.2.1 (Nat.le_of_eq aP.symm)) (kX ((aR tO).trans m.out.2.2.1) (kX ((aR tO).trans m.out.2.2.2.1) (kX ((aR tO).trans m.out.2.2.2.2.1) (kX (zn) (kX (fun q=>nU q (show upd l 10 true 5=true from z 5 rfl)) (kX (fun q=>nU q (show upd l 10 true 5=true from z 5 rfl)) (kC (kA (kX (fun h=>(let ⟨e,L,M,N,O⟩:=(jC (jD m.out)).2.1 h;⟨e,dI L J (by decide),dI M J (by decide),N,O⟩)) id)))))))))) m.out)
  ·have e8:=((jE m.out).1 (z 8 rfl))
   go_simp
   refine H.out (upd s 6 (.bool x.2.2)) _ _ (by simp [aC,e8] <;> rfl) (kE (kA (fun _=>fun _=>rfl)) m.out)
theorem DK (c:Ch) (h:Ha) (m q:Value) (lo:Nat) (w:World) (h1:aD w lo m c.cells) (A:aG w lo q c.words) (u:0≤h.cell) (y:h.cell<c.cells.length) (D:aW c=true) (z:lo≤w.heap.size) (hs:(h.seen == 0)=true) (E:h.come≤h.cell) :
  Calls prog 263 #[.agg (aF c m q),.agg (aB h)] w fun r w'=>dJ w w' lo m q (zw c 4 (eQ h 1) { h with pos:=10 }) r:=sH c h m q lo w h1 A u y D z E (.inl hs)
theorem sI (c:Ch) (h:Ha) (v1 v2:Value) (lo:Nat) (w:World) (h1:aD w lo v1 c.cells) (h2:aG w lo v2 c.words) (a0:0≤h.cell) (a3:h.cell<c.cells.length) (hx:¬ h.come≤h.cell) (a5:(h.seen == 0)=true∨((h.seen == 0)=false∧(h.seen == 1)=true)) :
  dG 263 c h v1 v2 lo w (uX c 8 0 (eQ h 2) { h with pos:=10 }):=by
 rcases a5 with hs|⟨a6,hs⟩
 all_goals
  have T0:=fun W a b=>oM c 8 0 (eQ h 2) { h with pos:=10 } v1 v2 lo W a b a0 a3
  change ∀ W,_→_→Calls _ _ _ _ (fun r w'=>dJ W w' lo v1 v2 (uX c 8 0 (eQ h 2) { h with pos:=10 }) r) at T0
  have hy:h.cell<h.come:=by omega
  clear a0 a3
  generalize uX c 8 0 (eQ h 2) { h with pos:=10 }=x at *
  obtain ⟨U,X,V,Y,rfl,rfl,O1,O2,b1,b2⟩:=rR h1 h2
  clear h1 h2
  have T:=aA T0
  clear T0
  have o1:=O1.out
  have o2:=O2.out
  go_enter func263,ntmps263
  go_upto_region 10 with fail
  refine iT [[],[],[],[],[2,3],[],[5],[0,1,2,3,4,5,6],qB [],qB [],qB [],qB [8],qB [9],qB [10]] [32,33,34,35,36,37,38,39,40,41,42,6] (fun l s E=>(jI (Value.slice U c.cells X).ownBlock (Value.slice V c.words Y).ownBlock w E)∧(w+1+1+1+1≤E.heap.size)∧(hp E w=some (.cells (aF c (.slice U c.cells X) (.slice V c.words Y)) 31))∧(hp E (w+1)=some (.cells (aB h) 49))∧(hp E (w+1+1)=some (.cells (cond (l 11) (aF x.1 (s 1003) (s 1004)) (aF Ch.zero (.slice none 0 0) (.slice none 0 0))) 31))∧(hp E (w+1+1+1)=some (.cells (cond (l 12) (aB x.2.1) (aB Ha.zero)) 49))∧(l 7=false→aD E lo (.slice U c.cells X) c.cells)∧(l 7=false→aG E lo (.slice V c.words Y) c.words)∧(l 0=true→s 32=.agg (aF c (.slice U c.cells X) (.slice V c.words Y)))∧(l 1=true→s 33=.int .i64 8)∧(l 2=true→s 34=.agg (aB h))∧(l 3=true→s 35=.int .i64 2)∧(l 4=true→s 36=.agg (aB (eQ h 2)))∧(l 5=true→s 37=.agg (aB h))∧(l 6=true→s 38=.agg (aB ({ h with pos:=10 })))∧(l 7=true→s 39=.tuple #[.agg (aF x.1 (s 1003) (s 1004)),.agg (aB x.2.1),.bool x.2.2]∧aD E lo (s 1003) x.1.cells∧aG E lo (s 1004) x.1.words∧fC w (.slice U c.cells X) (s 1003)∧fC w (.slice V c.words Y) (s 1004))∧(l 8=true→s 40=.agg (aF x.1 (s 1003) (s 1004)))∧(l 9=true→s 41=.agg (aB x.2.1))∧(l 10=true→s 42=.bool x.2.2)∧(l 13=true→s 6=.bool x.2.2)) (fun s=>⟨dR zB,by simp,by simp [go_sem, *],by simp [go_sem, *],by simp [go_sem, *],by simp [go_sem, *],fun _=>by exact zO o1 o1,fun _=>by exact zO o2 o2,nB,nB,nB,nB,nB,nB,nB,nB,nB,nB,nB,nB⟩) ?_ ?_
  refine ⟨?_,?_,?_,?_,?_,?_,?_,?_,?_,?_,?_,?_,?_,?_,trivial⟩;iterate 14 (intro l s E I u A m K D;rotate_left)
  ·intro l s E z m
   have H:=m.1
   have z1:=m.2.2.2.2.1
   have z2:=(jC m).2.1
   rw [z 11 rfl] at z1
   rw [z 12 rfl] at z2
   dsimp only [cond] at z1 z2
   obtain ⟨_,L,M,N,O⟩:=((jC (jD m)).2.2.2.1 (z 7 rfl))
   have ec:=((jE m).2.2.2 (z 13 rfl))
   simp only [ec]
   clear ec m z
   go_wp2
   exact bodyPost_ret (jZ results263 rfl (aO x.1 _ _ z1) rfl (aJ x.2.1 z2)) rfl ⟨⟨_,_,rfl,L,M,N,O⟩,H⟩
  ·have zc:=m.out.2.2.1
   go_simp
   refine D.out (upd s 32 (.agg (aF c (.slice U c.cells X) (.slice V c.words Y)))) _ _ (by simp [aC] <;> rfl) (kD (kX (fun _=>rfl) id) m.out)
  ·go_simp
   refine D.out (upd s 33 (.int .i64 8)) _ _ (by simp [aC] <;> rfl) (kD (kA (kX (fun _=>rfl) id)) m.out)
  ·have zh:=m.out.2.2.2.1
   go_simp
   refine D.out (upd s 34 (.agg (aB h))) _ _ (by simp [aC] <;> rfl) (kD (kB (kX (fun _=>rfl) id)) m.out)
  ·go_simp
   refine D.out (upd s 35 (.int .i64 2)) _ _ (by simp [aC] <;> rfl) (kD (kB (kA (kX (fun _=>rfl) id))) m.out)
  ·have e2:=((jD m.out).2.2.1 (u 2 rfl))
   have e3:=((jD m.out).2.2.2.1 (u 3 rfl))
   go_simp
   go_at_call 264
   refine (nC h 2 _).mono ?_
   rintro _ wy ⟨rfl,y⟩
   refine D.out (upd s 36 (.agg (aB (eQ h 2)))) _ _ (by simp [aC,e2,e3] <;> rfl) (kX (gU m.out.1 (dR y)) (kX (Nat.le_trans m.out.2.1 (Below.size y)) (kX (eP m.out.2.2.1 y) (kX (eP m.out.2.2.2.1 y) (kX (eP m.out.2.2.2.2.1 y) (kX (eP (jC m.out).2.1 y) (kX (fun q=>own_below ((jC m.out).2.2.1 q) y) (kX (fun q=>own_below ((jC m.out).2.2.2.1 q) y) (kC (kX (fun _=>rfl) (kB (kX (nU (A 7 rfl)) (kX (nU (A 8 rfl)) (kX (nU (A 9 rfl)) (kX (nU (A 10 rfl)) (fun _=>nU (A 13 rfl)))))))))))))))) m.out)
  ·have zh:=m.out.2.2.2.1
   go_simp
   refine D.out (upd s 37 (.agg (aB h))) _ _ (by simp [aC] <;> rfl) (kD (kC (kA (kX (fun _=>rfl) id))) m.out)
  ·have e5:=((jC (jD m.out)).2.1 (u 5 rfl))
   go_simp
   go_at_call 247
   refine (dL h 10 _).mono ?_
   rintro _ wy ⟨rfl,y⟩
   refine D.out (upd s 38 (.agg (aB ({ h with pos:=10 })))) _ _ (by simp [aC,e5] <;> rfl) (kX (gU m.out.1 (dR y)) (kX (Nat.le_trans m.out.2.1 (Below.size y)) (kX (eP m.out.2.2.1 y) (kX (eP m.out.2.2.2.1 y) (kX (eP m.out.2.2.2.2.1 y) (kX (eP (jC m.out).2.1 y) (kX (fun q=>own_below ((jC m.out).2.2.1 q) y) (kX (fun q=>own_below ((jC m.out).2.2.2.1 q) y) (kC (kB (kX (fun _=>rfl) (kX (nU (A 7 rfl)) (kX (nU (A 8 rfl)) (kX (nU (A 9 rfl)) (kX (nU (A 10 rfl)) (fun _=>nU (A 13 rfl)))))))))))))))) m.out)
  ·have e0:=((jD m.out).1 (u 0 rfl))
   have e1:=((jD m.out).2.1 (u 1 rfl))
   have e4:=((jC (jD m.out)).1 (u 4 rfl))
   have e6:=((jC (jD m.out)).2.2.1 (u 6 rfl))
   go_simp
   go_at_call 265
   refine (T.out _ ((jC m.out).2.2.1 I) ((jC m.out).2.2.2.1 I)).mono ?_
   rintro _ wy ⟨⟨y1,y2,rfl,L,M,N,O⟩,H⟩
   refine D.out (upd (upd (upd s 1003 (y1)) 1004 (y2)) 39 (.tuple #[.agg (aF x.1 y1 y2),.agg (aB x.2.1),.bool x.2.2])) _ _ (by simp [aC,e0,e1,e4,e6] <;> rfl) (kX (gU m.out.1 H) (kX (Nat.le_trans m.out.2.1 H.2.2.2.1) (kX (gW m.out.2.2.1 H ((jC m.out).2.2.1 I) ((jC m.out).2.2.2.1 I) (by decide) (by decide)) (kX (gW m.out.2.2.2.1 H ((jC m.out).2.2.1 I) ((jC m.out).2.2.2.1 I) (by decide) (by decide)) (kX (by (have Z:l 11=false:=A 11 rfl);(have F:=m.out.2.2.2.2.1);rw [Z] at F;rw [show upd l 7 true 11=false from Z];exact gW F H ((jC m.out).2.2.1 I) ((jC m.out).2.2.2.1 I) (by decide) (by decide)) (kX (by (have Z:l 12=false:=A 12 rfl);(have F:=(jC m.out).2.1);rw [Z] at F;rw [show upd l 7 true 12=false from Z];exact gW F H ((jC m.out).2.2.1 I) ((jC m.out).2.2.2.1 I) (by decide) (by decide)) (kX (fun q=>nU q (show upd l 7 true 7=true from rfl)) (kX (fun q=>nU q (show upd l 7 true 7=true from rfl)) (kC (kB (kA (kX (fun _=>⟨rfl,L,M,fun j hj=>(N j hj).imp id (fun h=>Nat.le_trans m.out.1.2.2.2.1 h),fun j hj=>(O j hj).imp id (fun h=>Nat.le_trans m.out.1.2.2.2.1 h)⟩) (kX (nU (A 8 rfl)) (kX (nU (A 9 rfl)) (kX (nU (A 10 rfl)) (fun _=>nU (A 13 rfl)))))))))))))))) m.out)
  ·have G:=((jC (jD m.out)).2.2.2.1 (u 7 rfl)).1
   go_simp
   refine D.out (upd s 40 (.agg (aF x.1 (s 1003) (s 1004)))) _ _ (by simp [aC,G] <;> rfl) (kE (kX (fun _=>rfl) id) m.out)
  ·have G:=((jC (jD m.out)).2.2.2.1 (u 7 rfl)).1
   go_simp
   refine D.out (upd s 41 (.agg (aB x.2.1))) _ _ (by simp [aC,G] <;> rfl) (kE (kA (kX (fun _=>rfl) id)) m.out)
  ·have G:=((jC (jD m.out)).2.2.2.1 (u 7 rfl)).1
   go_simp
   refine D.out (upd s 42 (.bool x.2.2)) _ _ (by simp [aC,G] <;> rfl) (kE (kB (kX (fun _=>rfl) id)) m.out)
  ·have e8:=((jE m.out).1 (u 8 rfl))
   have G:=((jC (jD m.out)).2.2.2.1 (u 7 rfl))
   have L:=G.2.1
   have M:=G.2.2.1
   clear G
   have J:=m.out.2.2.2.2.1
   rw [I] at J
   dsimp only [cond] at J
   obtain ⟨xa,xp,ea,_⟩:=L.seg
   obtain ⟨xb,xq,R,_⟩:=M.seg
   rw [ea,R] at e8
   have zn:hp (dF E (w+1+1) (aF x.1 (.slice xa x.1.cells xp) (.slice xb x.1.words xq))) (w+1+1)=some (.cells (aF x.1 (s 1003) (s 1004)) 31):=by rw [ea,R];exact ib J
   have H:=m.out.1
   go_simp
   refine D.out (s) _ _ (by simp [aC,e8,ea,R] <;> rfl) (kX (oX H tO) (kX (Nat.le_trans m.out.2.1 (Nat.le_of_eq aP.symm)) (kX ((aR tO).trans m.out.2.2.1) (kX ((aR tO).trans m.out.2.2.2.1) (kX (zn) (kX ((aR tO).trans (jC m.out).2.1) (kX (fun q=>nU q (show upd l 11 true 7=true from u 7 rfl)) (kX (fun q=>nU q (show upd l 11 true 7=true from u 7 rfl)) (kC (kB (kA (kX (fun h=>(let ⟨e,L,M,N,O⟩:=(jC (jD m.out)).2.2.2.1 h;⟨e,dI L J (by decide),dI M J (by decide),N,O⟩)) id))))))))))) m.out)
  ·have e9:=((jE m.out).2.1 (u 9 rfl))
   have G:=((jC (jD m.out)).2.2.2.1 (u 7 rfl))
   have L:=G.2.1
   have M:=G.2.2.1
   clear G
   have J:=(jC m.out).2.1
   rw [I] at J
   dsimp only [cond] at J
   have zn:hp (dF E (w+1+1+1) (aB x.2.1)) (w+1+1+1)=some (.cells (aB x.2.1) 49):=by exact ib J
   have H:=m.out.1
   go_simp
   refine D.out (s) _ _ (by simp [aC,e9] <;> rfl) (kX (oX H tO) (kX (Nat.le_trans m.out.2.1 (Nat.le_of_eq aP.symm)) (kX ((aR tO).trans m.out.2.2.1) (kX ((aR tO).trans m.out.2.2.2.1) (kX ((aR tO).trans m.out.2.2.2.2.1) (kX (zn) (kX (fun q=>nU q (show upd l 12 true 7=true from u 7 rfl)) (kX (fun q=>nU q (show upd l 12 true 7=true from u 7 rfl)) (kC (kB (kA (kX (fun h=>(let ⟨e,L,M,N,O⟩:=(jC (jD m.out)).2.2.2.1 h;⟨e,dI L J (by decide),dI M J (by decide),N,O⟩)) id))))))))))) m.out)
  ·have a4:=((jE m.out).2.2.1 (u 10 rfl))
   go_simp
   refine D.out (upd s 6 (.bool x.2.2)) _ _ (by simp [aC,a4] <;> rfl) (kE (kB (kA (fun _=>fun _=>rfl))) m.out)
theorem DL (c:Ch) (h:Ha) (m q:Value) (lo:Nat) (w:World) (h1:aD w lo m c.cells) (z:aG w lo q c.words) (u:0≤h.cell) (y:h.cell<c.cells.length) (hs:(h.seen == 0)=true) (A:¬ h.come≤h.cell) :
  Calls prog 263 #[.agg (aF c m q),.agg (aB h)] w fun r w'=>dJ w w' lo m q (uX c 8 0 (eQ h 2) { h with pos:=10 }) r:=sI c h m q lo w h1 z u y A (.inl hs)
theorem DN (c:Ch) (h:Ha) (m q:Value) (lo:Nat) (w:World) (h1:aD w lo m c.cells) (D:aG w lo q c.words) (u:0≤h.cell) (y:h.cell<c.cells.length) (E:aW c=true) (z:lo≤w.heap.size) (A:(h.seen == 0)=false) (hs:(h.seen == 1)=true) (F:h.come≤h.cell) :
  Calls prog 263 #[.agg (aF c m q),.agg (aB h)] w fun r w'=>dJ w w' lo m q (zw c 4 (eQ h 1) { h with pos:=10 }) r:=sH c h m q lo w h1 D u y E z F (.inr ⟨A,hs⟩)
theorem DR (c:Ch) (h:Ha) (m q:Value) (lo:Nat) (w:World) (h1:aD w lo m c.cells) (A:aG w lo q c.words) (u:0≤h.cell) (y:h.cell<c.cells.length) (z:(h.seen == 0)=false) (hs:(h.seen == 1)=true) (D:¬ h.come≤h.cell) :
  Calls prog 263 #[.agg (aF c m q),.agg (aB h)] w fun r w'=>dJ w w' lo m q (uX c 8 0 (eQ h 2) { h with pos:=10 }) r:=sI c h m q lo w h1 A u y D (.inr ⟨z,hs⟩)
theorem Gq (c:Ch) (h:Ha) (v1 v2:Value) (lo:Nat) (w:World) (h1:aD w lo v1 c.cells) (h2:aG w lo v2 c.words) (a0:0≤h.cell) (a3:h.cell<c.cells.length) (a5:(h.seen == 0)=false) (a6:(h.seen == 1)=false) (hs:(h.seen == 2)=true) :
  dG 263 c h v1 v2 lo w (uX c 7 0 (eQ h 0) { h with pos:=10 }):=by
 have T0:=fun W a b=>oM c 7 0 (eQ h 0) { h with pos:=10 } v1 v2 lo W a b a0 a3
 change ∀ W,_→_→Calls _ _ _ _ (fun r w'=>dJ W w' lo v1 v2 (uX c 7 0 (eQ h 0) { h with pos:=10 }) r) at T0
 clear a0 a3
 generalize uX c 7 0 (eQ h 0) { h with pos:=10 }=x at *
 obtain ⟨U,X,V,Y,rfl,rfl,O1,O2,b1,b2⟩:=rR h1 h2
 clear h1 h2
 have T:=aA T0
 clear T0
 have o1:=O1.out
 have o2:=O2.out
 go_enter func263,ntmps263
 go_upto_region 10 with fail
 refine iT [[],[],[],[],[2,3],[],[5],[0,1,2,3,4,5,6],qB [],qB [],qB [],qB [8],qB [9],qB [10]] [32,33,34,35,36,37,38,39,40,41,42,6] (fun l s E=>(jI (Value.slice U c.cells X).ownBlock (Value.slice V c.words Y).ownBlock w E)∧(w+1+1+1+1≤E.heap.size)∧(hp E w=some (.cells (aF c (.slice U c.cells X) (.slice V c.words Y)) 31))∧(hp E (w+1)=some (.cells (aB h) 49))∧(hp E (w+1+1)=some (.cells (cond (l 11) (aF x.1 (s 1003) (s 1004)) (aF Ch.zero (.slice none 0 0) (.slice none 0 0))) 31))∧(hp E (w+1+1+1)=some (.cells (cond (l 12) (aB x.2.1) (aB Ha.zero)) 49))∧(l 7=false→aD E lo (.slice U c.cells X) c.cells)∧(l 7=false→aG E lo (.slice V c.words Y) c.words)∧(l 0=true→s 32=.agg (aF c (.slice U c.cells X) (.slice V c.words Y)))∧(l 1=true→s 33=.int .i64 7)∧(l 2=true→s 34=.agg (aB h))∧(l 3=true→s 35=.int .i64 0)∧(l 4=true→s 36=.agg (aB (eQ h 0)))∧(l 5=true→s 37=.agg (aB h))∧(l 6=true→s 38=.agg (aB ({ h with pos:=10 })))∧(l 7=true→s 39=.tuple #[.agg (aF x.1 (s 1003) (s 1004)),.agg (aB x.2.1),.bool x.2.2]∧aD E lo (s 1003) x.1.cells∧aG E lo (s 1004) x.1.words∧fC w (.slice U c.cells X) (s 1003)∧fC w (.slice V c.words Y) (s 1004))∧(l 8=true→s 40=.agg (aF x.1 (s 1003) (s 1004)))∧(l 9=true→s 41=.agg (aB x.2.1))∧(l 10=true→s 42=.bool x.2.2)∧(l 13=true→s 6=.bool x.2.2)) (fun s=>⟨dR zB,by simp,by simp [go_sem, *],by simp [go_sem, *],by simp [go_sem, *],by simp [go_sem, *],fun _=>by exact zO o1 o1,fun _=>by exact zO o2 o2,nB,nB,nB,nB,nB,nB,nB,nB,nB,nB,nB,nB⟩) ?_ ?_
 refine ⟨?_,?_,?_,?_,?_,?_,?_,?_,?_,?_,?_,?_,?_,?_,trivial⟩;iterate 14 (intro l s E I u A m K D;rotate_left)
 ·intro l s E z m
  have H:=m.1
  have z1:=m.2.2.2.2.1
  have z2:=(jC m).2.1
  rw [z 11 rfl] at z1
  rw [z 12 rfl] at z2
  dsimp only [cond] at z1 z2
  obtain ⟨_,L,M,N,O⟩:=((jC (jD m)).2.2.2.1 (z 7 rfl))
  have ec:=((jE m).2.2.2 (z 13 rfl))
  simp only [ec]
  clear ec m z
  go_wp2
  exact bodyPost_ret (jZ results263 rfl (aO x.1 _ _ z1) rfl (aJ x.2.1 z2)) rfl ⟨⟨_,_,rfl,L,M,N,O⟩,H⟩
 ·have zc:=m.out.2.2.1
  go_simp
  refine D.out (upd s 32 (.agg (aF c (.slice U c.cells X) (.slice V c.words Y)))) _ _ (by simp [aC] <;> rfl) (kD (kX (fun _=>rfl) id) m.out)
 ·go_simp
  refine D.out (upd s 33 (.int .i64 7)) _ _ (by simp [aC] <;> rfl) (kD (kA (kX (fun _=>rfl) id)) m.out)
 ·have zh:=m.out.2.2.2.1
  go_simp
  refine D.out (upd s 34 (.agg (aB h))) _ _ (by simp [aC] <;> rfl) (kD (kB (kX (fun _=>rfl) id)) m.out)
 ·go_simp
  refine D.out (upd s 35 (.int .i64 0)) _ _ (by simp [aC] <;> rfl) (kD (kB (kA (kX (fun _=>rfl) id))) m.out)
 ·have e2:=((jD m.out).2.2.1 (u 2 rfl))
  have e3:=((jD m.out).2.2.2.1 (u 3 rfl))
  go_simp
  go_at_call 264
  refine (nC h 0 _).mono ?_
  rintro _ wy ⟨rfl,y⟩
  refine D.out (upd s 36 (.agg (aB (eQ h 0)))) _ _ (by simp [aC,e2,e3] <;> rfl) (kX (gU m.out.1 (dR y)) (kX (Nat.le_trans m.out.2.1 (Below.size y)) (kX (eP m.out.2.2.1 y) (kX (eP m.out.2.2.2.1 y) (kX (eP m.out.2.2.2.2.1 y) (kX (eP (jC m.out).2.1 y) (kX (fun q=>own_below ((jC m.out).2.2.1 q) y) (kX (fun q=>own_below ((jC m.out).2.2.2.1 q) y) (kC (kX (fun _=>rfl) (kB (kX (nU (A 7 rfl)) (kX (nU (A 8 rfl)) (kX (nU (A 9 rfl)) (kX (nU (A 10 rfl)) (fun _=>nU (A 13 rfl)))))))))))))))) m.out)
 ·have zh:=m.out.2.2.2.1
  go_simp
  refine D.out (upd s 37 (.agg (aB h))) _ _ (by simp [aC] <;> rfl) (kD (kC (kA (kX (fun _=>rfl) id))) m.out)
 ·have e5:=((jC (jD m.out)).2.1 (u 5 rfl))
  go_simp
  go_at_call 247
  refine (dL h 10 _).mono ?_
  rintro _ wy ⟨rfl,y⟩
  refine D.out (upd s 38 (.agg (aB ({ h with pos:=10 })))) _ _ (by simp [aC,e5] <;> rfl) (kX (gU m.out.1 (dR y)) (kX (Nat.le_trans m.out.2.1 (Below.size y)) (kX (eP m.out.2.2.1 y) (kX (eP m.out.2.2.2.1 y) (kX (eP m.out.2.2.2.2.1 y) (kX (eP (jC m.out).2.1 y) (kX (fun q=>own_below ((jC m.out).2.2.1 q) y) (kX (fun q=>own_below ((jC m.out).2.2.2.1 q) y) (kC (kB (kX (fun _=>rfl) (kX (nU (A 7 rfl)) (kX (nU (A 8 rfl)) (kX (nU (A 9 rfl)) (kX (nU (A 10 rfl)) (fun _=>nU (A 13 rfl)))))))))))))))) m.out)
 ·have e0:=((jD m.out).1 (u 0 rfl))
  have e1:=((jD m.out).2.1 (u 1 rfl))
  have e4:=((jC (jD m.out)).1 (u 4 rfl))
  have e6:=((jC (jD m.out)).2.2.1 (u 6 rfl))
  go_simp
  go_at_call 265
  refine (T.out _ ((jC m.out).2.2.1 I) ((jC m.out).2.2.2.1 I)).mono ?_
  rintro _ wy ⟨⟨y1,y2,rfl,L,M,N,O⟩,H⟩
  refine D.out (upd (upd (upd s 1003 (y1)) 1004 (y2)) 39 (.tuple #[.agg (aF x.1 y1 y2),.agg (aB x.2.1),.bool x.2.2])) _ _ (by simp [aC,e0,e1,e4,e6] <;> rfl) (kX (gU m.out.1 H) (kX (Nat.le_trans m.out.2.1 H.2.2.2.1) (kX (gW m.out.2.2.1 H ((jC m.out).2.2.1 I) ((jC m.out).2.2.2.1 I) (by decide) (by decide)) (kX (gW m.out.2.2.2.1 H ((jC m.out).2.2.1 I) ((jC m.out).2.2.2.1 I) (by decide) (by decide)) (kX (by (have Z:l 11=false:=A 11 rfl);(have F:=m.out.2.2.2.2.1);rw [Z] at F;rw [show upd l 7 true 11=false from Z];exact gW F H ((jC m.out).2.2.1 I) ((jC m.out).2.2.2.1 I) (by decide) (by decide)) (kX (by (have Z:l 12=false:=A 12 rfl);(have F:=(jC m.out).2.1);rw [Z] at F;rw [show upd l 7 true 12=false from Z];exact gW F H ((jC m.out).2.2.1 I) ((jC m.out).2.2.2.1 I) (by decide) (by decide)) (kX (fun q=>nU q (show upd l 7 true 7=true from rfl)) (kX (fun q=>nU q (show upd l 7 true 7=true from rfl)) (kC (kB (kA (kX (fun _=>⟨rfl,L,M,fun j hj=>(N j hj).imp id (fun h=>Nat.le_trans m.out.1.2.2.2.1 h),fun j hj=>(O j hj).imp id (fun h=>Nat.le_trans m.out.1.2.2.2.1 h)⟩) (kX (nU (A 8 rfl)) (kX (nU (A 9 rfl)) (kX (nU (A 10 rfl)) (fun _=>nU (A 13 rfl)))))))))))))))) m.out)
 ·have G:=((jC (jD m.out)).2.2.2.1 (u 7 rfl)).1
  go_simp
  refine D.out (upd s 40 (.agg (aF x.1 (s 1003) (s 1004)))) _ _ (by simp [aC,G] <;> rfl) (kE (kX (fun _=>rfl) id) m.out)
 ·have G:=((jC (jD m.out)).2.2.2.1 (u 7 rfl)).1
  go_simp
  refine D.out (upd s 41 (.agg (aB x.2.1))) _ _ (by simp [aC,G] <;> rfl) (kE (kA (kX (fun _=>rfl) id)) m.out)
 ·have G:=((jC (jD m.out)).2.2.2.1 (u 7 rfl)).1
  go_simp
  refine D.out (upd s 42 (.bool x.2.2)) _ _ (by simp [aC,G] <;> rfl) (kE (kB (kX (fun _=>rfl) id)) m.out)
 ·have e8:=((jE m.out).1 (u 8 rfl))
  have G:=((jC (jD m.out)).2.2.2.1 (u 7 rfl))
  have L:=G.2.1
  have M:=G.2.2.1
  clear G
  have J:=m.out.2.2.2.2.1
  rw [I] at J
  dsimp only [cond] at J
  obtain ⟨xa,xp,ea,_⟩:=L.seg
  obtain ⟨xb,xq,R,_⟩:=M.seg
  rw [ea,R] at e8
  have zn:hp (dF E (w+1+1) (aF x.1 (.slice xa x.1.cells xp) (.slice xb x.1.words xq))) (w+1+1)=some (.cells (aF x.1 (s 1003) (s 1004)) 31):=by rw [ea,R];exact ib J
  have H:=m.out.1
  go_simp
  refine D.out (s) _ _ (by simp [aC,e8,ea,R] <;> rfl) (kX (oX H tO) (kX (Nat.le_trans m.out.2.1 (Nat.le_of_eq aP.symm)) (kX ((aR tO).trans m.out.2.2.1) (kX ((aR tO).trans m.out.2.2.2.1) (kX (zn) (kX ((aR tO).trans (jC m.out).2.1) (kX (fun q=>nU q (show upd l 11 true 7=true from u 7 rfl)) (kX (fun q=>nU q (show upd l 11 true 7=true from u 7 rfl)) (kC (kB (kA (kX (fun h=>(let ⟨e,L,M,N,O⟩:=(jC (jD m.out)).2.2.2.1 h;⟨e,dI L J (by decide),dI M J (by decide),N,O⟩)) id))))))))))) m.out)
 ·have e9:=((jE m.out).2.1 (u 9 rfl))
  have G:=((jC (jD m.out)).2.2.2.1 (u 7 rfl))
  have L:=G.2.1
  have M:=G.2.2.1
  clear G
  have J:=(jC m.out).2.1
  rw [I] at J
  dsimp only [cond] at J
  have zn:hp (dF E (w+1+1+1) (aB x.2.1)) (w+1+1+1)=some (.cells (aB x.2.1) 49):=by exact ib J
  have H:=m.out.1
  go_simp
  refine D.out (s) _ _ (by simp [aC,e9] <;> rfl) (kX (oX H tO) (kX (Nat.le_trans m.out.2.1 (Nat.le_of_eq aP.symm)) (kX ((aR tO).trans m.out.2.2.1) (kX ((aR tO).trans m.out.2.2.2.1) (kX ((aR tO).trans m.out.2.2.2.2.1) (kX (zn) (kX (fun q=>nU q (show upd l 12 true 7=true from u 7 rfl)) (kX (fun q=>nU q (show upd l 12 true 7=true from u 7 rfl)) (kC (kB (kA (kX (fun h=>(let ⟨e,L,M,N,O⟩:=(jC (jD m.out)).2.2.2.1 h;⟨e,dI L J (by decide),dI M J (by decide),N,O⟩)) id))))))))))) m.out)
 ·have a4:=((jE m.out).2.2.1 (u 10 rfl))
  go_simp
  refine D.out (upd s 6 (.bool x.2.2)) _ _ (by simp [aC,a4] <;> rfl) (kE (kB (kA (fun _=>fun _=>rfl))) m.out)
theorem Gs (c:Ch) (h:Ha) (v1 v2:Value) (lo:Nat) (w:World) (h1:aD w lo v1 c.cells) (h2:aG w lo v2 c.words) (a1:0≤h.cell) (a3:h.cell<c.cells.length) (ah:(h.seen == 0)=false) (ai:(h.seen == 1)=false) (aj:(h.seen == 2)=false) (hs:(h.seen == 3)=true) :
  dG 263 c h v1 v2 lo w (uX c 5 (cellAt c h.cell).t { h with pos:=13 } { h with pos:=10 }):=by
 have T0:=fun W a b=>oM c 5 (cellAt c h.cell).t { h with pos:=13 } { h with pos:=10 } v1 v2 lo W a b a1 a3
 change ∀ W,_→_→Calls _ _ _ _ (fun r w'=>dJ W w' lo v1 v2 (uX c 5 (cellAt c h.cell).t { h with pos:=13 } { h with pos:=10 }) r) at T0
 generalize ab:uX c 5 (cellAt c h.cell).t { h with pos:=13 } { h with pos:=10 }=x at *
 obtain ⟨i,Y⟩:∃ i:Nat,h.cell=(i:Int):=⟨h.cell.toNat,by omega⟩
 have hi:i<c.cells.length:=by omega
 have ae:(0:Int)≤(i:Int):=by omega
 have af:(i:Int)<(c.cells.length:Int):=by omega
 have ag:=h1.ne h2
 obtain ⟨Z,q2,rfl,_⟩:=h2.seg
 obtain ⟨g,R,rfl,ac,aa,E,ad⟩:=h1.open1 hi
 have O1:=aA h1
 have O2:=aA h2
 have ak:g<w.heap.size+1:=by omega
 have al:g<w.heap.size+1+1:=by omega
 have am:g<w.heap.size+1+1+1:=by omega
 have ar:g≠w.heap.size:=by omega
 have au:g≠w.heap.size+1:=by omega
 have av:g≠w.heap.size+1+1:=by omega
 have aw:g≠w.heap.size+1+1+1:=by omega
 have an:w.heap.size≠g:=by omega
 have ao:w.heap.size+1≠g:=by omega
 have ap:w.heap.size+1+1≠g:=by omega
 have aq:w.heap.size+1+1+1≠g:=by omega
 have hx:Hid (cellAt c h.cell=c.cells.getD i ⟨0,0,0⟩):=by simp [cellAt,Hid,Y]
 have c0:=E 0 tO
 have c1:=E 1 tO
 have c2:=E 2 tO
 simp only [C3.val,Nat.add_zero] at c0 c1 c2
 have ex:=hx.out
 rw [ex] at T0
 clear ab hx ex E h1 h2
 generalize c.cells.getD i ⟨0,0,0⟩=x0 at *
 obtain ⟨ss,e,t⟩:=x0
 simp only at T0 c0 c1 c2
 have T:=aA T0
 clear T0
 have o1:=O1.out
 have o2:=O2.out
 have a4:=aA Y
 clear Y a1 a3
 go_enter func263,ntmps263
 go_upto_region 11 with fail
 refine iT [[],[],[1],[],[3],[1,2,3,4],[1,2,3,4,5],[1,2,3,4,5,6],[],[8],[],[10],qB [8,9,10,11],qB [8,9,10,11,12],qB [8,9,10,11,12],qB [8,9,10,11,12],qB [8,9,10,11,12,13],qB [8,9,10,11,12,14],qB [8,9,10,11,12,15]] [43,44,45,46,47,48,49,50,51,52,53,54,55,56,57,58,6] (fun l s I=>(jI (Value.slice (some ⟨g,0,none⟩) c.cells R).ownBlock (Value.slice Z c.words q2).ownBlock w I)∧(w+1+1+1+1≤I.heap.size)∧(hp I w=some (.cells (aF c (.slice (some ⟨g,0,none⟩) c.cells R) (.slice Z c.words q2)) 31))∧(hp I (w+1)=some (.cells (aB h) 49))∧(hp I (w+1+1)=some (.cells (cond (l 16) (aF x.1 (s 1003) (s 1004)) (aF Ch.zero (.slice none 0 0) (.slice none 0 0))) 31))∧(hp I (w+1+1+1)=some (.cells (cond (l 17) (aB x.2.1) (aB Ha.zero)) 49))∧(l 12=false→aD I lo (.slice (some ⟨g,0,none⟩) c.cells R) c.cells)∧(l 12=false→aG I lo (.slice Z c.words q2) c.words)∧(l 12=false→Below w w I)∧(l 0=true→s 43=.agg (aF c (.slice (some ⟨g,0,none⟩) c.cells R) (.slice Z c.words q2)))∧(l 1=true→s 44=.pointer (some ⟨w,4,none⟩))∧(l 2=true→s 45=.slice (some ⟨g,0,none⟩) c.cells R)∧(l 3=true→s 46=.pointer (some ⟨w+1,3,none⟩))∧(l 4=true→s 47=.int .i64 i)∧(l 5=true→s 48=.pointer (some ⟨g,i*3,none⟩))∧(l 6=true→s 49=.pointer (some ⟨g,i*3+2,none⟩))∧(l 7=true→s 50=.int .i64 t)∧(l 8=true→s 51=.agg (aB h))∧(l 9=true→s 52=.agg (aB ({ h with pos:=13 })))∧(l 10=true→s 53=.agg (aB h))∧(l 11=true→s 54=.agg (aB ({ h with pos:=10 })))∧(l 12=true→s 55=.tuple #[.agg (aF x.1 (s 1003) (s 1004)),.agg (aB x.2.1),.bool x.2.2]∧aD I lo (s 1003) x.1.cells∧aG I lo (s 1004) x.1.words∧fC w (.slice (some ⟨g,0,none⟩) c.cells R) (s 1003)∧fC w (.slice Z c.words q2) (s 1004))∧(l 13=true→s 56=.agg (aF x.1 (s 1003) (s 1004)))∧(l 14=true→s 57=.agg (aB x.2.1))∧(l 15=true→s 58=.bool x.2.2)∧(l 18=true→s 6=.bool x.2.2)) (fun s=>⟨dR zB,by simp,by simp [go_sem, *],by simp [go_sem, *],by simp [go_sem, *],by simp [go_sem, *],fun _=>by exact zO o1 o1,fun _=>by exact zO o2 o2,fun _=>by exact zB,nB,nB,nB,nB,nB,nB,nB,nB,nB,nB,nB,nB,nB,nB,nB,nB,nB⟩) ?_ ?_
 refine ⟨?_,?_,?_,?_,?_,?_,?_,?_,?_,?_,?_,?_,?_,?_,?_,?_,?_,?_,?_,trivial⟩;iterate 19 (intro l s I L z H m K D;rotate_left)
 ·intro l s I G m
  have J:=m.1
  have z1:=m.2.2.2.2.1
  have z2:=(jC m).2.1
  rw [G 16 rfl] at z1
  rw [G 17 rfl] at z2
  dsimp only [cond] at z1 z2
  obtain ⟨_,N,O,U,V⟩:=((jC (jE m)).2.1 (G 12 rfl))
  have ec:=((jD (jE m)).2 (G 18 rfl))
  simp only [ec]
  clear ec m G
  go_wp2
  exact bodyPost_ret (jZ results263 rfl (aO x.1 _ _ z1) rfl (aJ x.2.1 z2)) rfl ⟨⟨_,_,rfl,N,O,U,V⟩,J⟩
 ·have zc:=m.out.2.2.1
  go_simp
  refine D.out (upd s 43 (.agg (aF c (.slice (some ⟨g,0,none⟩) c.cells R) (.slice Z c.words q2)))) _ _ (by simp [aC] <;> rfl) (kD (kA (kX (fun _=>rfl) id)) m.out)
 ·go_simp
  refine D.out (upd s 44 (.pointer (some ⟨w,4,none⟩))) _ _ (by simp [aC] <;> rfl) (kD (kB (kX (fun _=>rfl) id)) m.out)
 ·have e1:=((jD m.out).2.2.1 (z 1 rfl))
  have zc:=m.out.2.2.1
  have q:=(bO zc).1 4
  go_simp
  refine D.out (upd s 45 (.slice (some ⟨g,0,none⟩) c.cells R)) _ _ (by simp [aC,e1] <;> rfl) (kD (kB (kA (kX (fun _=>rfl) id))) m.out)
 ·go_simp
  refine D.out (upd s 46 (.pointer (some ⟨w+1,3,none⟩))) _ _ (by simp [aC] <;> rfl) (kD (kC (kX (fun _=>rfl) id)) m.out)
 ·have e3:=((jC (jD m.out)).1 (z 3 rfl))
  have zh:=m.out.2.2.2.1
  have q:I.cell? ⟨w+1,3,none⟩=some (.int .i64 i):=by rw [← a4.out];exact (bO zh).1 3
  go_simp
  refine D.out (upd s 47 (.int .i64 i)) _ _ (by simp [aC,e3] <;> rfl) (kD (kC (kA (kX (fun _=>rfl) id))) m.out)
 ·have e2:=((jD m.out).2.2.2.1 (z 2 rfl))
  have e4:=((jC (jD m.out)).2.1 (z 4 rfl))
  go_simp
  refine D.out (upd s 48 (.pointer (some ⟨g,i*3,none⟩))) _ _ (by simp [aC,e2,e4] <;> rfl) (kD (kC (kB (kX (fun _=>rfl) id))) m.out)
 ·have e5:=((jC (jD m.out)).2.2.1 (z 5 rfl))
  go_simp
  refine D.out (upd s 49 (.pointer (some ⟨g,i*3+2,none⟩))) _ _ (by simp [aC,e5] <;> rfl) (kD (kC (kB (kA (kX (fun _=>rfl) id)))) m.out)
 ·have e6:=((jC (jD m.out)).2.2.2.1 (z 6 rfl))
  have a9:=(jD m.out).1 (H 12 rfl)
  have y0:=(a9.cell (p:=⟨g,i*3+2,none⟩) aa).trans c2
  go_simp
  refine D.out (upd s 50 (.int .i64 t)) _ _ (by simp [aC,e6] <;> rfl) (kE (kX (fun _=>rfl) id) m.out)
 ·have zh:=m.out.2.2.2.1
  go_simp
  refine D.out (upd s 51 (.agg (aB h))) _ _ (by simp [aC] <;> rfl) (kE (kA (kX (fun _=>rfl) id)) m.out)
 ·have e8:=((jE m.out).2.1 (z 8 rfl))
  go_simp
  go_at_call 247
  refine (dL h 13 _).mono ?_
  rintro _ wy ⟨rfl,A⟩
  refine D.out (upd s 52 (.agg (aB ({ h with pos:=13 })))) _ _ (by simp [aC,e8] <;> rfl) (kX (gU m.out.1 (dR A)) (kX (Nat.le_trans m.out.2.1 (Below.size A)) (kX (eP m.out.2.2.1 A) (kX (eP m.out.2.2.2.1 A) (kX (eP m.out.2.2.2.2.1 A) (kX (eP (jC m.out).2.1 A) (kX (fun u=>own_below ((jC m.out).2.2.1 u) A) (kX (fun u=>own_below ((jC m.out).2.2.2.1 u) A) (kX (fun u=>bT ((jD m.out).1 u) A) (kD (kA (kX (fun _=>rfl) (kB (kX (nU (H 12 rfl)) (kX (nU (H 13 rfl)) (kX (nU (H 14 rfl)) (kX (nU (H 15 rfl)) (fun _=>nU (H 18 rfl)))))))))))))))))) m.out)
 ·have zh:=m.out.2.2.2.1
  go_simp
  refine D.out (upd s 53 (.agg (aB h))) _ _ (by simp [aC] <;> rfl) (kE (kB (kA (kX (fun _=>rfl) id))) m.out)
 ·have a5:=((jE m.out).2.2.2.1 (z 10 rfl))
  go_simp
  go_at_call 247
  refine (dL h 10 _).mono ?_
  rintro _ wy ⟨rfl,A⟩
  refine D.out (upd s 54 (.agg (aB ({ h with pos:=10 })))) _ _ (by simp [aC,a5] <;> rfl) (kX (gU m.out.1 (dR A)) (kX (Nat.le_trans m.out.2.1 (Below.size A)) (kX (eP m.out.2.2.1 A) (kX (eP m.out.2.2.2.1 A) (kX (eP m.out.2.2.2.2.1 A) (kX (eP (jC m.out).2.1 A) (kX (fun u=>own_below ((jC m.out).2.2.1 u) A) (kX (fun u=>own_below ((jC m.out).2.2.2.1 u) A) (kX (fun u=>bT ((jD m.out).1 u) A) (kD (kB (kA (kX (fun _=>rfl) (kX (nU (H 12 rfl)) (kX (nU (H 13 rfl)) (kX (nU (H 14 rfl)) (kX (nU (H 15 rfl)) (fun _=>nU (H 18 rfl)))))))))))))))))) m.out)
 ·have e0:=((jD m.out).2.1 (z 0 rfl))
  have e7:=((jE m.out).1 (z 7 rfl))
  have e9:=((jE m.out).2.2.1 (z 9 rfl))
  have a6:=((jC (jE m.out)).1 (z 11 rfl))
  go_simp
  go_at_call 265
  refine (T.out _ ((jC m.out).2.2.1 L) ((jC m.out).2.2.2.1 L)).mono ?_
  rintro _ wy ⟨⟨y1,y2,rfl,N,O,U,V⟩,J⟩
  refine D.out (upd (upd (upd s 1003 (y1)) 1004 (y2)) 55 (.tuple #[.agg (aF x.1 y1 y2),.agg (aB x.2.1),.bool x.2.2])) _ _ (by simp [aC,e0,e7,e9,a6] <;> rfl) (kX (gU m.out.1 J) (kX (Nat.le_trans m.out.2.1 J.2.2.2.1) (kX (gW m.out.2.2.1 J ((jC m.out).2.2.1 L) ((jC m.out).2.2.2.1 L) (by decide) (by decide)) (kX (gW m.out.2.2.2.1 J ((jC m.out).2.2.1 L) ((jC m.out).2.2.2.1 L) (by decide) (by decide)) (kX (by (have ee:l 16=false:=H 16 rfl);(have F:=m.out.2.2.2.2.1);rw [ee] at F;rw [show upd l 12 true 16=false from ee];exact gW F J ((jC m.out).2.2.1 L) ((jC m.out).2.2.2.1 L) (by decide) (by decide)) (kX (by (have ee:l 17=false:=H 17 rfl);(have F:=(jC m.out).2.1);rw [ee] at F;rw [show upd l 12 true 17=false from ee];exact gW F J ((jC m.out).2.2.1 L) ((jC m.out).2.2.2.1 L) (by decide) (by decide)) (kX (fun u=>nU u (show upd l 12 true 12=true from rfl)) (kX (fun u=>nU u (show upd l 12 true 12=true from rfl)) (kX (fun u=>nU u (show upd l 12 true 12=true from rfl)) (kD (kC (kX (fun _=>⟨rfl,N,O,fun j hj=>(U j hj).imp id (fun h=>Nat.le_trans m.out.1.2.2.2.1 h),fun j hj=>(V j hj).imp id (fun h=>Nat.le_trans m.out.1.2.2.2.1 h)⟩) (kX (nU (H 13 rfl)) (kX (nU (H 14 rfl)) (kX (nU (H 15 rfl)) (fun _=>nU (H 18 rfl)))))))))))))))) m.out)
 ·have y:=((jC (jE m.out)).2.1 (z 12 rfl)).1
  go_simp
  refine D.out (upd s 56 (.agg (aF x.1 (s 1003) (s 1004)))) _ _ (by simp [aC,y] <;> rfl) (kE (kC (kB (kX (fun _=>rfl) id))) m.out)
 ·have y:=((jC (jE m.out)).2.1 (z 12 rfl)).1
  go_simp
  refine D.out (upd s 57 (.agg (aB x.2.1))) _ _ (by simp [aC,y] <;> rfl) (kE (kC (kB (kA (kX (fun _=>rfl) id)))) m.out)
 ·have y:=((jC (jE m.out)).2.1 (z 12 rfl)).1
  go_simp
  refine D.out (upd s 58 (.bool x.2.2)) _ _ (by simp [aC,y] <;> rfl) (kE (kD (kX (fun _=>rfl) id)) m.out)
 ·have a0:=((jC (jE m.out)).2.2.1 (z 13 rfl))
  have y:=((jC (jE m.out)).2.1 (z 12 rfl))
  have N:=y.2.1
  have O:=y.2.2.1
  clear y
  have M:=m.out.2.2.2.2.1
  rw [L] at M
  dsimp only [cond] at M
  obtain ⟨xa,xp,ea,_⟩:=N.seg
  obtain ⟨xb,xq,X,_⟩:=O.seg
  rw [ea,X] at a0
  have zn:hp (dF I (w+1+1) (aF x.1 (.slice xa x.1.cells xp) (.slice xb x.1.words xq))) (w+1+1)=some (.cells (aF x.1 (s 1003) (s 1004)) 31):=by rw [ea,X];exact ib M
  have J:=m.out.1
  go_simp
  refine D.out (s) _ _ (by simp [aC,a0,ea,X] <;> rfl) (kX (oX J tO) (kX (Nat.le_trans m.out.2.1 (Nat.le_of_eq aP.symm)) (kX ((aR tO).trans m.out.2.2.1) (kX ((aR tO).trans m.out.2.2.2.1) (kX (zn) (kX ((aR tO).trans (jC m.out).2.1) (kX (fun u=>nU u (show upd l 16 true 12=true from z 12 rfl)) (kX (fun u=>nU u (show upd l 16 true 12=true from z 12 rfl)) (kX (fun u=>nU u (show upd l 16 true 12=true from z 12 rfl)) (kD (kC (kX (fun h=>(let ⟨e,N,O,U,V⟩:=(jC (jE m.out)).2.1 h;⟨e,dI N M (by decide),dI O M (by decide),U,V⟩)) id))))))))))) m.out)
 ·have a7:=((jC (jE m.out)).2.2.2.1 (z 14 rfl))
  have y:=((jC (jE m.out)).2.1 (z 12 rfl))
  have N:=y.2.1
  have O:=y.2.2.1
  clear y
  have M:=(jC m.out).2.1
  rw [L] at M
  dsimp only [cond] at M
  have zn:hp (dF I (w+1+1+1) (aB x.2.1)) (w+1+1+1)=some (.cells (aB x.2.1) 49):=by exact ib M
  have J:=m.out.1
  go_simp
  refine D.out (s) _ _ (by simp [aC,a7] <;> rfl) (kX (oX J tO) (kX (Nat.le_trans m.out.2.1 (Nat.le_of_eq aP.symm)) (kX ((aR tO).trans m.out.2.2.1) (kX ((aR tO).trans m.out.2.2.2.1) (kX ((aR tO).trans m.out.2.2.2.2.1) (kX (zn) (kX (fun u=>nU u (show upd l 17 true 12=true from z 12 rfl)) (kX (fun u=>nU u (show upd l 17 true 12=true from z 12 rfl)) (kX (fun u=>nU u (show upd l 17 true 12=true from z 12 rfl)) (kD (kC (kX (fun h=>(let ⟨e,N,O,U,V⟩:=(jC (jE m.out)).2.1 h;⟨e,dI N M (by decide),dI O M (by decide),U,V⟩)) id))))))))))) m.out)
 ·have a8:=((jD (jE m.out)).1 (z 15 rfl))
  go_simp
  refine D.out (upd s 6 (.bool x.2.2)) _ _ (by simp [aC,a8] <;> rfl) (kE (kD (kA (fun _=>fun _=>rfl))) m.out)
theorem DT (c:Ch) (h:Ha) (G H:Value) (lo:Nat) (w:World) (h1:aD w lo G c.cells) (J:aG w lo H c.words) (R:(h.seen == 0)=false) (U:(h.seen == 1)=false) (V:(h.seen == 2)=false) (X:(h.seen == 3)=false) :
  dG 263 c h G H lo w (nothing):=by
 have T:=aA fun W=>gV W lo G H
 generalize nothing=x at *
 obtain ⟨K,q1,L,q2,rfl,rfl,o1,o2,M,N,m1,m2,Y,a4,Z,a5,a0,a6,a3,a7⟩:=Ep h1 J
 clear h1 J
 go_enter func263,ntmps263
 go_wp2_with fail
 refine (T.out _).mono ?_
 rintro _ w3 ⟨⟨y1,y2,rfl,u,y,A,D⟩,m⟩
 have O:jI (Value.slice K c.cells q1).ownBlock (Value.slice L c.words q2).ownBlock w w3:=gU (dR zB) (dR m)
 have z:=m.size;(try simp at z);have I:=BL m (b:=w);(try simp [go_sem] at I);replace bX:=dW I;clear I m
 obtain ⟨⟨q,r⟩,E,F⟩:=sO (w:=w) (w+1+1+1+1) A D M N;obtain ⟨ya,yp,rfl,_⟩:=u.seg;obtain ⟨yb,yq,rfl,_⟩:=y.seg
 go_wp2
 refine rE results263 rfl (aO x.1 (.slice ya x.1.cells yp) (.slice yb x.1.words yq) tY) rfl (aJ x.2.1 tY) ⟨⟨_,_,rfl,?_,?_,E,F⟩,by exact zN⟩
 ·exact zP u u q
 ·exact zP y y r
end
section
open Go.RowKit
attribute [local simp] aP
def Qx (w w':World) (x:Wo) (r:Ending):Prop:=(∃ B v1 v2 v3 v4,r=.returned (.pointer (some ⟨B,0,none⟩))∧w.heap.size≤B∧hp w' B=some (.cells (iA x v1 v2 v3 v4) 35)∧dO w' w v1 v2 v3 v4 x)∧Below w w w'
theorem oo (x:Wo) (a b d e:Option Addr) (p q r s:Nat) (w:World) (h:ic w w x a b d e) (z:jl x a b d e p q r s) (m:jk x) :
  Calls prog 51 #[kZ x a b d e p q r s] w fun r w'=>Qx w w' x r:=by
 obtain ⟨h1,h2,h3,h4⟩:=h
 obtain ⟨z1,z2,z3,z4⟩:=z
 obtain ⟨m1,m2,m3,m4⟩:=m
 have H1:=aA h1
 have H2:=aA h2
 have H3:=aA h3
 have H4:=aA h4
 have Z3:=aA z3
 have Z4:=aA z4
 have M1:x.ch.cells.length≤1099511627776:=by omega
 have M2:x.ch.words.length≤1099511627776:=by omega
 have ah:=Ia x.hands m3
 have ai:=OJ x.deals m4
 clear h1 h2 h3 h4 z3 z4
 go_enter func51,ntmps51
 go_wp2_with fail
 go_wp2_with fail;refine aK w zB fun bb=>?_;refine (mU x.ch a b p q _ (aT H1 bb) z1 (aT H2 bb) z2 M1 M2).mono ?_;rintro _ T ⟨⟨v1,v2,rfl,o1,o2⟩,y⟩;have a3:Below w w T:=bT bb y;have a6:=y.size;(try simp at a6);have zz:=And.intro (hQ y (b:=w+1)) <| hQ y (b:=w);(try simp [go_sem] at zz);(try clear F V R K);(try clear O ab a2 Z);obtain ⟨F,O⟩:=zz;obtain ⟨V,R,K⟩:=bO F;obtain ⟨ab,a2,Z⟩:=bO O;clear y bb
 replace o1:=aH (lo':=w+1+1) o1 (by simp)
 replace o2:=aH (lo':=w+1+1) o2 (by simp)
 have a0:=o1
 have a1:=o2
 obtain ⟨va,vc,rfl,_⟩:=aD.seg o1
 obtain ⟨vb,vd,rfl,_⟩:=aG.seg o2
 go_wp2_with fail
 have ag:=a3
 generalize D:World.alloc _ _=U
 have L:hp U T=some (.cells (madeCells (aB Ha.zero) (x.hands.length*14)) 49):=by rw [← D];simp [go_sem]
 have H:hp U w=some (.cells (iA x (.slice a x.ch.cells p) (.slice b x.ch.words q) (.slice d x.hands r) (.slice e x.deals s)) 35):=by rw [← D];simp [go_sem,O,Z];rfl
 have I:hp U (w+1)=some (.cells (iA x (.slice va x.ch.cells vc) (.slice vb x.ch.words vd) (.slice (some ⟨T,0,none⟩) x.hands x.hands) (.slice e x.deals s)) 35):=by rw [← D];simp [go_sem,F,K];rfl
 have X:Below w w U:=by rw [← D];exact zB
 have al:U=T.heap.size+1:=by rw [← D];simp
 have i1:U.ownsRow (w+1+1) 93 3 (.slice va x.ch.cells vc) x.ch.cells (jB x.ch.cells):=(by rw [← D];(repeat (first|with_reducible exact a0|with_reducible refine World.ownsRow.alloc ?_ _|((with_reducible refine aI ?_ ?_ _);rotate_left;(focus exact own_ne a0 (by (try simp);try omega))))))
 have i2:U.ownsRow (w+1+1) 2 1 (.slice vb x.ch.words vd) x.ch.words (ints x.ch.words):=(by rw [← D];(repeat (first|with_reducible exact a1|with_reducible refine World.ownsRow.alloc ?_ _|((with_reducible refine aI ?_ ?_ _);rotate_left;(focus exact own_ne a1 (by (try simp);try omega))))))
 clear D o1 o2 a0 a1 O F ab V a2 R Z K
 obtain ⟨w2,A,a4,E⟩:=qF (P:=prog) U 32 32 3 49 T x.hands 14 d r _ 49 (jF x.hands) underlying32 (by kernel_rfl) L (by simp [madeCells]) (jA _) (fun e=>(Z3.out e).1) (Seg.news (H3.out.below X) (jA _) (kg _)) (yV _)
 rw [A]
 replace i1:=World.ownsRow.kept i1 E (.inr fun e=>bH i1 L (by decide) _ e rfl)
 replace i2:=World.ownsRow.kept i2 E (.inr fun e=>bH i2 L (by decide) _ e rfl)
 have i3:w2.ownsRow (w+1+1) 49 14 (.slice (some ⟨T,0,none⟩) x.hands x.hands) x.hands (jF x.hands):=Ci a4 (jA _) tO (by unfold maxLen;omega)
 replace H:=(bE E (bO H).2.2 (by simp;omega)).trans H
 replace I:=(bE E (bO I).2.2 (by simp;omega)).trans I
 have aj:Below w w w2:=iN X E X.size (fun k hk=>by simp at hk;omega)
 obtain ⟨a9,ac,a7⟩:=bO H
 obtain ⟨aa,ad,a8⟩:=bO I
 simp only [iA] at a9 aa
 have ak:=E.size
 clear A E L a4
 go_wp2_with fail
 generalize u:World.alloc _ _=M
 have J:hp M w2=some (.cells (madeCells (gM De.zero) (x.deals.length*7)) 44):=by rw [← u];simp [go_sem]
 have af:hp M w=some (.cells (iA x (.slice a x.ch.cells p) (.slice b x.ch.words q) (.slice d x.hands r) (.slice e x.deals s)) 35):=by rw [← u];simp [go_sem,H,a7]
 have N:hp M (w+1)=some (.cells (iA x (.slice va x.ch.cells vc) (.slice vb x.ch.words vd) (.slice (some ⟨T,0,none⟩) x.hands x.hands) (.slice (some ⟨w2,0,none⟩) x.deals x.deals)) 35):=by rw [← u];simp [go_sem,I,a8,iA]
 have Y:Below w w M:=by rw [← u];exact zB
 have am:M=w2.heap.size+1:=by rw [← u];simp
 have j1:M.ownsRow (w+1+1) 93 3 (.slice va x.ch.cells vc) x.ch.cells (jB x.ch.cells):=(by rw [← u];(repeat (first|with_reducible exact i1|with_reducible refine World.ownsRow.alloc ?_ _|((with_reducible refine aI ?_ ?_ _);rotate_left;(focus exact own_ne i1 (by (try simp);try omega))))))
 have j2:M.ownsRow (w+1+1) 2 1 (.slice vb x.ch.words vd) x.ch.words (ints x.ch.words):=(by rw [← u];(repeat (first|with_reducible exact i2|with_reducible refine World.ownsRow.alloc ?_ _|((with_reducible refine aI ?_ ?_ _);rotate_left;(focus exact own_ne i2 (by (try simp);try omega))))))
 have j3:M.ownsRow (w+1+1) 49 14 (.slice (some ⟨T,0,none⟩) x.hands x.hands) x.hands (jF x.hands):=(by rw [← u];(repeat (first|with_reducible exact i3|with_reducible refine World.ownsRow.alloc ?_ _|((with_reducible refine aI ?_ ?_ _);rotate_left;(focus exact own_ne i3 (by (try simp);try omega))))))
 clear u i1 i2 i3 H I a9 aa ac ad a7 a8
 obtain ⟨w3,A,a5,G⟩:=qF (P:=prog) M 33 33 3 44 w2 x.deals 7 e s _ 44 (kJ x.deals) underlying33 (by kernel_rfl) J (by simp [madeCells]) (mK _) (fun e=>(Z4.out e).1) (Seg.news (H4.out.below Y) (mK _) (mM _)) (yX _)
 rw [A]
 replace j1:=World.ownsRow.kept j1 G (.inr fun e=>bH j1 J (by decide) _ e rfl)
 replace j2:=World.ownsRow.kept j2 G (.inr fun e=>bH j2 J (by decide) _ e rfl)
 replace j3:=World.ownsRow.kept j3 G (.inr fun e=>bH j3 J (by decide) _ e rfl)
 have j4:w3.ownsRow (w+1+1) 44 7 (.slice (some ⟨w2,0,none⟩) x.deals x.deals) x.deals (kJ x.deals):=Ci a5 (mK _) tO (by unfold maxLen;omega)
 replace N:=(bE G (bO N).2.2 (by simp;omega)).trans N
 have ae:Below w w w3:=iN Y G Y.size (fun k hk=>by simp at hk;omega)
 clear A G J a5 af
 go_wp2
 go_ret
 exact ⟨⟨_,_,_,_,_,rfl,by omega,N,aH j1 tO,aH j2 tO,aH j3 tO,aH j4 tO⟩,ae⟩
end
section
open Go.RowKit
theorem sJ {w:World} {lo:Nat} {t:TypeId} {n k p:Nat} {a:Option Addr} {r:List Value} {f:Nat→Nat→Value} (h:w.ownsRow lo t k (.slice a n p) n r) (y:∀ i j,i<n→j<k→r[i*k+j]?=some (f i j)):Seg w w a n k f∧(a=none→p=0)∧n≤maxLen:=by
 obtain ⟨z,A,e,s⟩:=uZ h y
 simp at e
 obtain ⟨rfl,rfl⟩:=e
 refine ⟨s,fun e=>?_,?_⟩
 ·rcases h.2 with ⟨m,_⟩|⟨g,cap,q,m,_⟩
  ·simp at m;exact m.2.2
  ·simp at m;rw [e] at m;cases m.1
 ·rcases h.2 with ⟨_,h1⟩|⟨g,cap,q,_,_,_,h1,u,_⟩
  ·omega
  ·exact Nat.le_trans h1 u
theorem Bc {w:World} {B:Nat} {x:Wo} {m q r u:Value} (z:hp w B=some (.cells (iA x m q r u) 35)):(BV (.pointer (some ⟨B,0,none⟩))).run prog w=.ok (.agg (aF x.ch m q)) w:=by
 have y:w.cell? ⟨B,0,none⟩=some (.int .i64 x.ch.cap):=(bO z).1 0
 have h1:w.cell? ⟨B,1,none⟩=some (.int .i64 x.ch.sent):=(bO z).1 1
 have A:w.cell? ⟨B,2,none⟩=some (.int .i64 x.ch.got):=(bO z).1 2
 have D:w.cell? ⟨B,3,none⟩=some (.int .i64 x.ch.fin):=(bO z).1 3
 have E:w.cell? ⟨B,4,none⟩=some m:=(bO z).1 4
 have F:w.cell? ⟨B,5,none⟩=some q:=(bO z).1 5
 unfold BV
 simp [aF,go_sem, *]
def PW (w:World) (B:Nat) (c:Ch) (v1 v2:Value):World:=(((((w.setCell ⟨B,0,none⟩ (.int .i64 c.cap)).setCell ⟨B,1,none⟩ (.int .i64 c.sent)).setCell ⟨B,2,none⟩ (.int .i64 c.got)).setCell ⟨B,3,none⟩ (.int .i64 c.fin)).setCell ⟨B,4,none⟩ v1).setCell ⟨B,5,none⟩ v2
theorem nK (w:World) (B:Nat) (c:Ch) (m q:Value):w.grownBy (PW w B c m q) (some B):=by
 unfold PW
 repeat (first|with_reducible exact gR _ _|with_reducible refine gS ?_ (.inl rfl))
theorem MJ {w:World} {B:Nat} {x:Wo} {y A r u:Value} {T:TypeId} (z:hp w B=some (.cells (iA x y A r u) T)) (c:Ch) (m q:Value):hp (PW w B c m q) B=some (.cells (iA { x with ch:=c } m q r u) T):=by
 unfold PW
 simp only [gG,z,Option.map_some,eZ]
 rfl
theorem Iq {w:World} {B:Nat} {x:Wo} {r u y A:Value} (z:hp w B=some (.cells (iA x r u y A) 35)) (c:Ch) (a b:Option Addr) (n p m q:Nat):(storeCells ⟨B,0,none⟩ (aF c (.slice a n p) (.slice b m q)).toList).run prog w=.ok () (PW w B c (.slice a n p) (.slice b m q)):=by
 have h:=(bO z).1
 have f:=(bO z).2.1
 simp only [iA] at h
 simp [aF,storeCells,Addr.add,go_sem,h,f,PW]
attribute [local simp] aP
attribute [local go_sem ↓] aQ bF aY bY aZ bZ aX bB aN aU
attribute [local go_sem ↓] gK
attribute [local go_sem] fF
theorem cO.stAt {w:World} {lo g cap:Nat} {hs:List Ha} (h:cO w lo (.slice (some ⟨g,0,none⟩) hs.length cap) hs) {i:Nat} (u:i<hs.length) (y:Ha):(pY (.pointer (some ⟨g,i*14,none⟩)) (.agg (aB y))).run prog w=.ok () (ig w g (i*14) y):=by
 obtain ⟨A,m,e,_,_,q,r⟩:=h.open1 u
 simp at e
 obtain ⟨rfl,rfl⟩:=e
 exact qp y (fun j z=>⟨_,q j z⟩) r
theorem cO.ldAt {w:World} {lo g cap:Nat} {hs:List Ha} (h:cO w lo (.slice (some ⟨g,0,none⟩) hs.length cap) hs) {i:Nat} (r:i<hs.length):(jU (.pointer (some ⟨g,i*14,none⟩))).run prog w=.ok (.agg (aB (hs.getD i Ha.zero))) w:=by
 obtain ⟨u,m,e,_,_,q,y⟩:=h.open1 r
 simp at e
 obtain ⟨rfl,rfl⟩:=e
 exact jh _ q
theorem ints_at (l:List Int):∀ i j,i<l.length→j<1→(ints l)[i*1+j]?=some (jT l i j):=fun i j m q=>by
 have:j=0:=by omega
 subst this
 simp [ints,jT,List.getD,m]
end
section
open Go.RowKit
attribute [local simp] aP
theorem Qy (x:De) (w:World):(Op.equalIn 10000 44 (.agg (gM x)) (.agg (gM x))).run prog w=.ok true w:=by
 have u:=underlying2
 have q:=Tryz.isAgg2
 have y:=Tryz.sizeOf2
 have r:=Tryz.isAgg41
 have z:=Tryz.sizeOf41
 have m:Tryz.prog.underlying 44=some (.struct (Tryz.prog.fieldsOf 44)):=by kernel_rfl
 rw [show (10000:Nat)=9998+1+1 from rfl,run_equalIn_agg w (9998+1) 44 _ _ m (by kernel_rfl)]
 simp only [Program.fieldsOf,underlying44]
 simp [gM,Op.eqFields,go_sem,Hm, *]
theorem Qz (x:Ha) (w:World):(Op.equalIn 10000 49 (.agg (aB x)) (.agg (aB x))).run prog w=.ok true w:=by
 rw [o9,yR]
attribute [local go_sem ↓] H8 aY Qy Qz
theorem xW (m:List De) (a F:Option Addr) (cap q:Nat) (w:World) (h:pG w w a m) (H:Seg w w F m.length 7 (p8 m)) (R:m.length≤maxLen) :
  Calls prog 74 #[.slice a m.length cap,.slice F m.length q] w fun r w'=>r=.returned (.bool true)∧Below w w w':=by
 unfold maxLen at R
 have K:=aA h
 have Qw:=aA H
 clear h H
 go_enter func74,ntmps74
 go_wp2
 go_loopw [5] (fun i wr=>∃ k:Nat,k≤m.length∧i=.int .i64 k∧Below w w wr) (fun i _=>m.length - (intOf i).toNat)
 case atStart=>exact ⟨0,Nat.zero_le _,rfl,Below.refl _ _⟩
 case round =>
  obtain ⟨k,T,rfl,z⟩:=hrel
  have hs:=z.size
  by_cases y:k<m.length
  ·obtain L|⟨b,o,rfl,M,I⟩:=K.out
   ·omega
   obtain L|⟨G,J,rfl,D,u⟩:=Qw.out
   ·omega
   have A:=H9 (w:=wr.drew) (b:=b) (o:=o+k*7) (m.getD k De.zero) (fun j E=>(z.cell (p:=⟨b,o+k*7+j,none⟩) M).trans (I k j y E))
   have PX:=H9 (w:=wr.drew) (b:=G) (o:=J+k*7) (m.getD k De.zero) (fun j E=>(z.cell (p:=⟨G,J+k*7+j,none⟩) D).trans (u k j y E))
   clear I u
   generalize m.getD k De.zero=x at A PX
   have N:(0:Int)≤(k:Int):=by omega
   have O:(k:Int)<(m.length:Int):=by omega
   go_wp2_with fail
   go_still_tail 8,(by kernel_rfl)
   go_wp2
   go_roundw
   case rel=>exact ⟨k+1,by omega,by go_num,by exact zB⟩
   case measure=>simp [intOf];omega
  ·have:k=m.length:=by omega
   subst this
   go_wp2
   go_ret
   exact ⟨rfl,z⟩
theorem xX (x:Wo) (a b d e U V Z X:Option Addr) (p q r s p' q' r' s':Nat) (w:World) (h:ic w w x a b d e) (M:ic w w x U V Z X) (m:jk x) :
  Calls prog 24 #[kZ x a b d e p q r s,.agg #[x.ch.cap,x.ch.sent,x.ch.got,x.ch.fin,.slice U x.ch.cells p',.slice V x.ch.words q',.slice Z x.hands r',.slice X x.deals s',x.now]] w fun r w'=>r=.returned (.bool true)∧Below w w w':=by
 obtain ⟨m1,m2,m3,m4⟩:=m
 have n1:x.ch.cells.length≤maxLen:=by unfold maxLen;omega
 have n2:x.ch.words.length≤maxLen:=by unfold maxLen;omega
 have n4:x.deals.length≤maxLen:=by unfold maxLen;omega
 have H1:=aA h.1
 have H2:=aA h.2.1
 have H3:=aA h.2.2.1
 have H4:=aA h.2.2.2
 have K1:=aA M.1
 have K2:=aA M.2.1
 have K3:=aA M.2.2.1
 have K4:=aA M.2.2.2
 clear h M
 go_enter func24,ntmps24
 go_wp2_with fail;refine aK w zB fun J=>?_;refine (Az x.ch a b U V p q p' q' _ (aT H1 J) (aT H2 J) (aT K1 J) (aT K2 J) n1 n2).mono ?_;rintro _ w1 ⟨rfl,F⟩;have a3:Below w w w1:=bT J F;have R:=F.size;(try simp at R);have L:=And.intro (hQ F (b:=w+1)) <| hQ F (b:=w);(try simp [go_sem] at L);(try clear u D E A);(try clear z I K H);obtain ⟨u,z⟩:=L;obtain ⟨D,E,A⟩:=bO u;obtain ⟨I,K,H⟩:=bO z;clear F J
 go_wp2_with fail;refine aK w zB fun J=>?_;refine (xW x.deals e X s s' _ (aT H4 J) (aT K4 J) n4).mono ?_;rintro _ w2 ⟨rfl,G⟩;have a4:Below w w w2:=bT J G;have T:=G.size;(try simp at T);have L:=And.intro (hQ G (b:=w+1)) <| hQ G (b:=w);(first|simp [go_sem,u,z,H,A] at L|simp [go_sem] at L|skip);(try clear u D E A);(try clear z I K H);obtain ⟨u,z⟩:=L;obtain ⟨D,E,A⟩:=bO u;obtain ⟨I,K,H⟩:=bO z;clear G J
 have a0:Below w w w2:=by exact zB
 go_wp2
 go_loopw [5] (fun i wr=>∃ k:Nat,k≤x.hands.length∧i=.int .i64 k∧hp wr w=some (.cells (iA x (.slice a x.ch.cells p) (.slice b x.ch.words q) (.slice d x.hands r) (.slice e x.deals s)) 35)∧hp wr (w+1)=some (.cells (iA x (.slice U x.ch.cells p') (.slice V x.ch.words q') (.slice Z x.hands r') (.slice X x.deals s')) 35)∧w+1<wr.heap.size∧Below w w wr) (fun i _=>x.hands.length - (intOf i).toNat)
 case atStart=>exact ⟨0,Nat.zero_le _,rfl,z,u,by omega,a0⟩
 case round =>
  clear I D K E z u H A
  obtain ⟨k,hk,rfl,z,u,lw,Y⟩:=hrel
  obtain ⟨I,K,H⟩:=bO z
  obtain ⟨D,E,A⟩:=bO u
  simp only [iA] at I D
  have hs:=Y.size
  by_cases O:k<x.hands.length
  ·obtain h0|⟨b3,o,rfl,hb,hc⟩:=H3.out
   ·omega
   obtain h0|⟨b4,o',rfl,a2,N⟩:=K3.out
   ·omega
   have a1:=jh (w:=wr.drew) (b:=b3) (o:=o+k*14) (x.hands.getD k Ha.zero) (fun j hj=>(Y.cell (p:=⟨b3,o+k*14+j,none⟩) hb).trans (hc k j O hj))
   have PX:=jh (w:=wr.drew) (b:=b4) (o:=o'+k*14) (x.hands.getD k Ha.zero) (fun j hj=>(Y.cell (p:=⟨b4,o'+k*14+j,none⟩) a2).trans (N k j O hj))
   clear hc N
   generalize x.hands.getD k Ha.zero=y at a1 PX
   have a5:(0:Int)≤(k:Int):=by omega
   have a6:(k:Int)<(x.hands.length:Int):=by omega
   go_wp2_with fail
   go_still_tail 10,(by kernel_rfl)
   go_wp2
   go_roundw
   case rel=>exact ⟨k+1,by omega,by go_num,z,u,lw,by exact zB⟩
   case measure=>simp [intOf];omega
  ·have:k=x.hands.length:=by omega
   subst this
   go_wp2
   go_ret
   exact ⟨rfl,Y⟩
end
end Go.Proofs.YtffhjmepfojhnaaGreat
