/-
  The program's taking of what is in a cell, on hands and channels that are kept whole; the lists are the call's own.
-/
import Derived.Test.YtffhjmepfojhnaaGreatT04
import Derived.Test.YtffhjmepfojhnaaGreatT17
import Derived.Test.YtffhjmepfojhnaaGreatT26
import Derived.BigRegion
import Derived.Deep.DeepCutAuto
import Derived.Test.YtffhjmepfojhnaaGreatT21
import Derived.Laws.EntriesVeiled
import Derived.Deep.RegionHeld3
set_option maxRecDepth 100000
set_option maxHeartbeats 2000000
set_option linter.unusedSimpArgs false
set_option linter.unusedVariables false
namespace Go.Proofs.YtffhjmepfojhnaaGreat
open _root_.Go.Proofs.Tryz
section
open Go.RowKit
attribute [local simp] dz
attribute [local go_sem ↓] dA fU dO gW dP gY dW fE bK eO
theorem xB (c:Ch) (h:Ha) (v1 v2:Value) (lo:Nat) (w:World) (h1:aF w lo v1 c.cells) (h2:aI w lo v2 c.words) (N:0≤h.cell) (O:h.cell<c.cells.length) (hc:aN c=true) (X:lo≤w.heap.size) (hx:h.come≤h.cell) (U:(h.seen == 0)=true∨((h.seen == 0)=false∧(h.seen == 1)=true)) :
  ed 263 c h v1 v2 lo w (GI c 4 (dL h 1) { h with pos:=10 }):=by
 rcases U with hs|⟨a0,hs⟩
 all_goals
  have R:=fun W a b hl=>Jy c 4 (dL h 1) { h with pos:=10 } v1 v2 lo W a b N O hc hl
  change ∀ W,_→_→_→Calls _ _ _ _ (fun r w'=>StepB W w' lo v1 v2 (GI c 4 (dL h 1) { h with pos:=10 }) r) at R;have hy:¬ h.cell<h.come:=tO;clear hc N O;generalize GI c 4 (dL h 1) { h with pos:=10 }=x at *
  obtain ⟨I,L,J,M,rfl,rfl,O1,O2,b1,b2⟩:=BJ h1 h2;clear h1 h2;have T:=aA R;clear R;have Y:=O1.out;have Z:=O2.out;go_enter func263,ntmps263;go_upto_region 8 with fail;refine lh [[],[],[1],[],[3],[0,1,2,3,4],[0,1,2,3,4,5],[0,1,2,3,4,5],[0,1,2,3,4,5],[0,1,2,3,4,5,6],[0,1,2,3,4,5,7],[0,1,2,3,4,5,8]] [23,24,25,26,27,28,29,30,31,6] (fun l s wx=>(ni (Value.slice I c.cells L).ownBlock (Value.slice J c.words M).ownBlock w wx)∧(w+1+1+1+1≤wx.heap.size)∧(hp wx w=some (.cells (aH c (.slice I c.cells L) (.slice J c.words M)) 31))∧(hp wx (w+1)=some (.cells (aB h) 49))∧(hp wx (w+1+1)=some (.cells (cond (l 9) (aH x.1 (s 1003) (s 1004)) (aH Ch.zero (.slice none 0 0) (.slice none 0 0))) 31))∧(hp wx (w+1+1+1)=some (.cells (cond (l 10) (aB x.2.1) (aB Ha.zero)) 49))∧(l 5=false→aF wx lo (.slice I c.cells L) c.cells)∧(l 5=false→aI wx lo (.slice J c.words M) c.words)∧(l 0=true→s 23=.agg (aH c (.slice I c.cells L) (.slice J c.words M)))∧(l 1=true→s 24=.agg (aB h))∧(l 2=true→s 25=.agg (aB (dL h 1)))∧(l 3=true→s 26=.agg (aB h))∧(l 4=true→s 27=.agg (aB ({ h with pos:=10 })))∧(l 5=true→s 28=.tuple #[.agg (aH x.1 (s 1003) (s 1004)),.agg (aB x.2.1),.bool x.2.2]∧aF wx lo (s 1003) x.1.cells∧aI wx lo (s 1004) x.1.words∧ic w (.slice I c.cells L) (s 1003)∧ic w (.slice J c.words M) (s 1004))∧(l 6=true→s 29=.agg (aH x.1 (s 1003) (s 1004)))∧(l 7=true→s 30=.agg (aB x.2.1))∧(l 8=true→s 31=.bool x.2.2)∧(l 11=true→s 6=.bool x.2.2)) (fun s=>⟨gy zB,by simp,by simp [go_sem, *],by simp [go_sem, *],by simp [go_sem, *],by simp [go_sem, *],fun _=>by exact zO Y Y,fun _=>by exact zO Z Z,nB,nB,nB,nB,nB,nB,nB,nB,nB,nB⟩) ?_ ?_
  refine ⟨?_,?_,?_,?_,?_,?_,?_,?_,?_,?_,?_,?_,trivial⟩;iterate 12 (intro l s wx hl hd H hf K hK;rotate_left)
  ·intro l s wx hall hf
   have hO:=hf.1;have z1:=hf.2.2.2.2.1;have z2:=(jC hf).2.1;rw [hall 9 rfl] at z1;rw [hall 10 rfl] at z2;dsimp only [cond] at z1 z2;obtain ⟨_,X1,X2,F1,F2⟩:=((jC (jD hf)).2.1 (hall 5 rfl));have ec:=((jE hf).2 (hall 11 rfl));exact KA
  ·have zc:=hf.out.2.2.1
   go_simp;refine hK.out (upd s 23 (.agg (aH c (.slice I c.cells L) (.slice J c.words M)))) _ _ gM (kD (kX (fun _=>rfl) id) hf.out)
  ·have zh:=hf.out.2.2.2.1
   go_simp;refine hK.out (upd s 24 (.agg (aB h))) _ _ gM (kD (kA (kX (fun _=>rfl) id)) hf.out)
  ·have e1:=((jD hf.out).2.1 (hd 1 rfl))
   go_simp
   go_at_call 264
   refine (pY h 1 _).mono ?_;rintro _ wy ⟨rfl,G⟩;refine hK.out (upd s 25 (.agg (aB (dL h 1)))) _ _ pQ (kX (kv hf.out.1 (gy G)) (kX (Nat.le_trans hf.out.2.1 (Below.size G)) (kX (iC hf.out.2.2.1 G) (kX (iC hf.out.2.2.2.1 G) (kX (iC hf.out.2.2.2.2.1 G) (kX (iC (jC hf.out).2.1 G) (kX (fun h9=>own_below ((jC hf.out).2.2.1 h9) G) (kX (fun h9=>own_below ((jC hf.out).2.2.2.1 h9) G) (kB (kX (fun _=>rfl) (kB (kX (nU (H 5 rfl)) (kX (nU (H 6 rfl)) (kX (nU (H 7 rfl)) (kX (nU (H 8 rfl)) (fun _=>nU (H 11 rfl)))))))))))))))) hf.out)
  ·have zh:=hf.out.2.2.2.1
   go_simp;refine hK.out (upd s 26 (.agg (aB h))) _ _ gM (kD (kB (kA (kX (fun _=>rfl) id))) hf.out)
  ·have e3:=((jD hf.out).2.2.2.1 (hd 3 rfl))
   go_simp
   go_at_call 247
   refine (fD h 10 _).mono ?_;rintro _ wy ⟨rfl,G⟩;refine hK.out (upd s 27 (.agg (aB ({ h with pos:=10 })))) _ _ yh (kX (kv hf.out.1 (gy G)) (kX (Nat.le_trans hf.out.2.1 (Below.size G)) (kX (iC hf.out.2.2.1 G) (kX (iC hf.out.2.2.2.1 G) (kX (iC hf.out.2.2.2.2.1 G) (kX (iC (jC hf.out).2.1 G) (kX (fun h9=>own_below ((jC hf.out).2.2.1 h9) G) (kX (fun h9=>own_below ((jC hf.out).2.2.2.1 h9) G) (kC (kX (fun _=>rfl) (kX (nU (H 5 rfl)) (kX (nU (H 6 rfl)) (kX (nU (H 7 rfl)) (kX (nU (H 8 rfl)) (fun _=>nU (H 11 rfl))))))))))))))) hf.out)
  ·have e0:=((jD hf.out).1 (hd 0 rfl))
   have e2:=((jD hf.out).2.2.1 (hd 2 rfl));have e4:=((jC (jD hf.out)).1 (hd 4 rfl));go_simp
   go_at_call 255
   refine (T.out _ ((jC hf.out).2.2.1 hl) ((jC hf.out).2.2.2.1 hl) (Nat.le_trans X hf.out.1.2.2.2.1)).mono ?_;rintro _ wy ⟨⟨y1,y2,rfl,X1,X2,F1,F2⟩,G⟩;have hO:=gy (a:=(Value.slice I c.cells L).ownBlock) (b:=(Value.slice J c.words M).ownBlock) G;refine hK.out (upd (upd (upd s 1003 (y1)) 1004 (y2)) 28 (.tuple #[.agg (aH x.1 y1 y2),.agg (aB x.2.1),.bool x.2.2])) _ _ (by simp [aX,e0,e2,e4] <;> rfl) (kX (kv hf.out.1 hO) (kX (Nat.le_trans hf.out.2.1 hO.2.2.2.1) (kX (kI hf.out.2.2.1 hO ((jC hf.out).2.2.1 hl) ((jC hf.out).2.2.2.1 hl) cB cB) (kX (kI hf.out.2.2.2.1 hO ((jC hf.out).2.2.1 hl) ((jC hf.out).2.2.2.1 hl) cB cB) (kX (by (have ee:l 9=false:=H 9 rfl);(have F:=hf.out.2.2.2.2.1);rw [ee] at F;rw [show upd l 5 true 9=false from ee];exact kI F hO ((jC hf.out).2.2.1 hl) ((jC hf.out).2.2.2.1 hl) cB cB) (kX (by (have ee:l 10=false:=H 10 rfl);(have F:=(jC hf.out).2.1);rw [ee] at F;rw [show upd l 5 true 10=false from ee];exact kI F hO ((jC hf.out).2.2.1 hl) ((jC hf.out).2.2.2.1 hl) cB cB) (kX (fun h9=>nU h9 (show upd l 5 true 5=true from rfl)) (kX (fun h9=>nU h9 (show upd l 5 true 5=true from rfl)) (kC (kA (kX (fun _=>⟨rfl,X1,X2,fun j V=>(F1 j V).imp id (fun h=>Nat.le_trans hf.out.1.2.2.2.1 h),fun j V=>(F2 j V).imp id (fun h=>Nat.le_trans hf.out.1.2.2.2.1 h)⟩) (kX (nU (H 6 rfl)) (kX (nU (H 7 rfl)) (kX (nU (H 8 rfl)) (fun _=>nU (H 11 rfl))))))))))))))) hf.out)
  ·have e5:=((jC (jD hf.out)).2.1 (hd 5 rfl)).1
   go_simp;refine hK.out (upd s 29 (.agg (aH x.1 (s 1003) (s 1004)))) _ _ mK (kD (kC (kB (kX (fun _=>rfl) id))) hf.out)
  ·have e5:=((jC (jD hf.out)).2.1 (hd 5 rfl)).1
   go_simp;refine hK.out (upd s 30 (.agg (aB x.2.1))) _ _ mK (kD (kC (kB (kA (kX (fun _=>rfl) id)))) hf.out)
  ·have e5:=((jC (jD hf.out)).2.1 (hd 5 rfl)).1
   go_simp;refine hK.out (upd s 31 (.bool x.2.2)) _ _ mK (kE (kX (fun _=>rfl) id) hf.out)
  ·have e6:=((jC (jD hf.out)).2.2.1 (hd 6 rfl))
   have e5:=((jC (jD hf.out)).2.1 (hd 5 rfl));exact UR
  ·have e7:=((jC (jD hf.out)).2.2.2.1 (hd 7 rfl))
   have e5:=((jC (jD hf.out)).2.1 (hd 5 rfl));exact UX
  ·have e8:=((jE hf.out).1 (hd 8 rfl))
   go_simp;refine hK.out (upd s 6 (.bool x.2.2)) _ _ wP (kE (kA (fun _=>fun _=>rfl)) hf.out)
theorem Hu (c:Ch) (h:Ha) (v1 v2:Value) (lo:Nat) (w:World) (h1:aF w lo v1 c.cells) (h2:aI w lo v2 c.words) (F:0≤h.cell) (G:h.cell<c.cells.length) (hc:aN c=true) (H:lo≤w.heap.size) (hs:(h.seen == 0)=true) (I:h.come≤h.cell) :
  Calls prog 263 #[.agg (aH c v1 v2),.agg (aB h)] w fun r w'=>eB w w' lo v1 v2 (GI c 4 (dL h 1) { h with pos:=10 }) r:=xB c h v1 v2 lo w h1 h2 F G hc H I (.inl hs)
theorem xC (c:Ch) (h:Ha) (v1 v2:Value) (lo:Nat) (w:World) (h1:aF w lo v1 c.cells) (h2:aI w lo v2 c.words) (L:0≤h.cell) (M:h.cell<c.cells.length) (hx:¬ h.come≤h.cell) (R:(h.seen == 0)=true∨((h.seen == 0)=false∧(h.seen == 1)=true)) :
  ed 263 c h v1 v2 lo w (zl c 8 0 (dL h 2) { h with pos:=10 }):=by
 rcases R with hs|⟨a0,hs⟩
 all_goals
  have N:=fun W a b=>rU c 8 0 (dL h 2) { h with pos:=10 } v1 v2 lo W a b L M
  change ∀ W,_→_→Calls _ _ _ _ (fun r w'=>eB W w' lo v1 v2 (zl c 8 0 (dL h 2) { h with pos:=10 }) r) at N;have hy:h.cell<h.come:=tO;clear L M;generalize zl c 8 0 (dL h 2) { h with pos:=10 }=x at *
  obtain ⟨G,I,H,J,rfl,rfl,X,Y,b1,b2⟩:=BJ h1 h2;clear h1 h2;have T:=aA N;clear N;have U:=X.out;have V:=Y.out;go_enter func263,ntmps263;go_upto_region 10 with fail;refine lh [[],[],[],[],[2,3],[],[5],[0,1,2,3,4,5,6],qB [],qB [],qB [],qB [8],qB [9],qB [10]] [32,33,34,35,36,37,38,39,40,41,42,6] (fun l s wx=>(ni (Value.slice G c.cells I).ownBlock (Value.slice H c.words J).ownBlock w wx)∧(w+1+1+1+1≤wx.heap.size)∧(hp wx w=some (.cells (aH c (.slice G c.cells I) (.slice H c.words J)) 31))∧(hp wx (w+1)=some (.cells (aB h) 49))∧(hp wx (w+1+1)=some (.cells (cond (l 11) (aH x.1 (s 1003) (s 1004)) (aH Ch.zero (.slice none 0 0) (.slice none 0 0))) 31))∧(hp wx (w+1+1+1)=some (.cells (cond (l 12) (aB x.2.1) (aB Ha.zero)) 49))∧(l 7=false→aF wx lo (.slice G c.cells I) c.cells)∧(l 7=false→aI wx lo (.slice H c.words J) c.words)∧(l 0=true→s 32=.agg (aH c (.slice G c.cells I) (.slice H c.words J)))∧(l 1=true→s 33=.int .i64 8)∧(l 2=true→s 34=.agg (aB h))∧(l 3=true→s 35=.int .i64 2)∧(l 4=true→s 36=.agg (aB (dL h 2)))∧(l 5=true→s 37=.agg (aB h))∧(l 6=true→s 38=.agg (aB ({ h with pos:=10 })))∧(l 7=true→s 39=.tuple #[.agg (aH x.1 (s 1003) (s 1004)),.agg (aB x.2.1),.bool x.2.2]∧aF wx lo (s 1003) x.1.cells∧aI wx lo (s 1004) x.1.words∧ic w (.slice G c.cells I) (s 1003)∧ic w (.slice H c.words J) (s 1004))∧(l 8=true→s 40=.agg (aH x.1 (s 1003) (s 1004)))∧(l 9=true→s 41=.agg (aB x.2.1))∧(l 10=true→s 42=.bool x.2.2)∧(l 13=true→s 6=.bool x.2.2)) (fun s=>⟨gy zB,by simp,by simp [go_sem, *],by simp [go_sem, *],by simp [go_sem, *],by simp [go_sem, *],fun _=>by exact zO U U,fun _=>by exact zO V V,nB,nB,nB,nB,nB,nB,nB,nB,nB,nB,nB,nB⟩) ?_ ?_
  refine ⟨?_,?_,?_,?_,?_,?_,?_,?_,?_,?_,?_,?_,?_,?_,trivial⟩;iterate 14 (intro l s wx hl hd hn hf K hK;rotate_left)
  ·intro l s wx hall hf
   have hO:=hf.1;have z1:=hf.2.2.2.2.1;have z2:=(jC hf).2.1;rw [hall 11 rfl] at z1;rw [hall 12 rfl] at z2;dsimp only [cond] at z1 z2;obtain ⟨_,X1,X2,F1,F2⟩:=((jC (jD hf)).2.2.2.1 (hall 7 rfl));have ec:=((jE hf).2.2.2 (hall 13 rfl));exact KA
  ·have zc:=hf.out.2.2.1
   go_simp;refine hK.out (upd s 32 (.agg (aH c (.slice G c.cells I) (.slice H c.words J)))) _ _ gM (kD (kX (fun _=>rfl) id) hf.out)
  ·go_simp
   refine hK.out (upd s 33 (.int .i64 8)) _ _ gM (kD (kA (kX (fun _=>rfl) id)) hf.out)
  ·have zh:=hf.out.2.2.2.1
   go_simp;refine hK.out (upd s 34 (.agg (aB h))) _ _ gM (kD (kB (kX (fun _=>rfl) id)) hf.out)
  ·go_simp
   refine hK.out (upd s 35 (.int .i64 2)) _ _ gM (kD (kB (kA (kX (fun _=>rfl) id))) hf.out)
  ·have Z:=((jD hf.out).2.2.1 (hd 2 rfl))
   have e3:=((jD hf.out).2.2.2.1 (hd 3 rfl));go_simp
   go_at_call 264
   refine (pY h 2 _).mono ?_;rintro _ wy ⟨rfl,hE⟩;refine hK.out (upd s 36 (.agg (aB (dL h 2)))) _ _ (by simp [aX,Z,e3] <;> rfl) (kX (kv hf.out.1 (gy hE)) (kX (Nat.le_trans hf.out.2.1 (Below.size hE)) (kX (iC hf.out.2.2.1 hE) (kX (iC hf.out.2.2.2.1 hE) (kX (iC hf.out.2.2.2.2.1 hE) (kX (iC (jC hf.out).2.1 hE) (kX (fun h9=>own_below ((jC hf.out).2.2.1 h9) hE) (kX (fun h9=>own_below ((jC hf.out).2.2.2.1 h9) hE) (kC (kX (fun _=>rfl) (kB (kX (nU (hn 7 rfl)) (kX (nU (hn 8 rfl)) (kX (nU (hn 9 rfl)) (kX (nU (hn 10 rfl)) (fun _=>nU (hn 13 rfl)))))))))))))))) hf.out)
  ·have zh:=hf.out.2.2.2.1
   go_simp;refine hK.out (upd s 37 (.agg (aB h))) _ _ gM (kD (kC (kA (kX (fun _=>rfl) id))) hf.out)
  ·have e5:=((jC (jD hf.out)).2.1 (hd 5 rfl))
   go_simp;exact Us
  ·have e0:=((jD hf.out).1 (hd 0 rfl))
   have e1:=((jD hf.out).2.1 (hd 1 rfl));exact Ud
  ·have e7:=((jC (jD hf.out)).2.2.2.1 (hd 7 rfl)).1
   go_simp;refine hK.out (upd s 40 (.agg (aH x.1 (s 1003) (s 1004)))) _ _ wQ (kE (kX (fun _=>rfl) id) hf.out)
  ·have e7:=((jC (jD hf.out)).2.2.2.1 (hd 7 rfl)).1
   go_simp;refine hK.out (upd s 41 (.agg (aB x.2.1))) _ _ wQ (kE (kA (kX (fun _=>rfl) id)) hf.out)
  ·have e7:=((jC (jD hf.out)).2.2.2.1 (hd 7 rfl)).1
   go_simp;refine hK.out (upd s 42 (.bool x.2.2)) _ _ wQ (kE (kB (kX (fun _=>rfl) id)) hf.out)
  ·have e8:=((jE hf.out).1 (hd 8 rfl))
   have e7:=((jC (jD hf.out)).2.2.2.1 (hd 7 rfl));exact Um
  ·have e9:=((jE hf.out).2.1 (hd 9 rfl))
   have e7:=((jC (jD hf.out)).2.2.2.1 (hd 7 rfl));exact Un
  ·have O:=((jE hf.out).2.2.1 (hd 10 rfl))
   go_simp;refine hK.out (upd s 6 (.bool x.2.2)) _ _ yl (kE (kB (kA (fun _=>fun _=>rfl))) hf.out)
theorem Hw (c:Ch) (h:Ha) (v1 v2:Value) (lo:Nat) (w:World) (h1:aF w lo v1 c.cells) (h2:aI w lo v2 c.words) (F:0≤h.cell) (G:h.cell<c.cells.length) (hs:(h.seen == 0)=true) (H:¬ h.come≤h.cell) :
  Calls prog 263 #[.agg (aH c v1 v2),.agg (aB h)] w fun r w'=>eB w w' lo v1 v2 (zl c 8 0 (dL h 2) { h with pos:=10 }) r:=xC c h v1 v2 lo w h1 h2 F G H (.inl hs)
theorem Hy (c:Ch) (h:Ha) (v1 v2:Value) (lo:Nat) (w:World) (h1:aF w lo v1 c.cells) (h2:aI w lo v2 c.words) (F:0≤h.cell) (G:h.cell<c.cells.length) (hc:aN c=true) (H:lo≤w.heap.size) (I:(h.seen == 0)=false) (hs:(h.seen == 1)=true) (J:h.come≤h.cell) :
  Calls prog 263 #[.agg (aH c v1 v2),.agg (aB h)] w fun r w'=>eB w w' lo v1 v2 (GI c 4 (dL h 1) { h with pos:=10 }) r:=xB c h v1 v2 lo w h1 h2 F G hc H J (.inr ⟨I,hs⟩)
theorem Hz (c:Ch) (h:Ha) (v1 v2:Value) (lo:Nat) (w:World) (h1:aF w lo v1 c.cells) (h2:aI w lo v2 c.words) (F:0≤h.cell) (G:h.cell<c.cells.length) (H:(h.seen == 0)=false) (hs:(h.seen == 1)=true) (I:¬ h.come≤h.cell) :
  Calls prog 263 #[.agg (aH c v1 v2),.agg (aB h)] w fun r w'=>eB w w' lo v1 v2 (zl c 8 0 (dL h 2) { h with pos:=10 }) r:=xC c h v1 v2 lo w h1 h2 F G I (.inr ⟨H,hs⟩)
theorem JY (c:Ch) (h:Ha) (v1 v2:Value) (lo:Nat) (w:World) (h1:aF w lo v1 c.cells) (h2:aI w lo v2 c.words) (L:0≤h.cell) (M:h.cell<c.cells.length) (a0:(h.seen == 0)=false) (a3:(h.seen == 1)=false) (hs:(h.seen == 2)=true) :
  ed 263 c h v1 v2 lo w (zl c 7 0 (dL h 0) { h with pos:=10 }):=by
 have N:=fun W a b=>rU c 7 0 (dL h 0) { h with pos:=10 } v1 v2 lo W a b L M
 change ∀ W,_→_→Calls _ _ _ _ (fun r w'=>eB W w' lo v1 v2 (zl c 7 0 (dL h 0) { h with pos:=10 }) r) at N;clear L M;generalize zl c 7 0 (dL h 0) { h with pos:=10 }=x at *
 obtain ⟨G,I,H,J,rfl,rfl,V,X,b1,b2⟩:=BJ h1 h2;clear h1 h2;have T:=aA N;clear N;have R:=V.out;have U:=X.out;go_enter func263,ntmps263;go_upto_region 10 with fail;refine lh [[],[],[],[],[2,3],[],[5],[0,1,2,3,4,5,6],qB [],qB [],qB [],qB [8],qB [9],qB [10]] [32,33,34,35,36,37,38,39,40,41,42,6] (fun l s wx=>(ni (Value.slice G c.cells I).ownBlock (Value.slice H c.words J).ownBlock w wx)∧(w+1+1+1+1≤wx.heap.size)∧(hp wx w=some (.cells (aH c (.slice G c.cells I) (.slice H c.words J)) 31))∧(hp wx (w+1)=some (.cells (aB h) 49))∧(hp wx (w+1+1)=some (.cells (cond (l 11) (aH x.1 (s 1003) (s 1004)) (aH Ch.zero (.slice none 0 0) (.slice none 0 0))) 31))∧(hp wx (w+1+1+1)=some (.cells (cond (l 12) (aB x.2.1) (aB Ha.zero)) 49))∧(l 7=false→aF wx lo (.slice G c.cells I) c.cells)∧(l 7=false→aI wx lo (.slice H c.words J) c.words)∧(l 0=true→s 32=.agg (aH c (.slice G c.cells I) (.slice H c.words J)))∧(l 1=true→s 33=.int .i64 7)∧(l 2=true→s 34=.agg (aB h))∧(l 3=true→s 35=.int .i64 0)∧(l 4=true→s 36=.agg (aB (dL h 0)))∧(l 5=true→s 37=.agg (aB h))∧(l 6=true→s 38=.agg (aB ({ h with pos:=10 })))∧(l 7=true→s 39=.tuple #[.agg (aH x.1 (s 1003) (s 1004)),.agg (aB x.2.1),.bool x.2.2]∧aF wx lo (s 1003) x.1.cells∧aI wx lo (s 1004) x.1.words∧ic w (.slice G c.cells I) (s 1003)∧ic w (.slice H c.words J) (s 1004))∧(l 8=true→s 40=.agg (aH x.1 (s 1003) (s 1004)))∧(l 9=true→s 41=.agg (aB x.2.1))∧(l 10=true→s 42=.bool x.2.2)∧(l 13=true→s 6=.bool x.2.2)) (fun s=>⟨gy zB,by simp,by simp [go_sem, *],by simp [go_sem, *],by simp [go_sem, *],by simp [go_sem, *],fun _=>by exact zO R R,fun _=>by exact zO U U,nB,nB,nB,nB,nB,nB,nB,nB,nB,nB,nB,nB⟩) ?_ ?_
 refine ⟨?_,?_,?_,?_,?_,?_,?_,?_,?_,?_,?_,?_,?_,?_,trivial⟩;iterate 14 (intro l s wx hl hd hn hf K hK;rotate_left)
 ·intro l s wx hall hf
  have hO:=hf.1;have z1:=hf.2.2.2.2.1;have z2:=(jC hf).2.1;rw [hall 11 rfl] at z1;rw [hall 12 rfl] at z2;dsimp only [cond] at z1 z2;obtain ⟨_,X1,X2,F1,F2⟩:=((jC (jD hf)).2.2.2.1 (hall 7 rfl));have ec:=((jE hf).2.2.2 (hall 13 rfl));exact KA
 ·have zc:=hf.out.2.2.1
  go_simp;refine hK.out (upd s 32 (.agg (aH c (.slice G c.cells I) (.slice H c.words J)))) _ _ gM (kD (kX (fun _=>rfl) id) hf.out)
 ·go_simp
  refine hK.out (upd s 33 (.int .i64 7)) _ _ gM (kD (kA (kX (fun _=>rfl) id)) hf.out)
 ·have zh:=hf.out.2.2.2.1
  go_simp;refine hK.out (upd s 34 (.agg (aB h))) _ _ gM (kD (kB (kX (fun _=>rfl) id)) hf.out)
 ·go_simp
  refine hK.out (upd s 35 (.int .i64 0)) _ _ gM (kD (kB (kA (kX (fun _=>rfl) id))) hf.out)
 ·have Y:=((jD hf.out).2.2.1 (hd 2 rfl))
  have Z:=((jD hf.out).2.2.2.1 (hd 3 rfl));go_simp
  go_at_call 264
  refine (pY h 0 _).mono ?_;rintro _ wy ⟨rfl,hE⟩;refine hK.out (upd s 36 (.agg (aB (dL h 0)))) _ _ (by simp [aX,Y,Z] <;> rfl) (kX (kv hf.out.1 (gy hE)) (kX (Nat.le_trans hf.out.2.1 (Below.size hE)) (kX (iC hf.out.2.2.1 hE) (kX (iC hf.out.2.2.2.1 hE) (kX (iC hf.out.2.2.2.2.1 hE) (kX (iC (jC hf.out).2.1 hE) (kX (fun h9=>own_below ((jC hf.out).2.2.1 h9) hE) (kX (fun h9=>own_below ((jC hf.out).2.2.2.1 h9) hE) (kC (kX (fun _=>rfl) (kB (kX (nU (hn 7 rfl)) (kX (nU (hn 8 rfl)) (kX (nU (hn 9 rfl)) (kX (nU (hn 10 rfl)) (fun _=>nU (hn 13 rfl)))))))))))))))) hf.out)
 ·have zh:=hf.out.2.2.2.1
  go_simp;refine hK.out (upd s 37 (.agg (aB h))) _ _ gM (kD (kC (kA (kX (fun _=>rfl) id))) hf.out)
 ·have e5:=((jC (jD hf.out)).2.1 (hd 5 rfl))
  go_simp;exact Us
 ·have e0:=((jD hf.out).1 (hd 0 rfl))
  have e1:=((jD hf.out).2.1 (hd 1 rfl));exact Ud
 ·have e7:=((jC (jD hf.out)).2.2.2.1 (hd 7 rfl)).1
  go_simp;refine hK.out (upd s 40 (.agg (aH x.1 (s 1003) (s 1004)))) _ _ wQ (kE (kX (fun _=>rfl) id) hf.out)
 ·have e7:=((jC (jD hf.out)).2.2.2.1 (hd 7 rfl)).1
  go_simp;refine hK.out (upd s 41 (.agg (aB x.2.1))) _ _ wQ (kE (kA (kX (fun _=>rfl) id)) hf.out)
 ·have e7:=((jC (jD hf.out)).2.2.2.1 (hd 7 rfl)).1
  go_simp;refine hK.out (upd s 42 (.bool x.2.2)) _ _ wQ (kE (kB (kX (fun _=>rfl) id)) hf.out)
 ·have e8:=((jE hf.out).1 (hd 8 rfl))
  have e7:=((jC (jD hf.out)).2.2.2.1 (hd 7 rfl));exact Um
 ·have e9:=((jE hf.out).2.1 (hd 9 rfl))
  have e7:=((jC (jD hf.out)).2.2.2.1 (hd 7 rfl));exact Un
 ·have O:=((jE hf.out).2.2.1 (hd 10 rfl))
  go_simp;refine hK.out (upd s 6 (.bool x.2.2)) _ _ yl (kE (kB (kA (fun _=>fun _=>rfl))) hf.out)
theorem JZ (c:Ch) (h:Ha) (v1 v2:Value) (lo:Nat) (w:World) (h1:aF w lo v1 c.cells) (h2:aI w lo v2 c.words) (a1:0≤h.cell) (a3:h.cell<c.cells.length) (ah:(h.seen == 0)=false) (ai:(h.seen == 1)=false) (aj:(h.seen == 2)=false) (hs:(h.seen == 3)=true) :
  ed 263 c h v1 v2 lo w (zl c 5 (cellAt c h.cell).t { h with pos:=13 } { h with pos:=10 }):=by
 have T0:=fun W a b=>rU c 5 (cellAt c h.cell).t { h with pos:=13 } { h with pos:=10 } v1 v2 lo W a b a1 a3
 change ∀ W,_→_→Calls _ _ _ _ (fun r w'=>eB W w' lo v1 v2 (zl c 5 (cellAt c h.cell).t { h with pos:=13 } { h with pos:=10 }) r) at T0;generalize ab:zl c 5 (cellAt c h.cell).t { h with pos:=13 } { h with pos:=10 }=x at *
 obtain ⟨i,Y⟩:∃ i:Nat,h.cell=(i:Int):=⟨h.cell.toNat,by omega⟩;have hi:i<c.cells.length:=tO;have ae:(0:Int)≤(i:Int):=tO;have af:(i:Int)<(c.cells.length:Int):=tO;have ag:=h1.ne h2;obtain ⟨Z,q2,rfl,_⟩:=h2.seg;obtain ⟨g,V,rfl,ac,aa,M,ad⟩:=h1.open1 hi;have O1:=aA h1;have O2:=aA h2;have ak:g<w.heap.size+1:=tO;have al:g<w.heap.size+1+1:=tO;have am:g<w.heap.size+1+1+1:=tO;have ar:g≠w.heap.size:=tO;have au:g≠w.heap.size+1:=tO
 have av:g≠w.heap.size+1+1:=tO;have aw:g≠w.heap.size+1+1+1:=tO;have an:w.heap.size≠g:=tO;have ao:w.heap.size+1≠g:=tO;have ap:w.heap.size+1+1≠g:=tO;have aq:w.heap.size+1+1+1≠g:=tO;have hx:Hid (cellAt c h.cell=c.cells.getD i ⟨0,0,0⟩):=by simp [cellAt,Hid,Y]
 have c0:=M 0 tO;have c1:=M 1 tO;have c2:=M 2 tO;simp only [C3.val,Nat.add_zero] at c0 c1 c2;have ex:=hx.out;rw [ex] at T0;clear ab hx ex M h1 h2;generalize c.cells.getD i ⟨0,0,0⟩=x0 at *;obtain ⟨ss,e,t⟩:=x0;simp only at T0 c0 c1 c2;have T:=aA T0;clear T0;have o1:=O1.out;have o2:=O2.out;have a4:=aA Y;clear Y a1 a3;go_enter func263,ntmps263;go_upto_region 11 with fail
 refine lh [[],[],[1],[],[3],[1,2,3,4],[1,2,3,4,5],[1,2,3,4,5,6],[],[8],[],[10],qB [8,9,10,11],qB [8,9,10,11,12],qB [8,9,10,11,12],qB [8,9,10,11,12],qB [8,9,10,11,12,13],qB [8,9,10,11,12,14],qB [8,9,10,11,12,15]] [43,44,45,46,47,48,49,50,51,52,53,54,55,56,57,58,6] (fun l s O=>(ni (Value.slice (some ⟨g,0,none⟩) c.cells V).ownBlock (Value.slice Z c.words q2).ownBlock w O)∧(w+1+1+1+1≤O.heap.size)∧(hp O w=some (.cells (aH c (.slice (some ⟨g,0,none⟩) c.cells V) (.slice Z c.words q2)) 31))∧(hp O (w+1)=some (.cells (aB h) 49))∧(hp O (w+1+1)=some (.cells (cond (l 16) (aH x.1 (s 1003) (s 1004)) (aH Ch.zero (.slice none 0 0) (.slice none 0 0))) 31))∧(hp O (w+1+1+1)=some (.cells (cond (l 17) (aB x.2.1) (aB Ha.zero)) 49))∧(l 12=false→aF O lo (.slice (some ⟨g,0,none⟩) c.cells V) c.cells)∧(l 12=false→aI O lo (.slice Z c.words q2) c.words)∧(l 12=false→Below w w O)∧(l 0=true→s 43=.agg (aH c (.slice (some ⟨g,0,none⟩) c.cells V) (.slice Z c.words q2)))∧(l 1=true→s 44=.pointer (some ⟨w,4,none⟩))∧(l 2=true→s 45=.slice (some ⟨g,0,none⟩) c.cells V)∧(l 3=true→s 46=.pointer (some ⟨w+1,3,none⟩))∧(l 4=true→s 47=.int .i64 i)∧(l 5=true→s 48=.pointer (some ⟨g,i*3,none⟩))∧(l 6=true→s 49=.pointer (some ⟨g,i*3+2,none⟩))∧(l 7=true→s 50=.int .i64 t)∧(l 8=true→s 51=.agg (aB h))∧(l 9=true→s 52=.agg (aB ({ h with pos:=13 })))∧(l 10=true→s 53=.agg (aB h))∧(l 11=true→s 54=.agg (aB ({ h with pos:=10 })))∧(l 12=true→s 55=.tuple #[.agg (aH x.1 (s 1003) (s 1004)),.agg (aB x.2.1),.bool x.2.2]∧aF O lo (s 1003) x.1.cells∧aI O lo (s 1004) x.1.words∧ic w (.slice (some ⟨g,0,none⟩) c.cells V) (s 1003)∧ic w (.slice Z c.words q2) (s 1004))∧(l 13=true→s 56=.agg (aH x.1 (s 1003) (s 1004)))∧(l 14=true→s 57=.agg (aB x.2.1))∧(l 15=true→s 58=.bool x.2.2)∧(l 18=true→s 6=.bool x.2.2)) (fun s=>⟨gy zB,by simp,by simp [go_sem, *],by simp [go_sem, *],by simp [go_sem, *],by simp [go_sem, *],fun _=>by exact zO o1 o1,fun _=>by exact zO o2 o2,fun _=>zB,nB,nB,nB,nB,nB,nB,nB,nB,nB,nB,nB,nB,nB,nB,nB,nB,nB⟩) ?_ ?_
 refine ⟨?_,?_,?_,?_,?_,?_,?_,?_,?_,?_,?_,?_,?_,?_,?_,?_,?_,?_,?_,trivial⟩;iterate 19 (intro l s O R I N hf K L;rotate_left)
 ·intro l s O hall hf
  have hO:=hf.1;have z1:=hf.2.2.2.2.1;have z2:=(jC hf).2.1;rw [hall 16 rfl] at z1;rw [hall 17 rfl] at z2;dsimp only [cond] at z1 z2;obtain ⟨_,X1,X2,F1,F2⟩:=((jC (jE hf)).2.1 (hall 12 rfl));have ec:=((jD (jE hf)).2 (hall 18 rfl));exact KA
 ·have zc:=hf.out.2.2.1
  go_simp;refine L.out (upd s 43 (.agg (aH c (.slice (some ⟨g,0,none⟩) c.cells V) (.slice Z c.words q2)))) _ _ gM (kD (kA (kX (fun _=>rfl) id)) hf.out)
 ·go_simp
  refine L.out (upd s 44 (.pointer (some ⟨w,4,none⟩))) _ _ gM (kD (kB (kX (fun _=>rfl) id)) hf.out)
 ·have e1:=((jD hf.out).2.2.1 (I 1 rfl))
  have zc:=hf.out.2.2.1;have q:=(bO zc).1 4;go_simp;refine L.out (upd s 45 (.slice (some ⟨g,0,none⟩) c.cells V)) _ _ pQ (kD (kB (kA (kX (fun _=>rfl) id))) hf.out)
 ·go_simp
  refine L.out (upd s 46 (.pointer (some ⟨w+1,3,none⟩))) _ _ gM (kD (kC (kX (fun _=>rfl) id)) hf.out)
 ·have e3:=((jC (jD hf.out)).1 (I 3 rfl))
  have zh:=hf.out.2.2.2.1;have q:O.cell? ⟨w+1,3,none⟩=some (.int .i64 i):=by rw [← a4.out];exact (bO zh).1 3
  go_simp;refine L.out (upd s 47 (.int .i64 i)) _ _ yh (kD (kC (kA (kX (fun _=>rfl) id))) hf.out)
 ·have e2:=((jD hf.out).2.2.2.1 (I 2 rfl))
  have e4:=((jC (jD hf.out)).2.1 (I 4 rfl));go_simp;refine L.out (upd s 48 (.pointer (some ⟨g,i*3,none⟩))) _ _ (by simp [aX,e2,e4] <;> rfl) (kD (kC (kB (kX (fun _=>rfl) id))) hf.out)
 ·have e5:=((jC (jD hf.out)).2.2.1 (I 5 rfl))
  go_simp;refine L.out (upd s 49 (.pointer (some ⟨g,i*3+2,none⟩))) _ _ mK (kD (kC (kB (kA (kX (fun _=>rfl) id)))) hf.out)
 ·have e6:=((jC (jD hf.out)).2.2.2.1 (I 6 rfl))
  have a9:=(jD hf.out).1 (N 12 rfl);have y0:=(a9.cell (p:=⟨g,i*3+2,none⟩) aa).trans c2;go_simp;refine L.out (upd s 50 (.int .i64 t)) _ _ (by simp [aX,e6] <;> rfl) (kE (kX (fun _=>rfl) id) hf.out)
 ·have zh:=hf.out.2.2.2.1
  go_simp;refine L.out (upd s 51 (.agg (aB h))) _ _ gM (kE (kA (kX (fun _=>rfl) id)) hf.out)
 ·have e8:=((jE hf.out).2.1 (I 8 rfl))
  go_simp
  go_at_call 247
  refine (fD h 13 _).mono ?_;rintro _ wy ⟨rfl,J⟩;refine L.out (upd s 52 (.agg (aB ({ h with pos:=13 })))) _ _ wP (kX (kv hf.out.1 (gy J)) (kX (Nat.le_trans hf.out.2.1 (Below.size J)) (kX (iC hf.out.2.2.1 J) (kX (iC hf.out.2.2.2.1 J) (kX (iC hf.out.2.2.2.2.1 J) (kX (iC (jC hf.out).2.1 J) (kX (fun G=>own_below ((jC hf.out).2.2.1 G) J) (kX (fun G=>own_below ((jC hf.out).2.2.2.1 G) J) (kX (fun G=>bT ((jD hf.out).1 G) J) (kD (kA (kX (fun _=>rfl) (kB (kX (nU (N 12 rfl)) (kX (nU (N 13 rfl)) (kX (nU (N 14 rfl)) (kX (nU (N 15 rfl)) (fun _=>nU (N 18 rfl)))))))))))))))))) hf.out)
 ·have zh:=hf.out.2.2.2.1
  go_simp;refine L.out (upd s 53 (.agg (aB h))) _ _ gM (kE (kB (kA (kX (fun _=>rfl) id))) hf.out)
 ·have a5:=((jE hf.out).2.2.2.1 (I 10 rfl))
  go_simp
  go_at_call 247
  refine (fD h 10 _).mono ?_;rintro _ wy ⟨rfl,J⟩;refine L.out (upd s 54 (.agg (aB ({ h with pos:=10 })))) _ _ (by simp [aX,a5] <;> rfl) (kX (kv hf.out.1 (gy J)) (kX (Nat.le_trans hf.out.2.1 (Below.size J)) (kX (iC hf.out.2.2.1 J) (kX (iC hf.out.2.2.2.1 J) (kX (iC hf.out.2.2.2.2.1 J) (kX (iC (jC hf.out).2.1 J) (kX (fun G=>own_below ((jC hf.out).2.2.1 G) J) (kX (fun G=>own_below ((jC hf.out).2.2.2.1 G) J) (kX (fun G=>bT ((jD hf.out).1 G) J) (kD (kB (kA (kX (fun _=>rfl) (kX (nU (N 12 rfl)) (kX (nU (N 13 rfl)) (kX (nU (N 14 rfl)) (kX (nU (N 15 rfl)) (fun _=>nU (N 18 rfl)))))))))))))))))) hf.out)
 ·have e0:=((jD hf.out).2.1 (I 0 rfl))
  have e7:=((jE hf.out).1 (I 7 rfl));have e9:=((jE hf.out).2.2.1 (I 9 rfl));have a6:=((jC (jE hf.out)).1 (I 11 rfl));go_simp
  go_at_call 265
  refine (T.out _ ((jC hf.out).2.2.1 R) ((jC hf.out).2.2.2.1 R)).mono ?_;rintro _ wy ⟨⟨y1,y2,rfl,X1,X2,F1,F2⟩,hO⟩;refine L.out (upd (upd (upd s 1003 (y1)) 1004 (y2)) 55 (.tuple #[.agg (aH x.1 y1 y2),.agg (aB x.2.1),.bool x.2.2])) _ _ (by simp [aX,e0,e7,e9,a6] <;> rfl) (kX (kv hf.out.1 hO) (kX (Nat.le_trans hf.out.2.1 hO.2.2.2.1) (kX (kI hf.out.2.2.1 hO ((jC hf.out).2.2.1 R) ((jC hf.out).2.2.2.1 R) cB cB) (kX (kI hf.out.2.2.2.1 hO ((jC hf.out).2.2.1 R) ((jC hf.out).2.2.2.1 R) cB cB) (kX (by (have ee:l 16=false:=N 16 rfl);(have F:=hf.out.2.2.2.2.1);rw [ee] at F;rw [show upd l 12 true 16=false from ee];exact kI F hO ((jC hf.out).2.2.1 R) ((jC hf.out).2.2.2.1 R) cB cB) (kX (by (have ee:l 17=false:=N 17 rfl);(have F:=(jC hf.out).2.1);rw [ee] at F;rw [show upd l 12 true 17=false from ee];exact kI F hO ((jC hf.out).2.2.1 R) ((jC hf.out).2.2.2.1 R) cB cB) (kX (fun G=>nU G (show upd l 12 true 12=true from rfl)) (kX (fun G=>nU G (show upd l 12 true 12=true from rfl)) (kX (fun G=>nU G (show upd l 12 true 12=true from rfl)) (kD (kC (kX (fun _=>⟨rfl,X1,X2,fun j hj=>(F1 j hj).imp id (fun h=>Nat.le_trans hf.out.1.2.2.2.1 h),fun j hj=>(F2 j hj).imp id (fun h=>Nat.le_trans hf.out.1.2.2.2.1 h)⟩) (kX (nU (N 13 rfl)) (kX (nU (N 14 rfl)) (kX (nU (N 15 rfl)) (fun _=>nU (N 18 rfl)))))))))))))))) hf.out)
 ·have H:=((jC (jE hf.out)).2.1 (I 12 rfl)).1
  go_simp;refine L.out (upd s 56 (.agg (aH x.1 (s 1003) (s 1004)))) _ _ kV (kE (kC (kB (kX (fun _=>rfl) id))) hf.out)
 ·have H:=((jC (jE hf.out)).2.1 (I 12 rfl)).1
  go_simp;refine L.out (upd s 57 (.agg (aB x.2.1))) _ _ kV (kE (kC (kB (kA (kX (fun _=>rfl) id)))) hf.out)
 ·have H:=((jC (jE hf.out)).2.1 (I 12 rfl)).1
  go_simp;refine L.out (upd s 58 (.bool x.2.2)) _ _ kV (kE (kD (kX (fun _=>rfl) id)) hf.out)
 ·have a0:=((jC (jE hf.out)).2.2.1 (I 13 rfl))
  have H:=((jC (jE hf.out)).2.1 (I 12 rfl));have X1:=H.2.1;have X2:=H.2.2.1;clear H;have U:=hf.out.2.2.2.2.1;rw [R] at U;dsimp only [cond] at U;obtain ⟨xa,xp,ea,_⟩:=X1.seg;obtain ⟨xb,xq,X,_⟩:=X2.seg;rw [ea,X] at a0;have zn:hp (dX O (w+1+1) (aH x.1 (.slice xa x.1.cells xp) (.slice xb x.1.words xq))) (w+1+1)=some (.cells (aH x.1 (s 1003) (s 1004)) 31):=by rw [ea,X];exact o7 U
  have hO:=hf.out.1;go_simp;refine L.out (s) _ _ (by simp [aX,a0,ea,X] <;> rfl) (kX (oX hO tO) (kX (Nat.le_trans hf.out.2.1 (Nat.le_of_eq dz.symm)) (kX ((dR tO).trans hf.out.2.2.1) (kX ((dR tO).trans hf.out.2.2.2.1) (kX (zn) (kX ((dR tO).trans (jC hf.out).2.1) (kX (fun G=>nU G (show upd l 16 true 12=true from I 12 rfl)) (kX (fun G=>nU G (show upd l 16 true 12=true from I 12 rfl)) (kX (fun G=>nU G (show upd l 16 true 12=true from I 12 rfl)) (kD (kC (kX (fun h=>(let ⟨e,X1,X2,F1,F2⟩:=(jC (jE hf.out)).2.1 h;⟨e,iD X1 U cB,iD X2 U cB,F1,F2⟩)) id))))))))))) hf.out)
 ·have a7:=((jC (jE hf.out)).2.2.2.1 (I 14 rfl))
  have H:=((jC (jE hf.out)).2.1 (I 12 rfl));have X1:=H.2.1;have X2:=H.2.2.1;clear H;have U:=(jC hf.out).2.1;rw [R] at U;dsimp only [cond] at U;have zn:hp (dX O (w+1+1+1) (aB x.2.1)) (w+1+1+1)=some (.cells (aB x.2.1) 49):=by exact o7 U
  have hO:=hf.out.1;go_simp;refine L.out (s) _ _ (by simp [aX,a7] <;> rfl) (kX (oX hO tO) (kX (Nat.le_trans hf.out.2.1 (Nat.le_of_eq dz.symm)) (kX ((dR tO).trans hf.out.2.2.1) (kX ((dR tO).trans hf.out.2.2.2.1) (kX ((dR tO).trans hf.out.2.2.2.2.1) (kX (zn) (kX (fun G=>nU G (show upd l 17 true 12=true from I 12 rfl)) (kX (fun G=>nU G (show upd l 17 true 12=true from I 12 rfl)) (kX (fun G=>nU G (show upd l 17 true 12=true from I 12 rfl)) (kD (kC (kX (fun h=>(let ⟨e,X1,X2,F1,F2⟩:=(jC (jE hf.out)).2.1 h;⟨e,iD X1 U cB,iD X2 U cB,F1,F2⟩)) id))))))))))) hf.out)
 ·have a8:=((jD (jE hf.out)).1 (I 15 rfl))
  go_simp;refine L.out (upd s 6 (.bool x.2.2)) _ _ (by simp [aX,a8] <;> rfl) (kE (kD (kA (fun _=>fun _=>rfl))) hf.out)
theorem H5 (c:Ch) (h:Ha) (v1 v2:Value) (lo:Nat) (w:World) (h1:aF w lo v1 c.cells) (h2:aI w lo v2 c.words) (a0:(h.seen == 0)=false) (a3:(h.seen == 1)=false) (a4:(h.seen == 2)=false) (a5:(h.seen == 3)=false) :
  ed 263 c h v1 v2 lo w (nothing):=by
 have T:=aA fun W=>jJ W lo v1 v2
 generalize nothing=x at *;obtain ⟨U,q1,V,q2,rfl,rfl,o1,o2,X,Y,m1,m2,a6,aa,a7,ab,a8,ac,a9,ad⟩:=Uu h1 h2;clear h1 h2;go_enter func263,ntmps263;go_wp2_with fail;refine (T.out _).mono ?_;rintro _ w3 ⟨⟨y1,y2,rfl,I,J,L,M⟩,F⟩;have Z:ni (Value.slice U c.cells q1).ownBlock (Value.slice V c.words q2).ownBlock w w3:=kv (gy zB) (gy F);have K:=F.size;(try simp at K);have R:=NS F (b:=w);(try simp [go_sem] at R);replace bX:=fP R;clear R F
 obtain ⟨⟨G,H⟩,N,O⟩:=sO (w:=w) (w+1+1+1+1) L M X Y;obtain ⟨ya,yp,rfl,_⟩:=I.seg;obtain ⟨yb,yq,rfl,_⟩:=J.seg;go_wp2;refine rE results263 rfl (bN x.1 (.slice ya x.1.cells yp) (.slice yb x.1.words yq) tY) rfl (aQ x.2.1 tY) ⟨⟨_,_,rfl,?_,?_,N,O⟩,zN⟩
 ·exact zP I I G
 ·exact zP J J H
def H6 (c:Ch) (h:Ha):St:=if c.got=40 then (c,aM 4 0,true) else ({ c with got:=c.got+1 },{ h with cell:=c.got,pos:=10 },true)
theorem Bt (c:Ch) (h:Ha) (v1 v2:Value) (lo:Nat) (w:World) (h1:aF w lo v1 c.cells) (h2:aI w lo v2 c.words) (F:0≤c.got∧c.got≤40) :
  ed 261 c h v1 v2 lo w (H6 c h):=by
 unfold H6;split
 ·exact DW c h v1 v2 lo w h1 h2 ‹_›
 ·exact DX c h v1 v2 lo w h1 h2 ‹_› F
def mJ (c:Ch) (h:Ha):St:=if (cellAt c h.cell).s == 6 then (c,h,false) else if (iV c h).2 then (c,(iV c h).1,true) else nothing
theorem EE (c:Ch) (h:Ha) (v1 v2:Value) (lo:Nat) (w:World) (h1:aF w lo v1 c.cells) (h2:aI w lo v2 c.words) (F:0≤h.cell) (G:h.cell<c.cells.length) (L:eD h.code h.elem=true) :
  ed 262 c h v1 v2 lo w (mJ c h):=by
 by_cases n0:(cellAt c h.cell).s=0
 ·rw [show mJ c h=(c,{ dD h (cellAt c h.cell) with pos:=11 },true) by simp [mJ,iV,n0]]
  exact J7 c h v1 v2 lo w h1 h2 F G n0
 by_cases n1:(cellAt c h.cell).s=1
 ·rw [show mJ c h=(c,{ dD h (cellAt c h.cell) with pos:=11 },true) by simp [mJ,iV,n1]]
  exact J8 c h v1 v2 lo w h1 h2 F G n1
 by_cases H:(cellAt c h.cell).s=2
 ·rw [show mJ c h=(c,{ dD h (cellAt c h.cell) with pos:=12 },true) by simp [mJ,iV,H]]
  exact J9 c h v1 v2 lo w h1 h2 F G H
 by_cases I:(cellAt c h.cell).s=3
 ·rw [show mJ c h=(c,{ dD h (cellAt c h.cell) with pos:=12 },true) by simp [mJ,iV,I]]
  exact JA c h v1 v2 lo w h1 h2 F G I
 by_cases K:(cellAt c h.cell).s=9
 ·rw [show mJ c h=(c,anew h,true) by simp [mJ,iV,K];rfl]
  exact JB c h v1 v2 lo w h1 h2 F G K L
 by_cases J:(cellAt c h.cell).s=6
 ·rw [show mJ c h=(c,h,false) by simp [mJ,J]]
  exact JC c h v1 v2 lo w h1 h2 F G J
 ·rw [show mJ c h=nothing by simp [mJ,iV,n0,n1,H,I,K,J]]
  exact GN c h v1 v2 lo w h1 h2 F G (by simpa using n0) (by simpa using n1) sF wT (by simpa using K) yw
def takeR (c:Ch) (h:Ha):St :=
 if h.seen == 2 then zl c 7 0 (dL h 0) { h with pos:=10 } else if h.seen == 3 then zl c 5 (cellAt c h.cell).t { h with pos:=13 } { h with pos:=10 }
 else if h.seen != 0 && h.seen != 1 then nothing else if h.cell<h.come then zl c 8 0 (dL h 2) { h with pos:=10 } else GI c 4 (dL h 1) { h with pos:=10 }
theorem EF (c:Ch) (h:Ha) (v1 v2:Value) (lo:Nat) (w:World) (h1:aF w lo v1 c.cells) (h2:aI w lo v2 c.words) (F:0≤h.cell) (G:h.cell<c.cells.length) (hc:aN c=true) (K:lo≤w.heap.size) :
  ed 263 c h v1 v2 lo w (takeR c h):=by
 cases H:(h.seen == 0) with
 | true =>
  have q:h.seen=0:=by simpa using H
  by_cases L:h.come≤h.cell
  ·rw [show takeR c h=GI c 4 (dL h 1) { h with pos:=10 } by simp [takeR,q,show ¬ h.cell<h.come by omega]]
   exact Hu c h v1 v2 lo w h1 h2 F G hc K H L
  ·rw [show takeR c h=zl c 8 0 (dL h 2) { h with pos:=10 } by simp [takeR,q,show h.cell<h.come by omega]]
   exact Hw c h v1 v2 lo w h1 h2 F G H L
 | false =>
  cases I:(h.seen == 1) with
  | true =>
   have q:h.seen=1:=by simpa using I
   by_cases L:h.come≤h.cell
   ·rw [show takeR c h=GI c 4 (dL h 1) { h with pos:=10 } by simp [takeR,q,show ¬ h.cell<h.come by omega]]
    exact Hy c h v1 v2 lo w h1 h2 F G hc K H I L
   ·rw [show takeR c h=zl c 8 0 (dL h 2) { h with pos:=10 } by simp [takeR,q,show h.cell<h.come by omega]]
    exact Hz c h v1 v2 lo w h1 h2 F G H I L
  | false =>
   cases J:(h.seen == 2) with
   | true =>
    rw [show takeR c h=zl c 7 0 (dL h 0) { h with pos:=10 } by simp only [takeR,J];rfl]
    exact JY c h v1 v2 lo w h1 h2 F G H I J
   | false =>
    cases M:(h.seen == 3) with
    | true =>
     rw [show takeR c h=zl c 5 (cellAt c h.cell).t { h with pos:=13 } { h with pos:=10 } by simp only [takeR,J,M];rfl]
     exact JZ c h v1 v2 lo w h1 h2 F G H I J M
    | false =>
     rw [show takeR c h=nothing by simp only [takeR,J,M,bne,H,I];rfl]
     exact H5 c h v1 v2 lo w h1 h2 H I J M
theorem EG (c:Ch) (h:Ha) (v1 v2:Value) (lo:Nat) (w:World) (h1:aF w lo v1 c.cells) (h2:aI w lo v2 c.words) (F:(h.code != 2)=true) :
  ed 260 c h v1 v2 lo w (nothing):=by
 exact Uv
theorem Cj (c:Ch) (h:Ha) (v1 v2:Value) (lo:Nat) (w:World) (h1:aF w lo v1 c.cells) (h2:aI w lo v2 c.words) (L:(h.code != 2)=false) (M:(h.pos == 9)=false) (F:(h.pos == 10)=false) (G:(h.pos == 11)=false) (H:(h.pos == 12)=false) (I:(h.pos == 13)=false) (J:(h.pos == 14)=false) (K:(h.pos == 15)=false) :
  ed 260 c h v1 v2 lo w (nothing):=by
 exact Uv
theorem H7 (c:Ch) (h:Ha) (v1 v2:Value) (lo:Nat) (w:World) (h1:aF w lo v1 c.cells) (h2:aI w lo v2 c.words) (F:0≤c.got∧c.got≤40) (U:(h.code != 2)=false) (V:(h.pos == 9)=true) :
  ed 260 c h v1 v2 lo w (H6 c h):=by
 have T:=aA fun W a b=>Bt c h v1 v2 lo W a b F
 change Hid (∀ W,_→_→Calls _ _ _ _ (fun r w'=>eB W w' lo v1 v2 (H6 c h) r)) at T;clear F;generalize H6 c h=x at *;obtain ⟨a1,q1,a2,q2,rfl,rfl,G,H,b1,b2,X,Y,I,M,J,N,K,O,L,R⟩:=Uu h1 h2;clear h1 h2;go_enter func260,ntmps260;go_wp2_with fail;refine (T.out _ (zO G G) (zO H H)).mono ?_;exact Om
theorem EH (c:Ch) (h:Ha) (v1 v2:Value) (lo:Nat) (w:World) (h1:aF w lo v1 c.cells) (h2:aI w lo v2 c.words) (G:0≤h.cell) (H:h.cell<c.cells.length) (F:eD h.code h.elem=true) (Y:(h.code != 2)=false) (K:(h.pos == 10)=true) :
  ed 260 c h v1 v2 lo w (mJ c h):=by
 have T:=aA fun W a b=>EE c h v1 v2 lo W a b G H F
 change Hid (∀ W,_→_→Calls _ _ _ _ (fun r w'=>eB W w' lo v1 v2 (mJ c h) r)) at T;clear G H F;have n9:(h.pos == 9)=false:=by simp at K ⊢;omega
 generalize mJ c h=x at *;obtain ⟨a1,q1,a2,q2,rfl,rfl,I,J,b1,b2,Z,m2,L,R,M,U,N,V,O,X⟩:=Uu h1 h2;clear h1 h2;go_enter func260,ntmps260;go_wp2_with fail;refine (T.out _ (zO I I) (zO J J)).mono ?_;exact Om
theorem EI (c:Ch) (h:Ha) (v1 v2:Value) (lo:Nat) (w:World) (h1:aF w lo v1 c.cells) (h2:aI w lo v2 c.words) (hk:(h.code != 2)=false) (N:(h.pos == 11)=true) :
  ed 260 c h v1 v2 lo w ((c,{ h with come:=c.sent,pos:=12 },true)):=by
 have n9:(h.pos == 9)=false:=by simp at N ⊢;omega
 have Y:(h.pos == 10)=false:=by simp at N ⊢;omega
 obtain ⟨K,T,L,U,rfl,rfl,V,X,b1,b2⟩:=BJ h1 h2;clear h1 h2;have O:=V.out;have R:=X.out;go_enter func260,ntmps260;go_wp2_with fail
 go_region_held3 (fun w'=>hp w' w=some (.cells (aH c (.slice K c.cells T) (.slice L c.words U)) 31)∧hp w' (w+1)=some (.cells (aB { h with come:=c.sent }) 49))
  (first|(simp [*,go_sem]))
  (first|((go_at_call 247;refine aK w zB fun M=>?_;refine (fD _ _ _).mono ?_;rintro _ w1 ⟨rfl,G⟩;obtain ⟨H,I,J⟩:=gZ M G (b:=w);(try simp at I);(try simp [go_sem] at J);replace bX:=fP J;clear J;have F:=H;clear G M);have Z:=own_below O F;have p2:=own_below R F))
 go_wp2;refine rE results260 rfl (bN c (.slice K c.cells T) (.slice L c.words U) tZ) rfl (aQ { h with come:=c.sent,pos:=12 } tZ) ⟨⟨_,_,rfl,?_,?_,aP _ _,aP _ _⟩,gy zB⟩
 ·exact zO Z O
 ·exact zO p2 R
theorem EJ (c:Ch) (h:Ha) (v1 v2:Value) (lo:Nat) (w:World) (h1:aF w lo v1 c.cells) (h2:aI w lo v2 c.words) (F:0≤h.cell) (G:h.cell<c.cells.length) (hc:aN c=true) (U:lo≤w.heap.size) (hk:(h.code != 2)=false) (J:(h.pos == 12)=true) :
  ed 260 c h v1 v2 lo w (takeR c h):=by
 have K:=fun W a b R=>EF c h v1 v2 lo W a b F G hc R
 generalize takeR c h=x at *;clear F G hc;have n9:(h.pos == 9)=false:=by simp at J ⊢;omega
 have a6:(h.pos == 10)=false:=by simp at J ⊢;omega
 have a7:(h.pos == 11)=false:=by simp at J ⊢;omega
 have b1:=nC h1;have b2:=nC h2;have H:=sH b1;have I:=sH b2;have V:=H (w.heap.size) tO;have a0:=I (w.heap.size) tO;have X:=H (w+1) tO;have a3:=I (w+1) tO;have Y:=H (w+1+1) tO;have a4:=I (w+1+1) tO;have Z:=H (w+1+1+1) tO;have a5:=I (w+1+1+1) tO;have L:=h1;have M:=h2;obtain ⟨a1,q1,N,_⟩:=h1.seg;obtain ⟨a2,q2,O,_⟩:=h2.seg;subst N O;have T:=aA K;clear h1 h2 K;go_enter func260,ntmps260;go_wp2_with fail;refine (T.out _ (zO L L) (zO M M) (by simp <;> omega)).mono ?_
 exact Om
theorem EL (c:Ch) (h:Ha) (v1 v2:Value) (lo:Nat) (w:World) (h1:aF w lo v1 c.cells) (h2:aI w lo v2 c.words) (hc:aN c=true) (V:lo≤w.heap.size) (hk:(h.code != 2)=false) (O:(h.pos == 13)=true) :
  ed 260 c h v1 v2 lo w (Ju c { h with pos:=14 } { h with pos:=15 }):=by
 have R:=fun W a b hl=>Dq c { h with pos:=14 } { h with pos:=15 } v1 v2 lo W a b hc hl
 change ∀ W,_→_→_→Calls _ _ _ _ (fun r w'=>StepB W w' lo v1 v2 (Ju c { h with pos:=14 } { h with pos:=15 }) r) at R;clear hc;have n9:(h.pos == 9)=false:=by simp at O ⊢;omega
 have a0:(h.pos == 10)=false:=by simp at O ⊢;omega
 have a3:(h.pos == 11)=false:=by simp at O ⊢;omega
 have a4:(h.pos == 12)=false:=by simp at O ⊢;omega
 generalize Ju c { h with pos:=14 } { h with pos:=15 }=x at *
 obtain ⟨J,M,L,N,rfl,rfl,O1,O2,b1,b2⟩:=BJ h1 h2;clear h1 h2;have T:=aA R;clear R;have Z:=O1.out;have o2:=O2.out;go_enter func260,ntmps260;go_upto_region 14 with fail;refine lh [[],[],[1],[],[3],[0,1,2,3,4],[0,1,2,3,4,5],[0,1,2,3,4,5],[0,1,2,3,4,5],[0,1,2,3,4,5,6],[0,1,2,3,4,5,7],[0,1,2,3,4,5,8]] [51,52,53,54,55,56,57,58,59,6] (fun l s wx=>(ni (Value.slice J c.cells M).ownBlock (Value.slice L c.words N).ownBlock w wx)∧(w+1+1+1+1≤wx.heap.size)∧(hp wx w=some (.cells (aH c (.slice J c.cells M) (.slice L c.words N)) 31))∧(hp wx (w+1)=some (.cells (aB h) 49))∧(hp wx (w+1+1)=some (.cells (cond (l 9) (aH x.1 (s 1003) (s 1004)) (aH Ch.zero (.slice none 0 0) (.slice none 0 0))) 31))∧(hp wx (w+1+1+1)=some (.cells (cond (l 10) (aB x.2.1) (aB Ha.zero)) 49))∧(l 5=false→aF wx lo (.slice J c.cells M) c.cells)∧(l 5=false→aI wx lo (.slice L c.words N) c.words)∧(l 0=true→s 51=.agg (aH c (.slice J c.cells M) (.slice L c.words N)))∧(l 1=true→s 52=.agg (aB h))∧(l 2=true→s 53=.agg (aB ({ h with pos:=14 })))∧(l 3=true→s 54=.agg (aB h))∧(l 4=true→s 55=.agg (aB ({ h with pos:=15 })))∧(l 5=true→s 56=.tuple #[.agg (aH x.1 (s 1003) (s 1004)),.agg (aB x.2.1),.bool x.2.2]∧aF wx lo (s 1003) x.1.cells∧aI wx lo (s 1004) x.1.words∧ic w (.slice J c.cells M) (s 1003)∧ic w (.slice L c.words N) (s 1004))∧(l 6=true→s 57=.agg (aH x.1 (s 1003) (s 1004)))∧(l 7=true→s 58=.agg (aB x.2.1))∧(l 8=true→s 59=.bool x.2.2)∧(l 11=true→s 6=.bool x.2.2)) (fun s=>⟨gy zB,by simp,by simp [go_sem, *],by simp [go_sem, *],by simp [go_sem, *],by simp [go_sem, *],fun _=>by exact zO Z Z,fun _=>by exact zO o2 o2,nB,nB,nB,nB,nB,nB,nB,nB,nB,nB⟩) ?_ ?_
 refine ⟨?_,?_,?_,?_,?_,?_,?_,?_,?_,?_,?_,?_,trivial⟩;iterate 12 (intro l s wx hl hd I hf K hK;rotate_left)
 ·intro l s wx H hf
  have hO:=hf.1;have z1:=hf.2.2.2.2.1;have X:=(jC hf).2.1;rw [H 9 rfl] at z1;rw [H 10 rfl] at X;dsimp only [cond] at z1 X;obtain ⟨_,X1,X2,F1,F2⟩:=((jC (jD hf)).2.1 (H 5 rfl));have Y:=((jE hf).2 (H 11 rfl));simp only [Y];clear Y hf H;go_wp2;exact bodyPost_ret (zq results260 rfl (bN x.1 _ _ z1) rfl (aQ x.2.1 X)) rfl ⟨⟨_,_,rfl,X1,X2,F1,F2⟩,hO⟩
 ·have zc:=hf.out.2.2.1
  go_simp;refine hK.out (upd s 51 (.agg (aH c (.slice J c.cells M) (.slice L c.words N)))) _ _ gM (kD (kX (fun _=>rfl) id) hf.out)
 ·have zh:=hf.out.2.2.2.1
  go_simp;refine hK.out (upd s 52 (.agg (aB h))) _ _ gM (kD (kA (kX (fun _=>rfl) id)) hf.out)
 ·have e1:=((jD hf.out).2.1 (hd 1 rfl))
  go_simp
  go_at_call 247
  refine (fD h 14 _).mono ?_;rintro _ wy ⟨rfl,G⟩;refine hK.out (upd s 53 (.agg (aB ({ h with pos:=14 })))) _ _ pQ (kX (kv hf.out.1 (gy G)) (kX (Nat.le_trans hf.out.2.1 (Below.size G)) (kX (iC hf.out.2.2.1 G) (kX (iC hf.out.2.2.2.1 G) (kX (iC hf.out.2.2.2.2.1 G) (kX (iC (jC hf.out).2.1 G) (kX (fun h9=>own_below ((jC hf.out).2.2.1 h9) G) (kX (fun h9=>own_below ((jC hf.out).2.2.2.1 h9) G) (kB (kX (fun _=>rfl) (kB (kX (nU (I 5 rfl)) (kX (nU (I 6 rfl)) (kX (nU (I 7 rfl)) (kX (nU (I 8 rfl)) (fun _=>nU (I 11 rfl)))))))))))))))) hf.out)
 ·have zh:=hf.out.2.2.2.1
  go_simp;refine hK.out (upd s 54 (.agg (aB h))) _ _ gM (kD (kB (kA (kX (fun _=>rfl) id))) hf.out)
 ·have e3:=((jD hf.out).2.2.2.1 (hd 3 rfl))
  go_simp
  go_at_call 247
  refine (fD h 15 _).mono ?_;rintro _ wy ⟨rfl,G⟩;refine hK.out (upd s 55 (.agg (aB ({ h with pos:=15 })))) _ _ yh (kX (kv hf.out.1 (gy G)) (kX (Nat.le_trans hf.out.2.1 (Below.size G)) (kX (iC hf.out.2.2.1 G) (kX (iC hf.out.2.2.2.1 G) (kX (iC hf.out.2.2.2.2.1 G) (kX (iC (jC hf.out).2.1 G) (kX (fun h9=>own_below ((jC hf.out).2.2.1 h9) G) (kX (fun h9=>own_below ((jC hf.out).2.2.2.1 h9) G) (kC (kX (fun _=>rfl) (kX (nU (I 5 rfl)) (kX (nU (I 6 rfl)) (kX (nU (I 7 rfl)) (kX (nU (I 8 rfl)) (fun _=>nU (I 11 rfl))))))))))))))) hf.out)
 ·have e0:=((jD hf.out).1 (hd 0 rfl))
  have e2:=((jD hf.out).2.2.1 (hd 2 rfl));have e4:=((jC (jD hf.out)).1 (hd 4 rfl));go_simp
  go_at_call 253
  refine (T.out _ ((jC hf.out).2.2.1 hl) ((jC hf.out).2.2.2.1 hl) (Nat.le_trans V hf.out.1.2.2.2.1)).mono ?_;rintro _ wy ⟨⟨y1,y2,rfl,X1,X2,F1,F2⟩,G⟩;have hO:=gy (a:=(Value.slice J c.cells M).ownBlock) (b:=(Value.slice L c.words N).ownBlock) G;refine hK.out (upd (upd (upd s 1003 (y1)) 1004 (y2)) 56 (.tuple #[.agg (aH x.1 y1 y2),.agg (aB x.2.1),.bool x.2.2])) _ _ (by simp [aX,e0,e2,e4] <;> rfl) (kX (kv hf.out.1 hO) (kX (Nat.le_trans hf.out.2.1 hO.2.2.2.1) (kX (kI hf.out.2.2.1 hO ((jC hf.out).2.2.1 hl) ((jC hf.out).2.2.2.1 hl) cB cB) (kX (kI hf.out.2.2.2.1 hO ((jC hf.out).2.2.1 hl) ((jC hf.out).2.2.2.1 hl) cB cB) (kX TZ (kX TY (kX (fun h9=>nU h9 (show upd l 5 true 5=true from rfl)) (kX (fun h9=>nU h9 (show upd l 5 true 5=true from rfl)) (kC (kA (kX (fun _=>⟨rfl,X1,X2,fun j U=>(F1 j U).imp id (fun h=>Nat.le_trans hf.out.1.2.2.2.1 h),fun j U=>(F2 j U).imp id (fun h=>Nat.le_trans hf.out.1.2.2.2.1 h)⟩) (kX (nU (I 6 rfl)) (kX (nU (I 7 rfl)) (kX (nU (I 8 rfl)) (fun _=>nU (I 11 rfl))))))))))))))) hf.out)
 ·have e5:=((jC (jD hf.out)).2.1 (hd 5 rfl)).1
  go_simp;refine hK.out (upd s 57 (.agg (aH x.1 (s 1003) (s 1004)))) _ _ mK (kD (kC (kB (kX (fun _=>rfl) id))) hf.out)
 ·have e5:=((jC (jD hf.out)).2.1 (hd 5 rfl)).1
  go_simp;refine hK.out (upd s 58 (.agg (aB x.2.1))) _ _ mK (kD (kC (kB (kA (kX (fun _=>rfl) id)))) hf.out)
 ·have e5:=((jC (jD hf.out)).2.1 (hd 5 rfl)).1
  go_simp;refine hK.out (upd s 59 (.bool x.2.2)) _ _ mK (kE (kX (fun _=>rfl) id) hf.out)
 ·have e6:=((jC (jD hf.out)).2.2.1 (hd 6 rfl))
  have e5:=((jC (jD hf.out)).2.1 (hd 5 rfl));exact UR
 ·have e7:=((jC (jD hf.out)).2.2.2.1 (hd 7 rfl))
  have e5:=((jC (jD hf.out)).2.1 (hd 5 rfl));exact UX
 ·have e8:=((jE hf.out).1 (hd 8 rfl))
  go_simp;refine hK.out (upd s 6 (.bool x.2.2)) _ _ wP (kE (kA (fun _=>fun _=>rfl)) hf.out)
theorem EM (c:Ch) (h:Ha) (v1 v2:Value) (lo:Nat) (w:World) (h1:aF w lo v1 c.cells) (h2:aI w lo v2 c.words) (ac:0≤h.cell) (ad:h.cell<c.cells.length) (hk:(h.code != 2)=false) (hq:(h.pos == 14)=true) :
  ed 260 c h v1 v2 lo w ((bZ c h.cell 7,dL h 0,true)):=by
 obtain ⟨i,Z⟩:∃ i:Nat,h.cell=(i:Int):=⟨h.cell.toNat,by omega⟩;have hi:i<c.cells.length:=tO;have af:(0:Int)≤(i:Int):=tO;have ag:(i:Int)<(c.cells.length:Int):=tO;have a8:=h1.ne h2;obtain ⟨a2,q2,rfl,_⟩:=h2.seg;obtain ⟨g,q1,rfl,ab,J,G,ae⟩:=h1.open1 hi;have O1:=aA h1;have O2:=aA h2;have K:g<w.heap.size+1:=tO;have L:g<w.heap.size+1+1:=tO;have M:g<w.heap.size+1+1+1:=tO;have ap:g≠w.heap.size:=tO;have aq:g≠w.heap.size+1:=tO
 have ar:g≠w.heap.size+1+1:=tO;have au:g≠w.heap.size+1+1+1:=tO;have ah:w.heap.size≠g:=tO;have ai:w.heap.size+1≠g:=tO;have aj:w.heap.size+1+1≠g:=tO;have ak:w.heap.size+1+1+1≠g:=tO;have hx:Hid (cellAt c h.cell=c.cells.getD i ⟨0,0,0⟩):=by simp [cellAt,Hid,Z]
 have c0:=G 0 tO;have c1:=G 1 tO;have c2:=G 2 tO;simp only [C3.val,Nat.add_zero] at c0 c1 c2;rw [show bZ c h.cell 7=bZ c i 7 by rw [Z]]
 have e1:=lL c i 7;have P1:=fun W (o:aF W lo (.slice (some ⟨g,0,none⟩) c.cells q1) c.cells)=>aF.setS o hi 7
 rw [← e1] at P1;clear hx G h1 h2 e1;generalize c.cells.getD i ⟨0,0,0⟩=x at *;have o1:=O1.out;have o2:=O2.out;have n9:(h.pos == 9)=false:=by simp at hq ⊢;omega
 have al:(h.pos == 10)=false:=by simp at hq ⊢;omega
 have am:(h.pos == 11)=false:=by simp at hq ⊢;omega
 have an:(h.pos == 12)=false:=by simp at hq ⊢;omega
 have ao:(h.pos == 13)=false:=by simp at hq ⊢;omega
 go_enter func260,ntmps260
 have P2:=aV (p:=⟨g,i*3,none⟩) o2 (a8 g rfl) (.int .i64 7);go_wp2_with fail
 go_region_held3 (fun w'=>hp w' w=some (.cells (aH c (.slice (some ⟨g,0,none⟩) c.cells q1) (.slice a2 c.words q2)) 31)∧hp w' (w+1)=some (.cells (aB h) 49))
  (first|(simp [*,go_sem]))
  (first|(go_at_call 264;refine (pY h 0 _).mono ?_;rintro _ w1 ⟨rfl,F⟩;have aa:Gr g w w1:=gT zG (zf F);have a4:=F.size;(try (simp at a4));have I:=hQ F (b:=w);(first|(simp [go_sem,a1,a5,J,K,L,M] at I)|(simp [go_sem,J,K,L,M] at I));(try clear a9 a7);(try clear a1);have a1:=I;clear I;(try clear a5);obtain ⟨a9,a7,a5⟩:=bO a1;have I:=hQ F (b:=w+1);(first|(simp [go_sem,T,X,J,K,L,M] at I)|(simp [go_sem,J,K,L,M] at I));(try clear a6 a3);(try clear T);have T:=I;clear I;(try clear X);obtain ⟨a6,a3,X⟩:=bO T;have I:=hQ F (b:=w+1+1);(first|(simp [go_sem,N,R,J,K,L,M] at I)|(simp [go_sem,J,K,L,M] at I));(try clear a0 Y);(try clear N);have N:=I;clear I;(try clear R);obtain ⟨a0,Y,R⟩:=bO N;have I:=hQ F (b:=w+1+1+1);(first|(simp [go_sem,H,O,J,K,L,M] at I)|(simp [go_sem,J,K,L,M] at I));(try clear V U);(try clear H);have H:=I;clear I;(try clear O);obtain ⟨V,U,O⟩:=bO H;have p1:aF w1 lo (.slice (some ⟨g,0,none⟩) c.cells q1) (bZ c i 7).cells:=own_below (by exact zO (P1 _ o1) o1) F;have p2:aI w1 lo (.slice a2 c.words q2) c.words:=own_below (zO P2 o2) F))
 go_wp2;refine rE results260 rfl (bN (bZ c i 7) (.slice (some ⟨g,0,none⟩) c.cells q1) (.slice a2 c.words q2) tZ) rfl (aQ (dL h 0) (by simp [go_sem, *] <;> first|rfl|simp [dL,Z])) ⟨⟨_,_,rfl,?_,?_,aP _ _,aP _ _⟩,rA (show w.grownBy _ (some g) from zG)⟩
 ·show aF _ lo (.slice (some ⟨g,0,none⟩) c.cells q1) (bZ c i 7).cells
  exact zO p1 o1
 ·show aI _ lo (.slice a2 c.words q2) c.words
  exact zO p2 o2
theorem EN (c:Ch) (h:Ha) (v1 v2:Value) (lo:Nat) (w:World) (h1:aF w lo v1 c.cells) (h2:aI w lo v2 c.words) (ae:0≤h.cell) (af:h.cell<c.cells.length) (R:eD h.code h.elem=true) (hk:(h.code != 2)=false) (hq:(h.pos == 15)=true) :
  ed 260 c h v1 v2 lo w ((bZ c h.cell 9,anew h,true)):=by
 obtain ⟨i,a0⟩:∃ i:Nat,h.cell=(i:Int):=⟨h.cell.toNat,by omega⟩;have hi:i<c.cells.length:=tO;have ah:(0:Int)≤(i:Int):=tO;have ai:(i:Int)<(c.cells.length:Int):=tO;have aa:=h1.ne h2;obtain ⟨a2,q2,rfl,_⟩:=h2.seg;obtain ⟨g,q1,rfl,ad,J,G,ag⟩:=h1.open1 hi;have O1:=aA h1;have O2:=aA h2;have K:g<w.heap.size+1:=tO;have L:g<w.heap.size+1+1:=tO;have M:g<w.heap.size+1+1+1:=tO;have au:g≠w.heap.size:=tO;have av:g≠w.heap.size+1:=tO
 have aw:g≠w.heap.size+1+1:=tO;have ax:g≠w.heap.size+1+1+1:=tO;have aj:w.heap.size≠g:=tO;have ak:w.heap.size+1≠g:=tO;have al:w.heap.size+1+1≠g:=tO;have am:w.heap.size+1+1+1≠g:=tO;have hx:Hid (cellAt c h.cell=c.cells.getD i ⟨0,0,0⟩):=by simp [cellAt,Hid,a0]
 have c0:=G 0 tO;have c1:=G 1 tO;have c2:=G 2 tO;simp only [C3.val,Nat.add_zero] at c0 c1 c2;rw [show bZ c h.cell 9=bZ c i 9 by rw [a0]]
 have e1:=lL c i 9;have P1:=fun W (o:aF W lo (.slice (some ⟨g,0,none⟩) c.cells q1) c.cells)=>aF.setS o hi 9
 rw [← e1] at P1;clear hx G h1 h2 e1;generalize c.cells.getD i ⟨0,0,0⟩=x at *;have o1:=O1.out;have o2:=O2.out;obtain ⟨y0,a1⟩:∃ y0,anew h=y0:=⟨_,rfl⟩;have AN:=aA fun W=>A8 h R W
 rw [a1] at AN;rw [a1];clear a1 R;have n9:(h.pos == 9)=false:=by simp at hq ⊢;omega
 have an:(h.pos == 10)=false:=by simp at hq ⊢;omega
 have ao:(h.pos == 11)=false:=by simp at hq ⊢;omega
 have ap:(h.pos == 12)=false:=by simp at hq ⊢;omega
 have aq:(h.pos == 13)=false:=by simp at hq ⊢;omega
 have ar:(h.pos == 14)=false:=by simp at hq ⊢;omega
 go_enter func260,ntmps260
 have P2:=aV (p:=⟨g,i*3,none⟩) o2 (aa g rfl) (.int .i64 9);go_wp2_with fail
 go_region_held3 (fun w'=>hp w' w=some (.cells (aH c (.slice (some ⟨g,0,none⟩) c.cells q1) (.slice a2 c.words q2)) 31)∧hp w' (w+1)=some (.cells (aB h) 49))
  (first|(simp [*,go_sem]))
  (first|(go_at_call 250;refine (AN.out _).mono ?_;rintro _ w1 ⟨rfl,F⟩;have ac:Gr g w w1:=gT zG (zf F);have a6:=F.size;(try (simp at a6));have I:=hQ F (b:=w);(first|(simp [go_sem,a4,a7,J,K,L,M] at I)|(simp [go_sem,J,K,L,M] at I));(try clear ab a9);(try clear a4);have a4:=I;clear I;(try clear a7);obtain ⟨ab,a9,a7⟩:=bO a4;have I:=hQ F (b:=w+1);(first|(simp [go_sem,U,Y,J,K,L,M] at I)|(simp [go_sem,J,K,L,M] at I));(try clear a8 a5);(try clear U);have U:=I;clear I;(try clear Y);obtain ⟨a8,a5,Y⟩:=bO U;have I:=hQ F (b:=w+1+1);(first|(simp [go_sem,N,T,J,K,L,M] at I)|(simp [go_sem,J,K,L,M] at I));(try clear a3 Z);(try clear N);have N:=I;clear I;(try clear T);obtain ⟨a3,Z,T⟩:=bO N;have I:=hQ F (b:=w+1+1+1);(first|(simp [go_sem,H,O,J,K,L,M] at I)|(simp [go_sem,J,K,L,M] at I));(try clear X V);(try clear H);have H:=I;clear I;(try clear O);obtain ⟨X,V,O⟩:=bO H;have p1:aF w1 lo (.slice (some ⟨g,0,none⟩) c.cells q1) (bZ c i 9).cells:=own_below (by exact zO (P1 _ o1) o1) F;have p2:aI w1 lo (.slice a2 c.words q2) c.words:=own_below (zO P2 o2) F))
 go_wp2;refine rE results260 rfl (bN (bZ c i 9) (.slice (some ⟨g,0,none⟩) c.cells q1) (.slice a2 c.words q2) tZ) rfl (aQ y0 (by simp [go_sem, *] <;> first|rfl|simp [dL,a0])) ⟨⟨_,_,rfl,?_,?_,aP _ _,aP _ _⟩,rA (show w.grownBy _ (some g) from zG)⟩
 ·show aF _ lo (.slice (some ⟨g,0,none⟩) c.cells q1) (bZ c i 9).cells
  exact zO p1 o1
 ·show aI _ lo (.slice a2 c.words q2) c.words
  exact zO p2 o2
theorem lD {c:Ch} {h:Ha}:pK (c,h,true)=done c h:=rfl
theorem Bu {c:Ch} {F wt:Int} {y z:Ha}:pK (zl c F wt y z)=if bB c y.cell y.seen F wt then done (bU c y.cell y.seen F wt) y else done (bU c y.cell y.seen F wt) z:=by
 unfold zl;cases ht:bB c y.cell y.seen F wt with
 | true=>rfl
 | false=>rw [om ht];rfl
theorem oP:pK nothing=nothing:=by simp [pK,nothing,aN,fH,Ch.zero]
theorem NB {c:Ch} {w word:Int} (h:eG c w word=false):cZ c w word=c:=by simp [cZ,h]
theorem QA {c:Ch} {h:Ha}:pK (GI c 4 (dL h 1) { h with pos:=10 })=done (fA c h 4 16 10).1 (oH (fA c h 4 16 10).2):=by
 unfold GI fA;by_cases F:80≤c.words.length
 ·simp only [F,if_true];rfl
 ·simp only [F,if_false]
  cases ht:bB c h.cell h.seen 4 (c.words.length+1) with
  | true =>
   rw [show bB c (dL h 1).cell (dL h 1).seen 4 (c.words.length+1)=true from ht];simp only [if_true];rfl
  | false =>
   rw [show bB c (dL h 1).cell (dL h 1).seen 4 (c.words.length+1)=false from ht];simp only [Bool.false_eq_true,if_false];rw [om ht];rfl
theorem Ka (c:Ch) (h:Ha):pK (takeR c h)=uk c h:=by
 unfold takeR uk fZ;by_cases h2:h.seen=2
 ·simp only [h2,beq_self_eq_true,if_true,show ((2:Int) == 3)=false from rfl,Bool.false_eq_true,if_false]
  rw [Bu];simp only [iF,h2,dL]
 by_cases h3:h.seen=3
 ·have F:(h.seen == 2)=false:=by simpa using h2
  have G:(h.seen == 3)=true:=by simpa using h3
  simp only [F,G,if_true,Bool.false_eq_true,if_false];rw [Bu];rfl
 ·have F:(h.seen == 2)=false:=by simpa using h2
  have G:(h.seen == 3)=false:=by simpa using h3
  simp only [F,G,Bool.false_eq_true,if_false];split
  ·exact oP
  ·split
   ·rw [Bu];rfl
   ·exact QA
theorem Ck (c:Ch) (h:Ha) (hc:aN c=true) (O:aU h=true):∃ x:St,fG c h=pK x∧∀ (v1 v2:Value) (lo:Nat) (W:World),aF W lo v1 c.cells→aI W lo v2 c.words→lo≤W.heap.size→Calls prog 260 #[.agg (aH c v1 v2),.agg (aB h)] W fun r w'=>eB W w' lo v1 v2 x r:=by
 cases J:(h.code != 2) with
 | true =>
  have M:¬ h.code=2:=by simpa using J
  have N:bC c h 9 15 2=false:=by simp [bC,M]
  exact ⟨nothing,by rw [oP];simp [fG,aO,N],fun v1 v2 lo W F G _=>EG c h v1 v2 lo W F G J⟩
 | false =>
  have M:h.code=2:=by simpa using J
  obtain ⟨K,X⟩:=iW O;have L:h.cell<c.cells.length:=by have:=(mW hc).1;omega
  by_cases hr:9≤h.pos∧h.pos≤15
  ·have hok:bC c h 9 15 2=true:=by
    have:dV h.pos 9 15=true:=by simp [dV];omega
    simp [bC,hc,O,this,M]
   have I:eD h.code h.elem=true:=by
    have:=O;simp only [aU,oG,Bool.and_eq_true,dK] at this;have V:¬ h.pos=0:=tO;simp [V] at this;exact this.1.2
   have T:h.pos=9∨h.pos=10∨h.pos=11∨h.pos=12∨h.pos=13∨h.pos=14∨h.pos=15:=tO;rcases T with hp|hp|hp|hp|hp|hp|hp
   ·refine ⟨H6 c h,?_,fun v1 v2 lo W F G _=>H7 c h v1 v2 lo W F G (GZ hc) J zQ⟩
    by_cases U:c.got=40
    ·simp [fG,aO,hok,hp,sN,H6,U,lD]
    ·simp [fG,aO,hok,hp,sN,H6,U,lD]
   ·refine ⟨mJ c h,?_,fun v1 v2 lo W F G _=>EH c h v1 v2 lo W F G K L I J zQ⟩
    simp only [fG,aO,hok,hp,sP,mJ];by_cases h6:(cellAt c h.cell).s=6
    ·simp [h6,pK,hc,O]
    ·cases Y:(iV c h).2 with
     | true=>simp [h6,lD]
     | false=>simp [h6,oP]
   ·refine ⟨(c,{ h with come:=c.sent,pos:=12 },true),?_,fun v1 v2 lo W F G _=>EI c h v1 v2 lo W F G J zQ⟩
    simp [fG,aO,hok,hp,lD]
   ·refine ⟨takeR c h,?_,fun v1 v2 lo W F G R=>EJ c h v1 v2 lo W F G K L hc R J zQ⟩
    rw [Ka];simp [fG,hok,hp]
   ·refine ⟨Ju c { h with pos:=14 } { h with pos:=15 },?_,fun v1 v2 lo W F G R=>EL c h v1 v2 lo W F G hc R J zQ⟩
    unfold Ju;cases ht:eG c h.wait 1 with
    | true=>simp [fG,aO,hok,hp,yG,ht,lD]
    | false=>simp [fG,aO,hok,hp,yG,ht,lD,NB ht]
   ·refine ⟨(bZ c h.cell 7,dL h 0,true),?_,fun v1 v2 lo W F G _=>EM c h v1 v2 lo W F G K L J zQ⟩
    simp [fG,aO,hok,hp,lD]
   ·refine ⟨(bZ c h.cell 9,anew h,true),?_,fun v1 v2 lo W F G _=>EN c h v1 v2 lo W F G K L I J zQ⟩
    simp [fG,aO,hok,hp,lD]
  ·have N:bC c h 9 15 2=false:=by
    have:dV h.pos 9 15=false:=by simp [dV];omega
    simp [bC,this]
   have H:∀ k:Int,9≤k→k≤15→(h.pos == k)=false:=fun k h1 h2=>by simp;omega
   exact ⟨nothing,by rw [oP];simp [fG,aO,N],fun v1 v2 lo W F G _=>Cj c h v1 v2 lo W F G J (H 9 tO tO) (H 10 tO tO) (H 11 tO tO) (H 12 tO tO) (H 13 tO tO) (H 14 tO tO) (H 15 tO tO)⟩
theorem Cm (c:Ch) (h:Ha) (a b:Option Addr) (p q:Nat) (w:World) (h1:gG w w a c.cells) (z1:a=none→p=0) (h2:gI w w b c.words) (L:b=none→q=0) (l1:c.cells.length≤maxLen) (l2:c.words.length≤maxLen) :
  Calls prog 259 #[.agg (aH c (.slice a c.cells p) (.slice b c.words q)),.agg (aB h)] w fun r w'=>dU w w' (fG c h) r:=by
 have K:∀ (w:World),gG w w a c.cells→(a=none→p=0)→gI w w b c.words→(b=none→q=0)→Calls prog 236 #[.func (.func 260) #[] #[],.agg (aH c (.slice a c.cells p) (.slice b c.words q)),.agg (aB h)] w fun r w'=>dU w w' (fG c h) r:=by
  intro w h1 z1 h2 L;cases hc:aN c with
  | false =>
   rw [show fG c h=nothing by simp [fG,aO,bC,hc]]
   exact uH _ c h a b p q w h1 z1 h2 L l1 l2 hc
  | true =>
   cases O:aU h with
   | false =>
    rw [show fG c h=nothing by simp [fG,aO,bC,O]]
    exact uI _ c h a b p q w h1 z1 h2 L l1 l2 hc O
   | true =>
    obtain ⟨x,e,HT⟩:=Ck c h hc O;rw [e];exact uG _ x c h a b p q w h1 z1 h2 L hc O (fun args w=>by simp [go_sem]) HT
 generalize fG c h=x at *;have T:=aA K;have H1:=aA h1;have H2:=aA h2;have Z1:=aA z1;have Z2:=aA L;clear h1 h2 z1 L K;have Z:∀ j,(Value.slice none 0 0).ownBlock=some j→w.heap.size+1+1+1+1≤j:=fun j hj=>by cases hj
 have d2:=Z;go_enter func259,ntmps259;go_wp2_with fail;refine aK w zB fun N=>?_;refine (T.out _ (aT H1 N) Z1.out (aT H2 N) Z2.out).mono ?_;rintro _ w9 ⟨⟨y1,y2,rfl,F,G,R,U⟩,H⟩;obtain ⟨a0,M,Y⟩:=gZ N H (b:=w);(try simp at M);(try simp [go_sem] at Y);replace bX:=fP Y;clear Y H N
 replace F:aF w9 w y1 x.1.cells:=aL F dQ;replace G:aI w9 w y2 x.1.words:=aL G dQ;obtain ⟨⟨I,J⟩,V,X⟩:=BI (w:=w) (w+1+1+1+1) R U Z d2;obtain ⟨ya,yp,rfl,_⟩:=F.seg;obtain ⟨yb,yq,rfl,_⟩:=G.seg;go_wp2;refine rE results259 rfl (bN x.1 (.slice ya x.1.cells yp) (.slice yb x.1.words yq) tY) rfl (aQ x.2.1 tY) ⟨⟨_,_,rfl,?_,?_,V,X⟩,zB⟩
 ·exact zP F F I
 ·exact zP G G J
end
end Go.Proofs.YtffhjmepfojhnaaGreat
