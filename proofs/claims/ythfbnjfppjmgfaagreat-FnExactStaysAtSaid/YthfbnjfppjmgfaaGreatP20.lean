/-
  The program's touch of growing, case by case, on hands and channels that are kept whole; the lists are the call's own.
-/
import Derived.Test.YthfbnjfppjmgfaaGreatP19
import Derived.LoopN
import Derived.WalkMore
import Derived.BigRegion
import Derived.Deep.DeepCutAuto
import Derived.Deep.RegionHeld3
set_option linter.unusedSimpArgs false
set_option linter.unusedVariables false
namespace Go.Proofs.YthfbnjfppjmgfaaGreat
open Go.RowKit
set_option linter.unusedSimpArgs false
attribute [local simp] bx_size
attribute [local go_sem ↓] zeroHand zeroChan toLHand toLChan toVHand toVChan storeHand storeChan storeHandC storeChanC
set_option maxRecDepth 100000 in
set_option maxHeartbeats 2000000 in
theorem growTouch_16a (c:Ch) (h:Ha) (v1 v2:Value) (lo:Nat) (w:World) (h1:OCells w lo v1 c.cells) (h2:OInts w lo v2 c.words) (hg:(c.cap == 0)=true) (hcall:callOk h.code h.elem=true) (hnx:0≤h.nxt∧h.nxt≤2) (hq:(h.pos == 16)=true) (hk:(h.code != 2)=false) :
    Calls Tryz.prog 120 #[.agg (cvals c v1 v2),.agg (hvals h)] w fun r w'=>StepO w w' lo v1 v2 ((c,grown8 h,true)) r:=by
  obtain ⟨y0,hy0⟩:∃ y0,grown8 h=y0:=⟨_,rfl⟩
  have GR:=Lib.hid fun W=>grown_any h W hcall hnx
  rw [hy0] at GR
  rw [hy0]
  clear hy0 hcall hnx
  have b1:=fun j (hj:v1.ownBlock=some j)=>(h1.lt j hj).2
  have b2:=fun j (hj:v2.ownBlock=some j)=>(h2.lt j hj).2
  obtain ⟨a1,q1,rfl,_⟩:=h1.seg
  obtain ⟨a2,q2,rfl,_⟩:=h2.seg
  have O1:=Lib.hid h1
  have O2:=Lib.hid h2
  clear h1 h2
  have o1:=O1.out
  have o2:=O2.out
  go_enter Tryz.func120,Tryz.ntmps120
  go_wp2
  go_step3
  go_wp2
  go_step3
  go_wp2
  refine wp_loop_rounds 2 ?_
  rw [rounds_succ]
  go_wp2_with fail
  rw [rounds_succ]
  go_wp2_with fail
  go_region_held3 (fun w'=>hp w' w.heap.size=some (.cells (cvals c (.slice a1 c.cells.length q1) (.slice a2 c.words.length q2)) 34)∧hp w' (w.heap.size+1)=some (.cells (hvals h) 38))
    (first|(simp [*,go_sem]))
    (first|((go_at_call 123;refine bHit w (by exact zB) fun bb=>?_;refine (GR.out _).mono ?_;rintro _ w2 ⟨rfl,hbw2⟩;have hCw2:Below w.heap.size w w2:=bT bb hbw2;have hsw2:=hbw2.size;(try simp at hsw2);have zz:=q4 hbw2 (b:=w.heap.size);(try simp [go_sem] at zz);(try clear z_wppp x_wppp f_wppp l_wppp);(try clear z_wpp x_wpp f_wpp l_wpp);(try clear z_wp x_wp f_wp l_wp);(try clear z_w x_w f_w l_w);obtain ⟨z_wppp,z_wpp,z_wp,z_w⟩:=zz;obtain ⟨x_wppp,f_wppp,l_wppp⟩:=bO z_wppp;obtain ⟨x_wpp,f_wpp,l_wpp⟩:=bO z_wpp;obtain ⟨x_wp,f_wp,l_wp⟩:=bO z_wp;obtain ⟨x_w,f_w,l_w⟩:=bO z_w;have hKw2:Below w.heap.size w w2:=hCw2;clear hbw2 bb);have r1:=own_below o1 hKw2;have r2:=own_below o2 hKw2))
  go_wp2
  try rw [Exit.noGoto_ret]
  refine bodyPost_ret (res_cct Tryz.results120 rfl (ldChan c (.slice a1 c.cells.length q1) (.slice a2 c.words.length q2) (by simp [go_sem, *] <;> rfl)) rfl (ldHand y0 (by simp [go_sem, *] <;> rfl))) rfl ⟨⟨_,_,rfl,?_,?_,fresh_refl _ _,fresh_refl _ _⟩,onlB (by exact zB)⟩
  · exact zO r1 o1
  · exact zO r2 o2
set_option maxRecDepth 100000 in
set_option maxHeartbeats 2000000 in
theorem growTouch_16b (c:Ch) (h:Ha) (v1 v2:Value) (lo:Nat) (w:World) (h1:OCells w lo v1 c.cells) (h2:OInts w lo v2 c.words) (hg:(c.cap == 0)=false) (hf:(c.fin == 40)=true) (hcall:callOk h.code h.elem=true) (hnx:0≤h.nxt∧h.nxt≤2) (hq:(h.pos == 16)=true) (hk:(h.code != 2)=false) :
    Calls Tryz.prog 120 #[.agg (cvals c v1 v2),.agg (hvals h)] w fun r w'=>StepO w w' lo v1 v2 ((c,grown8 h,true)) r:=by
  obtain ⟨y0,hy0⟩:∃ y0,grown8 h=y0:=⟨_,rfl⟩
  have GR:=Lib.hid fun W=>grown_any h W hcall hnx
  rw [hy0] at GR
  rw [hy0]
  clear hy0 hcall hnx
  have b1:=fun j (hj:v1.ownBlock=some j)=>(h1.lt j hj).2
  have b2:=fun j (hj:v2.ownBlock=some j)=>(h2.lt j hj).2
  obtain ⟨a1,q1,rfl,_⟩:=h1.seg
  obtain ⟨a2,q2,rfl,_⟩:=h2.seg
  have O1:=Lib.hid h1
  have O2:=Lib.hid h2
  clear h1 h2
  have o1:=O1.out
  have o2:=O2.out
  go_enter Tryz.func120,Tryz.ntmps120
  go_wp2
  go_step3
  go_wp2
  go_step3
  go_wp2
  refine wp_loop_rounds 2 ?_
  rw [rounds_succ]
  go_wp2_with fail
  rw [rounds_succ]
  go_wp2_with fail
  go_region_held3 (fun w'=>hp w' w.heap.size=some (.cells (cvals c (.slice a1 c.cells.length q1) (.slice a2 c.words.length q2)) 34)∧hp w' (w.heap.size+1)=some (.cells (hvals h) 38))
    (first|(simp [*,go_sem]))
    (first|((go_at_call 123;refine bHit w (by exact zB) fun bb=>?_;refine (GR.out _).mono ?_;rintro _ w2 ⟨rfl,hbw2⟩;have hCw2:Below w.heap.size w w2:=bT bb hbw2;have hsw2:=hbw2.size;(try simp at hsw2);have zz:=q4 hbw2 (b:=w.heap.size);(try simp [go_sem] at zz);(try clear z_wppp x_wppp f_wppp l_wppp);(try clear z_wpp x_wpp f_wpp l_wpp);(try clear z_wp x_wp f_wp l_wp);(try clear z_w x_w f_w l_w);obtain ⟨z_wppp,z_wpp,z_wp,z_w⟩:=zz;obtain ⟨x_wppp,f_wppp,l_wppp⟩:=bO z_wppp;obtain ⟨x_wpp,f_wpp,l_wpp⟩:=bO z_wpp;obtain ⟨x_wp,f_wp,l_wp⟩:=bO z_wp;obtain ⟨x_w,f_w,l_w⟩:=bO z_w;have hKw2:Below w.heap.size w w2:=hCw2;clear hbw2 bb);have r1:=own_below o1 hKw2;have r2:=own_below o2 hKw2))
  go_wp2
  try rw [Exit.noGoto_ret]
  refine bodyPost_ret (res_cct Tryz.results120 rfl (ldChan c (.slice a1 c.cells.length q1) (.slice a2 c.words.length q2) (by simp [go_sem, *] <;> rfl)) rfl (ldHand y0 (by simp [go_sem, *] <;> rfl))) rfl ⟨⟨_,_,rfl,?_,?_,fresh_refl _ _,fresh_refl _ _⟩,onlB (by exact zB)⟩
  · exact zO r1 o1
  · exact zO r2 o2
set_option maxRecDepth 100000 in
set_option maxHeartbeats 2000000 in
theorem growTouch_16c (c:Ch) (h:Ha) (v1 v2:Value) (lo:Nat) (w:World) (h1:OCells w lo v1 c.cells) (h2:OInts w lo v2 c.words) (hsr:0≤c.fin∧c.fin≤40) (hg:(c.cap == 0)=false) (hf:(c.fin == 40)=false) (hq:(h.pos == 16)=true) (hk:(h.code != 2)=false) :
    Calls Tryz.prog 120 #[.agg (cvals c v1 v2),.agg (hvals h)] w fun r w'=>StepO w w' lo v1 v2 (({ c with fin:=c.fin+1 },{ h with grow:=c.fin,pos:=17 },true)) r:=by
  have T:=Lib.hid fun W a b=>growNumber_any c h v1 v2 lo W a b hsr
  change Hid (∀ W,_→_→Calls _ _ _ _ (fun r w'=>StepO W w' lo v1 v2 (({ c with fin:=c.fin+1 },{ h with grow:=c.fin,pos:=17 },true)) r)) at T
  clear hsr
  generalize ({ c with fin:=c.fin+1 },{ h with grow:=c.fin,pos:=17 },true)=x at *
  have b1:=fun j (hj:v1.ownBlock=some j)=>(h1.lt j hj).2
  have b2:=fun j (hj:v2.ownBlock=some j)=>(h2.lt j hj).2
  have m1:∀ j,w.heap.size≤j→some j≠v1.ownBlock:=fun j hj e=>by have:=b1 _ e.symm;omega
  have m2:∀ j,w.heap.size≤j→some j≠v2.ownBlock:=fun j hj e=>by have:=b2 _ e.symm;omega
  have m10:=m1 (w.heap.size) (by omega)
  have m20:=m2 (w.heap.size) (by omega)
  have m11:=m1 (w.heap.size+1) (by omega)
  have m21:=m2 (w.heap.size+1) (by omega)
  have m12:=m1 (w.heap.size+1+1) (by omega)
  have m22:=m2 (w.heap.size+1+1) (by omega)
  have m13:=m1 (w.heap.size+1+1+1) (by omega)
  have m23:=m2 (w.heap.size+1+1+1) (by omega)
  have o1:=h1
  have o2:=h2
  obtain ⟨a1,q1,e1,_⟩:=h1.seg
  obtain ⟨a2,q2,e2,_⟩:=h2.seg
  subst e1 e2
  clear h1 h2
  go_enter Tryz.func120,Tryz.ntmps120
  go_wp2
  go_step3
  go_wp2
  go_step3
  go_wp2
  refine wp_loop_rounds 2 ?_
  rw [rounds_succ]
  go_wp2_with fail
  refine (T.out _ (by exact zO o1 o1) (by exact zO o2 o2)).mono ?_
  rintro _ w3 ⟨⟨y1,y2,rfl,oY1,oY2,fY1,fY2⟩,hO⟩
  have hO3:Onl (Value.slice a1 c.cells.length q1).ownBlock (Value.slice a2 c.words.length q2).ownBlock w w3:=onlT (onlB (by exact zB)) hO
  have hsw3:=hO.2.2.2.1;(try (simp at hsw3));have zz:=And.intro (onlHp hO (i:=w.heap.size+1+1+1) (by (try simp) <;> omega) (by assumption) (by assumption)) <| And.intro (onlHp hO (i:=w.heap.size+1+1) (by (try simp) <;> omega) (by assumption) (by assumption)) <| And.intro (onlHp hO (i:=w.heap.size+1) (by (try simp) <;> omega) (by assumption) (by assumption)) <| onlHp hO (i:=w.heap.size) (by (try simp) <;> omega) (by assumption) (by assumption);(try simp [go_sem] at zz);(try clear z_wppp x_wppp f_wppp l_wppp);(try clear z_wpp x_wpp f_wpp l_wpp);(try clear z_wp x_wp f_wp l_wp);(try clear z_w x_w f_w l_w);obtain ⟨z_wppp,z_wpp,z_wp,z_w⟩:=zz;obtain ⟨x_wppp,f_wppp,l_wppp⟩:=bO z_wppp;obtain ⟨x_wpp,f_wpp,l_wpp⟩:=bO z_wpp;obtain ⟨x_wp,f_wp,l_wp⟩:=bO z_wp;obtain ⟨x_w,f_w,l_w⟩:=bO z_w
  clear hO
  have hoff1:∀ j,w.heap.size≤j→j<w.heap.size+1+1+1+1→y1.ownBlock≠some j:=fun j h1 h2=>fY1.off b1 h1 (by (try simp) <;> omega);have hoff2:∀ j,w.heap.size≤j→j<w.heap.size+1+1+1+1→y2.ownBlock≠some j:=fun j h1 h2=>fY2.off b2 h1 (by (try simp) <;> omega);have fr1:Fresh w _ y1:=fun j hj=>(fY1 j hj).imp id (fun h=>Nat.le_trans (by (try simp) <;> omega) h);have fr2:Fresh w _ y2:=fun j hj=>(fY2 j hj).imp id (fun h=>Nat.le_trans (by (try simp) <;> omega) h);obtain ⟨ya,yp,rfl,_⟩:=oY1.seg;obtain ⟨yb,yq,rfl,_⟩:=oY2.seg
  go_wp2
  try rw [Exit.noGoto_ret]
  refine bodyPost_ret (res_cct Tryz.results120 rfl (ldChan x.1 (.slice ya x.1.cells.length yp) (.slice yb x.1.words.length yq) (by simp [go_sem, *])) rfl (ldHand x.2.1 (by simp [go_sem, *]))) rfl ⟨⟨_,_,rfl,?_,?_,fr1,fr2⟩,by (repeat (first|with_reducible assumption|with_reducible refine oA ?_|with_reducible refine oD ?_|((with_reducible refine oX ?_ ?_);rotate_left;(focus ((try dsimp only);(try simp);(try omega))))|((with_reducible refine oS ?_ ?_);rotate_left;(focus ((try dsimp only);(try simp);(try omega))))))⟩
  · exact zP oY1 oY1 hoff1
  · exact zP oY2 oY2 hoff2
set_option maxRecDepth 100000 in
set_option maxHeartbeats 2000000 in
theorem growTouch_17a (c:Ch) (h:Ha) (v1 v2:Value) (lo:Nat) (w:World) (h1:OCells w lo v1 c.cells) (h2:OInts w lo v2 c.words) (hg:c.sent≤h.grow) (hcall:callOk h.code h.elem=true) (hnx:0≤h.nxt∧h.nxt≤2) (hq:(h.pos == 17)=true) (hk:(h.code != 2)=false) :
    Calls Tryz.prog 120 #[.agg (cvals c v1 v2),.agg (hvals h)] w fun r w'=>StepO w w' lo v1 v2 ((c,grown8 h,true)) r:=by
  obtain ⟨y0,hy0⟩:∃ y0,grown8 h=y0:=⟨_,rfl⟩
  have GR:=Lib.hid fun W=>grown_any h W hcall hnx
  rw [hy0] at GR
  rw [hy0]
  clear hy0 hcall hnx
  have n16:(h.pos == 16)=false:=by simp at hq ⊢;omega
  have b1:=fun j (hj:v1.ownBlock=some j)=>(h1.lt j hj).2
  have b2:=fun j (hj:v2.ownBlock=some j)=>(h2.lt j hj).2
  obtain ⟨a1,q1,rfl,_⟩:=h1.seg
  obtain ⟨a2,q2,rfl,_⟩:=h2.seg
  have O1:=Lib.hid h1
  have O2:=Lib.hid h2
  clear h1 h2
  have o1:=O1.out
  have o2:=O2.out
  go_enter Tryz.func120,Tryz.ntmps120
  go_wp2
  go_step3
  go_wp2
  go_step3
  go_wp2
  refine wp_loop_rounds 2 ?_
  rw [rounds_succ]
  go_wp2_with fail
  rw [rounds_succ]
  go_wp2_with fail
  go_region_held3 (fun w'=>hp w' w.heap.size=some (.cells (cvals c (.slice a1 c.cells.length q1) (.slice a2 c.words.length q2)) 34)∧hp w' (w.heap.size+1)=some (.cells (hvals h) 38))
    (first|(simp [*,go_sem]))
    (first|((go_at_call 123;refine bHit w (by exact zB) fun bb=>?_;refine (GR.out _).mono ?_;rintro _ w2 ⟨rfl,hbw2⟩;have hCw2:Below w.heap.size w w2:=bT bb hbw2;have hsw2:=hbw2.size;(try simp at hsw2);have zz:=q4 hbw2 (b:=w.heap.size);(try simp [go_sem] at zz);(try clear z_wppp x_wppp f_wppp l_wppp);(try clear z_wpp x_wpp f_wpp l_wpp);(try clear z_wp x_wp f_wp l_wp);(try clear z_w x_w f_w l_w);obtain ⟨z_wppp,z_wpp,z_wp,z_w⟩:=zz;obtain ⟨x_wppp,f_wppp,l_wppp⟩:=bO z_wppp;obtain ⟨x_wpp,f_wpp,l_wpp⟩:=bO z_wpp;obtain ⟨x_wp,f_wp,l_wp⟩:=bO z_wp;obtain ⟨x_w,f_w,l_w⟩:=bO z_w;have hKw2:Below w.heap.size w w2:=hCw2;clear hbw2 bb);have r1:=own_below o1 hKw2;have r2:=own_below o2 hKw2))
  go_wp2
  try rw [Exit.noGoto_ret]
  refine bodyPost_ret (res_cct Tryz.results120 rfl (ldChan c (.slice a1 c.cells.length q1) (.slice a2 c.words.length q2) (by simp [go_sem, *] <;> rfl)) rfl (ldHand y0 (by simp [go_sem, *] <;> rfl))) rfl ⟨⟨_,_,rfl,?_,?_,fresh_refl _ _,fresh_refl _ _⟩,onlB (by exact zB)⟩
  · exact zO r1 o1
  · exact zO r2 o2
set_option maxRecDepth 100000 in
set_option maxHeartbeats 2000000 in
theorem growTouch_17b (c:Ch) (h:Ha) (v1 v2:Value) (lo:Nat) (w:World) (h1:OCells w lo v1 c.cells) (h2:OInts w lo v2 c.words) (hg:¬ c.sent≤h.grow) (hq:(h.pos == 17)=true) (hk:(h.code != 2)=false) :
    Calls Tryz.prog 120 #[.agg (cvals c v1 v2),.agg (hvals h)] w fun r w'=>StepO w w' lo v1 v2 ((c,{ h with pos:=18 },true)) r:=by
  have n16:(h.pos == 16)=false:=by simp at hq ⊢;omega
  have b1:=fun j (hj:v1.ownBlock=some j)=>(h1.lt j hj).2
  have b2:=fun j (hj:v2.ownBlock=some j)=>(h2.lt j hj).2
  obtain ⟨a1,q1,rfl,_⟩:=h1.seg
  obtain ⟨a2,q2,rfl,_⟩:=h2.seg
  have O1:=Lib.hid h1
  have O2:=Lib.hid h2
  clear h1 h2
  have o1:=O1.out
  have o2:=O2.out
  go_enter Tryz.func120,Tryz.ntmps120
  go_wp2
  go_step3
  go_wp2
  go_step3
  go_wp2
  refine wp_loop_rounds 2 ?_
  rw [rounds_succ]
  go_wp2_with fail
  go_region_held3 (fun w'=>hp w' w.heap.size=some (.cells (cvals c (.slice a1 c.cells.length q1) (.slice a2 c.words.length q2)) 34)∧hp w' (w.heap.size+1)=some (.cells (hvals h) 38))
    (first|(simp [*,go_sem]))
    (first|((go_at_call 86;refine bHit w (by exact zB) fun bb=>?_;refine (moved_any _ _ _).mono ?_;rintro _ w2 ⟨rfl,hbw2⟩;have hCw2:Below w.heap.size w w2:=bT bb hbw2;have hsw2:=hbw2.size;(try simp at hsw2);have zz:=q4 hbw2 (b:=w.heap.size);(try simp [go_sem] at zz);(try clear z_wppp x_wppp f_wppp l_wppp);(try clear z_wpp x_wpp f_wpp l_wpp);(try clear z_wp x_wp f_wp l_wp);(try clear z_w x_w f_w l_w);obtain ⟨z_wppp,z_wpp,z_wp,z_w⟩:=zz;obtain ⟨x_wppp,f_wppp,l_wppp⟩:=bO z_wppp;obtain ⟨x_wpp,f_wpp,l_wpp⟩:=bO z_wpp;obtain ⟨x_wp,f_wp,l_wp⟩:=bO z_wp;obtain ⟨x_w,f_w,l_w⟩:=bO z_w;have hKw2:Below w.heap.size w w2:=hCw2;clear hbw2 bb);have r1:=own_below o1 hKw2;have r2:=own_below o2 hKw2))
  go_wp2
  try rw [Exit.noGoto_ret]
  refine bodyPost_ret (res_cct Tryz.results120 rfl (ldChan c (.slice a1 c.cells.length q1) (.slice a2 c.words.length q2) (by simp [go_sem, *] <;> rfl)) rfl (ldHand { h with pos:=18 } (by simp [go_sem, *] <;> rfl))) rfl ⟨⟨_,_,rfl,?_,?_,fresh_refl _ _,fresh_refl _ _⟩,onlB (by exact zB)⟩
  · exact zO r1 o1
  · exact zO r2 o2
set_option maxRecDepth 100000 in
set_option maxHeartbeats 2000000 in
theorem growTouch_18_5 (c:Ch) (h:Ha) (v1 v2:Value) (lo:Nat) (w:World) (h1:OCells w lo v1 c.cells) (h2:OInts w lo v2 c.words) (hc0:0≤h.grow) (hc1:h.grow<c.cells.length) (hn:(cellAt c h.grow).s=5) (hq:(h.pos == 18)=true) (hk:(h.code != 2)=false) :
    Calls Tryz.prog 120 #[.agg (cvals c v1 v2),.agg (hvals h)] w fun r w'=>StepO w w' lo v1 v2 ((c,h,false)) r:=by
  have n16:(h.pos == 16)=false:=by simp at hq ⊢;omega
  have n17:(h.pos == 17)=false:=by simp at hq ⊢;omega
  obtain ⟨i,hci⟩:∃ i:Nat,h.grow=(i:Int):=⟨h.grow.toNat,by omega⟩
  have hi:i<c.cells.length:=by omega
  have hi0:(0:Int)≤(i:Int):=by omega
  have hi1:(i:Int)<(c.cells.length:Int):=by omega
  have hne:=h1.ne h2
  obtain ⟨a2,q2,rfl,_⟩:=h2.seg
  obtain ⟨g,q1,rfl,hlo1,hlt,hcell,hfr⟩:=h1.open1 hi
  have O1:=Lib.hid h1
  have O2:=Lib.hid h2
  have lg0:g<w.heap.size+1:=by omega
  have lg1:g<w.heap.size+1+1:=by omega
  have lg2:g<w.heap.size+1+1+1:=by omega
  have ng0:g≠w.heap.size:=by omega
  have ng1:g≠w.heap.size+1:=by omega
  have ng2:g≠w.heap.size+1+1:=by omega
  have ng3:g≠w.heap.size+1+1+1:=by omega
  have mg0:w.heap.size≠g:=by omega
  have mg1:w.heap.size+1≠g:=by omega
  have mg2:w.heap.size+1+1≠g:=by omega
  have mg3:w.heap.size+1+1+1≠g:=by omega
  have hx:Hid (cellAt c h.grow=c.cells.getD i ⟨0,0,0⟩):=by simp [cellAt,Hid,hci]
  have c0:=hcell 0 (by omega)
  have c1:=hcell 1 (by omega)
  have c2:=hcell 2 (by omega)
  simp only [C3.val,Nat.add_zero] at c0 c1 c2
  have ex:=hx.out
  rw [ex] at hn
  generalize c.cells.getD i ⟨0,0,0⟩=x at *
  obtain ⟨s,e,t⟩:=x
  simp only at hn c0 c1 c2
  subst hn
  clear hx ex hcell h1 h2
  have o1:=O1.out
  have o2:=O2.out
  go_enter Tryz.func120,Tryz.ntmps120
  go_wp2
  go_step3
  go_wp2
  go_step3
  go_wp2
  refine wp_loop_rounds 2 ?_
  rw [rounds_succ]
  have r1:=o1
  have r2:=o2
  go_wp2_with fail
  go_region
  go_wp2
  try rw [Exit.noGoto_ret]
  refine bodyPost_ret (res_cct Tryz.results120 rfl (ldChan c (.slice (some ⟨g,0,none⟩) c.cells.length q1) (.slice a2 c.words.length q2) (by simp [go_sem, *] <;> rfl)) rfl (ldHand h (by simp [go_sem, *] <;> first|rfl|simp [seenAs,hci]))) rfl ⟨⟨_,_,rfl,?_,?_,fresh_refl _ _,fresh_refl _ _⟩,onlB (by exact zB)⟩
  · exact zO r1 o1
  · exact zO r2 o2
set_option maxRecDepth 100000 in
set_option maxHeartbeats 2000000 in
theorem growTouch_18_0 (c:Ch) (h:Ha) (v1 v2:Value) (lo:Nat) (w:World) (h1:OCells w lo v1 c.cells) (h2:OInts w lo v2 c.words) (hc0:0≤h.grow) (hc1:h.grow<c.cells.length) (hn:(cellAt c h.grow).s=0) (hq:(h.pos == 18)=true) (hk:(h.code != 2)=false) :
    Calls Tryz.prog 120 #[.agg (cvals c v1 v2),.agg (hvals h)] w fun r w'=>StepO w w' lo v1 v2 ((c,{ seenAs h (cellAt c h.grow) with pos:=19 },true)) r:=by
  have n16:(h.pos == 16)=false:=by simp at hq ⊢;omega
  have n17:(h.pos == 17)=false:=by simp at hq ⊢;omega
  obtain ⟨i,hci⟩:∃ i:Nat,h.grow=(i:Int):=⟨h.grow.toNat,by omega⟩
  have hi:i<c.cells.length:=by omega
  have hi0:(0:Int)≤(i:Int):=by omega
  have hi1:(i:Int)<(c.cells.length:Int):=by omega
  have hne:=h1.ne h2
  obtain ⟨a2,q2,rfl,_⟩:=h2.seg
  obtain ⟨g,q1,rfl,hlo1,hlt,hcell,hfr⟩:=h1.open1 hi
  have O1:=Lib.hid h1
  have O2:=Lib.hid h2
  have lg0:g<w.heap.size+1:=by omega
  have lg1:g<w.heap.size+1+1:=by omega
  have lg2:g<w.heap.size+1+1+1:=by omega
  have ng0:g≠w.heap.size:=by omega
  have ng1:g≠w.heap.size+1:=by omega
  have ng2:g≠w.heap.size+1+1:=by omega
  have ng3:g≠w.heap.size+1+1+1:=by omega
  have mg0:w.heap.size≠g:=by omega
  have mg1:w.heap.size+1≠g:=by omega
  have mg2:w.heap.size+1+1≠g:=by omega
  have mg3:w.heap.size+1+1+1≠g:=by omega
  have hx:Hid (cellAt c h.grow=c.cells.getD i ⟨0,0,0⟩):=by simp [cellAt,Hid,hci]
  have c0:=hcell 0 (by omega)
  have c1:=hcell 1 (by omega)
  have c2:=hcell 2 (by omega)
  simp only [C3.val,Nat.add_zero] at c0 c1 c2
  have ex:=hx.out
  rw [ex] at hn ⊢
  generalize c.cells.getD i ⟨0,0,0⟩=x at *
  obtain ⟨s,e,t⟩:=x
  simp only at hn c0 c1 c2
  subst hn
  clear hx ex hcell h1 h2
  have o1:=O1.out
  have o2:=O2.out
  go_enter Tryz.func120,Tryz.ntmps120
  go_wp2
  go_step3
  go_wp2
  go_step3
  go_wp2
  refine wp_loop_rounds 2 ?_
  rw [rounds_succ]
  go_wp2_with fail;refine bHit w (by exact zB) fun bb=>?_;refine (saw_any h 0 e t _).mono ?_;rintro _ w1 ⟨rfl,hbw1⟩;have hCw1:Below w.heap.size w w1:=bT bb hbw1;have hsw1:=hbw1.size;(try simp at hsw1);have zz:=And.intro (hQ hbw1 (b:=w.heap.size+1+1+1+1)) <| And.intro (hQ hbw1 (b:=w.heap.size+1+1+1)) <| And.intro (hQ hbw1 (b:=w.heap.size+1+1)) <| And.intro (hQ hbw1 (b:=w.heap.size+1)) <| hQ hbw1 (b:=w.heap.size);(try simp [go_sem] at zz);(try clear z_wpppp x_wpppp f_wpppp l_wpppp);(try clear z_wppp x_wppp f_wppp l_wppp);(try clear z_wpp x_wpp f_wpp l_wpp);(try clear z_wp x_wp f_wp l_wp);(try clear z_w x_w f_w l_w);obtain ⟨z_wpppp,z_wppp,z_wpp,z_wp,z_w⟩:=zz;obtain ⟨x_wpppp,f_wpppp,l_wpppp⟩:=bO z_wpppp;obtain ⟨x_wppp,f_wppp,l_wppp⟩:=bO z_wppp;obtain ⟨x_wpp,f_wpp,l_wpp⟩:=bO z_wpp;obtain ⟨x_wp,f_wp,l_wp⟩:=bO z_wp;obtain ⟨x_w,f_w,l_w⟩:=bO z_w;have hKw1:Below w.heap.size w w1:=hCw1;clear hbw1 bb
  have p1:=own_below o1 hKw1
  have p2:=own_below o2 hKw1
  have k0:w.heap.size<w1.heap.size:=by omega
  have k1:w.heap.size+1<w1.heap.size:=by omega
  have k2:w.heap.size+1+1<w1.heap.size:=by omega
  have k3:w.heap.size+1+1+1<w1.heap.size:=by omega
  have k4:w.heap.size+1+1+1+1<w1.heap.size:=by omega
  go_wp2_with fail
  go_region_held3 (fun w'=>hp w' w.heap.size=some (.cells (cvals c (.slice (some ⟨g,0,none⟩) c.cells.length q1) (.slice a2 c.words.length q2)) 34)∧hp w' (w.heap.size+1)=some (.cells (hvals { h with grow:=(i:Int),seen:=0,wait:=t }) 38))
    (first|(simp [*,go_sem]))
    (first|((go_at_call 86;refine bHit w (by exact zB) fun bb=>?_;refine (moved_any _ _ _).mono ?_;rintro _ w2 ⟨rfl,hbw2⟩;have hCw2:Below w.heap.size w w2:=bT bb hbw2;have hsw2:=hbw2.size;(try simp at hsw2);have zz:=q4 hbw2 (b:=w.heap.size);(first|simp [go_sem,z_wppp,z_wpp,z_wp,z_w,l_w,l_wp,l_wpp,l_wppp,k0,k1,k2,k3,k4] at zz|simp [go_sem] at zz|skip);(try clear z_wppp x_wppp f_wppp l_wppp);(try clear z_wpp x_wpp f_wpp l_wpp);(try clear z_wp x_wp f_wp l_wp);(try clear z_w x_w f_w l_w);obtain ⟨z_wppp,z_wpp,z_wp,z_w⟩:=zz;obtain ⟨x_wppp,f_wppp,l_wppp⟩:=bO z_wppp;obtain ⟨x_wpp,f_wpp,l_wpp⟩:=bO z_wpp;obtain ⟨x_wp,f_wp,l_wp⟩:=bO z_wp;obtain ⟨x_w,f_w,l_w⟩:=bO z_w;have hKw2:Below w.heap.size w w2:=hCw2;clear hbw2 bb);have r1:=own_below o1 hKw2;have r2:=own_below o2 hKw2))
  go_wp2
  try rw [Exit.noGoto_ret]
  refine bodyPost_ret (res_cct Tryz.results120 rfl (ldChan c (.slice (some ⟨g,0,none⟩) c.cells.length q1) (.slice a2 c.words.length q2) (by simp [go_sem, *] <;> rfl)) rfl (ldHand { seenAs h ⟨0,e,t⟩ with pos:=19 } (by simp [go_sem, *] <;> first|rfl|simp [seenAs,hci]))) rfl ⟨⟨_,_,rfl,?_,?_,fresh_refl _ _,fresh_refl _ _⟩,onlB (by exact zB)⟩
  · exact zO r1 o1
  · exact zO r2 o2
set_option maxRecDepth 100000 in
set_option maxHeartbeats 2000000 in
theorem growTouch_18_3 (c:Ch) (h:Ha) (v1 v2:Value) (lo:Nat) (w:World) (h1:OCells w lo v1 c.cells) (h2:OInts w lo v2 c.words) (hc0:0≤h.grow) (hc1:h.grow<c.cells.length) (hn:(cellAt c h.grow).s=3) (hq:(h.pos == 18)=true) (hk:(h.code != 2)=false) :
    Calls Tryz.prog 120 #[.agg (cvals c v1 v2),.agg (hvals h)] w fun r w'=>StepO w w' lo v1 v2 ((c,{ seenAs h (cellAt c h.grow) with pos:=19 },true)) r:=by
  have n16:(h.pos == 16)=false:=by simp at hq ⊢;omega
  have n17:(h.pos == 17)=false:=by simp at hq ⊢;omega
  obtain ⟨i,hci⟩:∃ i:Nat,h.grow=(i:Int):=⟨h.grow.toNat,by omega⟩
  have hi:i<c.cells.length:=by omega
  have hi0:(0:Int)≤(i:Int):=by omega
  have hi1:(i:Int)<(c.cells.length:Int):=by omega
  have hne:=h1.ne h2
  obtain ⟨a2,q2,rfl,_⟩:=h2.seg
  obtain ⟨g,q1,rfl,hlo1,hlt,hcell,hfr⟩:=h1.open1 hi
  have O1:=Lib.hid h1
  have O2:=Lib.hid h2
  have lg0:g<w.heap.size+1:=by omega
  have lg1:g<w.heap.size+1+1:=by omega
  have lg2:g<w.heap.size+1+1+1:=by omega
  have ng0:g≠w.heap.size:=by omega
  have ng1:g≠w.heap.size+1:=by omega
  have ng2:g≠w.heap.size+1+1:=by omega
  have ng3:g≠w.heap.size+1+1+1:=by omega
  have mg0:w.heap.size≠g:=by omega
  have mg1:w.heap.size+1≠g:=by omega
  have mg2:w.heap.size+1+1≠g:=by omega
  have mg3:w.heap.size+1+1+1≠g:=by omega
  have hx:Hid (cellAt c h.grow=c.cells.getD i ⟨0,0,0⟩):=by simp [cellAt,Hid,hci]
  have c0:=hcell 0 (by omega)
  have c1:=hcell 1 (by omega)
  have c2:=hcell 2 (by omega)
  simp only [C3.val,Nat.add_zero] at c0 c1 c2
  have ex:=hx.out
  rw [ex] at hn ⊢
  generalize c.cells.getD i ⟨0,0,0⟩=x at *
  obtain ⟨s,e,t⟩:=x
  simp only at hn c0 c1 c2
  subst hn
  clear hx ex hcell h1 h2
  have o1:=O1.out
  have o2:=O2.out
  go_enter Tryz.func120,Tryz.ntmps120
  go_wp2
  go_step3
  go_wp2
  go_step3
  go_wp2
  refine wp_loop_rounds 2 ?_
  rw [rounds_succ]
  go_wp2_with fail;refine bHit w (by exact zB) fun bb=>?_;refine (saw_any h 3 e t _).mono ?_;rintro _ w1 ⟨rfl,hbw1⟩;have hCw1:Below w.heap.size w w1:=bT bb hbw1;have hsw1:=hbw1.size;(try simp at hsw1);have zz:=And.intro (hQ hbw1 (b:=w.heap.size+1+1+1+1)) <| And.intro (hQ hbw1 (b:=w.heap.size+1+1+1)) <| And.intro (hQ hbw1 (b:=w.heap.size+1+1)) <| And.intro (hQ hbw1 (b:=w.heap.size+1)) <| hQ hbw1 (b:=w.heap.size);(try simp [go_sem] at zz);(try clear z_wpppp x_wpppp f_wpppp l_wpppp);(try clear z_wppp x_wppp f_wppp l_wppp);(try clear z_wpp x_wpp f_wpp l_wpp);(try clear z_wp x_wp f_wp l_wp);(try clear z_w x_w f_w l_w);obtain ⟨z_wpppp,z_wppp,z_wpp,z_wp,z_w⟩:=zz;obtain ⟨x_wpppp,f_wpppp,l_wpppp⟩:=bO z_wpppp;obtain ⟨x_wppp,f_wppp,l_wppp⟩:=bO z_wppp;obtain ⟨x_wpp,f_wpp,l_wpp⟩:=bO z_wpp;obtain ⟨x_wp,f_wp,l_wp⟩:=bO z_wp;obtain ⟨x_w,f_w,l_w⟩:=bO z_w;have hKw1:Below w.heap.size w w1:=hCw1;clear hbw1 bb
  have p1:=own_below o1 hKw1
  have p2:=own_below o2 hKw1
  have k0:w.heap.size<w1.heap.size:=by omega
  have k1:w.heap.size+1<w1.heap.size:=by omega
  have k2:w.heap.size+1+1<w1.heap.size:=by omega
  have k3:w.heap.size+1+1+1<w1.heap.size:=by omega
  have k4:w.heap.size+1+1+1+1<w1.heap.size:=by omega
  go_wp2_with fail
  go_region_held3 (fun w'=>hp w' w.heap.size=some (.cells (cvals c (.slice (some ⟨g,0,none⟩) c.cells.length q1) (.slice a2 c.words.length q2)) 34)∧hp w' (w.heap.size+1)=some (.cells (hvals { h with grow:=(i:Int),seen:=3,wait:=t }) 38))
    (first|(simp [*,go_sem]))
    (first|((go_at_call 86;refine bHit w (by exact zB) fun bb=>?_;refine (moved_any _ _ _).mono ?_;rintro _ w2 ⟨rfl,hbw2⟩;have hCw2:Below w.heap.size w w2:=bT bb hbw2;have hsw2:=hbw2.size;(try simp at hsw2);have zz:=q4 hbw2 (b:=w.heap.size);(first|simp [go_sem,z_wppp,z_wpp,z_wp,z_w,l_w,l_wp,l_wpp,l_wppp,k0,k1,k2,k3,k4] at zz|simp [go_sem] at zz|skip);(try clear z_wppp x_wppp f_wppp l_wppp);(try clear z_wpp x_wpp f_wpp l_wpp);(try clear z_wp x_wp f_wp l_wp);(try clear z_w x_w f_w l_w);obtain ⟨z_wppp,z_wpp,z_wp,z_w⟩:=zz;obtain ⟨x_wppp,f_wppp,l_wppp⟩:=bO z_wppp;obtain ⟨x_wpp,f_wpp,l_wpp⟩:=bO z_wpp;obtain ⟨x_wp,f_wp,l_wp⟩:=bO z_wp;obtain ⟨x_w,f_w,l_w⟩:=bO z_w;have hKw2:Below w.heap.size w w2:=hCw2;clear hbw2 bb);have r1:=own_below o1 hKw2;have r2:=own_below o2 hKw2))
  go_wp2
  try rw [Exit.noGoto_ret]
  refine bodyPost_ret (res_cct Tryz.results120 rfl (ldChan c (.slice (some ⟨g,0,none⟩) c.cells.length q1) (.slice a2 c.words.length q2) (by simp [go_sem, *] <;> rfl)) rfl (ldHand { seenAs h ⟨3,e,t⟩ with pos:=19 } (by simp [go_sem, *] <;> first|rfl|simp [seenAs,hci]))) rfl ⟨⟨_,_,rfl,?_,?_,fresh_refl _ _,fresh_refl _ _⟩,onlB (by exact zB)⟩
  · exact zO r1 o1
  · exact zO r2 o2
set_option maxRecDepth 100000 in
set_option maxHeartbeats 2000000 in
theorem growTouch_18_9 (c:Ch) (h:Ha) (v1 v2:Value) (lo:Nat) (w:World) (h1:OCells w lo v1 c.cells) (h2:OInts w lo v2 c.words) (hc0:0≤h.grow) (hc1:h.grow<c.cells.length) (hn:(cellAt c h.grow).s=9) (hq:(h.pos == 18)=true) (hk:(h.code != 2)=false) :
    Calls Tryz.prog 120 #[.agg (cvals c v1 v2),.agg (hvals h)] w fun r w'=>StepO w w' lo v1 v2 ((c,{ seenAs h (cellAt c h.grow) with pos:=16 },true)) r:=by
  have n16:(h.pos == 16)=false:=by simp at hq ⊢;omega
  have n17:(h.pos == 17)=false:=by simp at hq ⊢;omega
  obtain ⟨i,hci⟩:∃ i:Nat,h.grow=(i:Int):=⟨h.grow.toNat,by omega⟩
  have hi:i<c.cells.length:=by omega
  have hi0:(0:Int)≤(i:Int):=by omega
  have hi1:(i:Int)<(c.cells.length:Int):=by omega
  have hne:=h1.ne h2
  obtain ⟨a2,q2,rfl,_⟩:=h2.seg
  obtain ⟨g,q1,rfl,hlo1,hlt,hcell,hfr⟩:=h1.open1 hi
  have O1:=Lib.hid h1
  have O2:=Lib.hid h2
  have lg0:g<w.heap.size+1:=by omega
  have lg1:g<w.heap.size+1+1:=by omega
  have lg2:g<w.heap.size+1+1+1:=by omega
  have ng0:g≠w.heap.size:=by omega
  have ng1:g≠w.heap.size+1:=by omega
  have ng2:g≠w.heap.size+1+1:=by omega
  have ng3:g≠w.heap.size+1+1+1:=by omega
  have mg0:w.heap.size≠g:=by omega
  have mg1:w.heap.size+1≠g:=by omega
  have mg2:w.heap.size+1+1≠g:=by omega
  have mg3:w.heap.size+1+1+1≠g:=by omega
  have hx:Hid (cellAt c h.grow=c.cells.getD i ⟨0,0,0⟩):=by simp [cellAt,Hid,hci]
  have c0:=hcell 0 (by omega)
  have c1:=hcell 1 (by omega)
  have c2:=hcell 2 (by omega)
  simp only [C3.val,Nat.add_zero] at c0 c1 c2
  have ex:=hx.out
  rw [ex] at hn ⊢
  generalize c.cells.getD i ⟨0,0,0⟩=x at *
  obtain ⟨s,e,t⟩:=x
  simp only at hn c0 c1 c2
  subst hn
  clear hx ex hcell h1 h2
  have o1:=O1.out
  have o2:=O2.out
  go_enter Tryz.func120,Tryz.ntmps120
  go_wp2
  go_step3
  go_wp2
  go_step3
  go_wp2
  refine wp_loop_rounds 2 ?_
  rw [rounds_succ]
  go_wp2_with fail;refine bHit w (by exact zB) fun bb=>?_;refine (saw_any h 9 e t _).mono ?_;rintro _ w1 ⟨rfl,hbw1⟩;have hCw1:Below w.heap.size w w1:=bT bb hbw1;have hsw1:=hbw1.size;(try simp at hsw1);have zz:=And.intro (hQ hbw1 (b:=w.heap.size+1+1+1+1)) <| And.intro (hQ hbw1 (b:=w.heap.size+1+1+1)) <| And.intro (hQ hbw1 (b:=w.heap.size+1+1)) <| And.intro (hQ hbw1 (b:=w.heap.size+1)) <| hQ hbw1 (b:=w.heap.size);(try simp [go_sem] at zz);(try clear z_wpppp x_wpppp f_wpppp l_wpppp);(try clear z_wppp x_wppp f_wppp l_wppp);(try clear z_wpp x_wpp f_wpp l_wpp);(try clear z_wp x_wp f_wp l_wp);(try clear z_w x_w f_w l_w);obtain ⟨z_wpppp,z_wppp,z_wpp,z_wp,z_w⟩:=zz;obtain ⟨x_wpppp,f_wpppp,l_wpppp⟩:=bO z_wpppp;obtain ⟨x_wppp,f_wppp,l_wppp⟩:=bO z_wppp;obtain ⟨x_wpp,f_wpp,l_wpp⟩:=bO z_wpp;obtain ⟨x_wp,f_wp,l_wp⟩:=bO z_wp;obtain ⟨x_w,f_w,l_w⟩:=bO z_w;have hKw1:Below w.heap.size w w1:=hCw1;clear hbw1 bb
  have p1:=own_below o1 hKw1
  have p2:=own_below o2 hKw1
  have k0:w.heap.size<w1.heap.size:=by omega
  have k1:w.heap.size+1<w1.heap.size:=by omega
  have k2:w.heap.size+1+1<w1.heap.size:=by omega
  have k3:w.heap.size+1+1+1<w1.heap.size:=by omega
  have k4:w.heap.size+1+1+1+1<w1.heap.size:=by omega
  go_wp2_with fail
  go_region_held3 (fun w'=>hp w' w.heap.size=some (.cells (cvals c (.slice (some ⟨g,0,none⟩) c.cells.length q1) (.slice a2 c.words.length q2)) 34)∧hp w' (w.heap.size+1)=some (.cells (hvals { h with grow:=(i:Int),seen:=9,wait:=t }) 38))
    (first|(simp [*,go_sem]))
    (first|((go_at_call 86;refine bHit w (by exact zB) fun bb=>?_;refine (moved_any _ _ _).mono ?_;rintro _ w2 ⟨rfl,hbw2⟩;have hCw2:Below w.heap.size w w2:=bT bb hbw2;have hsw2:=hbw2.size;(try simp at hsw2);have zz:=q4 hbw2 (b:=w.heap.size);(first|simp [go_sem,z_wppp,z_wpp,z_wp,z_w,l_w,l_wp,l_wpp,l_wppp,k0,k1,k2,k3,k4] at zz|simp [go_sem] at zz|skip);(try clear z_wppp x_wppp f_wppp l_wppp);(try clear z_wpp x_wpp f_wpp l_wpp);(try clear z_wp x_wp f_wp l_wp);(try clear z_w x_w f_w l_w);obtain ⟨z_wppp,z_wpp,z_wp,z_w⟩:=zz;obtain ⟨x_wppp,f_wppp,l_wppp⟩:=bO z_wppp;obtain ⟨x_wpp,f_wpp,l_wpp⟩:=bO z_wpp;obtain ⟨x_wp,f_wp,l_wp⟩:=bO z_wp;obtain ⟨x_w,f_w,l_w⟩:=bO z_w;have hKw2:Below w.heap.size w w2:=hCw2;clear hbw2 bb);have r1:=own_below o1 hKw2;have r2:=own_below o2 hKw2))
  go_wp2
  try rw [Exit.noGoto_ret]
  refine bodyPost_ret (res_cct Tryz.results120 rfl (ldChan c (.slice (some ⟨g,0,none⟩) c.cells.length q1) (.slice a2 c.words.length q2) (by simp [go_sem, *] <;> rfl)) rfl (ldHand { seenAs h ⟨9,e,t⟩ with pos:=16 } (by simp [go_sem, *] <;> first|rfl|simp [seenAs,hci]))) rfl ⟨⟨_,_,rfl,?_,?_,fresh_refl _ _,fresh_refl _ _⟩,onlB (by exact zB)⟩
  · exact zO r1 o1
  · exact zO r2 o2
set_option maxRecDepth 100000 in
set_option maxHeartbeats 2000000 in
theorem growTouch_18_g (c:Ch) (h:Ha) (v1 v2:Value) (lo:Nat) (w:World) (h1:OCells w lo v1 c.cells) (h2:OInts w lo v2 c.words) (hc0:0≤h.grow) (hc1:h.grow<c.cells.length) (s5:((cellAt c h.grow).s == 5)=false) (s0:((cellAt c h.grow).s == 0)=false) (s3:((cellAt c h.grow).s == 3)=false) (s9:((cellAt c h.grow).s == 9)=false) (hcall:callOk h.code h.elem=true) (hnx:0≤h.nxt∧h.nxt≤2) (hq:(h.pos == 18)=true) (hk:(h.code != 2)=false) :
    Calls Tryz.prog 120 #[.agg (cvals c v1 v2),.agg (hvals h)] w fun r w'=>StepO w w' lo v1 v2 ((c,grown8 (seenAs h (cellAt c h.grow)),true)) r:=by
  have n16:(h.pos == 16)=false:=by simp at hq ⊢;omega
  have n17:(h.pos == 17)=false:=by simp at hq ⊢;omega
  obtain ⟨i,hci⟩:∃ i:Nat,h.grow=(i:Int):=⟨h.grow.toNat,by omega⟩
  have hi:i<c.cells.length:=by omega
  have hi0:(0:Int)≤(i:Int):=by omega
  have hi1:(i:Int)<(c.cells.length:Int):=by omega
  have hne:=h1.ne h2
  obtain ⟨a2,q2,rfl,_⟩:=h2.seg
  obtain ⟨g,q1,rfl,hlo1,hlt,hcell,hfr⟩:=h1.open1 hi
  have O1:=Lib.hid h1
  have O2:=Lib.hid h2
  have lg0:g<w.heap.size+1:=by omega
  have lg1:g<w.heap.size+1+1:=by omega
  have lg2:g<w.heap.size+1+1+1:=by omega
  have ng0:g≠w.heap.size:=by omega
  have ng1:g≠w.heap.size+1:=by omega
  have ng2:g≠w.heap.size+1+1:=by omega
  have ng3:g≠w.heap.size+1+1+1:=by omega
  have mg0:w.heap.size≠g:=by omega
  have mg1:w.heap.size+1≠g:=by omega
  have mg2:w.heap.size+1+1≠g:=by omega
  have mg3:w.heap.size+1+1+1≠g:=by omega
  have hx:Hid (cellAt c h.grow=c.cells.getD i ⟨0,0,0⟩):=by simp [cellAt,Hid,hci]
  have c0:=hcell 0 (by omega)
  have c1:=hcell 1 (by omega)
  have c2:=hcell 2 (by omega)
  simp only [C3.val,Nat.add_zero] at c0 c1 c2
  have ex:=hx.out
  rw [ex] at s5 s0 s3 s9 ⊢
  generalize c.cells.getD i ⟨0,0,0⟩=x at *
  obtain ⟨s,e,t⟩:=x
  simp only at s5 s0 s3 s9 c0 c1 c2
  clear hx ex hcell h1 h2
  obtain ⟨y0,hy0⟩:∃ y0,grown8 { h with grow:=(i:Int),seen:=s,wait:=t }=y0:=⟨_,rfl⟩
  have GR:=Lib.hid fun W=>grown_any { h with grow:=(i:Int),seen:=s,wait:=t } W hcall hnx
  rw [show seenAs h ⟨s,e,t⟩={ h with grow:=(i:Int),seen:=s,wait:=t } by rw [← hci];rfl]
  rw [hy0] at GR
  rw [hy0]
  clear hy0 hcall hnx
  have o1:=O1.out
  have o2:=O2.out
  go_enter Tryz.func120,Tryz.ntmps120
  go_wp2
  go_step3
  go_wp2
  go_step3
  go_wp2
  refine wp_loop_rounds 2 ?_
  rw [rounds_succ]
  go_wp2_with fail;refine bHit w (by exact zB) fun bb=>?_;refine (saw_any h s e t _).mono ?_;rintro _ w1 ⟨rfl,hbw1⟩;have hCw1:Below w.heap.size w w1:=bT bb hbw1;have hsw1:=hbw1.size;(try simp at hsw1);have zz:=And.intro (hQ hbw1 (b:=w.heap.size+1+1+1+1)) <| And.intro (hQ hbw1 (b:=w.heap.size+1+1+1)) <| And.intro (hQ hbw1 (b:=w.heap.size+1+1)) <| And.intro (hQ hbw1 (b:=w.heap.size+1)) <| hQ hbw1 (b:=w.heap.size);(try simp [go_sem] at zz);(try clear z_wpppp x_wpppp f_wpppp l_wpppp);(try clear z_wppp x_wppp f_wppp l_wppp);(try clear z_wpp x_wpp f_wpp l_wpp);(try clear z_wp x_wp f_wp l_wp);(try clear z_w x_w f_w l_w);obtain ⟨z_wpppp,z_wppp,z_wpp,z_wp,z_w⟩:=zz;obtain ⟨x_wpppp,f_wpppp,l_wpppp⟩:=bO z_wpppp;obtain ⟨x_wppp,f_wppp,l_wppp⟩:=bO z_wppp;obtain ⟨x_wpp,f_wpp,l_wpp⟩:=bO z_wpp;obtain ⟨x_wp,f_wp,l_wp⟩:=bO z_wp;obtain ⟨x_w,f_w,l_w⟩:=bO z_w;have hKw1:Below w.heap.size w w1:=hCw1;clear hbw1 bb
  have p1:=own_below o1 hKw1
  have p2:=own_below o2 hKw1
  have k0:w.heap.size<w1.heap.size:=by omega
  have k1:w.heap.size+1<w1.heap.size:=by omega
  have k2:w.heap.size+1+1<w1.heap.size:=by omega
  have k3:w.heap.size+1+1+1<w1.heap.size:=by omega
  have k4:w.heap.size+1+1+1+1<w1.heap.size:=by omega
  go_wp2_with fail
  rw [rounds_succ]
  go_wp2_with fail
  go_region_held3 (fun w'=>hp w' w.heap.size=some (.cells (cvals c (.slice (some ⟨g,0,none⟩) c.cells.length q1) (.slice a2 c.words.length q2)) 34)∧hp w' (w.heap.size+1)=some (.cells (hvals { h with grow:=(i:Int),seen:=s,wait:=t }) 38))
    (first|(simp [*,go_sem]))
    (first|((go_at_call 123;refine bHit w (by exact zB) fun bb=>?_;refine (GR.out _).mono ?_;rintro _ w2 ⟨rfl,hbw2⟩;have hCw2:Below w.heap.size w w2:=bT bb hbw2;have hsw2:=hbw2.size;(try simp at hsw2);have zz:=q4 hbw2 (b:=w.heap.size);(first|simp [go_sem,z_wppp,z_wpp,z_wp,z_w,l_w,l_wp,l_wpp,l_wppp,k0,k1,k2,k3,k4] at zz|simp [go_sem] at zz|skip);(try clear z_wppp x_wppp f_wppp l_wppp);(try clear z_wpp x_wpp f_wpp l_wpp);(try clear z_wp x_wp f_wp l_wp);(try clear z_w x_w f_w l_w);obtain ⟨z_wppp,z_wpp,z_wp,z_w⟩:=zz;obtain ⟨x_wppp,f_wppp,l_wppp⟩:=bO z_wppp;obtain ⟨x_wpp,f_wpp,l_wpp⟩:=bO z_wpp;obtain ⟨x_wp,f_wp,l_wp⟩:=bO z_wp;obtain ⟨x_w,f_w,l_w⟩:=bO z_w;have hKw2:Below w.heap.size w w2:=hCw2;clear hbw2 bb);have r1:=own_below o1 hKw2;have r2:=own_below o2 hKw2))
  go_wp2
  try rw [Exit.noGoto_ret]
  refine bodyPost_ret (res_cct Tryz.results120 rfl (ldChan c (.slice (some ⟨g,0,none⟩) c.cells.length q1) (.slice a2 c.words.length q2) (by simp [go_sem, *] <;> rfl)) rfl (ldHand y0 (by simp [go_sem, *] <;> first|rfl|simp [seenAs,hci]))) rfl ⟨⟨_,_,rfl,?_,?_,fresh_refl _ _,fresh_refl _ _⟩,onlB (by exact zB)⟩
  · exact zO r1 o1
  · exact zO r2 o2
set_option maxRecDepth 100000 in
set_option maxHeartbeats 2000000 in
theorem growTouch_19c (c:Ch) (h:Ha) (v1 v2:Value) (lo:Nat) (w:World) (h1:OCells w lo v1 c.cells) (h2:OInts w lo v2 c.words) (hc0:0≤h.grow) (hc1:h.grow<c.cells.length) (hs:(h.seen != 0)=true) (hq:(h.pos == 19)=true) (hk:(h.code != 2)=false) :
    Calls Tryz.prog 120 #[.agg (cvals c v1 v2),.agg (hvals h)] w fun r w'=>StepO w w' lo v1 v2 (callG c h) r:=by
  have T:=Lib.hid fun W a b=>growCall_any c h v1 v2 lo W a b hc0 hc1
  change Hid (∀ W,_→_→Calls _ _ _ _ (fun r w'=>StepO W w' lo v1 v2 (callG c h) r)) at T
  clear hc0 hc1
  have n16:(h.pos == 16)=false:=by simp at hq ⊢;omega
  have n17:(h.pos == 17)=false:=by simp at hq ⊢;omega
  have n18:(h.pos == 18)=false:=by simp at hq ⊢;omega
  generalize callG c h=x at *
  have b1:=fun j (hj:v1.ownBlock=some j)=>(h1.lt j hj).2
  have b2:=fun j (hj:v2.ownBlock=some j)=>(h2.lt j hj).2
  have m1:∀ j,w.heap.size≤j→some j≠v1.ownBlock:=fun j hj e=>by have:=b1 _ e.symm;omega
  have m2:∀ j,w.heap.size≤j→some j≠v2.ownBlock:=fun j hj e=>by have:=b2 _ e.symm;omega
  have m10:=m1 (w.heap.size) (by omega)
  have m20:=m2 (w.heap.size) (by omega)
  have m11:=m1 (w.heap.size+1) (by omega)
  have m21:=m2 (w.heap.size+1) (by omega)
  have m12:=m1 (w.heap.size+1+1) (by omega)
  have m22:=m2 (w.heap.size+1+1) (by omega)
  have m13:=m1 (w.heap.size+1+1+1) (by omega)
  have m23:=m2 (w.heap.size+1+1+1) (by omega)
  have o1:=h1
  have o2:=h2
  obtain ⟨a1,q1,e1,_⟩:=h1.seg
  obtain ⟨a2,q2,e2,_⟩:=h2.seg
  subst e1 e2
  clear h1 h2
  go_enter Tryz.func120,Tryz.ntmps120
  go_wp2
  go_step3
  go_wp2
  go_step3
  go_wp2
  refine wp_loop_rounds 2 ?_
  rw [rounds_succ]
  go_wp2_with fail
  refine (T.out _ (by exact zO o1 o1) (by exact zO o2 o2)).mono ?_
  rintro _ w3 ⟨⟨y1,y2,rfl,oY1,oY2,fY1,fY2⟩,hO⟩
  have hO3:Onl (Value.slice a1 c.cells.length q1).ownBlock (Value.slice a2 c.words.length q2).ownBlock w w3:=onlT (onlB (by exact zB)) hO
  have hsw3:=hO.2.2.2.1;(try (simp at hsw3));have zz:=And.intro (onlHp hO (i:=w.heap.size+1+1+1) (by (try simp) <;> omega) (by assumption) (by assumption)) <| And.intro (onlHp hO (i:=w.heap.size+1+1) (by (try simp) <;> omega) (by assumption) (by assumption)) <| And.intro (onlHp hO (i:=w.heap.size+1) (by (try simp) <;> omega) (by assumption) (by assumption)) <| onlHp hO (i:=w.heap.size) (by (try simp) <;> omega) (by assumption) (by assumption);(try simp [go_sem] at zz);(try clear z_wppp x_wppp f_wppp l_wppp);(try clear z_wpp x_wpp f_wpp l_wpp);(try clear z_wp x_wp f_wp l_wp);(try clear z_w x_w f_w l_w);obtain ⟨z_wppp,z_wpp,z_wp,z_w⟩:=zz;obtain ⟨x_wppp,f_wppp,l_wppp⟩:=bO z_wppp;obtain ⟨x_wpp,f_wpp,l_wpp⟩:=bO z_wpp;obtain ⟨x_wp,f_wp,l_wp⟩:=bO z_wp;obtain ⟨x_w,f_w,l_w⟩:=bO z_w
  clear hO
  have hoff1:∀ j,w.heap.size≤j→j<w.heap.size+1+1+1+1→y1.ownBlock≠some j:=fun j h1 h2=>fY1.off b1 h1 (by (try simp) <;> omega);have hoff2:∀ j,w.heap.size≤j→j<w.heap.size+1+1+1+1→y2.ownBlock≠some j:=fun j h1 h2=>fY2.off b2 h1 (by (try simp) <;> omega);have fr1:Fresh w _ y1:=fun j hj=>(fY1 j hj).imp id (fun h=>Nat.le_trans (by (try simp) <;> omega) h);have fr2:Fresh w _ y2:=fun j hj=>(fY2 j hj).imp id (fun h=>Nat.le_trans (by (try simp) <;> omega) h);obtain ⟨ya,yp,rfl,_⟩:=oY1.seg;obtain ⟨yb,yq,rfl,_⟩:=oY2.seg
  go_wp2
  try rw [Exit.noGoto_ret]
  refine bodyPost_ret (res_cct Tryz.results120 rfl (ldChan x.1 (.slice ya x.1.cells.length yp) (.slice yb x.1.words.length yq) (by simp [go_sem, *])) rfl (ldHand x.2.1 (by simp [go_sem, *]))) rfl ⟨⟨_,_,rfl,?_,?_,fr1,fr2⟩,by (repeat (first|with_reducible assumption|with_reducible refine oA ?_|with_reducible refine oD ?_|((with_reducible refine oX ?_ ?_);rotate_left;(focus ((try dsimp only);(try simp);(try omega))))|((with_reducible refine oS ?_ ?_);rotate_left;(focus ((try dsimp only);(try simp);(try omega))))))⟩
  · exact zP oY1 oY1 hoff1
  · exact zP oY2 oY2 hoff2
set_option maxRecDepth 100000 in
set_option maxHeartbeats 2000000 in
theorem growTouch_19y (c:Ch) (h:Ha) (v1 v2:Value) (lo:Nat) (w:World) (h1:OCells w lo v1 c.cells) (h2:OInts w lo v2 c.words) (hc0:0≤h.grow) (hc1:h.grow<c.cells.length) (hs:(h.seen != 0)=false) (hcall:callOk h.code h.elem=true) (hnx:0≤h.nxt∧h.nxt≤2) (ht:turnCB c h.grow 0 1 0=true) (hq:(h.pos == 19)=true) (hk:(h.code != 2)=false) :
    Calls Tryz.prog 120 #[.agg (cvals c v1 v2),.agg (hvals h)] w fun r w'=>StepO w w' lo v1 v2 ((turnC c h.grow 0 1 0,grown8 h,true)) r:=by
  have n16:(h.pos == 16)=false:=by simp at hq ⊢;omega
  have n17:(h.pos == 17)=false:=by simp at hq ⊢;omega
  have n18:(h.pos == 18)=false:=by simp at hq ⊢;omega
  obtain ⟨i,hci⟩:∃ i:Nat,h.grow=(i:Int):=⟨h.grow.toNat,by omega⟩
  have hi:i<c.cells.length:=by omega
  have T:=Lib.hid fun W a b=>turnedIn_any c i 0 1 0 v1 v2 lo W a b hi
  have ht2:=ht
  rw [hci] at ht2
  rw [ht2] at T
  have e0:turnC c h.grow 0 1 0=turnC c i 0 1 0:=by rw [hci]
  rw [e0]
  obtain ⟨y0,hy0⟩:∃ y0,grown8 h=y0:=⟨_,rfl⟩
  have GR:=Lib.hid fun W=>grown_any h W hcall hnx
  rw [hy0] at GR
  rw [hy0]
  clear hy0 hcall hnx
  have b1:=fun j (hj:v1.ownBlock=some j)=>(h1.lt j hj).2
  have b2:=fun j (hj:v2.ownBlock=some j)=>(h2.lt j hj).2
  have m1:∀ j,w.heap.size≤j→some j≠v1.ownBlock:=fun j hj e=>by have:=b1 _ e.symm;omega
  have m2:∀ j,w.heap.size≤j→some j≠v2.ownBlock:=fun j hj e=>by have:=b2 _ e.symm;omega
  have m10:=m1 (w.heap.size) (by omega)
  have m20:=m2 (w.heap.size) (by omega)
  have m11:=m1 (w.heap.size+1) (by omega)
  have m21:=m2 (w.heap.size+1) (by omega)
  have m12:=m1 (w.heap.size+1+1) (by omega)
  have m22:=m2 (w.heap.size+1+1) (by omega)
  have m13:=m1 (w.heap.size+1+1+1) (by omega)
  have m23:=m2 (w.heap.size+1+1+1) (by omega)
  have o1:=h1
  have o2:=h2
  obtain ⟨a1,q1,e1,_⟩:=h1.seg
  obtain ⟨a2,q2,e2,_⟩:=h2.seg
  subst e1 e2
  clear h1 h2 ht ht2 e0 hc0 hc1
  go_enter Tryz.func120,Tryz.ntmps120
  go_wp2
  go_step3
  go_wp2
  go_step3
  go_wp2
  refine wp_loop_rounds 2 ?_
  rw [rounds_succ]
  go_wp2_with fail;refine (T.out _ (by exact zO o1 o1) (by exact zO o2 o2)).mono ?_;rintro _ w1 ⟨rfl,p1,p2,hgw1⟩;have hsw1:=hgw1.size;(try (simp at hsw1));have zz:=And.intro (grHp hgw1 (b:=w.heap.size+1+1+1) (by (try simp) <;> omega) (by assumption)) <| And.intro (grHp hgw1 (b:=w.heap.size+1+1) (by (try simp) <;> omega) (by assumption)) <| And.intro (grHp hgw1 (b:=w.heap.size+1) (by (try simp) <;> omega) (by assumption)) <| grHp hgw1 (b:=w.heap.size) (by (try simp) <;> omega) (by assumption);(try simp [go_sem] at zz);(try clear z_wppp x_wppp f_wppp l_wppp);(try clear z_wpp x_wpp f_wpp l_wpp);(try clear z_wp x_wp f_wp l_wp);(try clear z_w x_w f_w l_w);obtain ⟨z_wppp,z_wpp,z_wp,z_w⟩:=zz;obtain ⟨x_wppp,f_wppp,l_wppp⟩:=bO z_wppp;obtain ⟨x_wpp,f_wpp,l_wpp⟩:=bO z_wpp;obtain ⟨x_wp,f_wp,l_wp⟩:=bO z_wp;obtain ⟨x_w,f_w,l_w⟩:=bO z_w;have hGw1:=grB (w:=w) (by exact zB) hgw1;clear hgw1
  have hO1:Onl (Value.slice a1 c.cells.length q1).ownBlock (Value.slice a2 c.words.length q2).ownBlock w w1:=onl1 hGw1
  have k0:w.heap.size<w1.heap.size:=by omega
  have k1:w.heap.size+1<w1.heap.size:=by omega
  have k2:w.heap.size+1+1<w1.heap.size:=by omega
  have k3:w.heap.size+1+1+1<w1.heap.size:=by omega
  have u1:OCells w1 lo (.slice a1 c.cells.length q1) (turnC c i 0 1 0).cells:=p1
  have u2:OInts w1 lo (.slice a2 c.words.length q2) (turnC c i 0 1 0).words:=p2
  clear p1 p2
  go_wp2_with fail
  rw [rounds_succ]
  go_wp2_with fail
  go_region_held3 (fun w'=>hp w' w.heap.size=some (.cells (cvals c (.slice a1 c.cells.length q1) (.slice a2 c.words.length q2)) 34)∧hp w' (w.heap.size+1)=some (.cells (hvals h) 38))
    (first|(simp [*,go_sem]))
    (first|(go_at_call 123;refine (GR.out _).mono ?_;rintro _ w2 ⟨rfl,hbw2⟩;have hO2:Onl (Value.slice a1 c.cells.length q1).ownBlock (Value.slice a2 c.words.length q2).ownBlock w w2:=onlT (by (repeat (first|with_reducible assumption|with_reducible refine oA ?_|with_reducible refine oD ?_|((with_reducible refine oX ?_ ?_);rotate_left;(focus ((try dsimp only);(try simp);(try omega))))|((with_reducible refine oS ?_ ?_);rotate_left;(focus ((try dsimp only);(try simp);(try omega))))))) (onlB hbw2);have p1:OCells w2 lo (.slice a1 c.cells.length q1) (turnC c i 0 1 0).cells:=own_below (by exact zO u1 o1) hbw2;have p2:OInts w2 lo (.slice a2 c.words.length q2) c.words:=own_below (by exact zO u2 o2) hbw2;have hsw2:=hbw2.size;(try simp at hsw2);have zz:=q4 hbw2 (b:=w.heap.size);(first|simp [go_sem,z_wppp,z_wpp,z_wp,z_w,l_w,l_wp,l_wpp,l_wppp,k0,k1,k2,k3] at zz|simp [go_sem] at zz|skip);(try clear z_wppp x_wppp f_wppp l_wppp);(try clear z_wpp x_wpp f_wpp l_wpp);(try clear z_wp x_wp f_wp l_wp);(try clear z_w x_w f_w l_w);obtain ⟨z_wppp,z_wpp,z_wp,z_w⟩:=zz;obtain ⟨x_wppp,f_wppp,l_wppp⟩:=bO z_wppp;obtain ⟨x_wpp,f_wpp,l_wpp⟩:=bO z_wpp;obtain ⟨x_wp,f_wp,l_wp⟩:=bO z_wp;obtain ⟨x_w,f_w,l_w⟩:=bO z_w;clear hbw2))
  go_wp2
  try rw [Exit.noGoto_ret]
  refine bodyPost_ret (res_cct Tryz.results120 rfl (ldChan c (.slice a1 c.cells.length q1) (.slice a2 c.words.length q2) (by simp [go_sem, *] <;> rfl)) rfl (ldHand y0 (by simp [go_sem, *] <;> first|rfl|simp [hci]))) rfl ⟨⟨_,_,rfl,?_,?_,fresh_refl _ _,fresh_refl _ _⟩,by (repeat (first|with_reducible assumption|with_reducible refine oA ?_|with_reducible refine oD ?_|((with_reducible refine oX ?_ ?_);rotate_left;(focus ((try dsimp only);(try simp);(try omega))))|((with_reducible refine oS ?_ ?_);rotate_left;(focus ((try dsimp only);(try simp);(try omega))))))⟩
  · exact zO p1 o1
  · exact zO p2 o2
set_option maxRecDepth 100000 in
set_option maxHeartbeats 2000000 in
theorem growTouch_19n0 (c:Ch) (h:Ha) (v1 v2:Value) (lo:Nat) (w:World) (h1:OCells w lo v1 c.cells) (h2:OInts w lo v2 c.words) (hc0:0≤h.grow) (hc1:h.grow<c.cells.length) (hs:(h.seen != 0)=false) (ht:turnCB c h.grow 0 1 0=false) (hq:(h.pos == 19)=true) (hk:(h.code != 2)=false) :
    Calls Tryz.prog 120 #[.agg (cvals c v1 v2),.agg (hvals h)] w fun r w'=>StepO w w' lo v1 v2 ((turnC c h.grow 0 1 0,{ h with pos:=18 },true)) r:=by
  have n16:(h.pos == 16)=false:=by simp at hq ⊢;omega
  have n17:(h.pos == 17)=false:=by simp at hq ⊢;omega
  have n18:(h.pos == 18)=false:=by simp at hq ⊢;omega
  obtain ⟨i,hci⟩:∃ i:Nat,h.grow=(i:Int):=⟨h.grow.toNat,by omega⟩
  have hi:i<c.cells.length:=by omega
  have T:=Lib.hid fun W a b=>turnedIn_any c i 0 1 0 v1 v2 lo W a b hi
  have ht2:=ht
  rw [hci] at ht2
  rw [ht2] at T
  have e0:turnC c h.grow 0 1 0=turnC c i 0 1 0:=by rw [hci]
  rw [e0]
  have b1:=fun j (hj:v1.ownBlock=some j)=>(h1.lt j hj).2
  have b2:=fun j (hj:v2.ownBlock=some j)=>(h2.lt j hj).2
  have m1:∀ j,w.heap.size≤j→some j≠v1.ownBlock:=fun j hj e=>by have:=b1 _ e.symm;omega
  have m2:∀ j,w.heap.size≤j→some j≠v2.ownBlock:=fun j hj e=>by have:=b2 _ e.symm;omega
  have m10:=m1 (w.heap.size) (by omega)
  have m20:=m2 (w.heap.size) (by omega)
  have m11:=m1 (w.heap.size+1) (by omega)
  have m21:=m2 (w.heap.size+1) (by omega)
  have m12:=m1 (w.heap.size+1+1) (by omega)
  have m22:=m2 (w.heap.size+1+1) (by omega)
  have m13:=m1 (w.heap.size+1+1+1) (by omega)
  have m23:=m2 (w.heap.size+1+1+1) (by omega)
  have o1:=h1
  have o2:=h2
  obtain ⟨a1,q1,e1,_⟩:=h1.seg
  obtain ⟨a2,q2,e2,_⟩:=h2.seg
  subst e1 e2
  clear h1 h2 ht ht2 e0 hc0 hc1
  go_enter Tryz.func120,Tryz.ntmps120
  go_wp2
  go_step3
  go_wp2
  go_step3
  go_wp2
  refine wp_loop_rounds 2 ?_
  rw [rounds_succ]
  go_wp2_with fail;refine (T.out _ (by exact zO o1 o1) (by exact zO o2 o2)).mono ?_;rintro _ w1 ⟨rfl,p1,p2,hgw1⟩;have hsw1:=hgw1.size;(try (simp at hsw1));have zz:=And.intro (grHp hgw1 (b:=w.heap.size+1+1+1) (by (try simp) <;> omega) (by assumption)) <| And.intro (grHp hgw1 (b:=w.heap.size+1+1) (by (try simp) <;> omega) (by assumption)) <| And.intro (grHp hgw1 (b:=w.heap.size+1) (by (try simp) <;> omega) (by assumption)) <| grHp hgw1 (b:=w.heap.size) (by (try simp) <;> omega) (by assumption);(try simp [go_sem] at zz);(try clear z_wppp x_wppp f_wppp l_wppp);(try clear z_wpp x_wpp f_wpp l_wpp);(try clear z_wp x_wp f_wp l_wp);(try clear z_w x_w f_w l_w);obtain ⟨z_wppp,z_wpp,z_wp,z_w⟩:=zz;obtain ⟨x_wppp,f_wppp,l_wppp⟩:=bO z_wppp;obtain ⟨x_wpp,f_wpp,l_wpp⟩:=bO z_wpp;obtain ⟨x_wp,f_wp,l_wp⟩:=bO z_wp;obtain ⟨x_w,f_w,l_w⟩:=bO z_w;have hGw1:=grB (w:=w) (by exact zB) hgw1;clear hgw1
  have hO1:Onl (Value.slice a1 c.cells.length q1).ownBlock (Value.slice a2 c.words.length q2).ownBlock w w1:=onl1 hGw1
  have k0:w.heap.size<w1.heap.size:=by omega
  have k1:w.heap.size+1<w1.heap.size:=by omega
  have k2:w.heap.size+1+1<w1.heap.size:=by omega
  have k3:w.heap.size+1+1+1<w1.heap.size:=by omega
  have u1:OCells w1 lo (.slice a1 c.cells.length q1) (turnC c i 0 1 0).cells:=p1
  have u2:OInts w1 lo (.slice a2 c.words.length q2) (turnC c i 0 1 0).words:=p2
  clear p1 p2
  go_wp2_with fail
  go_region_held3 (fun w'=>hp w' w.heap.size=some (.cells (cvals c (.slice a1 c.cells.length q1) (.slice a2 c.words.length q2)) 34)∧hp w' (w.heap.size+1)=some (.cells (hvals h) 38))
    (first|(simp [*,go_sem]))
    (first|(go_at_call 86;refine (moved_any _ _ _).mono ?_;rintro _ w2 ⟨rfl,hbw2⟩;have hO2:Onl (Value.slice a1 c.cells.length q1).ownBlock (Value.slice a2 c.words.length q2).ownBlock w w2:=onlT (by (repeat (first|with_reducible assumption|with_reducible refine oA ?_|with_reducible refine oD ?_|((with_reducible refine oX ?_ ?_);rotate_left;(focus ((try dsimp only);(try simp);(try omega))))|((with_reducible refine oS ?_ ?_);rotate_left;(focus ((try dsimp only);(try simp);(try omega))))))) (onlB hbw2);have p1:OCells w2 lo (.slice a1 c.cells.length q1) (turnC c i 0 1 0).cells:=own_below (by exact zO u1 o1) hbw2;have p2:OInts w2 lo (.slice a2 c.words.length q2) c.words:=own_below (by exact zO u2 o2) hbw2;have hsw2:=hbw2.size;(try simp at hsw2);have zz:=q4 hbw2 (b:=w.heap.size);(first|simp [go_sem,z_wppp,z_wpp,z_wp,z_w,l_w,l_wp,l_wpp,l_wppp,k0,k1,k2,k3] at zz|simp [go_sem] at zz|skip);(try clear z_wppp x_wppp f_wppp l_wppp);(try clear z_wpp x_wpp f_wpp l_wpp);(try clear z_wp x_wp f_wp l_wp);(try clear z_w x_w f_w l_w);obtain ⟨z_wppp,z_wpp,z_wp,z_w⟩:=zz;obtain ⟨x_wppp,f_wppp,l_wppp⟩:=bO z_wppp;obtain ⟨x_wpp,f_wpp,l_wpp⟩:=bO z_wpp;obtain ⟨x_wp,f_wp,l_wp⟩:=bO z_wp;obtain ⟨x_w,f_w,l_w⟩:=bO z_w;clear hbw2))
  go_wp2
  try rw [Exit.noGoto_ret]
  refine bodyPost_ret (res_cct Tryz.results120 rfl (ldChan c (.slice a1 c.cells.length q1) (.slice a2 c.words.length q2) (by simp [go_sem, *] <;> rfl)) rfl (ldHand { h with pos:=18 } (by simp [go_sem, *] <;> first|rfl|simp [hci]))) rfl ⟨⟨_,_,rfl,?_,?_,fresh_refl _ _,fresh_refl _ _⟩,by (repeat (first|with_reducible assumption|with_reducible refine oA ?_|with_reducible refine oD ?_|((with_reducible refine oX ?_ ?_);rotate_left;(focus ((try dsimp only);(try simp);(try omega))))|((with_reducible refine oS ?_ ?_);rotate_left;(focus ((try dsimp only);(try simp);(try omega))))))⟩
  · exact zO p1 o1
  · exact zO p2 o2
set_option maxRecDepth 100000 in
set_option maxHeartbeats 2000000 in
theorem growTouch_20 (c:Ch) (h:Ha) (v1 v2:Value) (lo:Nat) (w:World) (h1:OCells w lo v1 c.cells) (h2:OInts w lo v2 c.words) (hc:chanOk c=true) (hlo:lo≤w.heap.size) (hk:(h.code != 2)=false) (hq:(h.pos == 20)=true) :
    Calls Tryz.prog 120 #[.agg (cvals c v1 v2),.agg (hvals h)] w fun r w'=>StepO w w' lo v1 v2 (wkS c { h with pos:=21 } { h with pos:=22 }) r:=by
  have T0:=fun W a b hl=>woken_any c { h with pos:=21 } { h with pos:=22 } v1 v2 lo W a b hc hl
  change ∀ W,_→_→_→Calls _ _ _ _ (fun r w'=>StepB W w' lo v1 v2 (wkS c { h with pos:=21 } { h with pos:=22 }) r) at T0
  clear hc
  have n16:(h.pos == 16)=false:=by simp at hq ⊢;omega
  have n17:(h.pos == 17)=false:=by simp at hq ⊢;omega
  have n18:(h.pos == 18)=false:=by simp at hq ⊢;omega
  have n19:(h.pos == 19)=false:=by simp at hq ⊢;omega
  generalize wkS c { h with pos:=21 } { h with pos:=22 }=x at *
  have b1:=fun j (hj:v1.ownBlock=some j)=>(h1.lt j hj).2
  have b2:=fun j (hj:v2.ownBlock=some j)=>(h2.lt j hj).2
  obtain ⟨a1,q1,rfl,_⟩:=h1.seg
  obtain ⟨a2,q2,rfl,_⟩:=h2.seg
  have O1:=Lib.hid h1
  have O2:=Lib.hid h2
  clear h1 h2
  have T:=Lib.hid T0
  clear T0
  have o1:=O1.out
  have o2:=O2.out
  go_enter Tryz.func120,Tryz.ntmps120
  go_wp2
  go_step3
  go_wp2
  go_step3
  go_wp2
  refine wp_loop_rounds 2 ?_
  rw [rounds_succ]
  go_upto_region 30 with fail
  refine wp_region_inv [[],[],[1],[],[3],[0,1,2,3,4],[0,1,2,3,4,5],[0,1,2,3,4,5],[0,1,2,3,4,5],[0,1,2,3,4,5,6],[0,1,2,3,4,5,7],[0,1,2,3,4,5,8]] [99,100,101,102,103,104,105,106,107,6] (fun l s wx=>(Onl (Value.slice a1 c.cells.length q1).ownBlock (Value.slice a2 c.words.length q2).ownBlock w wx)∧(w.heap.size+1+1+1+1≤wx.heap.size)∧(hp wx w.heap.size=some (.cells (cvals c (.slice a1 c.cells.length q1) (.slice a2 c.words.length q2)) 34))∧(hp wx (w.heap.size+1)=some (.cells (hvals h) 38))∧(hp wx (w.heap.size+1+1)=some (.cells (cond (l 9) (cvals x.1 (s 1003) (s 1004)) (cvals Ch.zero (.slice none 0 0) (.slice none 0 0))) 34))∧(hp wx (w.heap.size+1+1+1)=some (.cells (cond (l 10) (hvals x.2.1) (hvals Ha.zero)) 38))∧(l 5=false→OCells wx lo (.slice a1 c.cells.length q1) c.cells)∧(l 5=false→OInts wx lo (.slice a2 c.words.length q2) c.words)∧(l 0=true→s 99=.agg (cvals c (.slice a1 c.cells.length q1) (.slice a2 c.words.length q2)))∧(l 1=true→s 100=.agg (hvals h))∧(l 2=true→s 101=.agg (hvals ({ h with pos:=21 })))∧(l 3=true→s 102=.agg (hvals h))∧(l 4=true→s 103=.agg (hvals ({ h with pos:=22 })))∧(l 5=true→s 104=.tuple #[.agg (cvals x.1 (s 1003) (s 1004)),.agg (hvals x.2.1),.bool x.2.2]∧OCells wx lo (s 1003) x.1.cells∧OInts wx lo (s 1004) x.1.words∧Fresh w (.slice a1 c.cells.length q1) (s 1003)∧Fresh w (.slice a2 c.words.length q2) (s 1004))∧(l 6=true→s 105=.agg (cvals x.1 (s 1003) (s 1004)))∧(l 7=true→s 106=.agg (hvals x.2.1))∧(l 8=true→s 107=.bool x.2.2)∧(l 11=true→s 6=.bool x.2.2)) (by kernel_rfl) (by kernel_rfl) (by kernel_rfl) (fun s=>by (simp only [fill,fillA,List.setIfInBounds_toArray,List.set_cons_zero,List.set_cons_succ];rfl)) (fun s=>⟨onlB (by exact zB),by simp,by simp [go_sem, *],by simp [go_sem, *],by simp [go_sem, *],by simp [go_sem, *],fun _=>by exact zO o1 o1,fun _=>by exact zO o2 o2,fun h=>absurd h Bool.false_ne_true,fun h=>absurd h Bool.false_ne_true,fun h=>absurd h Bool.false_ne_true,fun h=>absurd h Bool.false_ne_true,fun h=>absurd h Bool.false_ne_true,fun h=>absurd h Bool.false_ne_true,fun h=>absurd h Bool.false_ne_true,fun h=>absurd h Bool.false_ne_true,fun h=>absurd h Bool.false_ne_true,fun h=>absurd h Bool.false_ne_true⟩) ?_ ?_
  refine ⟨?_,?_,?_,?_,?_,?_,?_,?_,?_,?_,?_,?_,trivial⟩;rotate_left 12
  · intro l s wx hall hf
    have hO:=hf.1
    have z1:=hf.2.2.2.2.1
    have z2:=hf.2.2.2.2.2.1
    rw [hall 9 rfl] at z1
    rw [hall 10 rfl] at z2
    dsimp only [cond] at z1 z2
    obtain ⟨_,X1,X2,F1,F2⟩:=(hf.2.2.2.2.2.2.2.2.2.2.2.2.2.1 (hall 5 rfl))
    have ec:=(hf.2.2.2.2.2.2.2.2.2.2.2.2.2.2.2.2.2 (hall 11 rfl))
    simp only [ec]
    clear ec hf hall
    go_wp2
    try rw [Exit.noGoto_ret]
    exact bodyPost_ret (res_cct Tryz.results120 rfl (ldChan x.1 _ _ z1) rfl (ldHand x.2.1 z2)) rfl ⟨⟨_,_,rfl,X1,X2,F1,F2⟩,hO⟩
  · intro l s wx hl hd hn hf0 K hK
    have hf:=Lib.hid hf0
    clear hf0
    have zc:=hf.out.2.2.1
    go_simp
    refine hK.out (upd s 99 (.agg (cvals c (.slice a1 c.cells.length q1) (.slice a2 c.words.length q2)))) _ _ (by simp [upd_at] <;> rfl) ⟨hf.out.1,hf.out.2.1,hf.out.2.2.1,hf.out.2.2.2.1,hf.out.2.2.2.2.1,hf.out.2.2.2.2.2.1,hf.out.2.2.2.2.2.2.1,hf.out.2.2.2.2.2.2.2.1,fun _=>rfl,hf.out.2.2.2.2.2.2.2.2.2.1,hf.out.2.2.2.2.2.2.2.2.2.2.1,hf.out.2.2.2.2.2.2.2.2.2.2.2.1,hf.out.2.2.2.2.2.2.2.2.2.2.2.2.1,nU (hn 5 rfl),nU (hn 6 rfl),nU (hn 7 rfl),nU (hn 8 rfl),nU (hn 11 rfl)⟩
  · intro l s wx hl hd hn hf0 K hK
    have hf:=Lib.hid hf0
    clear hf0
    have zh:=hf.out.2.2.2.1
    go_simp
    refine hK.out (upd s 100 (.agg (hvals h))) _ _ (by simp [upd_at] <;> rfl) ⟨hf.out.1,hf.out.2.1,hf.out.2.2.1,hf.out.2.2.2.1,hf.out.2.2.2.2.1,hf.out.2.2.2.2.2.1,hf.out.2.2.2.2.2.2.1,hf.out.2.2.2.2.2.2.2.1,hf.out.2.2.2.2.2.2.2.2.1,fun _=>rfl,nU (hn 2 rfl),hf.out.2.2.2.2.2.2.2.2.2.2.2.1,hf.out.2.2.2.2.2.2.2.2.2.2.2.2.1,nU (hn 5 rfl),nU (hn 6 rfl),nU (hn 7 rfl),nU (hn 8 rfl),nU (hn 11 rfl)⟩
  · intro l s wx hl hd hn hf0 K hK
    have hf:=Lib.hid hf0
    clear hf0
    have e1:=(hf.out.2.2.2.2.2.2.2.2.2.1 (hd 1 rfl))
    go_simp
    go_at_call 86
    refine (moved_any h 21 _).mono ?_
    rintro _ wy ⟨rfl,hE⟩
    refine hK.out (upd s 101 (.agg (hvals ({ h with pos:=21 })))) _ _ (by simp [upd_at,e1] <;> rfl) ⟨onlT hf.out.1 (onlB hE),Nat.le_trans hf.out.2.1 (Below.size hE),hpS hf.out.2.2.1 hE,hpS hf.out.2.2.2.1 hE,hpS hf.out.2.2.2.2.1 hE,hpS hf.out.2.2.2.2.2.1 hE,fun h9=>own_below (hf.out.2.2.2.2.2.2.1 h9) hE,fun h9=>own_below (hf.out.2.2.2.2.2.2.2.1 h9) hE,hf.out.2.2.2.2.2.2.2.2.1,hf.out.2.2.2.2.2.2.2.2.2.1,fun _=>rfl,hf.out.2.2.2.2.2.2.2.2.2.2.2.1,hf.out.2.2.2.2.2.2.2.2.2.2.2.2.1,nU (hn 5 rfl),nU (hn 6 rfl),nU (hn 7 rfl),nU (hn 8 rfl),nU (hn 11 rfl)⟩
  · intro l s wx hl hd hn hf0 K hK
    have hf:=Lib.hid hf0
    clear hf0
    have zh:=hf.out.2.2.2.1
    go_simp
    refine hK.out (upd s 102 (.agg (hvals h))) _ _ (by simp [upd_at] <;> rfl) ⟨hf.out.1,hf.out.2.1,hf.out.2.2.1,hf.out.2.2.2.1,hf.out.2.2.2.2.1,hf.out.2.2.2.2.2.1,hf.out.2.2.2.2.2.2.1,hf.out.2.2.2.2.2.2.2.1,hf.out.2.2.2.2.2.2.2.2.1,hf.out.2.2.2.2.2.2.2.2.2.1,hf.out.2.2.2.2.2.2.2.2.2.2.1,fun _=>rfl,nU (hn 4 rfl),nU (hn 5 rfl),nU (hn 6 rfl),nU (hn 7 rfl),nU (hn 8 rfl),nU (hn 11 rfl)⟩
  · intro l s wx hl hd hn hf0 K hK
    have hf:=Lib.hid hf0
    clear hf0
    have e3:=(hf.out.2.2.2.2.2.2.2.2.2.2.2.1 (hd 3 rfl))
    go_simp
    go_at_call 86
    refine (moved_any h 22 _).mono ?_
    rintro _ wy ⟨rfl,hE⟩
    refine hK.out (upd s 103 (.agg (hvals ({ h with pos:=22 })))) _ _ (by simp [upd_at,e3] <;> rfl) ⟨onlT hf.out.1 (onlB hE),Nat.le_trans hf.out.2.1 (Below.size hE),hpS hf.out.2.2.1 hE,hpS hf.out.2.2.2.1 hE,hpS hf.out.2.2.2.2.1 hE,hpS hf.out.2.2.2.2.2.1 hE,fun h9=>own_below (hf.out.2.2.2.2.2.2.1 h9) hE,fun h9=>own_below (hf.out.2.2.2.2.2.2.2.1 h9) hE,hf.out.2.2.2.2.2.2.2.2.1,hf.out.2.2.2.2.2.2.2.2.2.1,hf.out.2.2.2.2.2.2.2.2.2.2.1,hf.out.2.2.2.2.2.2.2.2.2.2.2.1,fun _=>rfl,nU (hn 5 rfl),nU (hn 6 rfl),nU (hn 7 rfl),nU (hn 8 rfl),nU (hn 11 rfl)⟩
  · intro l s wx hl hd hn hf0 K hK
    have hf:=Lib.hid hf0
    clear hf0
    have e0:=(hf.out.2.2.2.2.2.2.2.2.1 (hd 0 rfl))
    have e2:=(hf.out.2.2.2.2.2.2.2.2.2.2.1 (hd 2 rfl))
    have e4:=(hf.out.2.2.2.2.2.2.2.2.2.2.2.2.1 (hd 4 rfl))
    go_simp
    go_at_call 88
    refine (T.out _ (hf.out.2.2.2.2.2.2.1 hl) (hf.out.2.2.2.2.2.2.2.1 hl) (Nat.le_trans hlo hf.out.1.2.2.2.1)).mono ?_
    rintro _ wy ⟨⟨y1,y2,rfl,X1,X2,F1,F2⟩,hE⟩
    have hO:=onlB (a:=(Value.slice a1 c.cells.length q1).ownBlock) (b:=(Value.slice a2 c.words.length q2).ownBlock) hE
    refine hK.out (upd (upd (upd s 1003 (y1)) 1004 (y2)) 104 (.tuple #[.agg (cvals x.1 y1 y2),.agg (hvals x.2.1),.bool x.2.2])) _ _ (by simp [upd_at,e0,e2,e4] <;> rfl) ⟨onlT hf.out.1 hO,Nat.le_trans hf.out.2.1 hO.2.2.2.1,hp_onl hf.out.2.2.1 hO (hf.out.2.2.2.2.2.2.1 hl) (hf.out.2.2.2.2.2.2.2.1 hl) (by decide) (by decide),hp_onl hf.out.2.2.2.1 hO (hf.out.2.2.2.2.2.2.1 hl) (hf.out.2.2.2.2.2.2.2.1 hl) (by decide) (by decide),by (have ee:l 9=false:=hn 9 rfl);(have F:=hf.out.2.2.2.2.1);rw [ee] at F;rw [show upd l 5 true 9=false from ee];exact hp_onl F hO (hf.out.2.2.2.2.2.2.1 hl) (hf.out.2.2.2.2.2.2.2.1 hl) (by decide) (by decide),by (have ee:l 10=false:=hn 10 rfl);(have F:=hf.out.2.2.2.2.2.1);rw [ee] at F;rw [show upd l 5 true 10=false from ee];exact hp_onl F hO (hf.out.2.2.2.2.2.2.1 hl) (hf.out.2.2.2.2.2.2.2.1 hl) (by decide) (by decide),fun h9=>nU h9 (show upd l 5 true 5=true from rfl),fun h9=>nU h9 (show upd l 5 true 5=true from rfl),hf.out.2.2.2.2.2.2.2.2.1,hf.out.2.2.2.2.2.2.2.2.2.1,hf.out.2.2.2.2.2.2.2.2.2.2.1,hf.out.2.2.2.2.2.2.2.2.2.2.2.1,hf.out.2.2.2.2.2.2.2.2.2.2.2.2.1,fun _=>⟨rfl,X1,X2,fun j hj=>(F1 j hj).imp id (fun h=>Nat.le_trans hf.out.1.2.2.2.1 h),fun j hj=>(F2 j hj).imp id (fun h=>Nat.le_trans hf.out.1.2.2.2.1 h)⟩,nU (hn 6 rfl),nU (hn 7 rfl),nU (hn 8 rfl),nU (hn 11 rfl)⟩
  · intro l s wx hl hd hn hf0 K hK
    have hf:=Lib.hid hf0
    clear hf0
    have e5:=(hf.out.2.2.2.2.2.2.2.2.2.2.2.2.2.1 (hd 5 rfl)).1
    go_simp
    refine hK.out (upd s 105 (.agg (cvals x.1 (s 1003) (s 1004)))) _ _ (by simp [upd_at,e5] <;> rfl) ⟨hf.out.1,hf.out.2.1,hf.out.2.2.1,hf.out.2.2.2.1,hf.out.2.2.2.2.1,hf.out.2.2.2.2.2.1,hf.out.2.2.2.2.2.2.1,hf.out.2.2.2.2.2.2.2.1,hf.out.2.2.2.2.2.2.2.2.1,hf.out.2.2.2.2.2.2.2.2.2.1,hf.out.2.2.2.2.2.2.2.2.2.2.1,hf.out.2.2.2.2.2.2.2.2.2.2.2.1,hf.out.2.2.2.2.2.2.2.2.2.2.2.2.1,hf.out.2.2.2.2.2.2.2.2.2.2.2.2.2.1,fun _=>rfl,hf.out.2.2.2.2.2.2.2.2.2.2.2.2.2.2.2.1,hf.out.2.2.2.2.2.2.2.2.2.2.2.2.2.2.2.2.1,hf.out.2.2.2.2.2.2.2.2.2.2.2.2.2.2.2.2.2⟩
  · intro l s wx hl hd hn hf0 K hK
    have hf:=Lib.hid hf0
    clear hf0
    have e5:=(hf.out.2.2.2.2.2.2.2.2.2.2.2.2.2.1 (hd 5 rfl)).1
    go_simp
    refine hK.out (upd s 106 (.agg (hvals x.2.1))) _ _ (by simp [upd_at,e5] <;> rfl) ⟨hf.out.1,hf.out.2.1,hf.out.2.2.1,hf.out.2.2.2.1,hf.out.2.2.2.2.1,hf.out.2.2.2.2.2.1,hf.out.2.2.2.2.2.2.1,hf.out.2.2.2.2.2.2.2.1,hf.out.2.2.2.2.2.2.2.2.1,hf.out.2.2.2.2.2.2.2.2.2.1,hf.out.2.2.2.2.2.2.2.2.2.2.1,hf.out.2.2.2.2.2.2.2.2.2.2.2.1,hf.out.2.2.2.2.2.2.2.2.2.2.2.2.1,hf.out.2.2.2.2.2.2.2.2.2.2.2.2.2.1,hf.out.2.2.2.2.2.2.2.2.2.2.2.2.2.2.1,fun _=>rfl,hf.out.2.2.2.2.2.2.2.2.2.2.2.2.2.2.2.2.1,hf.out.2.2.2.2.2.2.2.2.2.2.2.2.2.2.2.2.2⟩
  · intro l s wx hl hd hn hf0 K hK
    have hf:=Lib.hid hf0
    clear hf0
    have e5:=(hf.out.2.2.2.2.2.2.2.2.2.2.2.2.2.1 (hd 5 rfl)).1
    go_simp
    refine hK.out (upd s 107 (.bool x.2.2)) _ _ (by simp [upd_at,e5] <;> rfl) ⟨hf.out.1,hf.out.2.1,hf.out.2.2.1,hf.out.2.2.2.1,hf.out.2.2.2.2.1,hf.out.2.2.2.2.2.1,hf.out.2.2.2.2.2.2.1,hf.out.2.2.2.2.2.2.2.1,hf.out.2.2.2.2.2.2.2.2.1,hf.out.2.2.2.2.2.2.2.2.2.1,hf.out.2.2.2.2.2.2.2.2.2.2.1,hf.out.2.2.2.2.2.2.2.2.2.2.2.1,hf.out.2.2.2.2.2.2.2.2.2.2.2.2.1,hf.out.2.2.2.2.2.2.2.2.2.2.2.2.2.1,hf.out.2.2.2.2.2.2.2.2.2.2.2.2.2.2.1,hf.out.2.2.2.2.2.2.2.2.2.2.2.2.2.2.2.1,fun _=>rfl,nU (hn 11 rfl)⟩
  · intro l s wx hl hd hn hf0 K hK
    have hf:=Lib.hid hf0
    clear hf0
    have e6:=(hf.out.2.2.2.2.2.2.2.2.2.2.2.2.2.2.1 (hd 6 rfl))
    have e5:=(hf.out.2.2.2.2.2.2.2.2.2.2.2.2.2.1 (hd 5 rfl))
    have X1:=e5.2.1
    have X2:=e5.2.2.1
    clear e5
    have zr:=hf.out.2.2.2.2.1
    rw [hl] at zr
    dsimp only [cond] at zr
    obtain ⟨xa,xp,ea,_⟩:=X1.seg
    obtain ⟨xb,xq,eb2,_⟩:=X2.seg
    rw [ea,eb2] at e6
    have zn:hp (setBox wx (w.heap.size+1+1) (cvals x.1 (.slice xa x.1.cells.length xp) (.slice xb x.1.words.length xq))) (w.heap.size+1+1)=some (.cells (cvals x.1 (s 1003) (s 1004)) 34):=by rw [ea,eb2];exact hp_set zr
    have hO:=hf.out.1
    go_simp
    refine hK.out (s) _ _ (by simp [upd_at,e6,ea,eb2] <;> rfl) ⟨oX hO (by omega),Nat.le_trans hf.out.2.1 (Nat.le_of_eq bx_size.symm),(bx_heap_ne (by omega)).trans hf.out.2.2.1,(bx_heap_ne (by omega)).trans hf.out.2.2.2.1,zn,(bx_heap_ne (by omega)).trans hf.out.2.2.2.2.2.1,fun h9=>nU h9 (show upd l 9 true 5=true from hd 5 rfl),fun h9=>nU h9 (show upd l 9 true 5=true from hd 5 rfl),hf.out.2.2.2.2.2.2.2.2.1,hf.out.2.2.2.2.2.2.2.2.2.1,hf.out.2.2.2.2.2.2.2.2.2.2.1,hf.out.2.2.2.2.2.2.2.2.2.2.2.1,hf.out.2.2.2.2.2.2.2.2.2.2.2.2.1,fun h=>(let ⟨e,X1,X2,F1,F2⟩:=hf.out.2.2.2.2.2.2.2.2.2.2.2.2.2.1 h;⟨e,own_far X1 zr (by decide),own_far X2 zr (by decide),F1,F2⟩),hf.out.2.2.2.2.2.2.2.2.2.2.2.2.2.2.1,hf.out.2.2.2.2.2.2.2.2.2.2.2.2.2.2.2.1,hf.out.2.2.2.2.2.2.2.2.2.2.2.2.2.2.2.2.1,hf.out.2.2.2.2.2.2.2.2.2.2.2.2.2.2.2.2.2⟩
  · intro l s wx hl hd hn hf0 K hK
    have hf:=Lib.hid hf0
    clear hf0
    have e7:=(hf.out.2.2.2.2.2.2.2.2.2.2.2.2.2.2.2.1 (hd 7 rfl))
    have e5:=(hf.out.2.2.2.2.2.2.2.2.2.2.2.2.2.1 (hd 5 rfl))
    have X1:=e5.2.1
    have X2:=e5.2.2.1
    clear e5
    have zr:=hf.out.2.2.2.2.2.1
    rw [hl] at zr
    dsimp only [cond] at zr
    have zn:hp (setBox wx (w.heap.size+1+1+1) (hvals x.2.1)) (w.heap.size+1+1+1)=some (.cells (hvals x.2.1) 38):=by exact hp_set zr
    have hO:=hf.out.1
    go_simp
    refine hK.out (s) _ _ (by simp [upd_at,e7] <;> rfl) ⟨oX hO (by omega),Nat.le_trans hf.out.2.1 (Nat.le_of_eq bx_size.symm),(bx_heap_ne (by omega)).trans hf.out.2.2.1,(bx_heap_ne (by omega)).trans hf.out.2.2.2.1,(bx_heap_ne (by omega)).trans hf.out.2.2.2.2.1,zn,fun h9=>nU h9 (show upd l 10 true 5=true from hd 5 rfl),fun h9=>nU h9 (show upd l 10 true 5=true from hd 5 rfl),hf.out.2.2.2.2.2.2.2.2.1,hf.out.2.2.2.2.2.2.2.2.2.1,hf.out.2.2.2.2.2.2.2.2.2.2.1,hf.out.2.2.2.2.2.2.2.2.2.2.2.1,hf.out.2.2.2.2.2.2.2.2.2.2.2.2.1,fun h=>(let ⟨e,X1,X2,F1,F2⟩:=hf.out.2.2.2.2.2.2.2.2.2.2.2.2.2.1 h;⟨e,own_far X1 zr (by decide),own_far X2 zr (by decide),F1,F2⟩),hf.out.2.2.2.2.2.2.2.2.2.2.2.2.2.2.1,hf.out.2.2.2.2.2.2.2.2.2.2.2.2.2.2.2.1,hf.out.2.2.2.2.2.2.2.2.2.2.2.2.2.2.2.2.1,hf.out.2.2.2.2.2.2.2.2.2.2.2.2.2.2.2.2.2⟩
  · intro l s wx hl hd hn hf0 K hK
    have hf:=Lib.hid hf0
    clear hf0
    have e8:=(hf.out.2.2.2.2.2.2.2.2.2.2.2.2.2.2.2.2.1 (hd 8 rfl))
    go_simp
    refine hK.out (upd s 6 (.bool x.2.2)) _ _ (by simp [upd_at,e8] <;> rfl) ⟨hf.out.1,hf.out.2.1,hf.out.2.2.1,hf.out.2.2.2.1,hf.out.2.2.2.2.1,hf.out.2.2.2.2.2.1,hf.out.2.2.2.2.2.2.1,hf.out.2.2.2.2.2.2.2.1,hf.out.2.2.2.2.2.2.2.2.1,hf.out.2.2.2.2.2.2.2.2.2.1,hf.out.2.2.2.2.2.2.2.2.2.2.1,hf.out.2.2.2.2.2.2.2.2.2.2.2.1,hf.out.2.2.2.2.2.2.2.2.2.2.2.2.1,hf.out.2.2.2.2.2.2.2.2.2.2.2.2.2.1,hf.out.2.2.2.2.2.2.2.2.2.2.2.2.2.2.1,hf.out.2.2.2.2.2.2.2.2.2.2.2.2.2.2.2.1,hf.out.2.2.2.2.2.2.2.2.2.2.2.2.2.2.2.2.1,fun _=>rfl⟩
set_option maxRecDepth 100000 in
set_option maxHeartbeats 2000000 in
theorem growTouch_21 (c:Ch) (h:Ha) (v1 v2:Value) (lo:Nat) (w:World) (h1:OCells w lo v1 c.cells) (h2:OInts w lo v2 c.words) (hc0:0≤h.grow) (hc1:h.grow<c.cells.length) (hcall:callOk h.code h.elem=true) (hnx:0≤h.nxt∧h.nxt≤2) (hq:(h.pos == 21)=true) (hk:(h.code != 2)=false) :
    Calls Tryz.prog 120 #[.agg (cvals c v1 v2),.agg (hvals h)] w fun r w'=>StepO w w' lo v1 v2 ((stateC c h.grow 2,grown8 h,true)) r:=by
  have n16:(h.pos == 16)=false:=by simp at hq ⊢;omega
  have n17:(h.pos == 17)=false:=by simp at hq ⊢;omega
  have n18:(h.pos == 18)=false:=by simp at hq ⊢;omega
  have n19:(h.pos == 19)=false:=by simp at hq ⊢;omega
  have n20:(h.pos == 20)=false:=by simp at hq ⊢;omega
  obtain ⟨i,hci⟩:∃ i:Nat,h.grow=(i:Int):=⟨h.grow.toNat,by omega⟩
  have hi:i<c.cells.length:=by omega
  have hi0:(0:Int)≤(i:Int):=by omega
  have hi1:(i:Int)<(c.cells.length:Int):=by omega
  have hne:=h1.ne h2
  obtain ⟨a2,q2,rfl,_⟩:=h2.seg
  obtain ⟨g,q1,rfl,hlo1,hlt,hcell,hfr⟩:=h1.open1 hi
  have O1:=Lib.hid h1
  have O2:=Lib.hid h2
  have lg0:g<w.heap.size+1:=by omega
  have lg1:g<w.heap.size+1+1:=by omega
  have lg2:g<w.heap.size+1+1+1:=by omega
  have ng0:g≠w.heap.size:=by omega
  have ng1:g≠w.heap.size+1:=by omega
  have ng2:g≠w.heap.size+1+1:=by omega
  have ng3:g≠w.heap.size+1+1+1:=by omega
  have mg0:w.heap.size≠g:=by omega
  have mg1:w.heap.size+1≠g:=by omega
  have mg2:w.heap.size+1+1≠g:=by omega
  have mg3:w.heap.size+1+1+1≠g:=by omega
  have hx:Hid (cellAt c h.grow=c.cells.getD i ⟨0,0,0⟩):=by simp [cellAt,Hid,hci]
  have c0:=hcell 0 (by omega)
  have c1:=hcell 1 (by omega)
  have c2:=hcell 2 (by omega)
  simp only [C3.val,Nat.add_zero] at c0 c1 c2
  rw [show stateC c h.grow 2=stateC c i 2 by rw [hci]]
  have e1:=stateC_cells c i 2
  have P1:=fun W (o:OCells W lo (.slice (some ⟨g,0,none⟩) c.cells.length q1) c.cells)=>OCells.setS o hi 2
  rw [← e1] at P1
  clear hx hcell h1 h2 e1
  generalize c.cells.getD i ⟨0,0,0⟩=x at *
  have o1:=O1.out
  have o2:=O2.out
  obtain ⟨y0,hy0⟩:∃ y0,grown8 h=y0:=⟨_,rfl⟩
  have GR:=Lib.hid fun W=>grown_any h W hcall hnx
  rw [hy0] at GR
  rw [hy0]
  clear hy0 hcall hnx
  go_enter Tryz.func120,Tryz.ntmps120
  go_wp2
  go_step3
  go_wp2
  go_step3
  go_wp2
  refine wp_loop_rounds 2 ?_
  rw [rounds_succ]
  have P2:=own_store (p:=⟨g,i*3,none⟩) o2 (hne g rfl) (.int .i64 2)
  go_wp2_with fail
  rw [rounds_succ]
  go_wp2_with fail
  go_region_held3 (fun w'=>hp w' w.heap.size=some (.cells (cvals c (.slice (some ⟨g,0,none⟩) c.cells.length q1) (.slice a2 c.words.length q2)) 34)∧hp w' (w.heap.size+1)=some (.cells (hvals h) 38))
    (first|(simp [*,go_sem]))
    (first|(go_at_call 123;refine (GR.out _).mono ?_;rintro _ w1 ⟨rfl,hbw1⟩;have hGw1:Gr g w w1:=gT (by (repeat (first|with_reducible assumption|with_reducible exact gR _ _|with_reducible refine gA ?_|with_reducible refine gD ?_|with_reducible refine gS ?_ (.inl rfl)|((with_reducible refine gBx ?_ (.inr ?_));rotate_left;(focus ((try dsimp only);(try simp);(try omega))))|((with_reducible refine gS ?_ (.inr ?_));rotate_left;(focus ((try dsimp only);(try simp);(try omega))))))) (gOfB hbw1);have hsw1:=hbw1.size;(try (simp at hsw1));have zz:=hQ hbw1 (b:=w.heap.size);(first|(simp [go_sem,z_w,l_w,hlt,lg0,lg1,lg2] at zz)|(simp [go_sem,hlt,lg0,lg1,lg2] at zz));(try clear x_w f_w);(try clear z_w);have z_w:=zz;clear zz;(try clear l_w);obtain ⟨x_w,f_w,l_w⟩:=bO z_w;have zz:=hQ hbw1 (b:=w.heap.size+1);(first|(simp [go_sem,z_wp,l_wp,hlt,lg0,lg1,lg2] at zz)|(simp [go_sem,hlt,lg0,lg1,lg2] at zz));(try clear x_wp f_wp);(try clear z_wp);have z_wp:=zz;clear zz;(try clear l_wp);obtain ⟨x_wp,f_wp,l_wp⟩:=bO z_wp;have zz:=hQ hbw1 (b:=w.heap.size+1+1);(first|(simp [go_sem,z_wpp,l_wpp,hlt,lg0,lg1,lg2] at zz)|(simp [go_sem,hlt,lg0,lg1,lg2] at zz));(try clear x_wpp f_wpp);(try clear z_wpp);have z_wpp:=zz;clear zz;(try clear l_wpp);obtain ⟨x_wpp,f_wpp,l_wpp⟩:=bO z_wpp;have zz:=hQ hbw1 (b:=w.heap.size+1+1+1);(first|(simp [go_sem,z_wppp,l_wppp,hlt,lg0,lg1,lg2] at zz)|(simp [go_sem,hlt,lg0,lg1,lg2] at zz));(try clear x_wppp f_wppp);(try clear z_wppp);have z_wppp:=zz;clear zz;(try clear l_wppp);obtain ⟨x_wppp,f_wppp,l_wppp⟩:=bO z_wppp;have p1:OCells w1 lo (.slice (some ⟨g,0,none⟩) c.cells.length q1) (stateC c i 2).cells:=own_below (by exact zO (P1 _ o1) o1) hbw1;have p2:OInts w1 lo (.slice a2 c.words.length q2) c.words:=own_below (by exact zO P2 o2) hbw1))
  go_wp2
  try rw [Exit.noGoto_ret]
  refine bodyPost_ret (res_cct Tryz.results120 rfl (ldChan (stateC c i 2) (.slice (some ⟨g,0,none⟩) c.cells.length q1) (.slice a2 c.words.length q2) (by simp [go_sem, *] <;> rfl)) rfl (ldHand y0 (by simp [go_sem, *] <;> first|rfl|simp [hci]))) rfl ⟨⟨_,_,rfl,?_,?_,fresh_refl _ _,fresh_refl _ _⟩,onl1 (show w.grownBy _ (some g) from (by (repeat (first|with_reducible assumption|with_reducible exact gR _ _|with_reducible refine gA ?_|with_reducible refine gD ?_|with_reducible refine gS ?_ (.inl rfl)|((with_reducible refine gBx ?_ (.inr ?_));rotate_left;(focus ((try dsimp only);(try simp);(try omega))))|((with_reducible refine gS ?_ (.inr ?_));rotate_left;(focus ((try dsimp only);(try simp);(try omega))))))))⟩
  · show OCells _ lo (.slice (some ⟨g,0,none⟩) c.cells.length q1) (stateC c i 2).cells
    exact zO p1 o1
  · show OInts _ lo (.slice a2 c.words.length q2) c.words
    exact zO p2 o2
set_option maxRecDepth 100000 in
set_option maxHeartbeats 2000000 in
theorem growTouch_22 (c:Ch) (h:Ha) (v1 v2:Value) (lo:Nat) (w:World) (h1:OCells w lo v1 c.cells) (h2:OInts w lo v2 c.words) (hc0:0≤h.grow) (hc1:h.grow<c.cells.length) (hq:(h.pos == 22)=true) (hk:(h.code != 2)=false) :
    Calls Tryz.prog 120 #[.agg (cvals c v1 v2),.agg (hvals h)] w fun r w'=>StepO w w' lo v1 v2 ((stateC c h.grow 9,{ h with pos:=16 },true)) r:=by
  have n16:(h.pos == 16)=false:=by simp at hq ⊢;omega
  have n17:(h.pos == 17)=false:=by simp at hq ⊢;omega
  have n18:(h.pos == 18)=false:=by simp at hq ⊢;omega
  have n19:(h.pos == 19)=false:=by simp at hq ⊢;omega
  have n20:(h.pos == 20)=false:=by simp at hq ⊢;omega
  have n21:(h.pos == 21)=false:=by simp at hq ⊢;omega
  obtain ⟨i,hci⟩:∃ i:Nat,h.grow=(i:Int):=⟨h.grow.toNat,by omega⟩
  have hi:i<c.cells.length:=by omega
  have hi0:(0:Int)≤(i:Int):=by omega
  have hi1:(i:Int)<(c.cells.length:Int):=by omega
  have hne:=h1.ne h2
  obtain ⟨a2,q2,rfl,_⟩:=h2.seg
  obtain ⟨g,q1,rfl,hlo1,hlt,hcell,hfr⟩:=h1.open1 hi
  have O1:=Lib.hid h1
  have O2:=Lib.hid h2
  have lg0:g<w.heap.size+1:=by omega
  have lg1:g<w.heap.size+1+1:=by omega
  have lg2:g<w.heap.size+1+1+1:=by omega
  have ng0:g≠w.heap.size:=by omega
  have ng1:g≠w.heap.size+1:=by omega
  have ng2:g≠w.heap.size+1+1:=by omega
  have ng3:g≠w.heap.size+1+1+1:=by omega
  have mg0:w.heap.size≠g:=by omega
  have mg1:w.heap.size+1≠g:=by omega
  have mg2:w.heap.size+1+1≠g:=by omega
  have mg3:w.heap.size+1+1+1≠g:=by omega
  have hx:Hid (cellAt c h.grow=c.cells.getD i ⟨0,0,0⟩):=by simp [cellAt,Hid,hci]
  have c0:=hcell 0 (by omega)
  have c1:=hcell 1 (by omega)
  have c2:=hcell 2 (by omega)
  simp only [C3.val,Nat.add_zero] at c0 c1 c2
  rw [show stateC c h.grow 9=stateC c i 9 by rw [hci]]
  have e1:=stateC_cells c i 9
  have P1:=fun W (o:OCells W lo (.slice (some ⟨g,0,none⟩) c.cells.length q1) c.cells)=>OCells.setS o hi 9
  rw [← e1] at P1
  clear hx hcell h1 h2 e1
  generalize c.cells.getD i ⟨0,0,0⟩=x at *
  have o1:=O1.out
  have o2:=O2.out
  go_enter Tryz.func120,Tryz.ntmps120
  go_wp2
  go_step3
  go_wp2
  go_step3
  go_wp2
  refine wp_loop_rounds 2 ?_
  rw [rounds_succ]
  have P2:=own_store (p:=⟨g,i*3,none⟩) o2 (hne g rfl) (.int .i64 9)
  go_wp2_with fail
  go_region_held3 (fun w'=>hp w' w.heap.size=some (.cells (cvals c (.slice (some ⟨g,0,none⟩) c.cells.length q1) (.slice a2 c.words.length q2)) 34)∧hp w' (w.heap.size+1)=some (.cells (hvals h) 38))
    (first|(simp [*,go_sem]))
    (first|(go_at_call 86;refine (moved_any _ _ _).mono ?_;rintro _ w1 ⟨rfl,hbw1⟩;have hGw1:Gr g w w1:=gT (by (repeat (first|with_reducible assumption|with_reducible exact gR _ _|with_reducible refine gA ?_|with_reducible refine gD ?_|with_reducible refine gS ?_ (.inl rfl)|((with_reducible refine gBx ?_ (.inr ?_));rotate_left;(focus ((try dsimp only);(try simp);(try omega))))|((with_reducible refine gS ?_ (.inr ?_));rotate_left;(focus ((try dsimp only);(try simp);(try omega))))))) (gOfB hbw1);have hsw1:=hbw1.size;(try (simp at hsw1));have zz:=hQ hbw1 (b:=w.heap.size);(first|(simp [go_sem,z_w,l_w,hlt,lg0,lg1,lg2] at zz)|(simp [go_sem,hlt,lg0,lg1,lg2] at zz));(try clear x_w f_w);(try clear z_w);have z_w:=zz;clear zz;(try clear l_w);obtain ⟨x_w,f_w,l_w⟩:=bO z_w;have zz:=hQ hbw1 (b:=w.heap.size+1);(first|(simp [go_sem,z_wp,l_wp,hlt,lg0,lg1,lg2] at zz)|(simp [go_sem,hlt,lg0,lg1,lg2] at zz));(try clear x_wp f_wp);(try clear z_wp);have z_wp:=zz;clear zz;(try clear l_wp);obtain ⟨x_wp,f_wp,l_wp⟩:=bO z_wp;have zz:=hQ hbw1 (b:=w.heap.size+1+1);(first|(simp [go_sem,z_wpp,l_wpp,hlt,lg0,lg1,lg2] at zz)|(simp [go_sem,hlt,lg0,lg1,lg2] at zz));(try clear x_wpp f_wpp);(try clear z_wpp);have z_wpp:=zz;clear zz;(try clear l_wpp);obtain ⟨x_wpp,f_wpp,l_wpp⟩:=bO z_wpp;have zz:=hQ hbw1 (b:=w.heap.size+1+1+1);(first|(simp [go_sem,z_wppp,l_wppp,hlt,lg0,lg1,lg2] at zz)|(simp [go_sem,hlt,lg0,lg1,lg2] at zz));(try clear x_wppp f_wppp);(try clear z_wppp);have z_wppp:=zz;clear zz;(try clear l_wppp);obtain ⟨x_wppp,f_wppp,l_wppp⟩:=bO z_wppp;have p1:OCells w1 lo (.slice (some ⟨g,0,none⟩) c.cells.length q1) (stateC c i 9).cells:=own_below (by exact zO (P1 _ o1) o1) hbw1;have p2:OInts w1 lo (.slice a2 c.words.length q2) c.words:=own_below (by exact zO P2 o2) hbw1))
  go_wp2
  try rw [Exit.noGoto_ret]
  refine bodyPost_ret (res_cct Tryz.results120 rfl (ldChan (stateC c i 9) (.slice (some ⟨g,0,none⟩) c.cells.length q1) (.slice a2 c.words.length q2) (by simp [go_sem, *] <;> rfl)) rfl (ldHand { h with pos:=16 } (by simp [go_sem, *] <;> first|rfl|simp [hci]))) rfl ⟨⟨_,_,rfl,?_,?_,fresh_refl _ _,fresh_refl _ _⟩,onl1 (show w.grownBy _ (some g) from (by (repeat (first|with_reducible assumption|with_reducible exact gR _ _|with_reducible refine gA ?_|with_reducible refine gD ?_|with_reducible refine gS ?_ (.inl rfl)|((with_reducible refine gBx ?_ (.inr ?_));rotate_left;(focus ((try dsimp only);(try simp);(try omega))))|((with_reducible refine gS ?_ (.inr ?_));rotate_left;(focus ((try dsimp only);(try simp);(try omega))))))))⟩
  · show OCells _ lo (.slice (some ⟨g,0,none⟩) c.cells.length q1) (stateC c i 9).cells
    exact zO p1 o1
  · show OInts _ lo (.slice a2 c.words.length q2) c.words
    exact zO p2 o2
set_option maxRecDepth 100000 in
set_option maxHeartbeats 2000000 in
theorem growTouch_no (c:Ch) (h:Ha) (v1 v2:Value) (lo:Nat) (w:World) (h1:OCells w lo v1 c.cells) (h2:OInts w lo v2 c.words) (hk:(h.code != 2)=true) :
    Calls Tryz.prog 120 #[.agg (cvals c v1 v2),.agg (hvals h)] w fun r w'=>StepO w w' lo v1 v2 (nothing) r:=by
  have T:=Lib.hid fun W=>refused_any W lo v1 v2
  generalize nothing=x at *
  have b1:=fun j (hj:v1.ownBlock=some j)=>(h1.lt j hj).2
  have b2:=fun j (hj:v2.ownBlock=some j)=>(h2.lt j hj).2
  have m1:∀ j,w.heap.size≤j→some j≠v1.ownBlock:=fun j hj e=>by have:=b1 _ e.symm;omega
  have m2:∀ j,w.heap.size≤j→some j≠v2.ownBlock:=fun j hj e=>by have:=b2 _ e.symm;omega
  have m10:=m1 (w.heap.size) (by omega)
  have m20:=m2 (w.heap.size) (by omega)
  have m11:=m1 (w.heap.size+1) (by omega)
  have m21:=m2 (w.heap.size+1) (by omega)
  have m12:=m1 (w.heap.size+1+1) (by omega)
  have m22:=m2 (w.heap.size+1+1) (by omega)
  have m13:=m1 (w.heap.size+1+1+1) (by omega)
  have m23:=m2 (w.heap.size+1+1+1) (by omega)
  have o1:=h1
  have o2:=h2
  obtain ⟨a1,q1,e1,_⟩:=h1.seg
  obtain ⟨a2,q2,e2,_⟩:=h2.seg
  subst e1 e2
  clear h1 h2
  go_enter Tryz.func120,Tryz.ntmps120
  go_wp2
  go_step3
  go_wp2_with fail
  refine (T.out _).mono ?_
  rintro _ w3 ⟨⟨y1,y2,rfl,oY1,oY2,fY1,fY2⟩,hbw3⟩
  have hO3:Onl (Value.slice a1 c.cells.length q1).ownBlock (Value.slice a2 c.words.length q2).ownBlock w w3:=onlT (onlB (by exact zB)) (onlB hbw3)
  have hsw3:=hbw3.size;(try simp at hsw3);have zz:=q4 hbw3 (b:=w.heap.size);(try simp [go_sem] at zz);(try clear z_wppp x_wppp f_wppp l_wppp);(try clear z_wpp x_wpp f_wpp l_wpp);(try clear z_wp x_wp f_wp l_wp);(try clear z_w x_w f_w l_w);obtain ⟨z_wppp,z_wpp,z_wp,z_w⟩:=zz;obtain ⟨x_wppp,f_wppp,l_wppp⟩:=bO z_wppp;obtain ⟨x_wpp,f_wpp,l_wpp⟩:=bO z_wpp;obtain ⟨x_wp,f_wp,l_wp⟩:=bO z_wp;obtain ⟨x_w,f_w,l_w⟩:=bO z_w;clear hbw3
  have hoff1:∀ j,w.heap.size≤j→j<w.heap.size+1+1+1+1→y1.ownBlock≠some j:=fun j h1 h2=>fY1.off b1 h1 (by (try simp) <;> omega);have hoff2:∀ j,w.heap.size≤j→j<w.heap.size+1+1+1+1→y2.ownBlock≠some j:=fun j h1 h2=>fY2.off b2 h1 (by (try simp) <;> omega);have fr1:Fresh w _ y1:=fun j hj=>(fY1 j hj).imp id (fun h=>Nat.le_trans (by (try simp) <;> omega) h);have fr2:Fresh w _ y2:=fun j hj=>(fY2 j hj).imp id (fun h=>Nat.le_trans (by (try simp) <;> omega) h);obtain ⟨ya,yp,rfl,_⟩:=oY1.seg;obtain ⟨yb,yq,rfl,_⟩:=oY2.seg
  go_wp2
  try rw [Exit.noGoto_ret]
  refine bodyPost_ret (res_cct Tryz.results120 rfl (ldChan x.1 (.slice ya x.1.cells.length yp) (.slice yb x.1.words.length yq) (by simp [go_sem, *])) rfl (ldHand x.2.1 (by simp [go_sem, *]))) rfl ⟨⟨_,_,rfl,?_,?_,fr1,fr2⟩,by (repeat (first|with_reducible assumption|with_reducible refine oA ?_|with_reducible refine oD ?_|((with_reducible refine oX ?_ ?_);rotate_left;(focus ((try dsimp only);(try simp);(try omega))))|((with_reducible refine oS ?_ ?_);rotate_left;(focus ((try dsimp only);(try simp);(try omega))))))⟩
  · exact zP oY1 oY1 hoff1
  · exact zP oY2 oY2 hoff2
set_option maxRecDepth 100000 in
set_option maxHeartbeats 2000000 in
theorem growTouch_far (c:Ch) (h:Ha) (v1 v2:Value) (lo:Nat) (w:World) (h1:OCells w lo v1 c.cells) (h2:OInts w lo v2 c.words) (hk:(h.code != 2)=false) (n16:(h.pos == 16)=false) (n17:(h.pos == 17)=false) (n18:(h.pos == 18)=false) (n19:(h.pos == 19)=false) (n20:(h.pos == 20)=false) (n21:(h.pos == 21)=false) (n22:(h.pos == 22)=false) (n26:(h.pos == 26)=false) :
    Calls Tryz.prog 120 #[.agg (cvals c v1 v2),.agg (hvals h)] w fun r w'=>StepO w w' lo v1 v2 (nothing) r:=by
  have T:=Lib.hid fun W=>refused_any W lo v1 v2
  generalize nothing=x at *
  have b1:=fun j (hj:v1.ownBlock=some j)=>(h1.lt j hj).2
  have b2:=fun j (hj:v2.ownBlock=some j)=>(h2.lt j hj).2
  have m1:∀ j,w.heap.size≤j→some j≠v1.ownBlock:=fun j hj e=>by have:=b1 _ e.symm;omega
  have m2:∀ j,w.heap.size≤j→some j≠v2.ownBlock:=fun j hj e=>by have:=b2 _ e.symm;omega
  have m10:=m1 (w.heap.size) (by omega)
  have m20:=m2 (w.heap.size) (by omega)
  have m11:=m1 (w.heap.size+1) (by omega)
  have m21:=m2 (w.heap.size+1) (by omega)
  have m12:=m1 (w.heap.size+1+1) (by omega)
  have m22:=m2 (w.heap.size+1+1) (by omega)
  have m13:=m1 (w.heap.size+1+1+1) (by omega)
  have m23:=m2 (w.heap.size+1+1+1) (by omega)
  have o1:=h1
  have o2:=h2
  obtain ⟨a1,q1,e1,_⟩:=h1.seg
  obtain ⟨a2,q2,e2,_⟩:=h2.seg
  subst e1 e2
  clear h1 h2
  go_enter Tryz.func120,Tryz.ntmps120
  go_wp2
  go_step3
  go_wp2
  go_step3
  go_wp2
  refine wp_loop_rounds 2 ?_
  rw [rounds_succ]
  go_wp2_with fail
  refine (T.out _).mono ?_
  rintro _ w3 ⟨⟨y1,y2,rfl,oY1,oY2,fY1,fY2⟩,hbw3⟩
  have hO3:Onl (Value.slice a1 c.cells.length q1).ownBlock (Value.slice a2 c.words.length q2).ownBlock w w3:=onlT (onlB (by exact zB)) (onlB hbw3)
  have hsw3:=hbw3.size;(try simp at hsw3);have zz:=q4 hbw3 (b:=w.heap.size);(try simp [go_sem] at zz);(try clear z_wppp x_wppp f_wppp l_wppp);(try clear z_wpp x_wpp f_wpp l_wpp);(try clear z_wp x_wp f_wp l_wp);(try clear z_w x_w f_w l_w);obtain ⟨z_wppp,z_wpp,z_wp,z_w⟩:=zz;obtain ⟨x_wppp,f_wppp,l_wppp⟩:=bO z_wppp;obtain ⟨x_wpp,f_wpp,l_wpp⟩:=bO z_wpp;obtain ⟨x_wp,f_wp,l_wp⟩:=bO z_wp;obtain ⟨x_w,f_w,l_w⟩:=bO z_w;clear hbw3
  have hoff1:∀ j,w.heap.size≤j→j<w.heap.size+1+1+1+1→y1.ownBlock≠some j:=fun j h1 h2=>fY1.off b1 h1 (by (try simp) <;> omega);have hoff2:∀ j,w.heap.size≤j→j<w.heap.size+1+1+1+1→y2.ownBlock≠some j:=fun j h1 h2=>fY2.off b2 h1 (by (try simp) <;> omega);have fr1:Fresh w _ y1:=fun j hj=>(fY1 j hj).imp id (fun h=>Nat.le_trans (by (try simp) <;> omega) h);have fr2:Fresh w _ y2:=fun j hj=>(fY2 j hj).imp id (fun h=>Nat.le_trans (by (try simp) <;> omega) h);obtain ⟨ya,yp,rfl,_⟩:=oY1.seg;obtain ⟨yb,yq,rfl,_⟩:=oY2.seg
  go_wp2
  try rw [Exit.noGoto_ret]
  refine bodyPost_ret (res_cct Tryz.results120 rfl (ldChan x.1 (.slice ya x.1.cells.length yp) (.slice yb x.1.words.length yq) (by simp [go_sem, *])) rfl (ldHand x.2.1 (by simp [go_sem, *]))) rfl ⟨⟨_,_,rfl,?_,?_,fr1,fr2⟩,by (repeat (first|with_reducible assumption|with_reducible refine oA ?_|with_reducible refine oD ?_|((with_reducible refine oX ?_ ?_);rotate_left;(focus ((try dsimp only);(try simp);(try omega))))|((with_reducible refine oS ?_ ?_);rotate_left;(focus ((try dsimp only);(try simp);(try omega))))))⟩
  · exact zP oY1 oY1 hoff1
  · exact zP oY2 oY2 hoff2
end Go.Proofs.YthfbnjfppjmgfaaGreat
