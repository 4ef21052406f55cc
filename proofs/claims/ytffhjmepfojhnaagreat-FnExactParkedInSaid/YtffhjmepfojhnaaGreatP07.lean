/-
  The contracts of the program's functions of chapter 4; no condition.
-/
import Derived.Test.YtffhjmepfojhnaaGreatP01
import Derived.Test.YtffhjmepfojhnaaGreatP06
import Derived.BigRegion
import Derived.StillTailTactics
import Derived.Test.YtffhjmepfojhnaaGreatP04
import Derived.Deep.RegionHeld3
import Derived.Test.YtffhjmepfojhnaaGreatP02
set_option maxRecDepth 100000
set_option maxHeartbeats 2000000
set_option linter.unusedSimpArgs false
set_option linter.unusedVariables false
namespace Go.Proofs.YtffhjmepfojhnaaGreat
section
open Go.RowKit
def Eb (k:Int):Int:=if k == 1 then 999 else (if k == 2 then 0 else -1)
def Km (k r:Int):Bool:=if r == 1 then k == 1 else (if r == 2 then k == 2 else (if r == 3 || r == 4 then k == 1 || k == 2 else false))
theorem yT (k e:Int):dL e 0 (Eb k)=dO k e:=by
 unfold Eb dO
 by_cases h1:k=1
 ·subst h1;simp
 ·by_cases h2:k=2
  ·subst h2
   simp [dL]
   rw [Bool.eq_iff_iff];simp;omega
  ·have:(if k == 1 then (999:Int) else if k == 2 then 0 else -1)=-1:=by simp [h1,h2]
   rw [this,qK tO]
   simp [h1,h2]
theorem yU (k e r:Int):(dO k e && Km k r)=kK k e r:=by
 unfold kK
 by_cases hc:dO k e=true
 ·rw [hc]
  have hk:k=1∨k=2:=by
   simp [dO] at hc
   omega
  simp only [Bool.true_and]
  unfold Km
  by_cases h1:r=1
  ·subst h1
   rcases hk with rfl|rfl <;> decide
  ·by_cases h2:r=2
   ·subst h2
    rcases hk with rfl|rfl <;> decide
   ·by_cases h3:r=3
    ·subst h3
     rcases hk with rfl|rfl <;> decide
    ·by_cases h4:r=4
     ·subst h4
      rcases hk with rfl|rfl <;> decide
     ·have:dL r 1 4=false:=qK tO
      simp [h1,h2,h3,h4,this]
 ·simp [LM hc]
theorem wJ (k:Int) (w:World):Calls Tryz.prog 184 #[.int .i64 k] w fun r w'=>r=.returned (.int .i64 (Eb k))∧w=w':=by
 go_enter Tryz.func184,Tryz.ntmps184
 go_wp2
 all_goals go_ret
 all_goals exact ⟨jm (by simp_all [Eb]),rfl⟩
theorem wK (k x:Int) (w:World):Calls Tryz.prog 182 #[.int .i64 k,.int .i64 x] w fun r w'=>r=.returned (.bool (Km k x))∧w=w':=by
 go_enter Tryz.func182,Tryz.ntmps182
 go_wp2
 all_goals go_ret
 all_goals exact ⟨aZ (by simp_all [Km]),rfl⟩
theorem vG (k e:Int) (w:World):Calls Tryz.prog 155 #[.agg #[.int .i64 k,.int .i64 e]] w fun r w'=>r=.returned (.agg #[.int .i64 k,.int .i64 e])∧Below w.heap.size w w':=by
 go_enter Tryz.func155,Tryz.ntmps155
 go_wp2
 exact bodyPost_ret (v:=.agg #[.int .i64 k,.int .i64 e]) (by simp [results,Tryz.results155,go_sem, *]) rfl ⟨rfl,by exact zB⟩
theorem qi (k e:Int) (w:World):Calls Tryz.prog 156 #[.agg #[.int .i64 k,.int .i64 e]] w fun r w'=>r=.returned (.bool (dO k e))∧Below w.heap.size w w':=by
 go_enter Tryz.func156,Tryz.ntmps156
 go_wp2_with fail
 go_region_with (first|(go_at_call 184;refine (wJ _ _).mono ?_;rintro _ _ ⟨rfl,rfl⟩)|(go_at_call 45;refine (fM _ _ _).mono ?_;rintro _ _ ⟨rfl,rfl⟩))
 all_goals go_wp2
 all_goals go_ret
 all_goals exact ⟨aZ (yT k e),by exact zB⟩
theorem om (k e:Int) (w:World):Calls Tryz.prog 103 #[.agg #[.int .i64 k,.int .i64 e]] w fun r w'=>r=.returned (.bool (dO k e))∧Below w.heap.size w w':=by
 go_enter Tryz.func103,Tryz.ntmps103
 go_wp2_with fail;refine (vG _ _ _).mono ?_;rintro _ w1 ⟨rfl,ag⟩;have hBw1:Below w.heap.size w w1:=bT zB ag;have ak:=ag.size;(try (simp at ak));have:=fun o=>ag.cell (p:=⟨w.heap.size,o,none⟩) (by ((try simp);(try omega)));have:=fun o=>ag.frozen (p:=⟨w.heap.size,o,none⟩) (by ((try simp);(try omega)));have:w.heap.size<w1.heap.size:=tO;have:w.heap.size≤w1.heap.size:=tO;have:w.heap.size≤w1.heap.size+1:=tO
 go_wp2_with fail;refine (qi _ _ _).mono ?_;rintro _ w2 ⟨rfl,hbw2⟩;have hBw2:Below w.heap.size w w2:=bT zB hbw2;have aR:=hbw2.size;(try (simp at aR));have:=fun o=>hbw2.cell (p:=⟨w.heap.size,o,none⟩) (by ((try simp);(try omega)));have:=fun o=>hbw2.frozen (p:=⟨w.heap.size,o,none⟩) (by ((try simp);(try omega)));have:w.heap.size<w2.heap.size:=tO;have:w.heap.size≤w2.heap.size:=tO;have:w.heap.size≤w2.heap.size+1:=tO
 go_wp2
 go_ret
 exact ⟨rfl,by exact zB⟩
theorem yV (k e x:Int) (w:World):Calls Tryz.prog 151 #[.agg #[.int .i64 k,.int .i64 e],.int .i64 x] w fun r w'=>r=.returned (.bool (kK k e x))∧Below w.heap.size w w':=by
 go_enter Tryz.func151,Tryz.ntmps151
 go_wp2_with fail;refine (vG _ _ _).mono ?_;rintro _ w1 ⟨rfl,ag⟩;have hBw1:Below w.heap.size w w1:=bT zB ag;have ak:=ag.size;(try (simp at ak));have:=fun o=>ag.cell (p:=⟨w.heap.size,o,none⟩) (by ((try simp);(try omega)));have:=fun o=>ag.frozen (p:=⟨w.heap.size,o,none⟩) (by ((try simp);(try omega)));have:w.heap.size<w1.heap.size:=tO;have:w.heap.size≤w1.heap.size:=tO;have:w.heap.size≤w1.heap.size+1:=tO
 go_wp2_with fail;refine (qi _ _ _).mono ?_;rintro _ w2 ⟨rfl,hbw2⟩;have hBw2:Below w.heap.size w w2:=bT zB hbw2;have aR:=hbw2.size;(try (simp at aR));have:=fun o=>hbw2.cell (p:=⟨w.heap.size,o,none⟩) (by ((try simp);(try omega)));have:=fun o=>hbw2.frozen (p:=⟨w.heap.size,o,none⟩) (by ((try simp);(try omega)));have:=fun o=>hbw2.cell (p:=⟨w1.heap.size,o,none⟩) (by ((try simp);(try omega)));have:=fun o=>hbw2.frozen (p:=⟨w1.heap.size,o,none⟩) (by ((try simp);(try omega)));have:w.heap.size<w2.heap.size:=tO;have:w.heap.size≤w2.heap.size:=tO;have:w.heap.size≤w2.heap.size+1:=tO;have:w1.heap.size<w2.heap.size:=tO;have:w1.heap.size≤w2.heap.size:=tO;have:w1.heap.size≤w2.heap.size+1:=tO
 go_wp2_with (go_at_call 182;refine (wK _ _ _).mono ?_;rintro _ _ ⟨rfl,rfl⟩)
 all_goals go_ret
 all_goals exact ⟨aZ (by rw [← yU];simp_all),by exact zB⟩
end
section
open Go.RowKit
attribute [local go_sem ↓] aH aM aN aA ax
attribute [local go_sem ↓] nE
def near (n m:Int):Int:=if (if n<0 then 0 else n)≤m then (if n<0 then 0 else n) else m
theorem jK {n m:Int} (hm:0≤m):(n == near n m)=dL n 0 m:=by
 rw [Bool.eq_iff_iff]
 simp only [near,dL,beq_iff_eq,Bool.and_eq_true,decide_eq_true_eq]
 repeat' split
 all_goals omega
def lM (h:Ha):Ha:=⟨near h.pos 25,if h.pos == 0 then 0 else h.code,if h.pos == 0 then 0 else h.elem,near h.cell 39,near h.seen 10,near h.wait 80,near h.fin 40,near h.come 40,near h.grow 39,near h.mine 80,near h.nxt 2,near h.beg 20000,near h.reply 4,near h.out 999⟩
theorem Hr (h:Ha):(nZ h (lM h) && (h.pos == 0 || dO h.code h.elem))=bF h:=by
 simp only [nZ,lM,jK (show (0:Int)≤25 by decide),jK (show (0:Int)≤39 by decide),jK (show (0:Int)≤10 by decide),jK (show (0:Int)≤80 by decide),jK (show (0:Int)≤40 by decide),jK (show (0:Int)≤2 by decide),jK (show (0:Int)≤20000 by decide),jK (show (0:Int)≤4 by decide),jK (show (0:Int)≤999 by decide)]
 have e:((h.code == if h.pos == 0 then 0 else h.code) && (h.elem == if h.pos == 0 then 0 else h.elem) && (h.pos == 0 || dO h.code h.elem))=(if h.pos == 0 then qL h.code h.elem else dO h.code h.elem):=by
  by_cases h0:h.pos=0
  ·simp [h0,qL]
  ·simp [h0]
 unfold bF pW uX DN
 rw [← e]
 generalize dL h.pos 0 25=b1
 generalize (h.code == if h.pos == 0 then 0 else h.code)=b2
 generalize (h.elem == if h.pos == 0 then 0 else h.elem)=b3
 generalize dL h.cell 0 39=b4
 generalize dL h.seen 0 10=b5
 generalize dL h.wait 0 80=b6
 generalize dL h.fin 0 40=b7
 generalize dL h.come 0 40=b8
 generalize dL h.grow 0 39=b9
 generalize dL h.mine 0 80=b10
 generalize dL h.nxt 0 2=b11
 generalize dL h.beg 0 20000=b12
 generalize dL h.reply 0 4=b13
 generalize dL h.out 0 999=b14
 generalize (h.pos == 0 || dO h.code h.elem)=b15
 simp only [Bool.and_assoc]
 cases b1 <;> cases b2 <;> cases b3 <;> cases b15 <;> (try simp) <;> cases b4 <;> cases b9 <;> cases b5 <;> cases b6 <;> cases b10 <;> simp
theorem yX (n m:Int) (w:World):Calls Tryz.prog 183 #[.int .i64 n,.int .i64 m] w fun r w'=>r=.returned (.int .i64 (near n m))∧w=w':=by
 go_enter Tryz.func183,Tryz.ntmps183
 go_wp2
 all_goals go_ret
 all_goals exact ⟨jm (by (try unfold near);(repeat' split) <;> omega),rfl⟩
theorem vH (n m:Int) (w:World):Calls Tryz.prog 183 #[.int .i64 n,.int .i64 m] w fun r w'=>r=.returned (.int .i64 (near n m))∧w'=w :=
 (yX n m w).mono fun _ _ h=>⟨h.1,h.2.symm⟩
theorem mM (h:Ha) (w:World):Calls Tryz.prog 154 #[.agg (aa h)] w fun r w'=>r=.returned (.agg (aa (lM h)))∧Below w.heap.size w w':=by
 by_cases h0:h.pos=0
 ·have e0:(h.pos == 0)=true:=by simpa using h0
  clear h0
  have eb:lM h=⟨near h.pos 25,0,0,near h.cell 39,near h.seen 10,near h.wait 80,near h.fin 40,near h.come 40,near h.grow 39,near h.mine 80,near h.nxt 2,near h.beg 20000,near h.reply 4,near h.out 999⟩:=by simp [lM,e0]
  rw [eb]
  go_enter Tryz.func154,Tryz.ntmps154
  go_wp2
  refine wp_region_still_tail 38 (by kernel_rfl) (by kernel_rfl) ?_
  simp only [List.take_succ_cons,List.take_zero,List.drop_succ_cons,List.drop_zero]
  change wpStill _ _ (World.drew _) _ _ _
  repeat (first|still_step|still_call (vH _ _ _))
  refine wpStill_nil ?_
  change wpList _ _ _ _ _ (World.drew _)
  go_wp2
  refine bodyPost_ret (gH Tryz.results154 rfl (aj ⟨near h.pos 25,0,0,near h.cell 39,near h.seen 10,near h.wait 80,near h.fin 40,near h.come 40,near h.grow 39,near h.mine 80,near h.nxt 2,near h.beg 20000,near h.reply 4,near h.out 999⟩ (by simp [go_sem] <;> rfl))) rfl ⟨rfl,by exact zB⟩
 ·have e0:(h.pos == 0)=false:=by simpa using h0
  clear h0
  have eb:lM h=⟨near h.pos 25,h.code,h.elem,near h.cell 39,near h.seen 10,near h.wait 80,near h.fin 40,near h.come 40,near h.grow 39,near h.mine 80,near h.nxt 2,near h.beg 20000,near h.reply 4,near h.out 999⟩:=by simp [lM,e0]
  rw [eb]
  go_enter Tryz.func154,Tryz.ntmps154
  go_wp2
  refine wp_region_still_tail 38 (by kernel_rfl) (by kernel_rfl) ?_
  simp only [List.take_succ_cons,List.take_zero,List.drop_succ_cons,List.drop_zero]
  change wpStill _ _ (World.drew _) _ _ _
  repeat (first|still_step|still_call (vH _ _ _))
  refine wpStill_nil ?_
  change wpList _ _ _ _ _ (World.drew _)
  go_wp2
  refine bodyPost_ret (gH Tryz.results154 rfl (aj ⟨near h.pos 25,h.code,h.elem,near h.cell 39,near h.seen 10,near h.wait 80,near h.fin 40,near h.come 40,near h.grow 39,near h.mine 80,near h.nxt 2,near h.beg 20000,near h.reply 4,near h.out 999⟩ (by simp [go_sem] <;> rfl))) rfl ⟨rfl,by exact zB⟩
end
section
open Go.RowKit
attribute [local go_sem ↓] aH aM aN aA ax
attribute [local go_sem ↓] nE
theorem gG (h:Ha) (w:World):Calls Tryz.prog 102 #[.agg (aa h)] w fun r w'=>r=.returned (.bool (bF h))∧Below w.heap.size w w':=by
 have key:=Hr h
 have HK:=Lib.hid key
 clear key
 by_cases he:nZ h (lM h)=true
 ·by_cases h0:h.pos=0
  ·have e0:(h.pos == 0)=true:=by simpa using h0
   clear h0
   go_enter Tryz.func102,Tryz.ntmps102
   go_wp2_with fail
   refine wp_region_held_drew (S:=fun w'=>hp w' w.heap.size=some (.cells (aa h) 49)∧(∀ o,w'.cell? ⟨w.heap.size,o,none⟩=(aa h)[o]?)) (by kernel_rfl) (by simp [*,go_sem]) (fun hS0=>?_)
   refine mT (i:=0) (oi:=⟨some 3,_,_,_,_,_⟩) rfl ?_;(try simp only [Act.put,List.setIfInBounds_toArray,List.set_cons_zero,List.set_cons_succ])
   refine mT (i:=1) (oi:=⟨some 4,_,_,_,_,_⟩) rfl ?_;(try simp only [Act.put,List.setIfInBounds_toArray,List.set_cons_zero,List.set_cons_succ])
   refine wpAnyH_ready (rs:=[2]) (by kernel_rfl) (by simp) ?_
   refine AllReadyH.cons (o:=⟨some 5,_,_,_,_,_⟩) rfl (fun K hK=>?_) AllReadyH.nil
   go_simp
   (go_at_call 154;refine au w zB fun bb=>?_;refine (mM h _).mono ?_;rintro _ w1 ⟨rfl,ag⟩;have aV:Below w.heap.size w w1:=bT bb ag;have ak:=ag.size;(try simp at ak);have zz:=hQ ag (b:=w.heap.size);(try simp [go_sem] at zz);(try clear bG di dC bV);have bG:=zz;clear zz;obtain ⟨di,dC,bV⟩:=bO bG;clear ag bb)
   refine hK.out _ _ ⟨bG,di⟩ (fun hS1=>?_)
   clear hK
   (try simp only [Act.put,List.setIfInBounds_toArray,List.set_cons_zero,List.set_cons_succ])
   refine mT (i:=3) (oi:=⟨some 6,_,_,_,_,_⟩) rfl ?_;(try simp only [Act.put,List.setIfInBounds_toArray,List.set_cons_zero,List.set_cons_succ])
   refine mT (i:=4) (oi:=⟨some 7,_,_,_,_,_⟩) rfl ?_;(try simp only [Act.put,List.setIfInBounds_toArray,List.set_cons_zero,List.set_cons_succ])
   refine mT (i:=5) (oi:=⟨some 8,_,_,_,_,_⟩) rfl ?_;(try simp only [Act.put,List.setIfInBounds_toArray,List.set_cons_zero,List.set_cons_succ])
   refine mT (i:=6) (oi:=⟨some 9,_,_,_,_,_⟩) rfl ?_;(try simp only [Act.put,List.setIfInBounds_toArray,List.set_cons_zero,List.set_cons_succ])
   refine mT (i:=7) (oi:=⟨some 10,_,_,_,_,_⟩) rfl ?_;(try simp only [Act.put,List.setIfInBounds_toArray,List.set_cons_zero,List.set_cons_succ])
   refine mT (i:=8) (oi:=⟨some 11,_,_,_,_,_⟩) rfl ?_;(try simp only [Act.put,List.setIfInBounds_toArray,List.set_cons_zero,List.set_cons_succ])
   refine mS (i:=9) (oi:=⟨some 12,_,_,_,_,_⟩) rfl ?_;(try simp only [Act.put,List.setIfInBounds_toArray,List.set_cons_zero,List.set_cons_succ])
   refine mS (i:=10) (oi:=⟨some 13,_,_,_,_,_⟩) rfl ?_;(try simp only [Act.put,List.setIfInBounds_toArray,List.set_cons_zero,List.set_cons_succ])
   refine mS (i:=11) (oi:=⟨some 14,_,_,_,_,_⟩) rfl ?_;(try simp only [Act.put,List.setIfInBounds_toArray,List.set_cons_zero,List.set_cons_succ])
   refine mT (i:=12) (oi:=⟨some 15,_,_,_,_,_⟩) rfl ?_;(try simp only [Act.put,List.setIfInBounds_toArray,List.set_cons_zero,List.set_cons_succ])
   refine mT (i:=13) (oi:=⟨some 16,_,_,_,_,_⟩) rfl ?_;(try simp only [Act.put,List.setIfInBounds_toArray,List.set_cons_zero,List.set_cons_succ])
   refine mT (i:=14) (oi:=⟨some 2,_,_,_,_,_⟩) rfl ?_;(try simp only [Act.put,List.setIfInBounds_toArray,List.set_cons_zero,List.set_cons_succ])
   refine wpAnyH_done (by kernel_rfl) ?_ _
   go_wp2
   go_ret
   exact ⟨aZ (by rw [← HK.out];simp [he,e0]),by exact zB⟩
  ·have e0:(h.pos == 0)=false:=by simpa using h0
   clear h0
   go_enter Tryz.func102,Tryz.ntmps102
   go_wp2_with fail
   refine wp_region_held_drew (S:=fun w'=>hp w' w.heap.size=some (.cells (aa h) 49)∧(∀ o,w'.cell? ⟨w.heap.size,o,none⟩=(aa h)[o]?)) (by kernel_rfl) (by simp [*,go_sem]) (fun hS0=>?_)
   refine mT (i:=0) (oi:=⟨some 3,_,_,_,_,_⟩) rfl ?_;(try simp only [Act.put,List.setIfInBounds_toArray,List.set_cons_zero,List.set_cons_succ])
   refine mT (i:=1) (oi:=⟨some 4,_,_,_,_,_⟩) rfl ?_;(try simp only [Act.put,List.setIfInBounds_toArray,List.set_cons_zero,List.set_cons_succ])
   refine wpAnyH_ready (rs:=[2]) (by kernel_rfl) (by simp) ?_
   refine AllReadyH.cons (o:=⟨some 5,_,_,_,_,_⟩) rfl (fun K hK=>?_) AllReadyH.nil
   go_simp
   (go_at_call 154;refine au w zB fun bb=>?_;refine (mM h _).mono ?_;rintro _ w1 ⟨rfl,ag⟩;have aV:Below w.heap.size w w1:=bT bb ag;have ak:=ag.size;(try simp at ak);have zz:=hQ ag (b:=w.heap.size);(try simp [go_sem] at zz);(try clear bG di dC bV);have bG:=zz;clear zz;obtain ⟨di,dC,bV⟩:=bO bG;clear ag bb)
   refine hK.out _ _ ⟨bG,di⟩ (fun hS1=>?_)
   clear hK
   (try simp only [Act.put,List.setIfInBounds_toArray,List.set_cons_zero,List.set_cons_succ])
   refine mT (i:=3) (oi:=⟨some 6,_,_,_,_,_⟩) rfl ?_;(try simp only [Act.put,List.setIfInBounds_toArray,List.set_cons_zero,List.set_cons_succ])
   refine mT (i:=4) (oi:=⟨some 7,_,_,_,_,_⟩) rfl ?_;(try simp only [Act.put,List.setIfInBounds_toArray,List.set_cons_zero,List.set_cons_succ])
   refine mT (i:=5) (oi:=⟨some 8,_,_,_,_,_⟩) rfl ?_;(try simp only [Act.put,List.setIfInBounds_toArray,List.set_cons_zero,List.set_cons_succ])
   refine mT (i:=6) (oi:=⟨some 9,_,_,_,_,_⟩) rfl ?_;(try simp only [Act.put,List.setIfInBounds_toArray,List.set_cons_zero,List.set_cons_succ])
   refine mT (i:=7) (oi:=⟨some 10,_,_,_,_,_⟩) rfl ?_;(try simp only [Act.put,List.setIfInBounds_toArray,List.set_cons_zero,List.set_cons_succ])
   refine mT (i:=8) (oi:=⟨some 11,_,_,_,_,_⟩) rfl ?_;(try simp only [Act.put,List.setIfInBounds_toArray,List.set_cons_zero,List.set_cons_succ])
   refine mT (i:=9) (oi:=⟨some 12,_,_,_,_,_⟩) rfl ?_;(try simp only [Act.put,List.setIfInBounds_toArray,List.set_cons_zero,List.set_cons_succ])
   refine mT (i:=10) (oi:=⟨some 13,_,_,_,_,_⟩) rfl ?_;(try simp only [Act.put,List.setIfInBounds_toArray,List.set_cons_zero,List.set_cons_succ])
   refine wpAnyH_ready (rs:=[11]) (by kernel_rfl) (by simp) ?_
   refine AllReadyH.cons (o:=⟨some 14,_,_,_,_,_⟩) rfl (fun K hK=>?_) AllReadyH.nil
   go_simp
   (go_at_call 103;refine au w zB fun bb=>?_;refine (om h.code h.elem _).mono ?_;rintro _ w2 ⟨rfl,hbw2⟩;have dh:Below w.heap.size w w2:=bT bb hbw2;have aR:=hbw2.size;(try simp at aR);have zz:=hQ hbw2 (b:=w.heap.size);(first|simp [go_sem,bG,bV] at zz|simp [go_sem] at zz|skip);(try clear bG di dC bV);have bG:=zz;clear zz;obtain ⟨di,dC,bV⟩:=bO bG;clear hbw2 bb)
   refine hK.out _ _ ⟨bG,di⟩ (fun hS2=>?_)
   clear hK
   (try simp only [Act.put,List.setIfInBounds_toArray,List.set_cons_zero,List.set_cons_succ])
   refine mT (i:=12) (oi:=⟨some 15,_,_,_,_,_⟩) rfl ?_;(try simp only [Act.put,List.setIfInBounds_toArray,List.set_cons_zero,List.set_cons_succ])
   refine mT (i:=13) (oi:=⟨some 16,_,_,_,_,_⟩) rfl ?_;(try simp only [Act.put,List.setIfInBounds_toArray,List.set_cons_zero,List.set_cons_succ])
   refine mT (i:=14) (oi:=⟨some 2,_,_,_,_,_⟩) rfl ?_;(try simp only [Act.put,List.setIfInBounds_toArray,List.set_cons_zero,List.set_cons_succ])
   refine wpAnyH_done (by kernel_rfl) ?_ _
   go_wp2
   go_ret
   exact ⟨aZ (by rw [← HK.out];simp [he,e0]),by exact zB⟩
 ·have he2:nZ h (lM h)=false:=by simpa using he
  clear he
  focus
   go_enter Tryz.func102,Tryz.ntmps102
   go_wp2_with fail
   refine wp_region_held_drew (S:=fun w'=>hp w' w.heap.size=some (.cells (aa h) 49)∧(∀ o,w'.cell? ⟨w.heap.size,o,none⟩=(aa h)[o]?)) (by kernel_rfl) (by simp [*,go_sem]) (fun hS0=>?_)
   refine mT (i:=0) (oi:=⟨some 3,_,_,_,_,_⟩) rfl ?_;(try simp only [Act.put,List.setIfInBounds_toArray,List.set_cons_zero,List.set_cons_succ])
   refine mT (i:=1) (oi:=⟨some 4,_,_,_,_,_⟩) rfl ?_;(try simp only [Act.put,List.setIfInBounds_toArray,List.set_cons_zero,List.set_cons_succ])
   refine wpAnyH_ready (rs:=[2]) (by kernel_rfl) (by simp) ?_
   refine AllReadyH.cons (o:=⟨some 5,_,_,_,_,_⟩) rfl (fun K hK=>?_) AllReadyH.nil
   go_simp
   (go_at_call 154;refine au w zB fun bb=>?_;refine (mM h _).mono ?_;rintro _ w1 ⟨rfl,ag⟩;have aV:Below w.heap.size w w1:=bT bb ag;have ak:=ag.size;(try simp at ak);have zz:=hQ ag (b:=w.heap.size);(try simp [go_sem] at zz);(try clear bG di dC bV);have bG:=zz;clear zz;obtain ⟨di,dC,bV⟩:=bO bG;clear ag bb)
   refine hK.out _ _ ⟨bG,di⟩ (fun hS1=>?_)
   clear hK
   (try simp only [Act.put,List.setIfInBounds_toArray,List.set_cons_zero,List.set_cons_succ])
   refine mT (i:=3) (oi:=⟨some 6,_,_,_,_,_⟩) rfl ?_;(try simp only [Act.put,List.setIfInBounds_toArray,List.set_cons_zero,List.set_cons_succ])
   refine mT (i:=4) (oi:=⟨some 7,_,_,_,_,_⟩) rfl ?_;(try simp only [Act.put,List.setIfInBounds_toArray,List.set_cons_zero,List.set_cons_succ])
   refine mS (i:=5) (oi:=⟨some 8,_,_,_,_,_⟩) rfl ?_;(try simp only [Act.put,List.setIfInBounds_toArray,List.set_cons_zero,List.set_cons_succ])
   refine mS (i:=6) (oi:=⟨some 9,_,_,_,_,_⟩) rfl ?_;(try simp only [Act.put,List.setIfInBounds_toArray,List.set_cons_zero,List.set_cons_succ])
   refine mS (i:=7) (oi:=⟨some 10,_,_,_,_,_⟩) rfl ?_;(try simp only [Act.put,List.setIfInBounds_toArray,List.set_cons_zero,List.set_cons_succ])
   refine mS (i:=8) (oi:=⟨some 11,_,_,_,_,_⟩) rfl ?_;(try simp only [Act.put,List.setIfInBounds_toArray,List.set_cons_zero,List.set_cons_succ])
   refine mS (i:=9) (oi:=⟨some 12,_,_,_,_,_⟩) rfl ?_;(try simp only [Act.put,List.setIfInBounds_toArray,List.set_cons_zero,List.set_cons_succ])
   refine mS (i:=10) (oi:=⟨some 13,_,_,_,_,_⟩) rfl ?_;(try simp only [Act.put,List.setIfInBounds_toArray,List.set_cons_zero,List.set_cons_succ])
   refine mS (i:=11) (oi:=⟨some 14,_,_,_,_,_⟩) rfl ?_;(try simp only [Act.put,List.setIfInBounds_toArray,List.set_cons_zero,List.set_cons_succ])
   refine mS (i:=12) (oi:=⟨some 15,_,_,_,_,_⟩) rfl ?_;(try simp only [Act.put,List.setIfInBounds_toArray,List.set_cons_zero,List.set_cons_succ])
   refine mT (i:=13) (oi:=⟨some 16,_,_,_,_,_⟩) rfl ?_;(try simp only [Act.put,List.setIfInBounds_toArray,List.set_cons_zero,List.set_cons_succ])
   refine mT (i:=14) (oi:=⟨some 2,_,_,_,_,_⟩) rfl ?_;(try simp only [Act.put,List.setIfInBounds_toArray,List.set_cons_zero,List.set_cons_succ])
   refine wpAnyH_done (by kernel_rfl) ?_ _
   go_wp2
   go_ret
   exact ⟨aZ (by rw [← HK.out];simp [he2]),by exact zB⟩
end
section
open Go.RowKit
attribute [local go_sem ↓] aH aM aN aA ax
attribute [local go_sem ↓] nE
theorem gY (x o:Int) (w:World):Calls Tryz.prog 48 #[.int .i64 x,.int .i64 o] w fun r w'=>r=.returned (.agg (aa (aS x o)))∧Below w.heap.size w w':=by
 go_enter Tryz.func48,Tryz.ntmps48
 go_wp2
 refine bodyPost_ret (gH Tryz.results48 rfl (aj (aS x o) (by simp [go_sem] <;> rfl))) rfl ⟨rfl,by exact zB⟩
theorem yY (k e:Int) (w:World):Calls Tryz.prog 104 #[.agg #[.int .i64 k,.int .i64 e]] w fun r w'=>r=.returned (.int .i64 (if k == 1 then 1 else 9))∧Below w.heap.size w w':=by
 go_enter Tryz.func104,Tryz.ntmps104
 go_wp2
 all_goals go_ret
 all_goals exact ⟨jm (by simp_all),by exact zB⟩
theorem Ht {k e:Int} (h:dO k e=true):begun k e 0=⟨if k == 1 then 1 else 9,k,e,0,0,0,0,0,0,0,0,0,0,0⟩:=by
 have hk:k=1∨k=2:=by simp [dO] at h;omega
 rcases hk with rfl|rfl <;> rfl
theorem BK (h:Ha) (k e:Int) (w:World):Calls Tryz.prog 52 #[.agg (aa h),.agg #[.int .i64 k,.int .i64 e]] w fun r w'=>r=.returned (.tuple #[.agg (aa (called h k e).1),.int .i64 (called h k e).2])∧Below w.heap.size w w':=by
 by_cases h0:bF h=true
 ·by_cases h1:h.pos=0
  ·by_cases h2:dO k e=true
   ·rw [show called h k e=(begun k e 0,0) by simp [called,h0,h1,h2]]
    rw [Ht h2]
    have FA:=yY k e
    generalize (if k == 1 then (1:Int) else 9)=m at *
    have n1:(h.pos != 0)=false:=by simp [h1]
    clear h1
    go_enter Tryz.func52,Tryz.ntmps52
    go_wp2_with fail;refine au w zB fun bb=>?_;refine (gG h _).mono ?_;rintro _ w1 ⟨rfl,ag⟩;obtain ⟨aV,ak,zz⟩:=DX bb ag (b:=w.heap.size);(try simp at ak);(try simp [go_sem] at zz);replace bX:=DW zz;clear zz ag bb
    rw [h0]
    go_wp2_with fail;refine au w zB fun bb=>?_;refine (om k e _).mono ?_;rintro _ w2 ⟨rfl,hbw2⟩;obtain ⟨dh,aR,zz⟩:=DX bb hbw2 (b:=w.heap.size);(try simp at aR);(first|simp [go_sem,bX] at zz|simp [go_sem] at zz|skip);replace bX:=DW zz;clear zz hbw2 bb
    rw [h2]
    go_wp2_with fail
    go_region_held3 (fun w'=>w'.cell? ⟨w.heap.size+1,0,none⟩=some (.int .i64 k)∧w'.cell? ⟨w.heap.size+1,1,none⟩=some (.int .i64 e))
     (first|(simp [*,go_sem]))
     (first|(go_at_call 104;refine au w zB fun bb=>?_;refine (FA _).mono ?_;rintro _ w3 ⟨rfl,aC⟩;obtain ⟨iG,bM,zz⟩:=DX bb aC (b:=w.heap.size);(try simp at bM);(first|simp [go_sem,bX] at zz|simp [go_sem] at zz|skip);replace bX:=DW zz;clear zz aC bb))
    go_wp2
    exact bodyPost_ret (iF Tryz.results52 rfl (aj ⟨m,k,e,0,0,0,0,0,0,0,0,0,0,0⟩ tZ)) rfl ⟨rfl,by exact zB⟩
   ·have h2':dO k e=false:=by simpa using h2
    rw [show called h k e=(h,2) by simp [called,h0,h1,h2']]
    have n1:(h.pos != 0)=false:=by simp [h1]
    clear h1 h2
    go_enter Tryz.func52,Tryz.ntmps52
    go_wp2_with fail;refine au w zB fun bb=>?_;refine (gG h _).mono ?_;rintro _ w1 ⟨rfl,ag⟩;obtain ⟨aV,ak,zz⟩:=DX bb ag (b:=w.heap.size);(try simp at ak);(try simp [go_sem] at zz);replace bX:=DW zz;clear zz ag bb
    rw [h0]
    go_wp2_with fail;refine au w zB fun bb=>?_;refine (om k e _).mono ?_;rintro _ w2 ⟨rfl,hbw2⟩;obtain ⟨dh,aR,zz⟩:=DX bb hbw2 (b:=w.heap.size);(try simp at aR);(first|simp [go_sem,bX] at zz|simp [go_sem] at zz|skip);replace bX:=DW zz;clear zz hbw2 bb
    rw [h2']
    go_wp2
    exact bodyPost_ret (iF Tryz.results52 rfl (aj h tY)) rfl ⟨rfl,by exact zB⟩
  ·rw [show called h k e=(h,1) by simp [called,h0,h1]]
   have n1:(h.pos != 0)=true:=by simpa using h1
   clear h1
   go_enter Tryz.func52,Tryz.ntmps52
   go_wp2_with fail;refine au w zB fun bb=>?_;refine (gG h _).mono ?_;rintro _ w1 ⟨rfl,ag⟩;obtain ⟨aV,ak,zz⟩:=DX bb ag (b:=w.heap.size);(try simp at ak);(try simp [go_sem] at zz);replace bX:=DW zz;clear zz ag bb
   rw [h0]
   go_wp2
   exact bodyPost_ret (iF Tryz.results52 rfl (aj h tY)) rfl ⟨rfl,by exact zB⟩
 ·have h0':bF h=false:=by simpa using h0
  rw [show called h k e=(Ha.zero,3) by simp [called,h0']]
  clear h0
  go_enter Tryz.func52,Tryz.ntmps52
  go_wp2_with fail;refine au w zB fun bb=>?_;refine (gG h _).mono ?_;rintro _ w1 ⟨rfl,ag⟩;obtain ⟨aV,ak,zz⟩:=DX bb ag (b:=w.heap.size);(try simp at ak);(try simp [go_sem] at zz);replace bX:=DW zz;clear zz ag bb
  rw [h0']
  go_wp2
  exact bodyPost_ret (iF Tryz.results52 rfl (aj Ha.zero tY)) rfl ⟨rfl,by exact zB⟩
end
section
open Go.RowKit
attribute [local simp] aI
attribute [local go_sem ↓] aH aU aM bz aN bB aA aK ax aB
theorem fO (w:World) (lo:Nat) (v1 v2:Value):Calls Tryz.prog 233 #[] w fun r w'=>qY w w' lo v1 v2 nothing r∧Below w.heap.size w w':=by
 go_enter Tryz.func233,Tryz.ntmps233
 go_wp2
 refine rE Tryz.results233 rfl (az Ch.zero (.slice none 0 0) (.slice none 0 0) (by simp [go_sem])) rfl (aj Ha.zero (by simp [go_sem])) ⟨jZ _ _ _ _ _,by exact zB⟩
theorem dm (h:Ha) (k:Int) (w:World):Calls Tryz.prog 247 #[.agg (aa h),.int .i64 k] w fun r w'=>r=.returned (.agg (aa { h with pos:=k }))∧Below w.heap.size w w':=by
 go_enter Tryz.func247,Tryz.ntmps247
 go_wp2
 refine bodyPost_ret (gH Tryz.results247 rfl (aj { h with pos:=k } (by simp [go_sem] <;> rfl))) rfl ⟨rfl,by exact zB⟩
theorem yZ {k e:Int} (hc:dO k e=true):called (aS 0 0) k e=(begun k e 0,0):=by
 have h0:bF (aS 0 0)=true:=by decide
 have h1:(aS 0 0).pos=0:=rfl
 simp [called,h0,h1,hc]
theorem rF (h:Ha) (hc:dO h.code h.elem=true) (w:World):Calls Tryz.prog 250 #[.agg (aa h)] w fun r w'=>r=.returned (.agg (aa (anew h)))∧Below w.heap.size w w':=by
 have CC:=BK (aS 0 0) h.code h.elem
 rw [yZ hc] at CC
 have e:{ begun h.code h.elem 0 with beg:=h.beg }=anew h:=rfl
 have E:=Lib.hid e
 clear e
 go_enter Tryz.func250,Tryz.ntmps250
 go_wp2_with fail
 go_region_held3 (fun w'=>hp w' w.heap.size=some (.cells (aa h) 49)∧w'.cell? ⟨w.heap.size,1,none⟩=some (.int .i64 h.code)∧w'.cell? ⟨w.heap.size,2,none⟩=some (.int .i64 h.elem))
  (first|(simp [*,go_sem]))
  (first|(go_at_call 48;refine (gY 0 0 _).mono ?_;rintro _ w1 ⟨rfl,ag⟩;have hBw1:Below w.heap.size w w1:=bT zB ag;have ak:=ag.size;(try (simp at ak));have zz:=hQ ag (b:=w.heap.size);(first|(simp [go_sem,bG,bV] at zz)|(simp [go_sem] at zz));(try clear di dC);(try clear bG);have bG:=zz;clear zz;(try clear bV);obtain ⟨di,dC,bV⟩:=bO bG;have zz:=hQ ag (b:=w.heap.size+1);(first|(simp [go_sem,dE,dz] at zz)|(simp [go_sem] at zz));(try clear dS dZ);(try clear dE);have dE:=zz;clear zz;(try clear dz);obtain ⟨dS,dZ,dz⟩:=bO dE;have Kn:=mG ag (b:=w.heap.size+1+1);(try simp [go_sem] at Kn);(try have PW:=(bO Kn).2.2);have PX:w.heap.size<w1.heap.size:=tO;have Ko:w.heap.size<w1.heap.size+1:=tO;have Pz:w.heap.size+1<w1.heap.size:=tO;have Ec:w.heap.size+1<w1.heap.size+1:=tO)|(go_at_call 52;refine (CC _).mono ?_;rintro _ w2 ⟨rfl,hbw2⟩;have hBw2:Below w.heap.size w w2:=bT zB hbw2;have aR:=hbw2.size;(try (simp at aR));have zz:=hQ hbw2 (b:=w.heap.size);(first|(simp [go_sem,bG,bV,Ko,Ec] at zz)|(simp [go_sem,Ko,Ec] at zz));(try clear di dC);(try clear bG);have bG:=zz;clear zz;(try clear bV);obtain ⟨di,dC,bV⟩:=bO bG;have zz:=hQ hbw2 (b:=w.heap.size+1);(first|(simp [go_sem,dE,dz,Ko,Ec] at zz)|(simp [go_sem,Ko,Ec] at zz));(try clear dS dZ);(try clear dE);have dE:=zz;clear zz;(try clear dz);obtain ⟨dS,dZ,dz⟩:=bO dE;(first|(have OG:=(bO Kn).2.2;have EK:=mG hbw2 (b:=w.heap.size+1+1);(simp [go_sem,Kn,OG] at EK))|(have EK:=mG hbw2 (b:=w.heap.size+1+1);(try simp [go_sem] at EK)));(try have PY:=(bO EK).2.2);have Kq:=mG hbw2 (b:=w1.heap.size);(try simp [go_sem] at Kq);(try have PZ:=(bO Kq).2.2);have Qa:w.heap.size<w2.heap.size:=tO;have Qb:w.heap.size<w2.heap.size+1:=tO;have P5:w.heap.size+1<w2.heap.size:=tO;have P6:w.heap.size+1<w2.heap.size+1:=tO))
 all_goals (try (have y0:=(bO EK).1;have g0:=(bO EK).2.1))
 all_goals (try (have y1:=(bO Kq).1;have g1:=(bO Kq).2.1))
 all_goals go_wp2
 all_goals (refine bodyPost_ret (gH Tryz.results250 rfl (aj (anew h) tZ)) rfl ⟨rfl,by exact zB⟩)
end
section
open Go.RowKit
theorem OH (n:Nat) (hn:n≤40) (g:Nat) (W:World):(Instr.sliceAt 142 (.pointer (some ⟨g,0,none⟩)) none (some (.int .i64 n)) (some (.int .i64 n))).run Tryz.prog W=.ok (.slice (some ⟨g,0,none⟩) n n) W:=by
  have hl:Tryz.prog.arrayLen 142=40:=by kernel_rfl
  rw [run_sliceAt_array_hm (P:=Tryz.prog) W 142 ⟨g,0,none⟩ Tryz.underlying142 .i64 .i64 n n tO tO tO]
  simp [go_sem,slicedAt]
theorem Hu (n:Nat) (hn:n≤40) (g:Nat) (w:World):Calls Tryz.prog 108 #[.pointer (some ⟨g,0,none⟩),.int .i64 n] w fun r w'=>r=.returned (.slice (some ⟨g,0,none⟩) n n)∧w=w':=by
  have hcut:=OH n hn g
  go_enter Tryz.func108,Tryz.ntmps108
  go_wp2
  go_ret
  exact ⟨rfl,rfl⟩
def lN (l:List Int):Bool:=decide (l.length≤80) && l.all (fun x=>dL x 0 2)
def ko (n:Nat) (cs:List C3):Bool:=decide (cs.length=40) && cs.all (fe n)
def countB (c:Ch):Bool:=dL c.sent 0 40 && (dL c.got 0 40 && dL c.fin 0 40)
theorem lQ (c:Ch):aG c=(dL c.cap 0 4 && (countB c && (lN c.words && ko c.words.length c.cells))):=by
  unfold aG fo countB lN ko
  cases dL c.cap 0 4 <;> cases dL c.sent 0 40 <;> cases dL c.got 0 40 <;> cases dL c.fin 0 40 <;> cases decide (c.cells.length=40) <;> cases decide (c.words.length≤80) <;> cases c.cells.all (fe c.words.length) <;> cases c.words.all (fun x=>dL x 0 2) <;> rfl
theorem rG (c:Ch) (v1 v2:Value) (w:World) :
    Calls Tryz.prog 148 #[.agg #[.int .i64 c.cap,.int .i64 c.sent,.int .i64 c.got,.int .i64 c.fin,v1,v2]] w fun r w'=>r=.returned (.bool (countB c))∧Below w.heap.size w w':=by
  go_enter Tryz.func148,Tryz.ntmps148
  go_wp2_with (go_at_call 45;refine (fM _ _ _).mono ?_;rintro _ _ ⟨rfl,rfl⟩)
  all_goals go_ret
  all_goals exact ⟨aZ (by simp [countB, *]),by exact zB⟩
theorem BL {l:List Int} {k:Nat} {x:Int} (hk:k<l.length) (hc:l.getD k 0=x) (h:dL x 0 2=false):false=lN l:=by
  have:l.all (fun x=>dL x 0 2)=false:=by
    rw [List.all_eq_false]
    refine ⟨l[k],List.getElem_mem hk,?_⟩
    rw [← hc] at h
    simpa [List.getD,List.getElem?_eq_getElem hk] using h
  simp [lN,this]
theorem BM {l:List Int} (h:l.length≤80) (h2:(l.take l.length).all (fun x=>dL x 0 2)=true):true=lN l:=by
  rw [List.take_length] at h2
  simp only [lN,h2,h,decide_true];rfl
theorem ze (l:List Int) (a:Option Addr) (p:Nat) (w:World) (h:eZ w w.heap.size a l) (hm:l.length≤maxLen) :
    Calls Tryz.prog 149 #[.slice a l.length p] w fun r w'=>r=.returned (.bool (lN l))∧Below w.heap.size w w':=by
  unfold maxLen at hm
  by_cases hlen:80<l.length
  · have hV:Hid (false=lN l):=by simp [lN,Hid];omega
    go_enter Tryz.func149,Tryz.ntmps149
    go_wp2
    go_ret
    exact ⟨aZ hV.out,Below.refl _ _⟩
  · have hd:decide (80<(l.length:Int))=false:=by simp;omega
    have hle:l.length≤80:=by omega
    clear hlen
    have HS:=Lib.hid h
    clear h
    go_enter Tryz.func149,Tryz.ntmps149
    go_wp2
    go_loopw [10] (fun i wr=>∃ k:Nat,k≤l.length∧i=.int .i64 k∧Hid ((l.take k).all (fun x=>dL x 0 2)=true)∧Below w.heap.size w wr) (fun i _=>l.length - (intOf i).toNat)
    case atStart=>exact ⟨0,Nat.zero_le _,rfl,rfl,Below.refl _ _⟩
    case round =>
      obtain ⟨k,hk,rfl,hall,hB⟩:=hrel
      by_cases hlt:k<l.length
      · obtain h0|⟨b,o,rfl,hb,hc⟩:=HS.out
        · omega
        have c0:=(hB.cell (p:=⟨b,o+k*1+0,none⟩) hb).trans (hc k 0 hlt tO)
        simp only [fP,Nat.add_zero,Nat.mul_one] at c0
        clear hc
        generalize hcg:l.getD k 0=x at c0
        have HC:=Lib.hid hcg
        clear hcg
        go_wp2_with (go_at_call 45;refine (fM _ _ _).mono ?_;rintro _ _ ⟨rfl,rfl⟩)
        · go_ret
          exact ⟨aZ (BL hlt HC.out (not_true ‹_›)),hB⟩
        · go_roundw
          case rel=>exact ⟨k+1,by omega,by go_num,qV hlt HC.out hall.out (not_false ‹_›),hB⟩
          case measure=>simp [intOf];omega
      · have:k=l.length:=by omega
        subst this
        go_wp2
        go_ret
        exact ⟨aZ (BM hle hall.out),hB⟩
theorem BN {n:Nat} {cs:List C3} {k:Nat} {c:C3} (hk:k<cs.length) (hc:cs.getD k ⟨0,0,0⟩=c) (h:fe n c=false):false=ko n cs:=by
  have:cs.all (fe n)=false:=by
    rw [List.all_eq_false]
    refine ⟨cs[k],List.getElem_mem hk,?_⟩
    rw [← hc] at h
    simpa [List.getD,List.getElem?_eq_getElem hk] using h
  simp [ko,this]
theorem BO {n:Nat} {cs:List C3} (h:cs.length=40) (h2:(cs.take cs.length).all (fe n)=true):true=ko n cs:=by
  rw [List.take_length] at h2
  simp only [ko,h2,h,decide_true];rfl
theorem zg {n:Nat} {cs:List C3} {k:Nat} {c:C3} (hk:k<cs.length) (hc:cs.getD k ⟨0,0,0⟩=c) (h:(cs.take k).all (fe n)=true) (h1:fe n c=true):(cs.take (k+1)).all (fe n)=true:=by
  rw [lF cs k hk,hc,List.all_append,h];simp [h1]
theorem zi (n:Nat) (cs:List C3) (a:Option Addr) (p:Nat) (w:World) (h:eY w w.heap.size a cs) (hm:cs.length≤maxLen) :
    Calls Tryz.prog 150 #[.slice a cs.length p,.int .i64 n] w fun r w'=>r=.returned (.bool (ko n cs))∧Below w.heap.size w w':=by
  unfold maxLen at hm
  by_cases hlen:cs.length=40
  · have hd:((cs.length:Int) != 40)=false:=by simp;omega
    have hle:cs.length≤40:=by omega
    have HL:=Lib.hid hlen
    clear hlen
    have HS:=Lib.hid h
    clear h
    go_enter Tryz.func150,Tryz.ntmps150
    go_wp2
    go_loopw [12] (fun i wr=>∃ k:Nat,k≤cs.length∧i=.int .i64 k∧Hid ((cs.take k).all (fe n)=true)∧Below w.heap.size w wr) (fun i _=>cs.length - (intOf i).toNat)
    case atStart=>exact ⟨0,Nat.zero_le _,rfl,rfl,Below.refl _ _⟩
    case round =>
      obtain ⟨k,hk,rfl,hall,hB⟩:=hrel
      have hs:=hB.size
      by_cases hlt:k<cs.length
      · obtain h0|⟨b,o,rfl,hb,hc⟩:=HS.out
        · omega
        have c0:=(hB.cell (p:=⟨b,o+k*3+0,none⟩) hb).trans (hc k 0 hlt tO)
        have c1:=(hB.cell (p:=⟨b,o+k*3+1,none⟩) hb).trans (hc k 1 hlt tO)
        have c2:=(hB.cell (p:=⟨b,o+k*3+2,none⟩) hb).trans (hc k 2 hlt tO)
        simp only [eT,C3.val,Nat.add_zero] at c0 c1 c2
        clear hc
        generalize hcg:cs.getD k ⟨0,0,0⟩=c at c0 c1 c2
        have HC:=Lib.hid hcg
        clear hcg
        go_wp2_with (go_at_call 181;refine (oh _ _ _ _).mono ?_;rintro _ w1 ⟨rfl,ag⟩;have hBw1:Below w.heap.size w w1:=bT zB ag;have ak:=ag.size;(try (simp at ak));have:=fun o=>ag.cell (p:=⟨wr.heap.size,o,none⟩) (by ((try simp);(try omega)));have:=fun o=>ag.frozen (p:=⟨wr.heap.size,o,none⟩) (by ((try simp);(try omega)));have:wr.heap.size<w1.heap.size:=tO;have:wr.heap.size≤w1.heap.size:=tO;have:wr.heap.size≤w1.heap.size+1:=tO)
        all_goals first
          | (go_ret;exact ⟨aZ (BN hlt HC.out (by simp_all [fe,MC])),by exact zB⟩)
          | (go_roundw
             case rel=>exact ⟨k+1,by omega,by go_num,zg hlt HC.out hall.out (by simp_all [fe,MC]),by exact zB⟩
             case measure=>simp [intOf];omega)
      · have:k=cs.length:=by omega
        subst this
        go_wp2
        go_ret
        exact ⟨aZ (BO HL.out hall.out),hB⟩
  · have hd:((cs.length:Int) != 40)=true:=by simp;omega
    have hV:Hid (false=ko n cs):=by simp [ko,Hid,hlen]
    clear hlen
    go_enter Tryz.func150,Tryz.ntmps150
    go_wp2
    go_ret
    exact ⟨aZ hV.out,Below.refl _ _⟩
theorem fF (c:Ch) (a b:Option Addr) (p q:Nat) (w:World) (h1:eY w w.heap.size a c.cells) (h2:eZ w w.heap.size b c.words) (m1:c.cells.length≤maxLen) (m2:c.words.length≤maxLen) :
    Calls Tryz.prog 98 #[.agg #[.int .i64 c.cap,.int .i64 c.sent,.int .i64 c.got,.int .i64 c.fin,.slice a c.cells.length p,.slice b c.words.length q]] w fun r w'=>r=.returned (.bool (aG c))∧Below w.heap.size w w':=by
  rw [lQ]
  have H1:=Lib.hid h1
  have H2:=Lib.hid h2
  have M1:=Lib.hid m1
  have M2:=Lib.hid m2
  clear h1 h2 m1 m2
  go_enter Tryz.func98,Tryz.ntmps98
  go_wp2_with (first|(go_at_call 45;refine (fM _ _ _).mono ?_;rintro _ _ ⟨rfl,rfl⟩)|(go_at_call 148;refine (rG c _ _ _).mono ?_;rintro _ w1 ⟨rfl,ag⟩;have hBw1:Below w.heap.size w w1:=bT zB ag;have ak:=ag.size;(try (simp at ak));have:=fun o=>ag.cell (p:=⟨w.heap.size,o,none⟩) (by ((try simp);(try omega)));have:=fun o=>ag.frozen (p:=⟨w.heap.size,o,none⟩) (by ((try simp);(try omega)));have:w.heap.size<w1.heap.size:=tO;have:w.heap.size≤w1.heap.size:=tO;have:w.heap.size≤w1.heap.size+1:=tO)|(go_at_call 149;refine (ze c.words b q _ ((H2.out.below zB).more (by (try simp);omega)) M2.out).mono ?_;rintro _ w2 ⟨rfl,hb2⟩;have hB2:Below w.heap.size w w2:=bT zB hb2;have hs2:=hb2.size;have:=fun o=>hb2.cell (p:=⟨w.heap.size,o,none⟩) (by (try simp);omega))|(go_at_call 150;refine (zi c.words.length c.cells a p _ ((H1.out.below zB).more (by (try simp);omega)) M1.out).mono ?_;rintro _ w3 ⟨rfl,hb3⟩;have hB3:Below w.heap.size w w3:=bT zB hb3))
  all_goals go_ret
  all_goals exact ⟨aZ (by simp [*]),by exact zB⟩
end
end Go.Proofs.YtffhjmepfojhnaaGreat
