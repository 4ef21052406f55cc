/-
  The contracts of the program's functions of chapter 5, on hands that are kept whole; no condition.
-/
import Derived.Test.YtffhjmepfojhnaaGreatT04
import Derived.Test.YtffhjmepfojhnaaGreatT03
import Derived.BigRegion
import Derived.StillTailTactics
set_option maxRecDepth 100000
set_option maxHeartbeats 2000000
set_option linter.unusedSimpArgs false
set_option linter.unusedVariables false
namespace Go.Proofs.YtffhjmepfojhnaaGreat
open _root_.Go.Proofs.Tryz
section
open Go.RowKit
attribute [local go_sem ↓] dA dO dP dW bK
attribute [local go_sem ↓] Dz
def near (n m:Int):Int:=if (if n<0 then 0 else n)≤m then (if n<0 then 0 else n) else m
theorem oN {n m:Int} (F:0≤m):(n == near n m)=dV n 0 m:=by
 rw [Bool.eq_iff_iff];simp only [near,dV,beq_iff_eq,Bool.and_eq_true,decide_eq_true_eq]
 repeat' split
 all_goals omega
def rQ (h:Ha):Ha:=⟨near h.pos 25,if h.pos == 0 then 0 else h.code,if h.pos == 0 then 0 else h.elem,near h.cell 39,near h.seen 10,near h.wait 80,near h.fin 40,near h.come 40,near h.grow 39,near h.mine 80,near h.nxt 2,near h.beg 20000,near h.reply 4,near h.out 999⟩
theorem P8 (h:Ha):(vV h (rQ h) && (h.pos == 0 || eD h.code h.elem))=aU h:=by
 simp only [vV,rQ,oN (show (0:Int)≤25 by decide),oN (show (0:Int)≤39 by decide),oN (show (0:Int)≤10 by decide),oN (show (0:Int)≤80 by decide),oN (show (0:Int)≤40 by decide),oN (show (0:Int)≤2 by decide),oN (show (0:Int)≤20000 by decide),oN (show (0:Int)≤4 by decide),oN (show (0:Int)≤999 by decide)];have e:((h.code == if h.pos == 0 then 0 else h.code) && (h.elem == if h.pos == 0 then 0 else h.elem) && (h.pos == 0 || eD h.code h.elem))=(if h.pos == 0 then r9 h.code h.elem else eD h.code h.elem):=by
  by_cases H:h.pos=0
  ·simp [H,r9]
  ·simp [H]
 unfold aU oG sI yC;rw [← e];generalize dV h.pos 0 25=I;generalize (h.code == if h.pos == 0 then 0 else h.code)=b2;generalize (h.elem == if h.pos == 0 then 0 else h.elem)=b3;generalize dV h.cell 0 39=N;generalize dV h.seen 0 10=O;generalize dV h.wait 0 80=R;generalize dV h.fin 0 40=U;generalize dV h.come 0 40=V;generalize dV h.grow 0 39=T;generalize dV h.mine 0 80=F;generalize dV h.nxt 0 2=J;generalize dV h.beg 0 20000=K
 generalize dV h.reply 0 4=L;generalize dV h.out 0 999=M;generalize (h.pos == 0 || eD h.code h.elem)=G;simp only [Bool.and_assoc];cases I <;> cases b2 <;> cases b3 <;> cases G <;> (try simp) <;> cases N <;> cases T <;> cases O <;> cases R <;> cases F <;> simp
theorem Gj (n m:Int) (w:World):Calls prog 183 #[.int .i64 n,.int .i64 m] w fun r w'=>r=.returned (.int .i64 (near n m))∧w=w':=by
 go_enter func183,ntmps183
 go_wp2
 all_goals go_ret
 all_goals exact ⟨ry (by (try unfold near);(repeat' split) <;> omega),rfl⟩
theorem Di (n m:Int) (w:World):Calls prog 183 #[.int .i64 n,.int .i64 m] w fun r w'=>r=.returned (.int .i64 (near n m))∧w'=w :=
 (Gj n m w).mono fun _ _ h=>⟨h.1,h.2.symm⟩
theorem uy (h:Ha) (w:World):Calls prog 154 #[.agg (aB h)] w fun r w'=>r=.returned (.agg (aB (rQ h)))∧Below w w w':=by
 by_cases F:h.pos=0
 ·have G:(h.pos == 0)=true:=by simpa using F
  clear F;have H:rQ h=⟨near h.pos 25,0,0,near h.cell 39,near h.seen 10,near h.wait 80,near h.fin 40,near h.come 40,near h.grow 39,near h.mine 80,near h.nxt 2,near h.beg 20000,near h.reply 4,near h.out 999⟩:=by simp [rQ,G]
  rw [H];go_enter func154,ntmps154;go_wp2;refine wp_region_still_tail 38 bH bH ?_;simp only [List.take_succ_cons,List.take_zero,List.drop_succ_cons,List.drop_zero];change wpStill _ _ (World.drew _) _ _ _
  repeat (first|still_step|still_call (Di _ _ _))
  refine wpStill_nil ?_;change wpList _ _ _ _ _ (World.drew _);go_wp2;refine bodyPost_ret (jY results154 rfl (aQ ⟨near h.pos 25,0,0,near h.cell 39,near h.seen 10,near h.wait 80,near h.fin 40,near h.come 40,near h.grow 39,near h.mine 80,near h.nxt 2,near h.beg 20000,near h.reply 4,near h.out 999⟩ yo)) rfl ⟨rfl,zB⟩
 ·have G:(h.pos == 0)=false:=by simpa using F
  clear F;have H:rQ h=⟨near h.pos 25,h.code,h.elem,near h.cell 39,near h.seen 10,near h.wait 80,near h.fin 40,near h.come 40,near h.grow 39,near h.mine 80,near h.nxt 2,near h.beg 20000,near h.reply 4,near h.out 999⟩:=by simp [rQ,G]
  rw [H];go_enter func154,ntmps154;go_wp2;refine wp_region_still_tail 38 bH bH ?_;simp only [List.take_succ_cons,List.take_zero,List.drop_succ_cons,List.drop_zero];change wpStill _ _ (World.drew _) _ _ _
  repeat (first|still_step|still_call (Di _ _ _))
  refine wpStill_nil ?_;change wpList _ _ _ _ _ (World.drew _);go_wp2;refine bodyPost_ret (jY results154 rfl (aQ ⟨near h.pos 25,h.code,h.elem,near h.cell 39,near h.seen 10,near h.wait 80,near h.fin 40,near h.come 40,near h.grow 39,near h.mine 80,near h.nxt 2,near h.beg 20000,near h.reply 4,near h.out 999⟩ yo)) rfl ⟨rfl,zB⟩
theorem jN (h:Ha) (w:World):Calls prog 102 #[.agg (aB h)] w fun r w'=>r=.returned (.bool (aU h))∧Below w w w':=by
 have Y:=P8 h;have HK:=aA Y;clear Y;by_cases he:vV h (rQ h)=true
 ·by_cases h0:h.pos=0
  ·have e0:(h.pos == 0)=true:=by simpa using h0
   clear h0;go_enter func102,ntmps102;go_wp2_with fail;refine wp_region_held_drew (S:=fun w'=>hp w' w=some (.cells (aB h) 49)∧(∀ o,w'.cell? ⟨w,o,none⟩=(aB h)[o]?)) bH qp (fun U=>?_);refine mT (i:=0) (oi:=⟨some 3,_,_,_,_,_⟩) rfl ?_;(try simp only [dE]);refine mT (i:=1) (oi:=⟨some 4,_,_,_,_,_⟩) rfl ?_;(try simp only [dE]);refine wpAnyH_ready (rs:=[2]) bH cK ?_;refine AllReadyH.cons (o:=⟨some 5,_,_,_,_,_⟩) rfl (fun K R=>?_) AllReadyH.nil
   go_simp
   (go_at_call 154;refine aK w zB fun O=>?_;refine (uy h _).mono ?_;rintro _ Z ⟨rfl,F⟩;have T:Below w w Z:=bT O F;have I:=F.size;(try simp at I);have L:=hQ F (b:=w);(try simp [go_sem] at L);(try clear G H M J);have G:=L;clear L;obtain ⟨H,M,J⟩:=bO G;clear F O)
   refine R.out _ _ ⟨G,H⟩ (fun V=>?_);clear R
   (try simp only [dE])
   refine mT (i:=3) (oi:=⟨some 6,_,_,_,_,_⟩) rfl ?_;(try simp only [dE]);refine mT (i:=4) (oi:=⟨some 7,_,_,_,_,_⟩) rfl ?_;(try simp only [dE]);refine mT (i:=5) (oi:=⟨some 8,_,_,_,_,_⟩) rfl ?_;(try simp only [dE]);refine mT (i:=6) (oi:=⟨some 9,_,_,_,_,_⟩) rfl ?_;(try simp only [dE]);refine mT (i:=7) (oi:=⟨some 10,_,_,_,_,_⟩) rfl ?_;(try simp only [dE]);refine mT (i:=8) (oi:=⟨some 11,_,_,_,_,_⟩) rfl ?_;(try simp only [dE])
   refine mS (i:=9) (oi:=⟨some 12,_,_,_,_,_⟩) rfl ?_;(try simp only [dE]);refine mS (i:=10) (oi:=⟨some 13,_,_,_,_,_⟩) rfl ?_;(try simp only [dE]);refine mS (i:=11) (oi:=⟨some 14,_,_,_,_,_⟩) rfl ?_;(try simp only [dE]);exact U0
  ·have e0:(h.pos == 0)=false:=by simpa using h0
   clear h0;go_enter func102,ntmps102;go_wp2_with fail;refine wp_region_held_drew (S:=fun w'=>hp w' w=some (.cells (aB h) 49)∧(∀ o,w'.cell? ⟨w,o,none⟩=(aB h)[o]?)) bH qp (fun U=>?_);refine mT (i:=0) (oi:=⟨some 3,_,_,_,_,_⟩) rfl ?_;(try simp only [dE]);refine mT (i:=1) (oi:=⟨some 4,_,_,_,_,_⟩) rfl ?_;(try simp only [dE]);refine wpAnyH_ready (rs:=[2]) bH cK ?_;refine AllReadyH.cons (o:=⟨some 5,_,_,_,_,_⟩) rfl (fun K R=>?_) AllReadyH.nil
   go_simp
   (go_at_call 154;refine aK w zB fun O=>?_;refine (uy h _).mono ?_;rintro _ Z ⟨rfl,F⟩;have T:Below w w Z:=bT O F;have I:=F.size;(try simp at I);have L:=hQ F (b:=w);(try simp [go_sem] at L);(try clear G H M J);have G:=L;clear L;obtain ⟨H,M,J⟩:=bO G;clear F O)
   refine R.out _ _ ⟨G,H⟩ (fun V=>?_);clear R
   (try simp only [dE])
   refine mT (i:=3) (oi:=⟨some 6,_,_,_,_,_⟩) rfl ?_;(try simp only [dE]);refine mT (i:=4) (oi:=⟨some 7,_,_,_,_,_⟩) rfl ?_;(try simp only [dE]);refine mT (i:=5) (oi:=⟨some 8,_,_,_,_,_⟩) rfl ?_;(try simp only [dE]);refine mT (i:=6) (oi:=⟨some 9,_,_,_,_,_⟩) rfl ?_;(try simp only [dE]);refine mT (i:=7) (oi:=⟨some 10,_,_,_,_,_⟩) rfl ?_;(try simp only [dE]);refine mT (i:=8) (oi:=⟨some 11,_,_,_,_,_⟩) rfl ?_;(try simp only [dE])
   refine mT (i:=9) (oi:=⟨some 12,_,_,_,_,_⟩) rfl ?_;(try simp only [dE]);refine mT (i:=10) (oi:=⟨some 13,_,_,_,_,_⟩) rfl ?_;(try simp only [dE]);refine wpAnyH_ready (rs:=[11]) bH cK ?_;refine AllReadyH.cons (o:=⟨some 14,_,_,_,_,_⟩) rfl (fun K R=>?_) AllReadyH.nil;go_simp
   (go_at_call 103;refine aK w zB fun O=>?_;refine (vU h.code h.elem _).mono ?_;rintro _ w2 ⟨rfl,N⟩;have a1:Below w w w2:=bT O N;have X:=N.size;(try simp at X);have L:=hQ N (b:=w);(first|simp [go_sem,G,J] at L|simp [go_sem] at L|skip);(try clear G H M J);have G:=L;clear L;obtain ⟨H,M,J⟩:=bO G;clear N O)
   refine R.out _ _ ⟨G,H⟩ (fun a2=>?_);clear R
   (try simp only [dE])
   exact U0
 ·have a0:vV h (rQ h)=false:=by simpa using he
  clear he
  focus
   go_enter func102,ntmps102
   go_wp2_with fail;refine wp_region_held_drew (S:=fun w'=>hp w' w=some (.cells (aB h) 49)∧(∀ o,w'.cell? ⟨w,o,none⟩=(aB h)[o]?)) bH qp (fun U=>?_)
   refine mT (i:=0) (oi:=⟨some 3,_,_,_,_,_⟩) rfl ?_;(try simp only [dE]);refine mT (i:=1) (oi:=⟨some 4,_,_,_,_,_⟩) rfl ?_;(try simp only [dE]);refine wpAnyH_ready (rs:=[2]) bH cK ?_;refine AllReadyH.cons (o:=⟨some 5,_,_,_,_,_⟩) rfl (fun K R=>?_) AllReadyH.nil;go_simp
   (go_at_call 154;refine aK w zB fun O=>?_;refine (uy h _).mono ?_;rintro _ Z ⟨rfl,F⟩;have T:Below w w Z:=bT O F;have I:=F.size;(try simp at I);have L:=hQ F (b:=w);(try simp [go_sem] at L);(try clear G H M J);have G:=L;clear L;obtain ⟨H,M,J⟩:=bO G;clear F O)
   refine R.out _ _ ⟨G,H⟩ (fun V=>?_);clear R
   (try simp only [dE])
   refine mT (i:=3) (oi:=⟨some 6,_,_,_,_,_⟩) rfl ?_;(try simp only [dE]);refine mT (i:=4) (oi:=⟨some 7,_,_,_,_,_⟩) rfl ?_;(try simp only [dE]);refine mS (i:=5) (oi:=⟨some 8,_,_,_,_,_⟩) rfl ?_;(try simp only [dE]);refine mS (i:=6) (oi:=⟨some 9,_,_,_,_,_⟩) rfl ?_;(try simp only [dE]);refine mS (i:=7) (oi:=⟨some 10,_,_,_,_,_⟩) rfl ?_;(try simp only [dE]);refine mS (i:=8) (oi:=⟨some 11,_,_,_,_,_⟩) rfl ?_;(try simp only [dE])
   refine mS (i:=9) (oi:=⟨some 12,_,_,_,_,_⟩) rfl ?_;(try simp only [dE]);refine mS (i:=10) (oi:=⟨some 13,_,_,_,_,_⟩) rfl ?_;(try simp only [dE]);refine mS (i:=11) (oi:=⟨some 14,_,_,_,_,_⟩) rfl ?_;(try simp only [dE]);refine mS (i:=12) (oi:=⟨some 15,_,_,_,_,_⟩) rfl ?_;(try simp only [dE]);refine mT (i:=13) (oi:=⟨some 16,_,_,_,_,_⟩) rfl ?_;(try simp only [dE]);refine mT (i:=14) (oi:=⟨some 2,_,_,_,_,_⟩) rfl ?_;(try simp only [dE])
   refine wpAnyH_done bH ?_ _;go_wp2;go_ret;exact ⟨bQ (by rw [← HK.out];simp [a0]),zB⟩
end
end Go.Proofs.YtffhjmepfojhnaaGreat
