/-
  The contracts of the program's functions of chapter 5, on hands that are kept whole; no condition.
-/
import Derived.Test.YtffhjmepfojhnaaGreatS04
import Derived.Test.YtffhjmepfojhnaaGreatS05
import Derived.BigRegion
import Derived.StillTailTactics
set_option maxRecDepth 100000
set_option maxHeartbeats 2000000
set_option linter.unusedSimpArgs false
set_option linter.unusedVariables false
namespace Go.Proofs.YtffhjmepfojhnaaGreat
open _root_.Go.Proofs.Tryz
open Go.RowKit
attribute [local go_sem ↓] aQ aY aZ aX aN
attribute [local go_sem ↓] o9
def near (n m:Int):Int:=if (if n<0 then 0 else n)≤m then (if n<0 then 0 else n) else m
theorem mH {n m:Int} (q:0≤m):(n == near n m)=dA n 0 m:=by
 rw [Bool.eq_iff_iff]
 simp only [near,dA,beq_iff_eq,Bool.and_eq_true,decide_eq_true_eq]
 repeat' split
 all_goals omega
def oJ (h:Ha):Ha:=⟨near h.pos 25,if h.pos == 0 then 0 else h.code,if h.pos == 0 then 0 else h.elem,near h.cell 39,near h.seen 10,near h.wait 80,near h.fin 40,near h.come 40,near h.grow 39,near h.mine 80,near h.nxt 2,near h.beg 20000,near h.reply 4,near h.out 999⟩
theorem Lx (h:Ha):(rz h (oJ h) && (h.pos == 0 || eB h.code h.elem))=bM h:=by
 simp only [rz,oJ,mH (show (0:Int)≤25 by decide),mH (show (0:Int)≤39 by decide),mH (show (0:Int)≤10 by decide),mH (show (0:Int)≤80 by decide),mH (show (0:Int)≤40 by decide),mH (show (0:Int)≤2 by decide),mH (show (0:Int)≤20000 by decide),mH (show (0:Int)≤4 by decide),mH (show (0:Int)≤999 by decide)]
 have e:((h.code == if h.pos == 0 then 0 else h.code) && (h.elem == if h.pos == 0 then 0 else h.elem) && (h.pos == 0 || eB h.code h.elem))=(if h.pos == 0 then sV h.code h.elem else eB h.code h.elem):=by
  by_cases r:h.pos=0
  ·simp [r,sV]
  ·simp [r]
 unfold bM oV qy uj
 rw [← e]
 generalize dA h.pos 0 25=u
 generalize (h.code == if h.pos == 0 then 0 else h.code)=b2
 generalize (h.elem == if h.pos == 0 then 0 else h.elem)=b3
 generalize dA h.cell 0 39=E
 generalize dA h.seen 0 10=F
 generalize dA h.wait 0 80=G
 generalize dA h.fin 0 40=I
 generalize dA h.come 0 40=J
 generalize dA h.grow 0 39=H
 generalize dA h.mine 0 80=m
 generalize dA h.nxt 0 2=y
 generalize dA h.beg 0 20000=z
 generalize dA h.reply 0 4=A
 generalize dA h.out 0 999=D
 generalize (h.pos == 0 || eB h.code h.elem)=q
 simp only [Bool.and_assoc]
 cases u <;> cases b2 <;> cases b3 <;> cases q <;> (try simp) <;> cases E <;> cases H <;> cases F <;> cases G <;> cases m <;> simp
theorem CL (n m:Int) (w:World):Calls prog 183 #[.int .i64 n,.int .i64 m] w fun r w'=>r=.returned (.int .i64 (near n m))∧w=w':=by
 go_enter func183,ntmps183
 go_wp2
 all_goals go_ret
 all_goals exact ⟨ou (by (try unfold near);(repeat' split) <;> omega),rfl⟩
theorem zo (n m:Int) (w:World):Calls prog 183 #[.int .i64 n,.int .i64 m] w fun r w'=>r=.returned (.int .i64 (near n m))∧w'=w :=
 (CL n m w).mono fun _ _ h=>⟨h.1,h.2.symm⟩
theorem pV (h:Ha) (w:World):Calls prog 154 #[.agg (aB h)] w fun r w'=>r=.returned (.agg (aB (oJ h)))∧Below w w w':=by
 by_cases m:h.pos=0
 ·have q:(h.pos == 0)=true:=by simpa using m
  clear m
  have u:oJ h=⟨near h.pos 25,0,0,near h.cell 39,near h.seen 10,near h.wait 80,near h.fin 40,near h.come 40,near h.grow 39,near h.mine 80,near h.nxt 2,near h.beg 20000,near h.reply 4,near h.out 999⟩:=by simp [oJ,q]
  rw [u]
  go_enter func154,ntmps154
  go_wp2
  refine wp_region_still_tail 38 (by kernel_rfl) (by kernel_rfl) ?_
  simp only [List.take_succ_cons,List.take_zero,List.drop_succ_cons,List.drop_zero]
  change wpStill _ _ (World.drew _) _ _ _
  repeat (first|still_step|still_call (zo _ _ _))
  refine wpStill_nil ?_
  change wpList _ _ _ _ _ (World.drew _)
  go_wp2
  refine bodyPost_ret (jy results154 rfl (aJ ⟨near h.pos 25,0,0,near h.cell 39,near h.seen 10,near h.wait 80,near h.fin 40,near h.come 40,near h.grow 39,near h.mine 80,near h.nxt 2,near h.beg 20000,near h.reply 4,near h.out 999⟩ (by simp [go_sem] <;> rfl))) rfl ⟨rfl,by exact zB⟩
 ·have q:(h.pos == 0)=false:=by simpa using m
  clear m
  have u:oJ h=⟨near h.pos 25,h.code,h.elem,near h.cell 39,near h.seen 10,near h.wait 80,near h.fin 40,near h.come 40,near h.grow 39,near h.mine 80,near h.nxt 2,near h.beg 20000,near h.reply 4,near h.out 999⟩:=by simp [oJ,q]
  rw [u]
  go_enter func154,ntmps154
  go_wp2
  refine wp_region_still_tail 38 (by kernel_rfl) (by kernel_rfl) ?_
  simp only [List.take_succ_cons,List.take_zero,List.drop_succ_cons,List.drop_zero]
  change wpStill _ _ (World.drew _) _ _ _
  repeat (first|still_step|still_call (zo _ _ _))
  refine wpStill_nil ?_
  change wpList _ _ _ _ _ (World.drew _)
  go_wp2
  refine bodyPost_ret (jy results154 rfl (aJ ⟨near h.pos 25,h.code,h.elem,near h.cell 39,near h.seen 10,near h.wait 80,near h.fin 40,near h.come 40,near h.grow 39,near h.mine 80,near h.nxt 2,near h.beg 20000,near h.reply 4,near h.out 999⟩ (by simp [go_sem] <;> rfl))) rfl ⟨rfl,by exact zB⟩
end Go.Proofs.YtffhjmepfojhnaaGreat
