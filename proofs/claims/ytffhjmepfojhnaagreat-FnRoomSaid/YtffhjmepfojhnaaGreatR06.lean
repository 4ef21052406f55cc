/-
  The contracts of the program's functions of chapter 5, on hands that are kept whole; no condition.
-/
import Derived.Test.YtffhjmepfojhnaaGreatR05
import Derived.BigRegion
import Derived.StillTailTactics
import Derived.Test.YtffhjmepfojhnaaGreatR04
import Derived.Test.YtffhjmepfojhnaaGreatR02
import Derived.Test.YtffhjmepfojhnaaGreatR01
set_option maxRecDepth 100000
set_option maxHeartbeats 4000000
set_option linter.unusedSimpArgs false
set_option linter.unusedVariables false
namespace Go.Proofs.YtffhjmepfojhnaaGreat
section
open Go.RowKit
attribute [local go_sem ↓] aB aL aM aG au
attribute [local go_sem ↓] oI
def near (n m:Int):Int:=if (if n<0 then 0 else n)≤m then (if n<0 then 0 else n) else m
theorem lh {n m:Int} (hm:0≤m):(n == near n m)=dm n 0 m:=by
 rw [Bool.eq_iff_iff]
 simp only [near,dm,beq_iff_eq,Bool.and_eq_true,decide_eq_true_eq]
 repeat' split
 all_goals omega
def nz (h:Ha):Ha:=⟨near h.pos 25,if h.pos == 0 then 0 else h.code,if h.pos == 0 then 0 else h.elem,near h.cell 39,near h.seen 10,near h.wait 80,near h.fin 40,near h.come 40,near h.grow 39,near h.mine 80,near h.nxt 2,near h.beg 20000,near h.reply 4,near h.out 999⟩
theorem Jy (h:Ha):(pR h (nz h) && (h.pos == 0 || dO h.code h.elem))=bW h:=by
 simp only [pR,nz,lh (show (0:Int)≤25 by decide),lh (show (0:Int)≤39 by decide),lh (show (0:Int)≤10 by decide),lh (show (0:Int)≤80 by decide),lh (show (0:Int)≤40 by decide),lh (show (0:Int)≤2 by decide),lh (show (0:Int)≤20000 by decide),lh (show (0:Int)≤4 by decide),lh (show (0:Int)≤999 by decide)]
 have e:((h.code == if h.pos == 0 then 0 else h.code) && (h.elem == if h.pos == 0 then 0 else h.elem) && (h.pos == 0 || dO h.code h.elem))=(if h.pos == 0 then qW h.code h.elem else dO h.code h.elem):=by
  by_cases h0:h.pos=0
  ·simp [h0,qW]
  ·simp [h0]
 unfold bW qo wR Fe
 rw [← e]
 generalize dm h.pos 0 25=b1
 generalize (h.code == if h.pos == 0 then 0 else h.code)=b2
 generalize (h.elem == if h.pos == 0 then 0 else h.elem)=b3
 generalize dm h.cell 0 39=b4
 generalize dm h.seen 0 10=b5
 generalize dm h.wait 0 80=b6
 generalize dm h.fin 0 40=b7
 generalize dm h.come 0 40=b8
 generalize dm h.grow 0 39=b9
 generalize dm h.mine 0 80=b10
 generalize dm h.nxt 0 2=b11
 generalize dm h.beg 0 20000=b12
 generalize dm h.reply 0 4=b13
 generalize dm h.out 0 999=b14
 generalize (h.pos == 0 || dO h.code h.elem)=b15
 simp only [Bool.and_assoc]
 cases b1 <;> cases b2 <;> cases b3 <;> cases b15 <;> (try simp) <;> cases b4 <;> cases b9 <;> cases b5 <;> cases b6 <;> cases b10 <;> simp
theorem Am (n m:Int) (w:World):Calls Tryz.prog 183 #[.int .i64 n,.int .i64 m] w fun r w'=>r=.returned (.int .i64 (near n m))∧w=w':=by
 go_enter Tryz.func183,Tryz.ntmps183
 go_wp2
 all_goals go_ret
 all_goals exact ⟨mX (by (try unfold near);(repeat' split) <;> omega),rfl⟩
theorem xx (n m:Int) (w:World):Calls Tryz.prog 183 #[.int .i64 n,.int .i64 m] w fun r w'=>r=.returned (.int .i64 (near n m))∧w'=w :=
 (Am n m w).mono fun _ _ h=>⟨h.1,h.2.symm⟩
theorem oh (h:Ha) (w:World):Calls Tryz.prog 154 #[.agg (aa h)] w fun r w'=>r=.returned (.agg (aa (nz h)))∧Below w.heap.size w w':=by
 by_cases h0:h.pos=0
 ·have e0:(h.pos == 0)=true:=by simpa using h0
  clear h0
  have eb:nz h=⟨near h.pos 25,0,0,near h.cell 39,near h.seen 10,near h.wait 80,near h.fin 40,near h.come 40,near h.grow 39,near h.mine 80,near h.nxt 2,near h.beg 20000,near h.reply 4,near h.out 999⟩:=by simp [nz,e0]
  rw [eb]
  go_enter Tryz.func154,Tryz.ntmps154
  go_wp2
  refine wp_region_still_tail 38 (by kernel_rfl) (by kernel_rfl) ?_
  simp only [List.take_succ_cons,List.take_zero,List.drop_succ_cons,List.drop_zero]
  change wpStill _ _ (World.drew _) _ _ _
  repeat (first|still_step|still_call (xx _ _ _))
  refine wpStill_nil ?_
  change wpList _ _ _ _ _ (World.drew _)
  go_wp2
  refine bodyPost_ret (ic Tryz.results154 rfl (aj ⟨near h.pos 25,0,0,near h.cell 39,near h.seen 10,near h.wait 80,near h.fin 40,near h.come 40,near h.grow 39,near h.mine 80,near h.nxt 2,near h.beg 20000,near h.reply 4,near h.out 999⟩ (by simp [go_sem] <;> rfl))) rfl ⟨rfl,by exact zB⟩
 ·have e0:(h.pos == 0)=false:=by simpa using h0
  clear h0
  have eb:nz h=⟨near h.pos 25,h.code,h.elem,near h.cell 39,near h.seen 10,near h.wait 80,near h.fin 40,near h.come 40,near h.grow 39,near h.mine 80,near h.nxt 2,near h.beg 20000,near h.reply 4,near h.out 999⟩:=by simp [nz,e0]
  rw [eb]
  go_enter Tryz.func154,Tryz.ntmps154
  go_wp2
  refine wp_region_still_tail 38 (by kernel_rfl) (by kernel_rfl) ?_
  simp only [List.take_succ_cons,List.take_zero,List.drop_succ_cons,List.drop_zero]
  change wpStill _ _ (World.drew _) _ _ _
  repeat (first|still_step|still_call (xx _ _ _))
  refine wpStill_nil ?_
  change wpList _ _ _ _ _ (World.drew _)
  go_wp2
  refine bodyPost_ret (ic Tryz.results154 rfl (aj ⟨near h.pos 25,h.code,h.elem,near h.cell 39,near h.seen 10,near h.wait 80,near h.fin 40,near h.come 40,near h.grow 39,near h.mine 80,near h.nxt 2,near h.beg 20000,near h.reply 4,near h.out 999⟩ (by simp [go_sem] <;> rfl))) rfl ⟨rfl,by exact zB⟩
end
section
open Go.RowKit
attribute [local go_sem ↓] aB aL aM aG au
attribute [local go_sem ↓] oI
theorem gV (h:Ha) (w:World):Calls Tryz.prog 102 #[.agg (aa h)] w fun r w'=>r=.returned (.bool (bW h))∧Below w.heap.size w w':=by
 have key:=Jy h
 have HK:=Lib.hid key
 clear key
 by_cases he:pR h (nz h)=true
 ·by_cases h0:h.pos=0
  ·have e0:(h.pos == 0)=true:=by simpa using h0
   clear h0
   go_enter Tryz.func102,Tryz.ntmps102
   go_wp2_with fail
   refine wp_region_held_drew (S:=fun w'=>hp w' w.heap.size=some (.cells (aa h) 49)∧(∀ o,w'.cell? ⟨w.heap.size,o,none⟩=(aa h)[o]?)) (by kernel_rfl) (by simp [*,go_sem]) (fun hS0=>?_)
   refine mT (i:=0) (oi:=⟨some 3,_,_,_,_,_⟩) rfl ?_;(try simp only [Act.put,List.setIfInBounds_toArray,List.set_cons_zero,List.set_cons_succ])
   refine mT (i:=1) (oi:=⟨some 4,_,_,_,_,_⟩) rfl ?_;(try simp only [Act.put,List.setIfInBounds_toArray,List.set_cons_zero,List.set_cons_succ])
   refine wpAnyH_ready (rs:=[2]) (by kernel_rfl) (by simp) ?_
   refine AllReadyH.cons (o:=⟨some 5,_,_,_,_,_⟩) rfl (fun K hK=>?_) AllReadyH.nil
   go_simp
   (go_at_call 154;refine ax w zB fun bb=>?_;refine (oh h _).mono ?_;rintro _ w1 ⟨rfl,ah⟩;have aW:Below w.heap.size w w1:=bT bb ah;have ay:=ah.size;(try simp at ay);have zz:=hQ ah (b:=w.heap.size);(try simp [go_sem] at zz);(try clear dw dV eD dJ);have dw:=zz;clear zz;obtain ⟨dV,eD,dJ⟩:=bO dw;clear ah bb)
   refine hK.out _ _ ⟨dw,dV⟩ (fun hS1=>?_)
   clear hK
   (try simp only [Act.put,List.setIfInBounds_toArray,List.set_cons_zero,List.set_cons_succ])
   refine mT (i:=3) (oi:=⟨some 6,_,_,_,_,_⟩) rfl ?_;(try simp only [Act.put,List.setIfInBounds_toArray,List.set_cons_zero,List.set_cons_succ])
   refine mT (i:=4) (oi:=⟨some 7,_,_,_,_,_⟩) rfl ?_;(try simp only [Act.put,List.setIfInBounds_toArray,List.set_cons_zero,List.set_cons_succ])
   refine mT (i:=5) (oi:=⟨some 8,_,_,_,_,_⟩) rfl ?_;(try simp only [Act.put,List.setIfInBounds_toArray,List.set_cons_zero,List.set_cons_succ])
   refine mT (i:=6) (oi:=⟨some 9,_,_,_,_,_⟩) rfl ?_;(try simp only [Act.put,List.setIfInBounds_toArray,List.set_cons_zero,List.set_cons_succ])
   refine mT (i:=7) (oi:=⟨some 10,_,_,_,_,_⟩) rfl ?_;(try simp only [Act.put,List.setIfInBounds_toArray,List.set_cons_zero,List.set_cons_succ])
   refine mT (i:=8) (oi:=⟨some 11,_,_,_,_,_⟩) rfl ?_;(try simp only [Act.put,List.setIfInBounds_toArray,List.set_cons_zero,List.set_cons_succ])
   refine mS (i:=9) (oi:=⟨some 12,_,_,_,_,_⟩) rfl ?_;(try simp only [Act.put,List.setIfInBounds_toArray,List.set_cons_zero,List.set_cons_succ])
   refine mS (i:=10) (oi:=⟨some 13,_,_,_,_,_⟩) rfl ?_;(try simp only [Act.put,List.setIfInBounds_toArray,List.set_cons_zero,List.set_cons_succ])
   refine mS (i:=11) (oi:=⟨some 14,_,_,_,_,_⟩) rfl ?_;(try simp only [Act.put,List.setIfInBounds_toArray,List.set_cons_zero,List.set_cons_succ])
   refine mT (i:=12) (oi:=⟨some 15,_,_,_,_,_⟩) rfl ?_;(try simp only [Act.put,List.setIfInBounds_toArray,List.set_cons_zero,List.set_cons_succ])
   refine mT (i:=13) (oi:=⟨some 16,_,_,_,_,_⟩) rfl ?_;(try simp only [Act.put,List.setIfInBounds_toArray,List.set_cons_zero,List.set_cons_succ])
   refine mT (i:=14) (oi:=⟨some 2,_,_,_,_,_⟩) rfl ?_;(try simp only [Act.put,List.setIfInBounds_toArray,List.set_cons_zero,List.set_cons_succ])
   refine wpAnyH_done (by kernel_rfl) ?_ _
   go_wp2
   go_ret
   exact ⟨bF (by rw [← HK.out];simp [he,e0]),by exact zB⟩
  ·have e0:(h.pos == 0)=false:=by simpa using h0
   clear h0
   go_enter Tryz.func102,Tryz.ntmps102
   go_wp2_with fail
   refine wp_region_held_drew (S:=fun w'=>hp w' w.heap.size=some (.cells (aa h) 49)∧(∀ o,w'.cell? ⟨w.heap.size,o,none⟩=(aa h)[o]?)) (by kernel_rfl) (by simp [*,go_sem]) (fun hS0=>?_)
   refine mT (i:=0) (oi:=⟨some 3,_,_,_,_,_⟩) rfl ?_;(try simp only [Act.put,List.setIfInBounds_toArray,List.set_cons_zero,List.set_cons_succ])
   refine mT (i:=1) (oi:=⟨some 4,_,_,_,_,_⟩) rfl ?_;(try simp only [Act.put,List.setIfInBounds_toArray,List.set_cons_zero,List.set_cons_succ])
   refine wpAnyH_ready (rs:=[2]) (by kernel_rfl) (by simp) ?_
   refine AllReadyH.cons (o:=⟨some 5,_,_,_,_,_⟩) rfl (fun K hK=>?_) AllReadyH.nil
   go_simp
   (go_at_call 154;refine ax w zB fun bb=>?_;refine (oh h _).mono ?_;rintro _ w1 ⟨rfl,ah⟩;have aW:Below w.heap.size w w1:=bT bb ah;have ay:=ah.size;(try simp at ay);have zz:=hQ ah (b:=w.heap.size);(try simp [go_sem] at zz);(try clear dw dV eD dJ);have dw:=zz;clear zz;obtain ⟨dV,eD,dJ⟩:=bO dw;clear ah bb)
   refine hK.out _ _ ⟨dw,dV⟩ (fun hS1=>?_)
   clear hK
   (try simp only [Act.put,List.setIfInBounds_toArray,List.set_cons_zero,List.set_cons_succ])
   refine mT (i:=3) (oi:=⟨some 6,_,_,_,_,_⟩) rfl ?_;(try simp only [Act.put,List.setIfInBounds_toArray,List.set_cons_zero,List.set_cons_succ])
   refine mT (i:=4) (oi:=⟨some 7,_,_,_,_,_⟩) rfl ?_;(try simp only [Act.put,List.setIfInBounds_toArray,List.set_cons_zero,List.set_cons_succ])
   refine mT (i:=5) (oi:=⟨some 8,_,_,_,_,_⟩) rfl ?_;(try simp only [Act.put,List.setIfInBounds_toArray,List.set_cons_zero,List.set_cons_succ])
   refine mT (i:=6) (oi:=⟨some 9,_,_,_,_,_⟩) rfl ?_;(try simp only [Act.put,List.setIfInBounds_toArray,List.set_cons_zero,List.set_cons_succ])
   refine mT (i:=7) (oi:=⟨some 10,_,_,_,_,_⟩) rfl ?_;(try simp only [Act.put,List.setIfInBounds_toArray,List.set_cons_zero,List.set_cons_succ])
   refine mT (i:=8) (oi:=⟨some 11,_,_,_,_,_⟩) rfl ?_;(try simp only [Act.put,List.setIfInBounds_toArray,List.set_cons_zero,List.set_cons_succ])
   refine mT (i:=9) (oi:=⟨some 12,_,_,_,_,_⟩) rfl ?_;(try simp only [Act.put,List.setIfInBounds_toArray,List.set_cons_zero,List.set_cons_succ])
   refine mT (i:=10) (oi:=⟨some 13,_,_,_,_,_⟩) rfl ?_;(try simp only [Act.put,List.setIfInBounds_toArray,List.set_cons_zero,List.set_cons_succ])
   refine wpAnyH_ready (rs:=[11]) (by kernel_rfl) (by simp) ?_
   refine AllReadyH.cons (o:=⟨some 14,_,_,_,_,_⟩) rfl (fun K hK=>?_) AllReadyH.nil
   go_simp
   (go_at_call 103;refine ax w zB fun bb=>?_;refine (pU h.code h.elem _).mono ?_;rintro _ w2 ⟨rfl,hbw2⟩;have dE:Below w.heap.size w w2:=bT bb hbw2;have bu:=hbw2.size;(try simp at bu);have zz:=hQ hbw2 (b:=w.heap.size);(first|simp [go_sem,dw,dJ] at zz|simp [go_sem] at zz|skip);(try clear dw dV eD dJ);have dw:=zz;clear zz;obtain ⟨dV,eD,dJ⟩:=bO dw;clear hbw2 bb)
   refine hK.out _ _ ⟨dw,dV⟩ (fun hS2=>?_)
   clear hK
   (try simp only [Act.put,List.setIfInBounds_toArray,List.set_cons_zero,List.set_cons_succ])
   refine mT (i:=12) (oi:=⟨some 15,_,_,_,_,_⟩) rfl ?_;(try simp only [Act.put,List.setIfInBounds_toArray,List.set_cons_zero,List.set_cons_succ])
   refine mT (i:=13) (oi:=⟨some 16,_,_,_,_,_⟩) rfl ?_;(try simp only [Act.put,List.setIfInBounds_toArray,List.set_cons_zero,List.set_cons_succ])
   refine mT (i:=14) (oi:=⟨some 2,_,_,_,_,_⟩) rfl ?_;(try simp only [Act.put,List.setIfInBounds_toArray,List.set_cons_zero,List.set_cons_succ])
   refine wpAnyH_done (by kernel_rfl) ?_ _
   go_wp2
   go_ret
   exact ⟨bF (by rw [← HK.out];simp [he,e0]),by exact zB⟩
 ·have he2:pR h (nz h)=false:=by simpa using he
  clear he
  focus
   go_enter Tryz.func102,Tryz.ntmps102
   go_wp2_with fail
   refine wp_region_held_drew (S:=fun w'=>hp w' w.heap.size=some (.cells (aa h) 49)∧(∀ o,w'.cell? ⟨w.heap.size,o,none⟩=(aa h)[o]?)) (by kernel_rfl) (by simp [*,go_sem]) (fun hS0=>?_)
   refine mT (i:=0) (oi:=⟨some 3,_,_,_,_,_⟩) rfl ?_;(try simp only [Act.put,List.setIfInBounds_toArray,List.set_cons_zero,List.set_cons_succ])
   refine mT (i:=1) (oi:=⟨some 4,_,_,_,_,_⟩) rfl ?_;(try simp only [Act.put,List.setIfInBounds_toArray,List.set_cons_zero,List.set_cons_succ])
   refine wpAnyH_ready (rs:=[2]) (by kernel_rfl) (by simp) ?_
   refine AllReadyH.cons (o:=⟨some 5,_,_,_,_,_⟩) rfl (fun K hK=>?_) AllReadyH.nil
   go_simp
   (go_at_call 154;refine ax w zB fun bb=>?_;refine (oh h _).mono ?_;rintro _ w1 ⟨rfl,ah⟩;have aW:Below w.heap.size w w1:=bT bb ah;have ay:=ah.size;(try simp at ay);have zz:=hQ ah (b:=w.heap.size);(try simp [go_sem] at zz);(try clear dw dV eD dJ);have dw:=zz;clear zz;obtain ⟨dV,eD,dJ⟩:=bO dw;clear ah bb)
   refine hK.out _ _ ⟨dw,dV⟩ (fun hS1=>?_)
   clear hK
   (try simp only [Act.put,List.setIfInBounds_toArray,List.set_cons_zero,List.set_cons_succ])
   refine mT (i:=3) (oi:=⟨some 6,_,_,_,_,_⟩) rfl ?_;(try simp only [Act.put,List.setIfInBounds_toArray,List.set_cons_zero,List.set_cons_succ])
   refine mT (i:=4) (oi:=⟨some 7,_,_,_,_,_⟩) rfl ?_;(try simp only [Act.put,List.setIfInBounds_toArray,List.set_cons_zero,List.set_cons_succ])
   refine mS (i:=5) (oi:=⟨some 8,_,_,_,_,_⟩) rfl ?_;(try simp only [Act.put,List.setIfInBounds_toArray,List.set_cons_zero,List.set_cons_succ])
   refine mS (i:=6) (oi:=⟨some 9,_,_,_,_,_⟩) rfl ?_;(try simp only [Act.put,List.setIfInBounds_toArray,List.set_cons_zero,List.set_cons_succ])
   refine mS (i:=7) (oi:=⟨some 10,_,_,_,_,_⟩) rfl ?_;(try simp only [Act.put,List.setIfInBounds_toArray,List.set_cons_zero,List.set_cons_succ])
   refine mS (i:=8) (oi:=⟨some 11,_,_,_,_,_⟩) rfl ?_;(try simp only [Act.put,List.setIfInBounds_toArray,List.set_cons_zero,List.set_cons_succ])
   refine mS (i:=9) (oi:=⟨some 12,_,_,_,_,_⟩) rfl ?_;(try simp only [Act.put,List.setIfInBounds_toArray,List.set_cons_zero,List.set_cons_succ])
   refine mS (i:=10) (oi:=⟨some 13,_,_,_,_,_⟩) rfl ?_;(try simp only [Act.put,List.setIfInBounds_toArray,List.set_cons_zero,List.set_cons_succ])
   refine mS (i:=11) (oi:=⟨some 14,_,_,_,_,_⟩) rfl ?_;(try simp only [Act.put,List.setIfInBounds_toArray,List.set_cons_zero,List.set_cons_succ])
   refine mS (i:=12) (oi:=⟨some 15,_,_,_,_,_⟩) rfl ?_;(try simp only [Act.put,List.setIfInBounds_toArray,List.set_cons_zero,List.set_cons_succ])
   refine mT (i:=13) (oi:=⟨some 16,_,_,_,_,_⟩) rfl ?_;(try simp only [Act.put,List.setIfInBounds_toArray,List.set_cons_zero,List.set_cons_succ])
   refine mT (i:=14) (oi:=⟨some 2,_,_,_,_,_⟩) rfl ?_;(try simp only [Act.put,List.setIfInBounds_toArray,List.set_cons_zero,List.set_cons_succ])
   refine wpAnyH_done (by kernel_rfl) ?_ _
   go_wp2
   go_ret
   exact ⟨bF (by rw [← HK.out];simp [he2]),by exact zB⟩
end
section
open Go.RowKit
attribute [local go_sem ↓] aB aL aM aG au
theorem Gl {hs:List Ha} {now:Int} {k:Nat} {h:Ha} (hk:k<hs.length) (hc:hs.getD k Ha.zero=h) (e:(hs.take k).all (eH now)=true) (e1:eH now h=true):(hs.take (k+1)).all (eH now)=true:=by
 rw [fK _ k Ha.zero hk,hc,List.all_append,e];simp [e1]
theorem Jz {hs:List Ha} {now:Int} {k:Nat} {h:Ha} (hk:k<hs.length) (hc:hs.getD k Ha.zero=h) (e:eH now h=false):hs.all (eH now)=false:=by
 rw [List.all_eq_false]
 refine ⟨hs[k],List.getElem_mem hk,?_⟩
 rw [← hc] at e
 simpa [List.getD,List.getElem?_eq_getElem hk] using e
def nA (hs:List Ha) (now:Int):Bool:=decide (1≤hs.length) && (decide (hs.length≤6) && hs.all (eH now))
theorem Mm {now:Int} {h:Ha} (e:bW h=true):Value.bool (decide (now<h.beg))=.bool (!eH now h):=by
 by_cases h2:now<h.beg <;> simp [eH,e,h2] <;> omega
theorem Mo {now:Int} {h:Ha} (e:bW h=false):Value.bool true=.bool (!eH now h):=by simp [eH,e]
theorem Ao (hs:List Ha) (now:Int) (B:Nat) (d:Option Addr) (r:Nat) (w:World) (x6:w.cell? ⟨B,6,none⟩=some (.slice d hs.length r)) (x8:w.cell? ⟨B,8,none⟩=some (.int .i64 now)) (lB:B<w.heap.size) (h3:Jn w w.heap.size d hs) (m:hs.length≤1099511627776) :
  Calls Tryz.prog 99 #[.pointer (some ⟨B,0,none⟩)] w fun r w'=>r=.returned (.bool (nA hs now))∧Below w.heap.size w w':=by
 by_cases i2:1≤hs.length
 case neg =>
  have g1:decide ((hs.length:Int)<1)=true:=by simp;omega
  have e0:nA hs now=false:=by simp [nA];omega
  rw [e0]
  clear e0 i2
  go_enter Tryz.func99,Tryz.ntmps99
  go_wp2
  go_ret
  exact ⟨rfl,by exact zB⟩
 have g1:decide ((hs.length:Int)<1)=false:=by simp;omega
 by_cases i3:hs.length≤6
 case neg =>
  have g2:decide (6<(hs.length:Int))=true:=by simp;omega
  have e0:nA hs now=false:=by simp [nA];omega
  rw [e0]
  clear e0 i3
  go_enter Tryz.func99,Tryz.ntmps99
  go_wp2
  go_ret
  exact ⟨rfl,by exact zB⟩
 have g2:decide (6<(hs.length:Int))=false:=by simp;omega
 have e0:nA hs now=hs.all (eH now):=by simp [nA,i2,i3]
 rw [e0]
 clear e0
 obtain ⟨b3,o3,rfl,hb3,hc3⟩:∃ b o,d=some ⟨b,o,none⟩∧b<w.heap.size∧Hid (∀ i j,i<hs.length→j<14→w.cell? ⟨b,o+i*14+j,none⟩=some (fI hs i j)):=by
  rcases h3 with h0|h0
  ·exact absurd h0 tO
  ·exact h0
 have I2:=Lib.hid i2
 clear h3 i2
 go_enter Tryz.func99,Tryz.ntmps99
 go_wp2_with fail
 go_loopw [24] (fun i wr=>∃ k:Nat,k≤hs.length∧i=.int .i64 k∧Hid ((hs.take k).all (eH now)=true)∧Below w.heap.size w wr) (fun i _=>hs.length - (intOf i).toNat)
 case atStart=>exact ⟨0,Nat.zero_le _,rfl,rfl,by exact zB⟩
 case round =>
  obtain ⟨k,hk,rfl,hall,hB⟩:=hrel
  by_cases hlt:k<hs.length
  ·have cc:=fun j hj=>hc3.out k j hlt hj
   simp only [fI] at cc
   generalize hcg:hs.getD k Ha.zero=hx at cc
   have HC:=Lib.hid hcg
   clear hcg
   have Ld:∀ W:World,hp W b3=hp w b3→(nP (.pointer (some ⟨b3,o3+k*14,none⟩))).run Tryz.prog W=.ok (.agg (aa hx)) W:=fun W e=>nu hx fun j hj=>by rw [← cc j hj];exact World.cell?_of_block e
   clear cc
   have z3:hp wr b3=hp w b3:=hB.block b3 hb3
   have y8:=(hB.cell (p:=⟨B,8,none⟩) lB).trans x8
   have hk0:(0:Int)≤(k:Int):=by omega
   have hk1:(k:Int)<(hs.length:Int):=by omega
   go_wp2_with fail
   generalize lV:World.alloc wr _=w5
   have CW:hp w5 wr.heap.size=some (.cells (aa hx) 49):=by rw [← lV];exact heap_alloc_new _ _
   have ll:Below wr.heap.size wr w5:=by rw [← lV];exact aQ _ _
   clear lV
   have y5:=(ll.cell (p:=⟨B,8,none⟩) (by have:=hB.size;simp;omega)).trans y8
   clear y8
   have y8:=y5
   clear y5
   have Vw:B<w5.heap.size:=by have:=hB.size;have:=ll.size;omega
   clear Ld z3 hk0 hk1 hc3 hb3
   refine bI [[],[0],[0,1],[0,1,2],[0,1,2,3],[0,1,2,3,4],[0,1,2,3],[0,1,2,3,6],[0,1,2,3,6,7],[0,1,2,3,6,7,8],qB [8,9],qB [8,9,10]] [28,29,30,31,32,33,34,35,36,37,38,39] (fun l s wx=>(Below w5.heap.size w5 wx)∧(l 0=true→s 28=.agg (aa hx))∧(l 1=true→s 29=.bool (bW hx))∧(l 2=true→s 30=.bool (!bW hx))∧(l 3=true→s 31=.bool (!bW hx))∧(l 4=true→bW hx=true→s 32=.pointer (some ⟨wr.heap.size,11,none⟩))∧(l 5=true→bW hx=true→s 33=.int .i64 hx.beg)∧(l 6=true→bW hx=true→s 34=.pointer (some ⟨B,0,none⟩))∧(l 7=true→bW hx=true→s 35=.pointer (some ⟨B,0,none⟩))∧(l 8=true→bW hx=true→s 36=.pointer (some ⟨B,8,none⟩))∧(l 9=true→bW hx=true→s 37=.int .i64 now)∧(l 10=true→bW hx=true→s 38=.bool (decide (now<hx.beg)))∧(l 11=true→s 39=.bool (!eH now hx))) (by kernel_rfl) (by kernel_rfl) (by kernel_rfl) (fun s=>by (simp only [fill,fC,List.setIfInBounds_toArray,List.set_cons_zero,List.set_cons_succ];rfl)) (fun s=>⟨(Below.refl _ _).drew,nB,nB,nB,nB,nB,nB,nB,nB,nB,nB,nB,nB⟩) ?_ ?_
   refine ⟨?_,?_,?_,?_,?_,?_,?_,?_,?_,?_,?_,?_,trivial⟩;iterate 12 (intro l s wx hl hd hn hf K hK;rotate_left)
   ·intro l s w6 kK hf
    have ec:=(jC (jD hf)) (kK 11 rfl)
    have hb6:Below w5.heap.size w5 w6:=hf.1
    simp only [ec]
    clear ec hf kK
    have I9:Below w.heap.size w w6:=bT hB (ll.trans (hb6.mono ll.size))
    cases hG:eH now hx with
    | true =>
     go_wp2
     go_roundw
     case rel=>exact ⟨k+1,by omega,by go_num,Gl hlt HC.out hall.out hG,I9⟩
     case measure=>simp [intOf];omega
    | false =>
     go_wp2
     go_ret
     exact ⟨bF (Jz hlt HC.out hG).symm,I9⟩
   ·have z:=dS CW hf.out.1
    go_simp
    refine hK.out (upd s 28 (.agg (aa hx))) _ _ (by simp [ae] <;> rfl) (kA (kX (fun _=>rfl) id) hf.out)
   ·have e0:=(hf.out.2.1 (hd 0 rfl))
    go_simp
    go_at_call 102
    refine (gV hx _).mono ?_
    rintro _ wy ⟨rfl,hE⟩
    refine hK.out (upd s 29 (.bool (bW hx))) _ _ (by simp [ae,e0] <;> rfl) (kX (bT hf.out.1 hE) (kA (kX (fun _=>rfl) (kX (nU (hn 2 rfl)) (kX (nU (hn 3 rfl)) (kX (nU (hn 4 rfl)) (kX (nU (hn 5 rfl)) (kX (nU (hn 6 rfl)) (kX (nU (hn 7 rfl)) (kX (nU (hn 8 rfl)) (kX (nU (hn 9 rfl)) (kX (nU (hn 10 rfl)) (fun _=>nU (hn 11 rfl))))))))))))) hf.out)
   ·have e1:=(hf.out.2.2.1 (hd 1 rfl))
    go_simp
    refine hK.out (upd s 30 (.bool (!bW hx))) _ _ (by simp [ae,e1] <;> rfl) (kB (kA (kX (fun _=>rfl) id)) hf.out)
   ·have e2:=(hf.out.2.2.2.1 (hd 2 rfl))
    go_simp
    refine hK.out (upd s 31 (.bool (!bW hx))) _ _ (by simp [ae,e2] <;> rfl) (kC (kX (fun _=>rfl) id) hf.out)
   ·have e3:=(hf.out.2.2.2.2.1 (hd 3 rfl))
    cases hG:(bW hx) with
    | true =>
     rw [hG] at e3
     go_simp
     refine hK.out (upd s 32 (.pointer (some ⟨wr.heap.size,11,none⟩))) _ _ (by simp [ae,e3] <;> rfl) (kC (kA (kX (fun _ _=>rfl) id)) hf.out)
    | false =>
     rw [hG] at e3
     go_simp
     refine hK.out (upd s 32 (undef)) _ _ (by simp [ae,e3] <;> rfl) (kC (kA (kX (fun _ h=>Bool.noConfusion (h.symm.trans hG)) id)) hf.out)
   ·have e3:=(hf.out.2.2.2.2.1 (hd 3 rfl))
    cases hG:(bW hx) with
    | true =>
     rw [hG] at e3
     have e4:=((jC hf.out).2.1 (hd 4 rfl)) hG
     have z:=(bO (dS CW hf.out.1)).1 11
     go_simp
     refine hK.out (upd s 33 (.int .i64 hx.beg)) _ _ (by simp [ae,e3,e4] <;> rfl) (kC (kB (kX (fun _ _=>rfl) id)) hf.out)
    | false =>
     rw [hG] at e3
     go_simp
     refine hK.out (upd s 33 (undef)) _ _ (by simp [ae,e3] <;> rfl) (kC (kB (kX (fun _ h=>Bool.noConfusion (h.symm.trans hG)) id)) hf.out)
   ·have e3:=(hf.out.2.2.2.2.1 (hd 3 rfl))
    cases hG:(bW hx) with
    | true =>
     rw [hG] at e3
     go_simp
     refine hK.out (upd s 34 (.pointer (some ⟨B,0,none⟩))) _ _ (by simp [ae,e3] <;> rfl) (kC (kB (kA (kX (fun _ _=>rfl) id))) hf.out)
    | false =>
     rw [hG] at e3
     go_simp
     refine hK.out (upd s 34 (undef)) _ _ (by simp [ae,e3] <;> rfl) (kC (kB (kA (kX (fun _ h=>Bool.noConfusion (h.symm.trans hG)) id))) hf.out)
   ·have e3:=(hf.out.2.2.2.2.1 (hd 3 rfl))
    cases hG:(bW hx) with
    | true =>
     rw [hG] at e3
     have e6:=((jC hf.out).2.2.2.1 (hd 6 rfl)) hG
     go_simp
     refine hK.out (upd s 35 (.pointer (some ⟨B,0,none⟩))) _ _ (by simp [ae,e3,e6] <;> rfl) (kD (kX (fun _ _=>rfl) id) hf.out)
    | false =>
     rw [hG] at e3
     go_simp
     refine hK.out (upd s 35 (undef)) _ _ (by simp [ae,e3] <;> rfl) (kD (kX (fun _ h=>Bool.noConfusion (h.symm.trans hG)) id) hf.out)
   ·have e3:=(hf.out.2.2.2.2.1 (hd 3 rfl))
    cases hG:(bW hx) with
    | true =>
     rw [hG] at e3
     have e7:=((jD hf.out).1 (hd 7 rfl)) hG
     go_simp
     refine hK.out (upd s 36 (.pointer (some ⟨B,8,none⟩))) _ _ (by simp [ae,e3,e7] <;> rfl) (kD (kA (kX (fun _ _=>rfl) id)) hf.out)
    | false =>
     rw [hG] at e3
     go_simp
     refine hK.out (upd s 36 (undef)) _ _ (by simp [ae,e3] <;> rfl) (kD (kA (kX (fun _ h=>Bool.noConfusion (h.symm.trans hG)) id)) hf.out)
   ·have e3:=(hf.out.2.2.2.2.1 (hd 3 rfl))
    cases hG:(bW hx) with
    | true =>
     rw [hG] at e3
     have e8:=((jD hf.out).2.1 (hd 8 rfl)) hG
     have z:=((hf.out.1).cell (p:=⟨B,8,none⟩) tO).trans y8
     go_simp
     refine hK.out (upd s 37 (.int .i64 now)) _ _ (by simp [ae,e3,e8] <;> rfl) (kD (kB (kX (fun _ _=>rfl) id)) hf.out)
    | false =>
     rw [hG] at e3
     go_simp
     refine hK.out (upd s 37 (undef)) _ _ (by simp [ae,e3] <;> rfl) (kD (kB (kX (fun _ h=>Bool.noConfusion (h.symm.trans hG)) id)) hf.out)
   ·have e3:=(hf.out.2.2.2.2.1 (hd 3 rfl))
    cases hG:(bW hx) with
    | true =>
     rw [hG] at e3
     have e5:=((jC hf.out).2.2.1 (hd 5 rfl)) hG
     have e9:=((jD hf.out).2.2.1 (hd 9 rfl)) hG
     go_simp
     refine hK.out (upd s 38 (.bool (decide (now<hx.beg)))) _ _ (by simp [ae,e3,e5,e9] <;> rfl) (kD (kB (kA (kX (fun _ _=>rfl) id))) hf.out)
    | false =>
     rw [hG] at e3
     go_simp
     refine hK.out (upd s 38 (undef)) _ _ (by simp [ae,e3] <;> rfl) (kD (kB (kA (kX (fun _ h=>Bool.noConfusion (h.symm.trans hG)) id))) hf.out)
   ·have e3:=(hf.out.2.2.2.2.1 (hd 3 rfl))
    have e10:=((jD hf.out).2.2.2.1 (hd 10 rfl))
    cases hG:(bW hx) with
    | true =>
     rw [hG] at e3
     replace e10:=e10 hG
     go_simp
     refine hK.out (upd s 39 (.bool (decide (now<hx.beg)))) _ _ (by simp [ae,e3,e10] <;> rfl) (kD (kC (fun _=>fun _=>by rw [show (upd s 39 (.bool (decide (now<hx.beg)))) 39=.bool (decide (now<hx.beg)) from rfl,Mm hG])) hf.out)
    | false =>
     clear e10
     rw [hG] at e3
     go_simp
     refine hK.out (upd s 39 (.bool true)) _ _ (by simp [ae,e3] <;> rfl) (kD (kC (fun _=>fun _=>by rw [show (upd s 39 (.bool true)) 39=.bool true from rfl,Mo hG])) hf.out)
  ·have:k=hs.length:=by omega
   subst this
   have h1:=hall.out
   rw [List.take_length] at h1
   go_wp2
   go_ret
   exact ⟨bF h1.symm,hB⟩
end
end Go.Proofs.YtffhjmepfojhnaaGreat
