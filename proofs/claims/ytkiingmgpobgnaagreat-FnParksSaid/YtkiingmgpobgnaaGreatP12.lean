/-
  The contracts of the program's functions of chapter 5, on hands that are kept whole; no condition.
  The program's HandOk, Resting, Called, on hands that are kept whole; no condition.
  The program's Resting, Called, on hands that are kept whole; no condition.
  The program's refusing, moving, beginning anew, and the touches of sending that write into no cell, on hands and channels that are kept whole; the lists are the call's own.
  The program's copy of a channel: the same in new memory; lists lie in memory and hold at most 2 ^ 40 elements.
  The program's telling of a word: the closure that tells, and who makes it; lists hold at most 2 ^ 40 elements.
  The program's telling of a word to a waiter; lists lie in memory and hold at most 2 ^ 40 elements.
  A new waiter, of the reference model and of the program; lists lie in memory and hold at most 2 ^ 40 elements.
  The program's touches of sending that number, look, call and end, on hands and channels that are kept whole; the lists are the call's own.
  The program's touches of sending that write: laying, keeping, waiting, calling, done; on hands and channels that are kept whole; the lists are the call's own.
  The contracts of the program's Laid and Turned; no condition.
  The program's touches of sending that write into a cell: laying, keeping; on hands and channels that are kept whole; the lists are the call's own.
-/
import Derived.Test.YtkiingmgpobgnaaGreatP11
import Derived.BigRegion
import Derived.StillTailTactics
import Derived.Test.YtkiingmgpobgnaaGreatP04
import Derived.Test.YtkiingmgpobgnaaGreatP03
import Derived.Deep.RegionHeld3
import Derived.Test.YtkiingmgpobgnaaGreatP02
import Derived.Deep.AppendLies
import Derived.Test.YtkiingmgpobgnaaGreatP01
import Derived.Deep.DeepCutAuto
import Derived.Test.YtkiingmgpobgnaaGreatP06
set_option linter.unusedSimpArgs false
set_option linter.unusedVariables false
namespace Go.Proofs.YtkiingmgpobgnaaGreat
open Go.RowKit
attribute [local go_sem ↓] zeroHand toLHand toVHand storeHand storeHandC
attribute [local go_sem ↓] eqHandV
def near (n m:Int):Int:=if (if n<0 then 0 else n)≤m then (if n<0 then 0 else n) else m
theorem near_eq {n m:Int} (hm:0≤m):(n == near n m)=inB n 0 m:=by
  rw [Bool.eq_iff_iff]
  simp only [near,inB,beq_iff_eq,Bool.and_eq_true,decide_eq_true_eq]
  repeat' split
  all_goals omega
def boundH (h:Ha):Ha:=⟨near h.pos 25,if h.pos == 0 then 0 else h.code,if h.pos == 0 then 0 else h.elem,near h.cell 39,near h.seen 10,near h.wait 80,near h.fin 40,near h.come 40,near h.grow 39,near h.mine 80,near h.nxt 2,near h.beg 20000,near h.reply 4,near h.out 999⟩
theorem bound_ok (h:Ha):(eqHa h (boundH h) && (h.pos == 0 || callOk h.code h.elem))=handOk h:=by
  simp only [eqHa,boundH,near_eq (show (0:Int)≤25 by decide),near_eq (show (0:Int)≤39 by decide),near_eq (show (0:Int)≤10 by decide),near_eq (show (0:Int)≤80 by decide),near_eq (show (0:Int)≤40 by decide),near_eq (show (0:Int)≤2 by decide),near_eq (show (0:Int)≤20000 by decide),near_eq (show (0:Int)≤4 by decide),near_eq (show (0:Int)≤999 by decide)]
  have e:((h.code == if h.pos == 0 then 0 else h.code) && (h.elem == if h.pos == 0 then 0 else h.elem) && (h.pos == 0 || callOk h.code h.elem))=(if h.pos == 0 then noCall h.code h.elem else callOk h.code h.elem):=by
    by_cases h0:h.pos=0
    · simp [h0,noCall]
    · simp [h0]
  unfold handOk handA handB handC
  rw [← e]
  generalize inB h.pos 0 25=b1
  generalize (h.code == if h.pos == 0 then 0 else h.code)=b2
  generalize (h.elem == if h.pos == 0 then 0 else h.elem)=b3
  generalize inB h.cell 0 39=b4
  generalize inB h.seen 0 10=b5
  generalize inB h.wait 0 80=b6
  generalize inB h.fin 0 40=b7
  generalize inB h.come 0 40=b8
  generalize inB h.grow 0 39=b9
  generalize inB h.mine 0 80=b10
  generalize inB h.nxt 0 2=b11
  generalize inB h.beg 0 20000=b12
  generalize inB h.reply 0 4=b13
  generalize inB h.out 0 999=b14
  generalize (h.pos == 0 || callOk h.code h.elem)=b15
  simp only [Bool.and_assoc]
  cases b1 <;> cases b2 <;> cases b3 <;> cases b15 <;> (try simp) <;> cases b4 <;> cases b9 <;> cases b5 <;> cases b6 <;> cases b10 <;> simp
theorem nearest_any (n m:Int) (w:World):Calls Tryz.prog 69 #[.int .i64 n,.int .i64 m] w fun r w'=>r=.returned (.int .i64 (near n m))∧w=w':=by
  go_enter Tryz.func69,Tryz.ntmps69
  go_wp2
  all_goals go_ret
  all_goals exact ⟨ret_i64 (by (try unfold near);(repeat' split) <;> omega),rfl⟩
theorem nearStill (n m:Int) (w:World):Calls Tryz.prog 69 #[.int .i64 n,.int .i64 m] w fun r w'=>r=.returned (.int .i64 (near n m))∧w'=w :=
  (nearest_any n m w).mono fun _ _ h=>⟨h.1,h.2.symm⟩
set_option maxRecDepth 100000 in
set_option maxHeartbeats 2000000 in
theorem bounded_any (h:Ha) (w:World):Calls Tryz.prog 39 #[.agg (hvals h)] w fun r w'=>r=.returned (.agg (hvals (boundH h)))∧Below w.heap.size w w':=by
  by_cases h0:h.pos=0
  · have e0:(h.pos == 0)=true:=by simpa using h0
    clear h0
    have eb:boundH h=⟨near h.pos 25,0,0,near h.cell 39,near h.seen 10,near h.wait 80,near h.fin 40,near h.come 40,near h.grow 39,near h.mine 80,near h.nxt 2,near h.beg 20000,near h.reply 4,near h.out 999⟩:=by simp [boundH,e0]
    rw [eb]
    go_enter Tryz.func39,Tryz.ntmps39
    go_wp2
    refine wp_region_still_tail 38 (by kernel_rfl) (by kernel_rfl) ?_
    simp only [List.take_succ_cons,List.take_zero,List.drop_succ_cons,List.drop_zero]
    change wpStill _ _ (World.drew _) _ _ _
    repeat (first|still_step|still_call (nearStill _ _ _))
    refine wpStill_nil ?_
    change wpList _ _ _ _ _ (World.drew _)
    go_wp2
    refine bodyPost_ret (res_c Tryz.results39 rfl (ldHand ⟨near h.pos 25,0,0,near h.cell 39,near h.seen 10,near h.wait 80,near h.fin 40,near h.come 40,near h.grow 39,near h.mine 80,near h.nxt 2,near h.beg 20000,near h.reply 4,near h.out 999⟩ (by simp [go_sem] <;> rfl))) rfl ⟨rfl,by exact zB⟩
  · have e0:(h.pos == 0)=false:=by simpa using h0
    clear h0
    have eb:boundH h=⟨near h.pos 25,h.code,h.elem,near h.cell 39,near h.seen 10,near h.wait 80,near h.fin 40,near h.come 40,near h.grow 39,near h.mine 80,near h.nxt 2,near h.beg 20000,near h.reply 4,near h.out 999⟩:=by simp [boundH,e0]
    rw [eb]
    go_enter Tryz.func39,Tryz.ntmps39
    go_wp2
    refine wp_region_still_tail 38 (by kernel_rfl) (by kernel_rfl) ?_
    simp only [List.take_succ_cons,List.take_zero,List.drop_succ_cons,List.drop_zero]
    change wpStill _ _ (World.drew _) _ _ _
    repeat (first|still_step|still_call (nearStill _ _ _))
    refine wpStill_nil ?_
    change wpList _ _ _ _ _ (World.drew _)
    go_wp2
    refine bodyPost_ret (res_c Tryz.results39 rfl (ldHand ⟨near h.pos 25,h.code,h.elem,near h.cell 39,near h.seen 10,near h.wait 80,near h.fin 40,near h.come 40,near h.grow 39,near h.mine 80,near h.nxt 2,near h.beg 20000,near h.reply 4,near h.out 999⟩ (by simp [go_sem] <;> rfl))) rfl ⟨rfl,by exact zB⟩
end Go.Proofs.YtkiingmgpobgnaaGreat
set_option linter.unusedSimpArgs false
set_option linter.unusedVariables false
namespace Go.Proofs.YtkiingmgpobgnaaGreat
open Go.RowKit
attribute [local go_sem ↓] zeroHand toLHand toVHand storeHand storeHandC
attribute [local go_sem ↓] eqHandV
set_option maxRecDepth 100000 in
set_option maxHeartbeats 2000000 in
theorem handOk_any (h:Ha) (w:World):Calls Tryz.prog 11 #[.agg (hvals h)] w fun r w'=>r=.returned (.bool (handOk h))∧Below w.heap.size w w':=by
  have key:=bound_ok h
  have HK:=Lib.hid key
  clear key
  by_cases he:eqHa h (boundH h)=true
  · by_cases h0:h.pos=0
    · have e0:(h.pos == 0)=true:=by simpa using h0
      clear h0
      go_enter Tryz.func11,Tryz.ntmps11
      go_wp2_with fail
      refine wp_region_held_drew (S:=fun w'=>hp w' w.heap.size=some (.cells (hvals h) 31)∧(∀ o,w'.cell? ⟨w.heap.size,o,none⟩=(hvals h)[o]?)) (by kernel_rfl) (by simp [*,go_sem]) (fun hS0=>?_)
      refine wpAnyH_take (i:=0) (oi:=⟨some 3,_,_,_,_,_⟩) (v:=?_) rfl (by kernel_rfl) (by kernel_rfl) (by kernel_rfl) (fun _ _ _ h=>h) (Or.inl ⟨by rfl,?_⟩) (by assumption) ?_;rotate_left;(focus (intro w' hSw;(try dsimp only at hSw);go_simp;(try with_reducible rfl)));(try rotate_left);(try simp only [Act.put,List.setIfInBounds_toArray,List.set_cons_zero,List.set_cons_succ])
      refine wpAnyH_take (i:=1) (oi:=⟨some 4,_,_,_,_,_⟩) (v:=?_) rfl (by kernel_rfl) (by kernel_rfl) (by kernel_rfl) (fun _ _ _ h=>h) (Or.inl ⟨by rfl,?_⟩) (by assumption) ?_;rotate_left;(focus (intro w' hSw;(try dsimp only at hSw);go_simp;(try with_reducible rfl)));(try rotate_left);(try simp only [Act.put,List.setIfInBounds_toArray,List.set_cons_zero,List.set_cons_succ])
      refine wpAnyH_ready (rs:=[2]) (by kernel_rfl) (by simp) ?_
      refine AllReadyH.cons (o:=⟨some 5,_,_,_,_,_⟩) rfl (fun K hK=>?_) AllReadyH.nil
      go_simp
      (go_at_call 39;refine bHit w (by exact zB) fun bb=>?_;refine (bounded_any h _).mono ?_;rintro _ w1 ⟨rfl,hbw1⟩;have hCw1:Below w.heap.size w w1:=bT bb hbw1;have hsw1:=hbw1.size;(try simp at hsw1);have zz:=hQ hbw1 (b:=w.heap.size);(try simp [go_sem] at zz);(try clear z_w x_w f_w l_w);have z_w:=zz;clear zz;obtain ⟨x_w,f_w,l_w⟩:=bO z_w;clear hbw1 bb)
      refine hK.out _ _ ⟨z_w,x_w⟩ (fun hS1=>?_)
      clear hK
      (try simp only [Act.put,List.setIfInBounds_toArray,List.set_cons_zero,List.set_cons_succ])
      refine wpAnyH_take (i:=3) (oi:=⟨some 6,_,_,_,_,_⟩) (v:=?_) rfl (by kernel_rfl) (by kernel_rfl) (by kernel_rfl) (fun _ _ _ h=>h) (Or.inl ⟨by rfl,?_⟩) (by assumption) ?_;rotate_left;(focus (intro w' hSw;(try dsimp only at hSw);go_simp;(try with_reducible rfl)));(try rotate_left);(try simp only [Act.put,List.setIfInBounds_toArray,List.set_cons_zero,List.set_cons_succ])
      refine wpAnyH_take (i:=4) (oi:=⟨some 7,_,_,_,_,_⟩) (v:=?_) rfl (by kernel_rfl) (by kernel_rfl) (by kernel_rfl) (fun _ _ _ h=>h) (Or.inl ⟨by rfl,?_⟩) (by assumption) ?_;rotate_left;(focus (intro w' hSw;(try dsimp only at hSw);go_simp;(try with_reducible rfl)));(try rotate_left);(try simp only [Act.put,List.setIfInBounds_toArray,List.set_cons_zero,List.set_cons_succ])
      refine wpAnyH_take (i:=5) (oi:=⟨some 8,_,_,_,_,_⟩) (v:=?_) rfl (by kernel_rfl) (by kernel_rfl) (by kernel_rfl) (fun _ _ _ h=>h) (Or.inl ⟨by rfl,?_⟩) (by assumption) ?_;rotate_left;(focus (intro w' hSw;(try dsimp only at hSw);go_simp;(try with_reducible rfl)));(try rotate_left);(try simp only [Act.put,List.setIfInBounds_toArray,List.set_cons_zero,List.set_cons_succ])
      refine wpAnyH_take (i:=6) (oi:=⟨some 9,_,_,_,_,_⟩) (v:=?_) rfl (by kernel_rfl) (by kernel_rfl) (by kernel_rfl) (fun _ _ _ h=>h) (Or.inl ⟨by rfl,?_⟩) (by assumption) ?_;rotate_left;(focus (intro w' hSw;(try dsimp only at hSw);go_simp;(try with_reducible rfl)));(try rotate_left);(try simp only [Act.put,List.setIfInBounds_toArray,List.set_cons_zero,List.set_cons_succ])
      refine wpAnyH_take (i:=7) (oi:=⟨some 10,_,_,_,_,_⟩) (v:=?_) rfl (by kernel_rfl) (by kernel_rfl) (by kernel_rfl) (fun _ _ _ h=>h) (Or.inl ⟨by rfl,?_⟩) (by assumption) ?_;rotate_left;(focus (intro w' hSw;(try dsimp only at hSw);go_simp;(try with_reducible rfl)));(try rotate_left);(try simp only [Act.put,List.setIfInBounds_toArray,List.set_cons_zero,List.set_cons_succ])
      refine wpAnyH_take (i:=8) (oi:=⟨some 11,_,_,_,_,_⟩) (v:=?_) rfl (by kernel_rfl) (by kernel_rfl) (by kernel_rfl) (fun _ _ _ h=>h) (Or.inl ⟨by rfl,?_⟩) (by assumption) ?_;rotate_left;(focus (intro w' hSw;(try dsimp only at hSw);go_simp;(try with_reducible rfl)));(try rotate_left);(try simp only [Act.put,List.setIfInBounds_toArray,List.set_cons_zero,List.set_cons_succ])
      refine wpAnyH_take (i:=9) (oi:=⟨some 12,_,_,_,_,_⟩) (v:=undef) rfl (by kernel_rfl) (by kernel_rfl) (by kernel_rfl) (fun _ _ _ h=>h) (Or.inr ⟨by rfl,rfl⟩) (by assumption) ?_;(try simp only [Act.put,List.setIfInBounds_toArray,List.set_cons_zero,List.set_cons_succ])
      refine wpAnyH_take (i:=10) (oi:=⟨some 13,_,_,_,_,_⟩) (v:=undef) rfl (by kernel_rfl) (by kernel_rfl) (by kernel_rfl) (fun _ _ _ h=>h) (Or.inr ⟨by rfl,rfl⟩) (by assumption) ?_;(try simp only [Act.put,List.setIfInBounds_toArray,List.set_cons_zero,List.set_cons_succ])
      refine wpAnyH_take (i:=11) (oi:=⟨some 14,_,_,_,_,_⟩) (v:=undef) rfl (by kernel_rfl) (by kernel_rfl) (by kernel_rfl) (fun _ _ _ h=>h) (Or.inr ⟨by rfl,rfl⟩) (by assumption) ?_;(try simp only [Act.put,List.setIfInBounds_toArray,List.set_cons_zero,List.set_cons_succ])
      refine wpAnyH_take (i:=12) (oi:=⟨some 15,_,_,_,_,_⟩) (v:=?_) rfl (by kernel_rfl) (by kernel_rfl) (by kernel_rfl) (fun _ _ _ h=>h) (Or.inl ⟨by rfl,?_⟩) (by assumption) ?_;rotate_left;(focus (intro w' hSw;(try dsimp only at hSw);go_simp;(try with_reducible rfl)));(try rotate_left);(try simp only [Act.put,List.setIfInBounds_toArray,List.set_cons_zero,List.set_cons_succ])
      refine wpAnyH_take (i:=13) (oi:=⟨some 16,_,_,_,_,_⟩) (v:=?_) rfl (by kernel_rfl) (by kernel_rfl) (by kernel_rfl) (fun _ _ _ h=>h) (Or.inl ⟨by rfl,?_⟩) (by assumption) ?_;rotate_left;(focus (intro w' hSw;(try dsimp only at hSw);go_simp;(try with_reducible rfl)));(try rotate_left);(try simp only [Act.put,List.setIfInBounds_toArray,List.set_cons_zero,List.set_cons_succ])
      refine wpAnyH_take (i:=14) (oi:=⟨some 2,_,_,_,_,_⟩) (v:=?_) rfl (by kernel_rfl) (by kernel_rfl) (by kernel_rfl) (fun _ _ _ h=>h) (Or.inl ⟨by rfl,?_⟩) (by assumption) ?_;rotate_left;(focus (intro w' hSw;(try dsimp only at hSw);go_simp;(try with_reducible rfl)));(try rotate_left);(try simp only [Act.put,List.setIfInBounds_toArray,List.set_cons_zero,List.set_cons_succ])
      refine wpAnyH_done (by kernel_rfl) ?_ _
      go_wp2
      go_ret
      exact ⟨ret_bool (by rw [← HK.out];simp [he,e0]),by exact zB⟩
    · have e0:(h.pos == 0)=false:=by simpa using h0
      clear h0
      go_enter Tryz.func11,Tryz.ntmps11
      go_wp2_with fail
      refine wp_region_held_drew (S:=fun w'=>hp w' w.heap.size=some (.cells (hvals h) 31)∧(∀ o,w'.cell? ⟨w.heap.size,o,none⟩=(hvals h)[o]?)) (by kernel_rfl) (by simp [*,go_sem]) (fun hS0=>?_)
      refine wpAnyH_take (i:=0) (oi:=⟨some 3,_,_,_,_,_⟩) (v:=?_) rfl (by kernel_rfl) (by kernel_rfl) (by kernel_rfl) (fun _ _ _ h=>h) (Or.inl ⟨by rfl,?_⟩) (by assumption) ?_;rotate_left;(focus (intro w' hSw;(try dsimp only at hSw);go_simp;(try with_reducible rfl)));(try rotate_left);(try simp only [Act.put,List.setIfInBounds_toArray,List.set_cons_zero,List.set_cons_succ])
      refine wpAnyH_take (i:=1) (oi:=⟨some 4,_,_,_,_,_⟩) (v:=?_) rfl (by kernel_rfl) (by kernel_rfl) (by kernel_rfl) (fun _ _ _ h=>h) (Or.inl ⟨by rfl,?_⟩) (by assumption) ?_;rotate_left;(focus (intro w' hSw;(try dsimp only at hSw);go_simp;(try with_reducible rfl)));(try rotate_left);(try simp only [Act.put,List.setIfInBounds_toArray,List.set_cons_zero,List.set_cons_succ])
      refine wpAnyH_ready (rs:=[2]) (by kernel_rfl) (by simp) ?_
      refine AllReadyH.cons (o:=⟨some 5,_,_,_,_,_⟩) rfl (fun K hK=>?_) AllReadyH.nil
      go_simp
      (go_at_call 39;refine bHit w (by exact zB) fun bb=>?_;refine (bounded_any h _).mono ?_;rintro _ w1 ⟨rfl,hbw1⟩;have hCw1:Below w.heap.size w w1:=bT bb hbw1;have hsw1:=hbw1.size;(try simp at hsw1);have zz:=hQ hbw1 (b:=w.heap.size);(try simp [go_sem] at zz);(try clear z_w x_w f_w l_w);have z_w:=zz;clear zz;obtain ⟨x_w,f_w,l_w⟩:=bO z_w;clear hbw1 bb)
      refine hK.out _ _ ⟨z_w,x_w⟩ (fun hS1=>?_)
      clear hK
      (try simp only [Act.put,List.setIfInBounds_toArray,List.set_cons_zero,List.set_cons_succ])
      refine wpAnyH_take (i:=3) (oi:=⟨some 6,_,_,_,_,_⟩) (v:=?_) rfl (by kernel_rfl) (by kernel_rfl) (by kernel_rfl) (fun _ _ _ h=>h) (Or.inl ⟨by rfl,?_⟩) (by assumption) ?_;rotate_left;(focus (intro w' hSw;(try dsimp only at hSw);go_simp;(try with_reducible rfl)));(try rotate_left);(try simp only [Act.put,List.setIfInBounds_toArray,List.set_cons_zero,List.set_cons_succ])
      refine wpAnyH_take (i:=4) (oi:=⟨some 7,_,_,_,_,_⟩) (v:=?_) rfl (by kernel_rfl) (by kernel_rfl) (by kernel_rfl) (fun _ _ _ h=>h) (Or.inl ⟨by rfl,?_⟩) (by assumption) ?_;rotate_left;(focus (intro w' hSw;(try dsimp only at hSw);go_simp;(try with_reducible rfl)));(try rotate_left);(try simp only [Act.put,List.setIfInBounds_toArray,List.set_cons_zero,List.set_cons_succ])
      refine wpAnyH_take (i:=5) (oi:=⟨some 8,_,_,_,_,_⟩) (v:=?_) rfl (by kernel_rfl) (by kernel_rfl) (by kernel_rfl) (fun _ _ _ h=>h) (Or.inl ⟨by rfl,?_⟩) (by assumption) ?_;rotate_left;(focus (intro w' hSw;(try dsimp only at hSw);go_simp;(try with_reducible rfl)));(try rotate_left);(try simp only [Act.put,List.setIfInBounds_toArray,List.set_cons_zero,List.set_cons_succ])
      refine wpAnyH_take (i:=6) (oi:=⟨some 9,_,_,_,_,_⟩) (v:=?_) rfl (by kernel_rfl) (by kernel_rfl) (by kernel_rfl) (fun _ _ _ h=>h) (Or.inl ⟨by rfl,?_⟩) (by assumption) ?_;rotate_left;(focus (intro w' hSw;(try dsimp only at hSw);go_simp;(try with_reducible rfl)));(try rotate_left);(try simp only [Act.put,List.setIfInBounds_toArray,List.set_cons_zero,List.set_cons_succ])
      refine wpAnyH_take (i:=7) (oi:=⟨some 10,_,_,_,_,_⟩) (v:=?_) rfl (by kernel_rfl) (by kernel_rfl) (by kernel_rfl) (fun _ _ _ h=>h) (Or.inl ⟨by rfl,?_⟩) (by assumption) ?_;rotate_left;(focus (intro w' hSw;(try dsimp only at hSw);go_simp;(try with_reducible rfl)));(try rotate_left);(try simp only [Act.put,List.setIfInBounds_toArray,List.set_cons_zero,List.set_cons_succ])
      refine wpAnyH_take (i:=8) (oi:=⟨some 11,_,_,_,_,_⟩) (v:=?_) rfl (by kernel_rfl) (by kernel_rfl) (by kernel_rfl) (fun _ _ _ h=>h) (Or.inl ⟨by rfl,?_⟩) (by assumption) ?_;rotate_left;(focus (intro w' hSw;(try dsimp only at hSw);go_simp;(try with_reducible rfl)));(try rotate_left);(try simp only [Act.put,List.setIfInBounds_toArray,List.set_cons_zero,List.set_cons_succ])
      refine wpAnyH_take (i:=9) (oi:=⟨some 12,_,_,_,_,_⟩) (v:=?_) rfl (by kernel_rfl) (by kernel_rfl) (by kernel_rfl) (fun _ _ _ h=>h) (Or.inl ⟨by rfl,?_⟩) (by assumption) ?_;rotate_left;(focus (intro w' hSw;(try dsimp only at hSw);go_simp;(try with_reducible rfl)));(try rotate_left);(try simp only [Act.put,List.setIfInBounds_toArray,List.set_cons_zero,List.set_cons_succ])
      refine wpAnyH_take (i:=10) (oi:=⟨some 13,_,_,_,_,_⟩) (v:=?_) rfl (by kernel_rfl) (by kernel_rfl) (by kernel_rfl) (fun _ _ _ h=>h) (Or.inl ⟨by rfl,?_⟩) (by assumption) ?_;rotate_left;(focus (intro w' hSw;(try dsimp only at hSw);go_simp;(try with_reducible rfl)));(try rotate_left);(try simp only [Act.put,List.setIfInBounds_toArray,List.set_cons_zero,List.set_cons_succ])
      refine wpAnyH_ready (rs:=[11]) (by kernel_rfl) (by simp) ?_
      refine AllReadyH.cons (o:=⟨some 14,_,_,_,_,_⟩) rfl (fun K hK=>?_) AllReadyH.nil
      go_simp
      (go_at_call 40;refine bHit w (by exact zB) fun bb=>?_;refine (callOk_any h.code h.elem _).mono ?_;rintro _ w2 ⟨rfl,hbw2⟩;have hCw2:Below w.heap.size w w2:=bT bb hbw2;have hsw2:=hbw2.size;(try simp at hsw2);have zz:=hQ hbw2 (b:=w.heap.size);(first|simp [go_sem,z_w,l_w] at zz|simp [go_sem] at zz|skip);(try clear z_w x_w f_w l_w);have z_w:=zz;clear zz;obtain ⟨x_w,f_w,l_w⟩:=bO z_w;clear hbw2 bb)
      refine hK.out _ _ ⟨z_w,x_w⟩ (fun hS2=>?_)
      clear hK
      (try simp only [Act.put,List.setIfInBounds_toArray,List.set_cons_zero,List.set_cons_succ])
      refine wpAnyH_take (i:=12) (oi:=⟨some 15,_,_,_,_,_⟩) (v:=?_) rfl (by kernel_rfl) (by kernel_rfl) (by kernel_rfl) (fun _ _ _ h=>h) (Or.inl ⟨by rfl,?_⟩) (by assumption) ?_;rotate_left;(focus (intro w' hSw;(try dsimp only at hSw);go_simp;(try with_reducible rfl)));(try rotate_left);(try simp only [Act.put,List.setIfInBounds_toArray,List.set_cons_zero,List.set_cons_succ])
      refine wpAnyH_take (i:=13) (oi:=⟨some 16,_,_,_,_,_⟩) (v:=?_) rfl (by kernel_rfl) (by kernel_rfl) (by kernel_rfl) (fun _ _ _ h=>h) (Or.inl ⟨by rfl,?_⟩) (by assumption) ?_;rotate_left;(focus (intro w' hSw;(try dsimp only at hSw);go_simp;(try with_reducible rfl)));(try rotate_left);(try simp only [Act.put,List.setIfInBounds_toArray,List.set_cons_zero,List.set_cons_succ])
      refine wpAnyH_take (i:=14) (oi:=⟨some 2,_,_,_,_,_⟩) (v:=?_) rfl (by kernel_rfl) (by kernel_rfl) (by kernel_rfl) (fun _ _ _ h=>h) (Or.inl ⟨by rfl,?_⟩) (by assumption) ?_;rotate_left;(focus (intro w' hSw;(try dsimp only at hSw);go_simp;(try with_reducible rfl)));(try rotate_left);(try simp only [Act.put,List.setIfInBounds_toArray,List.set_cons_zero,List.set_cons_succ])
      refine wpAnyH_done (by kernel_rfl) ?_ _
      go_wp2
      go_ret
      exact ⟨ret_bool (by rw [← HK.out];simp [he,e0]),by exact zB⟩
  · have he2:eqHa h (boundH h)=false:=by simpa using he
    clear he
    focus
      go_enter Tryz.func11,Tryz.ntmps11
      go_wp2_with fail
      refine wp_region_held_drew (S:=fun w'=>hp w' w.heap.size=some (.cells (hvals h) 31)∧(∀ o,w'.cell? ⟨w.heap.size,o,none⟩=(hvals h)[o]?)) (by kernel_rfl) (by simp [*,go_sem]) (fun hS0=>?_)
      refine wpAnyH_take (i:=0) (oi:=⟨some 3,_,_,_,_,_⟩) (v:=?_) rfl (by kernel_rfl) (by kernel_rfl) (by kernel_rfl) (fun _ _ _ h=>h) (Or.inl ⟨by rfl,?_⟩) (by assumption) ?_;rotate_left;(focus (intro w' hSw;(try dsimp only at hSw);go_simp;(try with_reducible rfl)));(try rotate_left);(try simp only [Act.put,List.setIfInBounds_toArray,List.set_cons_zero,List.set_cons_succ])
      refine wpAnyH_take (i:=1) (oi:=⟨some 4,_,_,_,_,_⟩) (v:=?_) rfl (by kernel_rfl) (by kernel_rfl) (by kernel_rfl) (fun _ _ _ h=>h) (Or.inl ⟨by rfl,?_⟩) (by assumption) ?_;rotate_left;(focus (intro w' hSw;(try dsimp only at hSw);go_simp;(try with_reducible rfl)));(try rotate_left);(try simp only [Act.put,List.setIfInBounds_toArray,List.set_cons_zero,List.set_cons_succ])
      refine wpAnyH_ready (rs:=[2]) (by kernel_rfl) (by simp) ?_
      refine AllReadyH.cons (o:=⟨some 5,_,_,_,_,_⟩) rfl (fun K hK=>?_) AllReadyH.nil
      go_simp
      (go_at_call 39;refine bHit w (by exact zB) fun bb=>?_;refine (bounded_any h _).mono ?_;rintro _ w1 ⟨rfl,hbw1⟩;have hCw1:Below w.heap.size w w1:=bT bb hbw1;have hsw1:=hbw1.size;(try simp at hsw1);have zz:=hQ hbw1 (b:=w.heap.size);(try simp [go_sem] at zz);(try clear z_w x_w f_w l_w);have z_w:=zz;clear zz;obtain ⟨x_w,f_w,l_w⟩:=bO z_w;clear hbw1 bb)
      refine hK.out _ _ ⟨z_w,x_w⟩ (fun hS1=>?_)
      clear hK
      (try simp only [Act.put,List.setIfInBounds_toArray,List.set_cons_zero,List.set_cons_succ])
      refine wpAnyH_take (i:=3) (oi:=⟨some 6,_,_,_,_,_⟩) (v:=?_) rfl (by kernel_rfl) (by kernel_rfl) (by kernel_rfl) (fun _ _ _ h=>h) (Or.inl ⟨by rfl,?_⟩) (by assumption) ?_;rotate_left;(focus (intro w' hSw;(try dsimp only at hSw);go_simp;(try with_reducible rfl)));(try rotate_left);(try simp only [Act.put,List.setIfInBounds_toArray,List.set_cons_zero,List.set_cons_succ])
      refine wpAnyH_take (i:=4) (oi:=⟨some 7,_,_,_,_,_⟩) (v:=?_) rfl (by kernel_rfl) (by kernel_rfl) (by kernel_rfl) (fun _ _ _ h=>h) (Or.inl ⟨by rfl,?_⟩) (by assumption) ?_;rotate_left;(focus (intro w' hSw;(try dsimp only at hSw);go_simp;(try with_reducible rfl)));(try rotate_left);(try simp only [Act.put,List.setIfInBounds_toArray,List.set_cons_zero,List.set_cons_succ])
      refine wpAnyH_take (i:=5) (oi:=⟨some 8,_,_,_,_,_⟩) (v:=undef) rfl (by kernel_rfl) (by kernel_rfl) (by kernel_rfl) (fun _ _ _ h=>h) (Or.inr ⟨by rfl,rfl⟩) (by assumption) ?_;(try simp only [Act.put,List.setIfInBounds_toArray,List.set_cons_zero,List.set_cons_succ])
      refine wpAnyH_take (i:=6) (oi:=⟨some 9,_,_,_,_,_⟩) (v:=undef) rfl (by kernel_rfl) (by kernel_rfl) (by kernel_rfl) (fun _ _ _ h=>h) (Or.inr ⟨by rfl,rfl⟩) (by assumption) ?_;(try simp only [Act.put,List.setIfInBounds_toArray,List.set_cons_zero,List.set_cons_succ])
      refine wpAnyH_take (i:=7) (oi:=⟨some 10,_,_,_,_,_⟩) (v:=undef) rfl (by kernel_rfl) (by kernel_rfl) (by kernel_rfl) (fun _ _ _ h=>h) (Or.inr ⟨by rfl,rfl⟩) (by assumption) ?_;(try simp only [Act.put,List.setIfInBounds_toArray,List.set_cons_zero,List.set_cons_succ])
      refine wpAnyH_take (i:=8) (oi:=⟨some 11,_,_,_,_,_⟩) (v:=undef) rfl (by kernel_rfl) (by kernel_rfl) (by kernel_rfl) (fun _ _ _ h=>h) (Or.inr ⟨by rfl,rfl⟩) (by assumption) ?_;(try simp only [Act.put,List.setIfInBounds_toArray,List.set_cons_zero,List.set_cons_succ])
      refine wpAnyH_take (i:=9) (oi:=⟨some 12,_,_,_,_,_⟩) (v:=undef) rfl (by kernel_rfl) (by kernel_rfl) (by kernel_rfl) (fun _ _ _ h=>h) (Or.inr ⟨by rfl,rfl⟩) (by assumption) ?_;(try simp only [Act.put,List.setIfInBounds_toArray,List.set_cons_zero,List.set_cons_succ])
      refine wpAnyH_take (i:=10) (oi:=⟨some 13,_,_,_,_,_⟩) (v:=undef) rfl (by kernel_rfl) (by kernel_rfl) (by kernel_rfl) (fun _ _ _ h=>h) (Or.inr ⟨by rfl,rfl⟩) (by assumption) ?_;(try simp only [Act.put,List.setIfInBounds_toArray,List.set_cons_zero,List.set_cons_succ])
      refine wpAnyH_take (i:=11) (oi:=⟨some 14,_,_,_,_,_⟩) (v:=undef) rfl (by kernel_rfl) (by kernel_rfl) (by kernel_rfl) (fun _ _ _ h=>h) (Or.inr ⟨by rfl,rfl⟩) (by assumption) ?_;(try simp only [Act.put,List.setIfInBounds_toArray,List.set_cons_zero,List.set_cons_succ])
      refine wpAnyH_take (i:=12) (oi:=⟨some 15,_,_,_,_,_⟩) (v:=undef) rfl (by kernel_rfl) (by kernel_rfl) (by kernel_rfl) (fun _ _ _ h=>h) (Or.inr ⟨by rfl,rfl⟩) (by assumption) ?_;(try simp only [Act.put,List.setIfInBounds_toArray,List.set_cons_zero,List.set_cons_succ])
      refine wpAnyH_take (i:=13) (oi:=⟨some 16,_,_,_,_,_⟩) (v:=?_) rfl (by kernel_rfl) (by kernel_rfl) (by kernel_rfl) (fun _ _ _ h=>h) (Or.inl ⟨by rfl,?_⟩) (by assumption) ?_;rotate_left;(focus (intro w' hSw;(try dsimp only at hSw);go_simp;(try with_reducible rfl)));(try rotate_left);(try simp only [Act.put,List.setIfInBounds_toArray,List.set_cons_zero,List.set_cons_succ])
      refine wpAnyH_take (i:=14) (oi:=⟨some 2,_,_,_,_,_⟩) (v:=?_) rfl (by kernel_rfl) (by kernel_rfl) (by kernel_rfl) (fun _ _ _ h=>h) (Or.inl ⟨by rfl,?_⟩) (by assumption) ?_;rotate_left;(focus (intro w' hSw;(try dsimp only at hSw);go_simp;(try with_reducible rfl)));(try rotate_left);(try simp only [Act.put,List.setIfInBounds_toArray,List.set_cons_zero,List.set_cons_succ])
      refine wpAnyH_done (by kernel_rfl) ?_ _
      go_wp2
      go_ret
      exact ⟨ret_bool (by rw [← HK.out];simp [he2]),by exact zB⟩
end Go.Proofs.YtkiingmgpobgnaaGreat
set_option linter.unusedSimpArgs false
set_option linter.unusedVariables false
namespace Go.Proofs.YtkiingmgpobgnaaGreat
open Go.RowKit
attribute [local go_sem ↓] zeroHand toLHand toVHand storeHand storeHandC
attribute [local go_sem ↓] eqHandV
set_option maxRecDepth 100000 in
theorem resting_any (x o:Int) (w:World):Calls Tryz.prog 76 #[.int .i64 x,.int .i64 o] w fun r w'=>r=.returned (.agg (hvals (resting x o)))∧Below w.heap.size w w':=by
  go_enter Tryz.func76,Tryz.ntmps76
  go_wp2
  refine bodyPost_ret (res_c Tryz.results76 rfl (ldHand (resting x o) (by simp [go_sem] <;> rfl))) rfl ⟨rfl,by exact zB⟩
end Go.Proofs.YtkiingmgpobgnaaGreat
set_option linter.unusedSimpArgs false
set_option linter.unusedVariables false
namespace Go.Proofs.YtkiingmgpobgnaaGreat
open Go.RowKit
set_option linter.unusedSimpArgs false
attribute [local simp] bx_size
attribute [local go_sem ↓] zeroHand zeroChan toLHand toLChan toVHand toVChan storeHand storeChan storeHandC storeChanC
theorem refused_any (w:World) (lo:Nat) (v1 v2:Value):Calls Tryz.prog 42 #[] w fun r w'=>StepR w w' lo v1 v2 nothing r∧Below w.heap.size w w':=by
  go_enter Tryz.func42,Tryz.ntmps42
  go_wp2
  refine bodyPost_ret (res_cct Tryz.results42 rfl (ldChan Ch.zero (.slice none 0 0) (.slice none 0 0) (by simp [go_sem])) rfl (ldHand Ha.zero (by simp [go_sem]))) rfl ⟨stepR_none _ _ _ _ _,by exact zB⟩
theorem moved_any (h:Ha) (k:Int) (w:World):Calls Tryz.prog 105 #[.agg (hvals h),.int .i64 k] w fun r w'=>r=.returned (.agg (hvals { h with pos:=k }))∧Below w.heap.size w w':=by
  go_enter Tryz.func105,Tryz.ntmps105
  go_wp2
  refine bodyPost_ret (res_c Tryz.results105 rfl (ldHand { h with pos:=k } (by simp [go_sem] <;> rfl))) rfl ⟨rfl,by exact zB⟩
end Go.Proofs.YtkiingmgpobgnaaGreat
set_option linter.unusedSimpArgs false
set_option linter.unusedVariables false
namespace Go.Proofs.YtkiingmgpobgnaaGreat
open Go.RowKit
set_option maxRecDepth 100000 in
set_option maxHeartbeats 1000000 in
theorem copied_any (c:Ch) (a b:Option Addr) (p q:Nat) (w:World) (h1:Seg w w.heap.size a c.cells.length 3 (cellF c.cells)) (z1:a=none→p=0) (h2:Seg w w.heap.size b c.words.length 1 (intF c.words)) (z2:b=none→q=0) (m1:c.cells.length≤1099511627776) (m2:c.words.length≤1099511627776) :
    Calls Tryz.prog 56 #[.agg #[.int .i64 c.cap,.int .i64 c.sent,.int .i64 c.got,.int .i64 c.fin,.slice a c.cells.length p,.slice b c.words.length q]] w fun r w' =>
      (∃ v1 v2,r=.returned (.agg #[.int .i64 c.cap,.int .i64 c.sent,.int .i64 c.got,.int .i64 c.fin,v1,v2])∧OCells w' w.heap.size v1 c.cells∧OInts w' w.heap.size v2 c.words)∧Below w.heap.size w w':=by
  obtain ⟨cap,sent,got,fin,cells,words⟩:=c
  simp only at *
  have H1:=Lib.hid h1
  have Z1:=Lib.hid z1
  have H2:=Lib.hid h2
  have Z2:=Lib.hid z2
  clear h1 h2 z1 z2
  go_enter Tryz.func56,Tryz.ntmps56
  go_wp2_with fail
  refine (cloneC_any cells a p _ ((H1.out.below (by exact zB)).more (by simp;try omega)) Z1.out m1).mono ?_
  rintro _ w1 ⟨⟨v1,rfl,o1⟩,hb1⟩
  have hs1:=hb1.size
  simp at hs1
  have:=fun o=>hb1.cell (p:=⟨w.heap.size,o,none⟩) (by simp;omega)
  have:=fun o=>hb1.frozen (p:=⟨w.heap.size,o,none⟩) (by simp;omega)
  have:=fun o=>hb1.cell (p:=⟨w.heap.size+1,o,none⟩) (by simp)
  have:=fun o=>hb1.frozen (p:=⟨w.heap.size+1,o,none⟩) (by simp)
  have hB1:Below w.heap.size w w1:=bT (by exact zB) hb1
  have k0:w.heap.size<w1.heap.size:=by omega
  have k1:w.heap.size+1<w1.heap.size:=by omega
  have o1':=own_lo o1 (lo':=w.heap.size+1+1) (by simp)
  obtain ⟨va,vc,rfl,_⟩:=OCells.seg o1
  clear o1 hb1
  go_wp2_with fail
  refine (cloneI_any words b q _ ((H2.out.below hB1).setOther (by simp [World.setCell];omega) (by simp)) Z2.out m2).mono ?_
  rintro _ w2 ⟨⟨v2,rfl,o2⟩,hb2⟩
  have p1:=own_below (own_store o1' (p:=⟨w.heap.size,4,none⟩) (own_ne o1' (by (try simp);try omega)) (.slice va cells.length vc)) hb2
  have p2:=own_lo o2 (lo':=w.heap.size+1+1) (by simp [World.setCell];omega)
  obtain ⟨vb,vd,rfl,_⟩:=OInts.seg o2
  clear o2
  have hs2:=hb2.size
  simp [World.setCell] at hs2
  have hB2:Below w.heap.size w w2:=bT (by exact zB) hb2
  have:=fun o=>hb2.cell (p:=⟨w.heap.size,o,none⟩) (by simp [World.setCell];omega)
  have:=fun o=>hb2.frozen (p:=⟨w.heap.size,o,none⟩) (by simp [World.setCell];omega)
  have:=fun o=>hb2.cell (p:=⟨w.heap.size+1,o,none⟩) (by simp [World.setCell];omega)
  have:=fun o=>hb2.frozen (p:=⟨w.heap.size+1,o,none⟩) (by simp [World.setCell];omega)
  clear hb2
  have:w.heap.size<w2.heap.size:=by omega
  have:w.heap.size+1<w2.heap.size:=by omega
  go_wp2_with fail
  refine bodyPost_ret (v:=.agg #[.int .i64 cap,.int .i64 sent,.int .i64 got,.int .i64 fin,.slice va cells.length vc,.slice vb words.length vd]) (by simp [results,Tryz.results56,go_sem, *]) rfl ⟨⟨_,_,rfl,?_,?_⟩,?_⟩
  · refine own_lo (lo:=w.heap.size+1+1) ?_ (by omega)
    repeat (first|with_reducible exact p1|((with_reducible refine own_store ?_ ?_ _);rotate_left;(focus exact own_ne p1 (by (try simp);try omega))))
  · refine own_lo (lo:=w.heap.size+1+1) ?_ (by omega)
    repeat (first|with_reducible exact p2|((with_reducible refine own_store ?_ ?_ _);rotate_left;(focus exact own_ne p2 (by (try simp);try omega))))
  · exact zB
end Go.Proofs.YtkiingmgpobgnaaGreat
set_option linter.unusedSimpArgs false
set_option linter.unusedVariables false
namespace Go.Proofs.YtkiingmgpobgnaaGreat
open Go.RowKit
end Go.Proofs.YtkiingmgpobgnaaGreat
set_option linter.unusedSimpArgs false
set_option linter.unusedVariables false
namespace Go.Proofs.YtkiingmgpobgnaaGreat
open Go.RowKit
set_option linter.unusedSimpArgs false
end Go.Proofs.YtkiingmgpobgnaaGreat
set_option linter.unusedSimpArgs false
set_option linter.unusedVariables false
namespace Go.Proofs.YtkiingmgpobgnaaGreat
open Go.RowKit
set_option linter.unusedSimpArgs false
end Go.Proofs.YtkiingmgpobgnaaGreat
set_option linter.unusedSimpArgs false
set_option linter.unusedVariables false
namespace Go.Proofs.YtkiingmgpobgnaaGreat
open Go.RowKit
set_option linter.unusedSimpArgs false
attribute [local simp] bx_size
attribute [local go_sem ↓] zeroHand zeroChan toLHand toLChan toVHand toVChan storeHand storeChan storeHandC storeChanC
end Go.Proofs.YtkiingmgpobgnaaGreat
set_option linter.unusedSimpArgs false
set_option linter.unusedVariables false
namespace Go.Proofs.YtkiingmgpobgnaaGreat
open Go.RowKit
set_option linter.unusedSimpArgs false
attribute [local simp] bx_size
attribute [local go_sem ↓] zeroHand zeroChan toLHand toLChan toVHand toVChan storeHand storeChan storeHandC storeChanC
theorem own_zcap {w:World} {lo:Nat} {e:TypeId} {k n p m:Nat} {a:Option Addr} {xs:List Value} (h:w.ownsRow lo e k (.slice a n p) m xs) (ha:a=none):p=0:=by
  rcases h.2 with ⟨h1,_⟩|⟨g,cap,cur,h1,_⟩
  · simp at h1;exact h1.2.2
  · subst ha;simp at h1
theorem chan_len {c:Ch} (e:chanOk c=true):c.cells.length=40∧c.words.length≤80:=by
  simp [chanOk,chanHead] at e
  omega
end Go.Proofs.YtkiingmgpobgnaaGreat
set_option linter.unusedSimpArgs false
set_option linter.unusedVariables false
namespace Go.Proofs.YtkiingmgpobgnaaGreat
open Go.RowKit
end Go.Proofs.YtkiingmgpobgnaaGreat
set_option linter.unusedSimpArgs false
set_option linter.unusedVariables false
namespace Go.Proofs.YtkiingmgpobgnaaGreat
open Go.RowKit
set_option linter.unusedSimpArgs false
attribute [local simp] bx_size
attribute [local go_sem ↓] zeroHand zeroChan toLHand toLChan toVHand toVChan storeHand storeChan storeHandC storeChanC
end Go.Proofs.YtkiingmgpobgnaaGreat
