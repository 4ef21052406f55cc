/-
  The contracts of the program's functions of chapter 4; no condition.
  The contracts of the program's functions of chapter 5, on hands that are kept whole; no condition.
  The program's HandOk, Resting, Called, on hands that are kept whole; no condition.
  The program's Resting, Called, on hands that are kept whole; no condition.
  FnHands returns true for every list of bytes that it is called with, and turns nothing; no condition.
-/
import Derived.Test.YtlfcgeoifmnjnaaP01
import Derived.Test.YtlfcgeoifmnjnaaP16
import Derived.BigRegion
import Derived.StillTailTactics
import Derived.Test.YtlfcgeoifmnjnaaP05
set_option linter.unusedSimpArgs false
set_option linter.unusedVariables false
namespace Go.Proofs.Ytlfcgeoifmnjnaa
open Go.RowKit
def mostE (k:Int):Int:=if k == 1 then 999 else (if k == 2 then 0 else -1)
def mayR (k r:Int):Bool:=if r == 1 then k == 1 else (if r == 2 then k == 2 else (if r == 3 || r == 4 then k == 1 || k == 2 else false))
theorem callOk_most (k e:Int):inB e 0 (mostE k)=callOk k e:=by
  unfold mostE callOk
  by_cases h1:k=1
  · subst h1;simp
  · by_cases h2:k=2
    · subst h2
      simp [inB]
      rw [Bool.eq_iff_iff];simp;omega
    · have:(if k == 1 then (999:Int) else if k == 2 then 0 else -1)=-1:=by simp [h1,h2]
      rw [this,inB_no (by omega)]
      simp [h1,h2]
theorem replyOk_may (k e r:Int):(callOk k e && mayR k r)=replyOk k e r:=by
  unfold replyOk
  by_cases hc:callOk k e=true
  · rw [hc]
    have hk:k=1∨k=2:=by
      simp [callOk] at hc
      omega
    simp only [Bool.true_and]
    unfold mayR
    by_cases h1:r=1
    · subst h1
      rcases hk with rfl|rfl <;> decide
    · by_cases h2:r=2
      · subst h2
        rcases hk with rfl|rfl <;> decide
      · by_cases h3:r=3
        · subst h3
          rcases hk with rfl|rfl <;> decide
        · by_cases h4:r=4
          · subst h4
            rcases hk with rfl|rfl <;> decide
          · have:inB r 1 4=false:=inB_no (by omega)
            simp [h1,h2,h3,h4,this]
  · simp [not_tt hc]
set_option maxHeartbeats 400000 in
theorem mostElem_any (k:Int) (w:World):Calls Try.prog 44 #[.int .i64 k] w fun r w'=>r=.returned (.int .i64 (mostE k))∧w=w':=by
  go_enter Try.func44,Try.ntmps44
  go_wp2
  all_goals go_ret
  all_goals exact ⟨ret_i64 (by simp_all [mostE]),rfl⟩
set_option maxHeartbeats 400000 in
theorem coded_any (k e:Int) (w:World):Calls Try.prog 34 #[.agg #[.int .i64 k,.int .i64 e]] w fun r w'=>r=.returned (.agg #[.int .i64 k,.int .i64 e])∧Below w.heap.size w w':=by
  go_enter Try.func34,Try.ntmps34
  go_wp2
  exact bodyPost_ret (v:=.agg #[.int .i64 k,.int .i64 e]) (by simp [results,Try.results34,go_sem, *]) rfl ⟨rfl,by (repeat (with_reducible first|assumption|exact bR|refine bA ?_|refine bD ?_|((first|refine bS ?_ ?_|refine bBx ?_ ?_);rotate_left;focus (try simp) <;> (try omega))))⟩
set_option maxHeartbeats 400000 in
theorem isRight_any (k e:Int) (w:World):Calls Try.prog 35 #[.agg #[.int .i64 k,.int .i64 e]] w fun r w'=>r=.returned (.bool (callOk k e))∧Below w.heap.size w w':=by
  go_enter Try.func35,Try.ntmps35
  go_wp2_with fail
  go_region_with (first|(go_at_call 44;refine (mostElem_any _ _).mono ?_;rintro _ _ ⟨rfl,rfl⟩)|(go_at_call 43;refine (inRange_any _ _ _).mono ?_;rintro _ _ ⟨rfl,rfl⟩))
  all_goals go_wp2
  all_goals go_ret
  all_goals exact ⟨ret_bool (callOk_most k e),by (repeat (with_reducible first|assumption|exact bR|refine bA ?_|refine bD ?_|((first|refine bS ?_ ?_|refine bBx ?_ ?_);rotate_left;focus (try simp) <;> (try omega))))⟩
set_option maxHeartbeats 400000 in
theorem callOk_any (k e:Int) (w:World):Calls Try.prog 19 #[.agg #[.int .i64 k,.int .i64 e]] w fun r w'=>r=.returned (.bool (callOk k e))∧Below w.heap.size w w':=by
  go_enter Try.func19,Try.ntmps19
  go_wp2_with fail;refine (coded_any _ _ _).mono ?_;rintro _ w1 ⟨rfl,hbw1⟩;have hBw1:Below w.heap.size w w1:=bT (by (repeat (with_reducible first|assumption|exact bR|refine bA ?_|refine bD ?_|((first|refine bS ?_ ?_|refine bBx ?_ ?_);rotate_left;focus (try simp) <;> (try omega))))) hbw1;have hsw1:=hbw1.size;(try (simp at hsw1));have:=fun o=>hbw1.cell (p:=⟨w.heap.size,o,none⟩) (by ((try simp);(try omega)));have:=fun o=>hbw1.frozen (p:=⟨w.heap.size,o,none⟩) (by ((try simp);(try omega)));have:w.heap.size<w1.heap.size:=(by omega);have:w.heap.size≤w1.heap.size:=(by omega);have:w.heap.size≤w1.heap.size+1:=(by omega)
  go_wp2_with fail;refine (isRight_any _ _ _).mono ?_;rintro _ w2 ⟨rfl,hbw2⟩;have hBw2:Below w.heap.size w w2:=bT (by (repeat (with_reducible first|assumption|exact bR|refine bA ?_|refine bD ?_|((first|refine bS ?_ ?_|refine bBx ?_ ?_);rotate_left;focus (try simp) <;> (try omega))))) hbw2;have hsw2:=hbw2.size;(try (simp at hsw2));have:=fun o=>hbw2.cell (p:=⟨w.heap.size,o,none⟩) (by ((try simp);(try omega)));have:=fun o=>hbw2.frozen (p:=⟨w.heap.size,o,none⟩) (by ((try simp);(try omega)));have:w.heap.size<w2.heap.size:=(by omega);have:w.heap.size≤w2.heap.size:=(by omega);have:w.heap.size≤w2.heap.size+1:=(by omega)
  go_wp2
  go_ret
  exact ⟨rfl,by (repeat (with_reducible first|assumption|exact bR|refine bA ?_|refine bD ?_|((first|refine bS ?_ ?_|refine bBx ?_ ?_);rotate_left;focus (try simp) <;> (try omega))))⟩
end Go.Proofs.Ytlfcgeoifmnjnaa
set_option linter.unusedSimpArgs false
set_option linter.unusedVariables false
namespace Go.Proofs.Ytlfcgeoifmnjnaa
open Go.RowKit
attribute [local go_sem ↓] zeroHand toLHand toVHand storeHand storeHandC
attribute [local go_sem ↓] eqHandV
def near (n m:Int):Int:=if (if n<0 then 0 else n)≤m then (if n<0 then 0 else n) else m
theorem near_eq {n m:Int} (hm:0≤m):(n == near n m)=inB n 0 m:=by
  rw [Bool.eq_iff_iff]
  simp only [near,inB,beq_iff_eq,Bool.and_eq_true,decide_eq_true_eq]
  repeat' split
  all_goals omega
def boundH (h:Ha):Ha:=⟨near h.pos 25,if h.pos == 0 then 0 else h.code,if h.pos == 0 then 0 else h.elem,near h.cell 39,near h.seen 10,near h.wait 80,near h.fin 40,near h.come 40,near h.grow 39,near h.mine 80,near h.nxt 2,near h.beg 20000,near h.reply 4,near h.out 999⟩
theorem bound_ok (h:Ha):(eqHa h (boundH h) && (h.pos == 0 || callOk h.code h.elem))=handOk h:=by
  simp only [eqHa,boundH,near_eq (show (0:Int)≤25 by decide),near_eq (show (0:Int)≤39 by decide),near_eq (show (0:Int)≤10 by decide),near_eq (show (0:Int)≤80 by decide),near_eq (show (0:Int)≤40 by decide),near_eq (show (0:Int)≤2 by decide),near_eq (show (0:Int)≤20000 by decide),near_eq (show (0:Int)≤4 by decide),near_eq (show (0:Int)≤999 by decide)]
  have e:((h.code == if h.pos == 0 then 0 else h.code) && (h.elem == if h.pos == 0 then 0 else h.elem) && (h.pos == 0 || callOk h.code h.elem))=(if h.pos == 0 then noCall h.code h.elem else callOk h.code h.elem):=by
    by_cases h0:h.pos=0
    · simp [h0,noCall]
    · simp [h0]
  unfold handOk handA handB handC
  rw [← e]
  generalize inB h.pos 0 25=b1
  generalize (h.code == if h.pos == 0 then 0 else h.code)=b2
  generalize (h.elem == if h.pos == 0 then 0 else h.elem)=b3
  generalize inB h.cell 0 39=b4
  generalize inB h.seen 0 10=b5
  generalize inB h.wait 0 80=b6
  generalize inB h.fin 0 40=b7
  generalize inB h.come 0 40=b8
  generalize inB h.grow 0 39=b9
  generalize inB h.mine 0 80=b10
  generalize inB h.nxt 0 2=b11
  generalize inB h.beg 0 20000=b12
  generalize inB h.reply 0 4=b13
  generalize inB h.out 0 999=b14
  generalize (h.pos == 0 || callOk h.code h.elem)=b15
  simp only [Bool.and_assoc]
  cases b1 <;> cases b2 <;> cases b3 <;> cases b15 <;> (try simp) <;> cases b4 <;> cases b9 <;> cases b5 <;> cases b6 <;> cases b10 <;> simp
theorem nearest_any (n m:Int) (w:World):Calls Try.prog 36 #[.int .i64 n,.int .i64 m] w fun r w'=>r=.returned (.int .i64 (near n m))∧w=w':=by
  go_enter Try.func36,Try.ntmps36
  go_wp2
  all_goals go_ret
  all_goals exact ⟨ret_i64 (by (try unfold near);(repeat' split) <;> omega),rfl⟩
theorem nearStill (n m:Int) (w:World):Calls Try.prog 36 #[.int .i64 n,.int .i64 m] w fun r w'=>r=.returned (.int .i64 (near n m))∧w'=w :=
  (nearest_any n m w).mono fun _ _ h=>⟨h.1,h.2.symm⟩
set_option maxRecDepth 100000 in
set_option maxHeartbeats 2000000 in
theorem bounded_any (h:Ha) (w:World):Calls Try.prog 23 #[.agg (hvals h)] w fun r w'=>r=.returned (.agg (hvals (boundH h)))∧Below w.heap.size w w':=by
  by_cases h0:h.pos=0
  · have e0:(h.pos == 0)=true:=by simpa using h0
    clear h0
    have eb:boundH h=⟨near h.pos 25,0,0,near h.cell 39,near h.seen 10,near h.wait 80,near h.fin 40,near h.come 40,near h.grow 39,near h.mine 80,near h.nxt 2,near h.beg 20000,near h.reply 4,near h.out 999⟩:=by simp [boundH,e0]
    rw [eb]
    go_enter Try.func23,Try.ntmps23
    go_wp2
    refine wp_region_still_tail 38 (by kernel_rfl) (by kernel_rfl) ?_
    simp only [List.take_succ_cons,List.take_zero,List.drop_succ_cons,List.drop_zero]
    change wpStill _ _ (World.drew _) _ _ _
    repeat (first|still_step|still_call (nearStill _ _ _))
    refine wpStill_nil ?_
    change wpList _ _ _ _ _ (World.drew _)
    go_wp2
    refine bodyPost_ret (res_c Try.results23 rfl (ldHand ⟨near h.pos 25,0,0,near h.cell 39,near h.seen 10,near h.wait 80,near h.fin 40,near h.come 40,near h.grow 39,near h.mine 80,near h.nxt 2,near h.beg 20000,near h.reply 4,near h.out 999⟩ (by simp [go_sem] <;> rfl))) rfl ⟨rfl,by (repeat (with_reducible first|assumption|exact bR|refine bA ?_|refine bD ?_|((first|refine bS ?_ ?_|refine bBx ?_ ?_);rotate_left;focus (try simp) <;> (try omega))))⟩
  · have e0:(h.pos == 0)=false:=by simpa using h0
    clear h0
    have eb:boundH h=⟨near h.pos 25,h.code,h.elem,near h.cell 39,near h.seen 10,near h.wait 80,near h.fin 40,near h.come 40,near h.grow 39,near h.mine 80,near h.nxt 2,near h.beg 20000,near h.reply 4,near h.out 999⟩:=by simp [boundH,e0]
    rw [eb]
    go_enter Try.func23,Try.ntmps23
    go_wp2
    refine wp_region_still_tail 38 (by kernel_rfl) (by kernel_rfl) ?_
    simp only [List.take_succ_cons,List.take_zero,List.drop_succ_cons,List.drop_zero]
    change wpStill _ _ (World.drew _) _ _ _
    repeat (first|still_step|still_call (nearStill _ _ _))
    refine wpStill_nil ?_
    change wpList _ _ _ _ _ (World.drew _)
    go_wp2
    refine bodyPost_ret (res_c Try.results23 rfl (ldHand ⟨near h.pos 25,h.code,h.elem,near h.cell 39,near h.seen 10,near h.wait 80,near h.fin 40,near h.come 40,near h.grow 39,near h.mine 80,near h.nxt 2,near h.beg 20000,near h.reply 4,near h.out 999⟩ (by simp [go_sem] <;> rfl))) rfl ⟨rfl,by (repeat (with_reducible first|assumption|exact bR|refine bA ?_|refine bD ?_|((first|refine bS ?_ ?_|refine bBx ?_ ?_);rotate_left;focus (try simp) <;> (try omega))))⟩
end Go.Proofs.Ytlfcgeoifmnjnaa
set_option linter.unusedSimpArgs false
set_option linter.unusedVariables false
namespace Go.Proofs.Ytlfcgeoifmnjnaa
open Go.RowKit
attribute [local go_sem ↓] zeroHand toLHand toVHand storeHand storeHandC
attribute [local go_sem ↓] eqHandV
set_option maxRecDepth 100000 in
set_option maxHeartbeats 2000000 in
theorem handOk_any (h:Ha) (w:World):Calls Try.prog 10 #[.agg (hvals h)] w fun r w'=>r=.returned (.bool (handOk h))∧Below w.heap.size w w':=by
  have key:=bound_ok h
  have HK:=Lib.hid key
  clear key
  by_cases he:eqHa h (boundH h)=true
  · by_cases h0:h.pos=0
    · have e0:(h.pos == 0)=true:=by simpa using h0
      clear h0
      go_enter Try.func10,Try.ntmps10
      go_wp2_with fail
      refine wp_region_held_drew (S:=fun w'=>hp w' w.heap.size=some (.cells (hvals h) 27)∧(∀ o,w'.cell? ⟨w.heap.size,o,none⟩=(hvals h)[o]?)) (by kernel_rfl) (by simp [*,go_sem]) (fun hS0=>?_)
      refine wpAnyH_take (i:=0) (oi:=⟨some 3,_,_,_,_,_⟩) (v:=?_) rfl (by kernel_rfl) (by kernel_rfl) (by kernel_rfl) (fun _ _ _ h=>h) (Or.inl ⟨by rfl,?_⟩) (by assumption) ?_;rotate_left;(focus (intro w' hSw;(try dsimp only at hSw);go_simp;(try with_reducible rfl)));(try rotate_left);(try simp only [Act.put,List.setIfInBounds_toArray,List.set_cons_zero,List.set_cons_succ])
      refine wpAnyH_take (i:=1) (oi:=⟨some 4,_,_,_,_,_⟩) (v:=?_) rfl (by kernel_rfl) (by kernel_rfl) (by kernel_rfl) (fun _ _ _ h=>h) (Or.inl ⟨by rfl,?_⟩) (by assumption) ?_;rotate_left;(focus (intro w' hSw;(try dsimp only at hSw);go_simp;(try with_reducible rfl)));(try rotate_left);(try simp only [Act.put,List.setIfInBounds_toArray,List.set_cons_zero,List.set_cons_succ])
      refine wpAnyH_ready (rs:=[2]) (by kernel_rfl) (by simp) ?_
      refine AllReadyH.cons (o:=⟨some 5,_,_,_,_,_⟩) rfl (fun K hK=>?_) AllReadyH.nil
      go_simp
      (go_at_call 23;refine bHit w (by (repeat (with_reducible first|assumption|exact bR|refine bA ?_|refine bD ?_|((first|refine bS ?_ ?_|refine bBx ?_ ?_);rotate_left;focus (try simp) <;> (try omega))))) fun bb=>?_;refine (bounded_any h _).mono ?_;rintro _ w1 ⟨rfl,hbw1⟩;have hCw1:Below w.heap.size w w1:=bT bb hbw1;have hsw1:=hbw1.size;(try simp at hsw1);have zz:=hpB hbw1 (b:=w.heap.size) (by (try simp) <;> omega);(try simp [go_sem] at zz);(try clear z_w x_w f_w l_w);have z_w:=zz;clear zz;obtain ⟨x_w,f_w,l_w⟩:=bO z_w;clear hbw1 bb)
      refine hK.out _ _ ⟨z_w,x_w⟩ (fun hS1=>?_)
      clear hK
      (try simp only [Act.put,List.setIfInBounds_toArray,List.set_cons_zero,List.set_cons_succ])
      refine wpAnyH_take (i:=3) (oi:=⟨some 6,_,_,_,_,_⟩) (v:=?_) rfl (by kernel_rfl) (by kernel_rfl) (by kernel_rfl) (fun _ _ _ h=>h) (Or.inl ⟨by rfl,?_⟩) (by assumption) ?_;rotate_left;(focus (intro w' hSw;(try dsimp only at hSw);go_simp;(try with_reducible rfl)));(try rotate_left);(try simp only [Act.put,List.setIfInBounds_toArray,List.set_cons_zero,List.set_cons_succ])
      refine wpAnyH_take (i:=4) (oi:=⟨some 7,_,_,_,_,_⟩) (v:=?_) rfl (by kernel_rfl) (by kernel_rfl) (by kernel_rfl) (fun _ _ _ h=>h) (Or.inl ⟨by rfl,?_⟩) (by assumption) ?_;rotate_left;(focus (intro w' hSw;(try dsimp only at hSw);go_simp;(try with_reducible rfl)));(try rotate_left);(try simp only [Act.put,List.setIfInBounds_toArray,List.set_cons_zero,List.set_cons_succ])
      refine wpAnyH_take (i:=5) (oi:=⟨some 8,_,_,_,_,_⟩) (v:=?_) rfl (by kernel_rfl) (by kernel_rfl) (by kernel_rfl) (fun _ _ _ h=>h) (Or.inl ⟨by rfl,?_⟩) (by assumption) ?_;rotate_left;(focus (intro w' hSw;(try dsimp only at hSw);go_simp;(try with_reducible rfl)));(try rotate_left);(try simp only [Act.put,List.setIfInBounds_toArray,List.set_cons_zero,List.set_cons_succ])
      refine wpAnyH_take (i:=6) (oi:=⟨some 9,_,_,_,_,_⟩) (v:=?_) rfl (by kernel_rfl) (by kernel_rfl) (by kernel_rfl) (fun _ _ _ h=>h) (Or.inl ⟨by rfl,?_⟩) (by assumption) ?_;rotate_left;(focus (intro w' hSw;(try dsimp only at hSw);go_simp;(try with_reducible rfl)));(try rotate_left);(try simp only [Act.put,List.setIfInBounds_toArray,List.set_cons_zero,List.set_cons_succ])
      refine wpAnyH_take (i:=7) (oi:=⟨some 10,_,_,_,_,_⟩) (v:=?_) rfl (by kernel_rfl) (by kernel_rfl) (by kernel_rfl) (fun _ _ _ h=>h) (Or.inl ⟨by rfl,?_⟩) (by assumption) ?_;rotate_left;(focus (intro w' hSw;(try dsimp only at hSw);go_simp;(try with_reducible rfl)));(try rotate_left);(try simp only [Act.put,List.setIfInBounds_toArray,List.set_cons_zero,List.set_cons_succ])
      refine wpAnyH_take (i:=8) (oi:=⟨some 11,_,_,_,_,_⟩) (v:=?_) rfl (by kernel_rfl) (by kernel_rfl) (by kernel_rfl) (fun _ _ _ h=>h) (Or.inl ⟨by rfl,?_⟩) (by assumption) ?_;rotate_left;(focus (intro w' hSw;(try dsimp only at hSw);go_simp;(try with_reducible rfl)));(try rotate_left);(try simp only [Act.put,List.setIfInBounds_toArray,List.set_cons_zero,List.set_cons_succ])
      refine wpAnyH_take (i:=9) (oi:=⟨some 12,_,_,_,_,_⟩) (v:=undef) rfl (by kernel_rfl) (by kernel_rfl) (by kernel_rfl) (fun _ _ _ h=>h) (Or.inr ⟨by rfl,rfl⟩) (by assumption) ?_;(try simp only [Act.put,List.setIfInBounds_toArray,List.set_cons_zero,List.set_cons_succ])
      refine wpAnyH_take (i:=10) (oi:=⟨some 13,_,_,_,_,_⟩) (v:=undef) rfl (by kernel_rfl) (by kernel_rfl) (by kernel_rfl) (fun _ _ _ h=>h) (Or.inr ⟨by rfl,rfl⟩) (by assumption) ?_;(try simp only [Act.put,List.setIfInBounds_toArray,List.set_cons_zero,List.set_cons_succ])
      refine wpAnyH_take (i:=11) (oi:=⟨some 14,_,_,_,_,_⟩) (v:=undef) rfl (by kernel_rfl) (by kernel_rfl) (by kernel_rfl) (fun _ _ _ h=>h) (Or.inr ⟨by rfl,rfl⟩) (by assumption) ?_;(try simp only [Act.put,List.setIfInBounds_toArray,List.set_cons_zero,List.set_cons_succ])
      refine wpAnyH_take (i:=12) (oi:=⟨some 15,_,_,_,_,_⟩) (v:=?_) rfl (by kernel_rfl) (by kernel_rfl) (by kernel_rfl) (fun _ _ _ h=>h) (Or.inl ⟨by rfl,?_⟩) (by assumption) ?_;rotate_left;(focus (intro w' hSw;(try dsimp only at hSw);go_simp;(try with_reducible rfl)));(try rotate_left);(try simp only [Act.put,List.setIfInBounds_toArray,List.set_cons_zero,List.set_cons_succ])
      refine wpAnyH_take (i:=13) (oi:=⟨some 16,_,_,_,_,_⟩) (v:=?_) rfl (by kernel_rfl) (by kernel_rfl) (by kernel_rfl) (fun _ _ _ h=>h) (Or.inl ⟨by rfl,?_⟩) (by assumption) ?_;rotate_left;(focus (intro w' hSw;(try dsimp only at hSw);go_simp;(try with_reducible rfl)));(try rotate_left);(try simp only [Act.put,List.setIfInBounds_toArray,List.set_cons_zero,List.set_cons_succ])
      refine wpAnyH_take (i:=14) (oi:=⟨some 2,_,_,_,_,_⟩) (v:=?_) rfl (by kernel_rfl) (by kernel_rfl) (by kernel_rfl) (fun _ _ _ h=>h) (Or.inl ⟨by rfl,?_⟩) (by assumption) ?_;rotate_left;(focus (intro w' hSw;(try dsimp only at hSw);go_simp;(try with_reducible rfl)));(try rotate_left);(try simp only [Act.put,List.setIfInBounds_toArray,List.set_cons_zero,List.set_cons_succ])
      refine wpAnyH_done (by kernel_rfl) ?_ _
      go_wp2
      go_ret
      exact ⟨ret_bool (by rw [← HK.out];simp [he,e0]),by (repeat (with_reducible first|assumption|exact bR|refine bA ?_|refine bD ?_|((first|refine bS ?_ ?_|refine bBx ?_ ?_);rotate_left;focus (try simp) <;> (try omega))))⟩
    · have e0:(h.pos == 0)=false:=by simpa using h0
      clear h0
      go_enter Try.func10,Try.ntmps10
      go_wp2_with fail
      refine wp_region_held_drew (S:=fun w'=>hp w' w.heap.size=some (.cells (hvals h) 27)∧(∀ o,w'.cell? ⟨w.heap.size,o,none⟩=(hvals h)[o]?)) (by kernel_rfl) (by simp [*,go_sem]) (fun hS0=>?_)
      refine wpAnyH_take (i:=0) (oi:=⟨some 3,_,_,_,_,_⟩) (v:=?_) rfl (by kernel_rfl) (by kernel_rfl) (by kernel_rfl) (fun _ _ _ h=>h) (Or.inl ⟨by rfl,?_⟩) (by assumption) ?_;rotate_left;(focus (intro w' hSw;(try dsimp only at hSw);go_simp;(try with_reducible rfl)));(try rotate_left);(try simp only [Act.put,List.setIfInBounds_toArray,List.set_cons_zero,List.set_cons_succ])
      refine wpAnyH_take (i:=1) (oi:=⟨some 4,_,_,_,_,_⟩) (v:=?_) rfl (by kernel_rfl) (by kernel_rfl) (by kernel_rfl) (fun _ _ _ h=>h) (Or.inl ⟨by rfl,?_⟩) (by assumption) ?_;rotate_left;(focus (intro w' hSw;(try dsimp only at hSw);go_simp;(try with_reducible rfl)));(try rotate_left);(try simp only [Act.put,List.setIfInBounds_toArray,List.set_cons_zero,List.set_cons_succ])
      refine wpAnyH_ready (rs:=[2]) (by kernel_rfl) (by simp) ?_
      refine AllReadyH.cons (o:=⟨some 5,_,_,_,_,_⟩) rfl (fun K hK=>?_) AllReadyH.nil
      go_simp
      (go_at_call 23;refine bHit w (by (repeat (with_reducible first|assumption|exact bR|refine bA ?_|refine bD ?_|((first|refine bS ?_ ?_|refine bBx ?_ ?_);rotate_left;focus (try simp) <;> (try omega))))) fun bb=>?_;refine (bounded_any h _).mono ?_;rintro _ w1 ⟨rfl,hbw1⟩;have hCw1:Below w.heap.size w w1:=bT bb hbw1;have hsw1:=hbw1.size;(try simp at hsw1);have zz:=hpB hbw1 (b:=w.heap.size) (by (try simp) <;> omega);(try simp [go_sem] at zz);(try clear z_w x_w f_w l_w);have z_w:=zz;clear zz;obtain ⟨x_w,f_w,l_w⟩:=bO z_w;clear hbw1 bb)
      refine hK.out _ _ ⟨z_w,x_w⟩ (fun hS1=>?_)
      clear hK
      (try simp only [Act.put,List.setIfInBounds_toArray,List.set_cons_zero,List.set_cons_succ])
      refine wpAnyH_take (i:=3) (oi:=⟨some 6,_,_,_,_,_⟩) (v:=?_) rfl (by kernel_rfl) (by kernel_rfl) (by kernel_rfl) (fun _ _ _ h=>h) (Or.inl ⟨by rfl,?_⟩) (by assumption) ?_;rotate_left;(focus (intro w' hSw;(try dsimp only at hSw);go_simp;(try with_reducible rfl)));(try rotate_left);(try simp only [Act.put,List.setIfInBounds_toArray,List.set_cons_zero,List.set_cons_succ])
      refine wpAnyH_take (i:=4) (oi:=⟨some 7,_,_,_,_,_⟩) (v:=?_) rfl (by kernel_rfl) (by kernel_rfl) (by kernel_rfl) (fun _ _ _ h=>h) (Or.inl ⟨by rfl,?_⟩) (by assumption) ?_;rotate_left;(focus (intro w' hSw;(try dsimp only at hSw);go_simp;(try with_reducible rfl)));(try rotate_left);(try simp only [Act.put,List.setIfInBounds_toArray,List.set_cons_zero,List.set_cons_succ])
      refine wpAnyH_take (i:=5) (oi:=⟨some 8,_,_,_,_,_⟩) (v:=?_) rfl (by kernel_rfl) (by kernel_rfl) (by kernel_rfl) (fun _ _ _ h=>h) (Or.inl ⟨by rfl,?_⟩) (by assumption) ?_;rotate_left;(focus (intro w' hSw;(try dsimp only at hSw);go_simp;(try with_reducible rfl)));(try rotate_left);(try simp only [Act.put,List.setIfInBounds_toArray,List.set_cons_zero,List.set_cons_succ])
      refine wpAnyH_take (i:=6) (oi:=⟨some 9,_,_,_,_,_⟩) (v:=?_) rfl (by kernel_rfl) (by kernel_rfl) (by kernel_rfl) (fun _ _ _ h=>h) (Or.inl ⟨by rfl,?_⟩) (by assumption) ?_;rotate_left;(focus (intro w' hSw;(try dsimp only at hSw);go_simp;(try with_reducible rfl)));(try rotate_left);(try simp only [Act.put,List.setIfInBounds_toArray,List.set_cons_zero,List.set_cons_succ])
      refine wpAnyH_take (i:=7) (oi:=⟨some 10,_,_,_,_,_⟩) (v:=?_) rfl (by kernel_rfl) (by kernel_rfl) (by kernel_rfl) (fun _ _ _ h=>h) (Or.inl ⟨by rfl,?_⟩) (by assumption) ?_;rotate_left;(focus (intro w' hSw;(try dsimp only at hSw);go_simp;(try with_reducible rfl)));(try rotate_left);(try simp only [Act.put,List.setIfInBounds_toArray,List.set_cons_zero,List.set_cons_succ])
      refine wpAnyH_take (i:=8) (oi:=⟨some 11,_,_,_,_,_⟩) (v:=?_) rfl (by kernel_rfl) (by kernel_rfl) (by kernel_rfl) (fun _ _ _ h=>h) (Or.inl ⟨by rfl,?_⟩) (by assumption) ?_;rotate_left;(focus (intro w' hSw;(try dsimp only at hSw);go_simp;(try with_reducible rfl)));(try rotate_left);(try simp only [Act.put,List.setIfInBounds_toArray,List.set_cons_zero,List.set_cons_succ])
      refine wpAnyH_take (i:=9) (oi:=⟨some 12,_,_,_,_,_⟩) (v:=?_) rfl (by kernel_rfl) (by kernel_rfl) (by kernel_rfl) (fun _ _ _ h=>h) (Or.inl ⟨by rfl,?_⟩) (by assumption) ?_;rotate_left;(focus (intro w' hSw;(try dsimp only at hSw);go_simp;(try with_reducible rfl)));(try rotate_left);(try simp only [Act.put,List.setIfInBounds_toArray,List.set_cons_zero,List.set_cons_succ])
      refine wpAnyH_take (i:=10) (oi:=⟨some 13,_,_,_,_,_⟩) (v:=?_) rfl (by kernel_rfl) (by kernel_rfl) (by kernel_rfl) (fun _ _ _ h=>h) (Or.inl ⟨by rfl,?_⟩) (by assumption) ?_;rotate_left;(focus (intro w' hSw;(try dsimp only at hSw);go_simp;(try with_reducible rfl)));(try rotate_left);(try simp only [Act.put,List.setIfInBounds_toArray,List.set_cons_zero,List.set_cons_succ])
      refine wpAnyH_ready (rs:=[11]) (by kernel_rfl) (by simp) ?_
      refine AllReadyH.cons (o:=⟨some 14,_,_,_,_,_⟩) rfl (fun K hK=>?_) AllReadyH.nil
      go_simp
      (go_at_call 19;refine bHit w (by (repeat (with_reducible first|assumption|exact bR|refine bA ?_|refine bD ?_|((first|refine bS ?_ ?_|refine bBx ?_ ?_);rotate_left;focus (try simp) <;> (try omega))))) fun bb=>?_;refine (callOk_any h.code h.elem _).mono ?_;rintro _ w2 ⟨rfl,hbw2⟩;have hCw2:Below w.heap.size w w2:=bT bb hbw2;have hsw2:=hbw2.size;(try simp at hsw2);have zz:=hpB hbw2 (b:=w.heap.size) (by (try simp) <;> omega);(first|simp [go_sem,z_w,l_w] at zz|simp [go_sem] at zz|skip);(try clear z_w x_w f_w l_w);have z_w:=zz;clear zz;obtain ⟨x_w,f_w,l_w⟩:=bO z_w;clear hbw2 bb)
      refine hK.out _ _ ⟨z_w,x_w⟩ (fun hS2=>?_)
      clear hK
      (try simp only [Act.put,List.setIfInBounds_toArray,List.set_cons_zero,List.set_cons_succ])
      refine wpAnyH_take (i:=12) (oi:=⟨some 15,_,_,_,_,_⟩) (v:=?_) rfl (by kernel_rfl) (by kernel_rfl) (by kernel_rfl) (fun _ _ _ h=>h) (Or.inl ⟨by rfl,?_⟩) (by assumption) ?_;rotate_left;(focus (intro w' hSw;(try dsimp only at hSw);go_simp;(try with_reducible rfl)));(try rotate_left);(try simp only [Act.put,List.setIfInBounds_toArray,List.set_cons_zero,List.set_cons_succ])
      refine wpAnyH_take (i:=13) (oi:=⟨some 16,_,_,_,_,_⟩) (v:=?_) rfl (by kernel_rfl) (by kernel_rfl) (by kernel_rfl) (fun _ _ _ h=>h) (Or.inl ⟨by rfl,?_⟩) (by assumption) ?_;rotate_left;(focus (intro w' hSw;(try dsimp only at hSw);go_simp;(try with_reducible rfl)));(try rotate_left);(try simp only [Act.put,List.setIfInBounds_toArray,List.set_cons_zero,List.set_cons_succ])
      refine wpAnyH_take (i:=14) (oi:=⟨some 2,_,_,_,_,_⟩) (v:=?_) rfl (by kernel_rfl) (by kernel_rfl) (by kernel_rfl) (fun _ _ _ h=>h) (Or.inl ⟨by rfl,?_⟩) (by assumption) ?_;rotate_left;(focus (intro w' hSw;(try dsimp only at hSw);go_simp;(try with_reducible rfl)));(try rotate_left);(try simp only [Act.put,List.setIfInBounds_toArray,List.set_cons_zero,List.set_cons_succ])
      refine wpAnyH_done (by kernel_rfl) ?_ _
      go_wp2
      go_ret
      exact ⟨ret_bool (by rw [← HK.out];simp [he,e0]),by (repeat (with_reducible first|assumption|exact bR|refine bA ?_|refine bD ?_|((first|refine bS ?_ ?_|refine bBx ?_ ?_);rotate_left;focus (try simp) <;> (try omega))))⟩
  · have he2:eqHa h (boundH h)=false:=by simpa using he
    clear he
    focus
      go_enter Try.func10,Try.ntmps10
      go_wp2_with fail
      refine wp_region_held_drew (S:=fun w'=>hp w' w.heap.size=some (.cells (hvals h) 27)∧(∀ o,w'.cell? ⟨w.heap.size,o,none⟩=(hvals h)[o]?)) (by kernel_rfl) (by simp [*,go_sem]) (fun hS0=>?_)
      refine wpAnyH_take (i:=0) (oi:=⟨some 3,_,_,_,_,_⟩) (v:=?_) rfl (by kernel_rfl) (by kernel_rfl) (by kernel_rfl) (fun _ _ _ h=>h) (Or.inl ⟨by rfl,?_⟩) (by assumption) ?_;rotate_left;(focus (intro w' hSw;(try dsimp only at hSw);go_simp;(try with_reducible rfl)));(try rotate_left);(try simp only [Act.put,List.setIfInBounds_toArray,List.set_cons_zero,List.set_cons_succ])
      refine wpAnyH_take (i:=1) (oi:=⟨some 4,_,_,_,_,_⟩) (v:=?_) rfl (by kernel_rfl) (by kernel_rfl) (by kernel_rfl) (fun _ _ _ h=>h) (Or.inl ⟨by rfl,?_⟩) (by assumption) ?_;rotate_left;(focus (intro w' hSw;(try dsimp only at hSw);go_simp;(try with_reducible rfl)));(try rotate_left);(try simp only [Act.put,List.setIfInBounds_toArray,List.set_cons_zero,List.set_cons_succ])
      refine wpAnyH_ready (rs:=[2]) (by kernel_rfl) (by simp) ?_
      refine AllReadyH.cons (o:=⟨some 5,_,_,_,_,_⟩) rfl (fun K hK=>?_) AllReadyH.nil
      go_simp
      (go_at_call 23;refine bHit w (by (repeat (with_reducible first|assumption|exact bR|refine bA ?_|refine bD ?_|((first|refine bS ?_ ?_|refine bBx ?_ ?_);rotate_left;focus (try simp) <;> (try omega))))) fun bb=>?_;refine (bounded_any h _).mono ?_;rintro _ w1 ⟨rfl,hbw1⟩;have hCw1:Below w.heap.size w w1:=bT bb hbw1;have hsw1:=hbw1.size;(try simp at hsw1);have zz:=hpB hbw1 (b:=w.heap.size) (by (try simp) <;> omega);(try simp [go_sem] at zz);(try clear z_w x_w f_w l_w);have z_w:=zz;clear zz;obtain ⟨x_w,f_w,l_w⟩:=bO z_w;clear hbw1 bb)
      refine hK.out _ _ ⟨z_w,x_w⟩ (fun hS1=>?_)
      clear hK
      (try simp only [Act.put,List.setIfInBounds_toArray,List.set_cons_zero,List.set_cons_succ])
      refine wpAnyH_take (i:=3) (oi:=⟨some 6,_,_,_,_,_⟩) (v:=?_) rfl (by kernel_rfl) (by kernel_rfl) (by kernel_rfl) (fun _ _ _ h=>h) (Or.inl ⟨by rfl,?_⟩) (by assumption) ?_;rotate_left;(focus (intro w' hSw;(try dsimp only at hSw);go_simp;(try with_reducible rfl)));(try rotate_left);(try simp only [Act.put,List.setIfInBounds_toArray,List.set_cons_zero,List.set_cons_succ])
      refine wpAnyH_take (i:=4) (oi:=⟨some 7,_,_,_,_,_⟩) (v:=?_) rfl (by kernel_rfl) (by kernel_rfl) (by kernel_rfl) (fun _ _ _ h=>h) (Or.inl ⟨by rfl,?_⟩) (by assumption) ?_;rotate_left;(focus (intro w' hSw;(try dsimp only at hSw);go_simp;(try with_reducible rfl)));(try rotate_left);(try simp only [Act.put,List.setIfInBounds_toArray,List.set_cons_zero,List.set_cons_succ])
      refine wpAnyH_take (i:=5) (oi:=⟨some 8,_,_,_,_,_⟩) (v:=undef) rfl (by kernel_rfl) (by kernel_rfl) (by kernel_rfl) (fun _ _ _ h=>h) (Or.inr ⟨by rfl,rfl⟩) (by assumption) ?_;(try simp only [Act.put,List.setIfInBounds_toArray,List.set_cons_zero,List.set_cons_succ])
      refine wpAnyH_take (i:=6) (oi:=⟨some 9,_,_,_,_,_⟩) (v:=undef) rfl (by kernel_rfl) (by kernel_rfl) (by kernel_rfl) (fun _ _ _ h=>h) (Or.inr ⟨by rfl,rfl⟩) (by assumption) ?_;(try simp only [Act.put,List.setIfInBounds_toArray,List.set_cons_zero,List.set_cons_succ])
      refine wpAnyH_take (i:=7) (oi:=⟨some 10,_,_,_,_,_⟩) (v:=undef) rfl (by kernel_rfl) (by kernel_rfl) (by kernel_rfl) (fun _ _ _ h=>h) (Or.inr ⟨by rfl,rfl⟩) (by assumption) ?_;(try simp only [Act.put,List.setIfInBounds_toArray,List.set_cons_zero,List.set_cons_succ])
      refine wpAnyH_take (i:=8) (oi:=⟨some 11,_,_,_,_,_⟩) (v:=undef) rfl (by kernel_rfl) (by kernel_rfl) (by kernel_rfl) (fun _ _ _ h=>h) (Or.inr ⟨by rfl,rfl⟩) (by assumption) ?_;(try simp only [Act.put,List.setIfInBounds_toArray,List.set_cons_zero,List.set_cons_succ])
      refine wpAnyH_take (i:=9) (oi:=⟨some 12,_,_,_,_,_⟩) (v:=undef) rfl (by kernel_rfl) (by kernel_rfl) (by kernel_rfl) (fun _ _ _ h=>h) (Or.inr ⟨by rfl,rfl⟩) (by assumption) ?_;(try simp only [Act.put,List.setIfInBounds_toArray,List.set_cons_zero,List.set_cons_succ])
      refine wpAnyH_take (i:=10) (oi:=⟨some 13,_,_,_,_,_⟩) (v:=undef) rfl (by kernel_rfl) (by kernel_rfl) (by kernel_rfl) (fun _ _ _ h=>h) (Or.inr ⟨by rfl,rfl⟩) (by assumption) ?_;(try simp only [Act.put,List.setIfInBounds_toArray,List.set_cons_zero,List.set_cons_succ])
      refine wpAnyH_take (i:=11) (oi:=⟨some 14,_,_,_,_,_⟩) (v:=undef) rfl (by kernel_rfl) (by kernel_rfl) (by kernel_rfl) (fun _ _ _ h=>h) (Or.inr ⟨by rfl,rfl⟩) (by assumption) ?_;(try simp only [Act.put,List.setIfInBounds_toArray,List.set_cons_zero,List.set_cons_succ])
      refine wpAnyH_take (i:=12) (oi:=⟨some 15,_,_,_,_,_⟩) (v:=undef) rfl (by kernel_rfl) (by kernel_rfl) (by kernel_rfl) (fun _ _ _ h=>h) (Or.inr ⟨by rfl,rfl⟩) (by assumption) ?_;(try simp only [Act.put,List.setIfInBounds_toArray,List.set_cons_zero,List.set_cons_succ])
      refine wpAnyH_take (i:=13) (oi:=⟨some 16,_,_,_,_,_⟩) (v:=?_) rfl (by kernel_rfl) (by kernel_rfl) (by kernel_rfl) (fun _ _ _ h=>h) (Or.inl ⟨by rfl,?_⟩) (by assumption) ?_;rotate_left;(focus (intro w' hSw;(try dsimp only at hSw);go_simp;(try with_reducible rfl)));(try rotate_left);(try simp only [Act.put,List.setIfInBounds_toArray,List.set_cons_zero,List.set_cons_succ])
      refine wpAnyH_take (i:=14) (oi:=⟨some 2,_,_,_,_,_⟩) (v:=?_) rfl (by kernel_rfl) (by kernel_rfl) (by kernel_rfl) (fun _ _ _ h=>h) (Or.inl ⟨by rfl,?_⟩) (by assumption) ?_;rotate_left;(focus (intro w' hSw;(try dsimp only at hSw);go_simp;(try with_reducible rfl)));(try rotate_left);(try simp only [Act.put,List.setIfInBounds_toArray,List.set_cons_zero,List.set_cons_succ])
      refine wpAnyH_done (by kernel_rfl) ?_ _
      go_wp2
      go_ret
      exact ⟨ret_bool (by rw [← HK.out];simp [he2]),by (repeat (with_reducible first|assumption|exact bR|refine bA ?_|refine bD ?_|((first|refine bS ?_ ?_|refine bBx ?_ ?_);rotate_left;focus (try simp) <;> (try omega))))⟩
end Go.Proofs.Ytlfcgeoifmnjnaa
set_option linter.unusedSimpArgs false
set_option linter.unusedVariables false
namespace Go.Proofs.Ytlfcgeoifmnjnaa
open Go.RowKit
attribute [local go_sem ↓] zeroHand toLHand toVHand storeHand storeHandC
attribute [local go_sem ↓] eqHandV
set_option maxRecDepth 100000 in
theorem resting_any (x o:Int) (w:World):Calls Try.prog 12 #[.int .i64 x,.int .i64 o] w fun r w'=>r=.returned (.agg (hvals (resting x o)))∧Below w.heap.size w w':=by
  go_enter Try.func12,Try.ntmps12
  go_wp2
  refine bodyPost_ret (res_c Try.results12 rfl (ldHand (resting x o) (by simp [go_sem] <;> rfl))) rfl ⟨rfl,by (repeat (with_reducible first|assumption|exact bR|refine bA ?_|refine bD ?_|((first|refine bS ?_ ?_|refine bBx ?_ ?_);rotate_left;focus (try simp) <;> (try omega))))⟩
theorem firstAt_any (k e:Int) (w:World):Calls Try.prog 20 #[.agg #[.int .i64 k,.int .i64 e]] w fun r w'=>r=.returned (.int .i64 (if k == 1 then 1 else 9))∧Below w.heap.size w w':=by
  go_enter Try.func20,Try.ntmps20
  go_wp2
  all_goals go_ret
  all_goals exact ⟨ret_i64 (by simp_all),by (repeat (with_reducible first|assumption|exact bR|refine bA ?_|refine bD ?_|((first|refine bS ?_ ?_|refine bBx ?_ ?_);rotate_left;focus (try simp) <;> (try omega))))⟩
theorem begun_of {k e:Int} (h:callOk k e=true):begun k e 0=⟨if k == 1 then 1 else 9,k,e,0,0,0,0,0,0,0,0,0,0,0⟩:=by
  have hk:k=1∨k=2:=by simp [callOk] at h;omega
  rcases hk with rfl|rfl <;> rfl
set_option maxRecDepth 100000 in
set_option maxHeartbeats 2000000 in
theorem called_any (h:Ha) (k e:Int) (w:World):Calls Try.prog 8 #[.agg (hvals h),.agg #[.int .i64 k,.int .i64 e]] w fun r w'=>r=.returned (.tuple #[.agg (hvals (called h k e).1),.int .i64 (called h k e).2])∧Below w.heap.size w w':=by
  by_cases h0:handOk h=true
  · by_cases h1:h.pos=0
    · by_cases h2:callOk k e=true
      · rw [show called h k e=(begun k e 0,0) by simp [called,h0,h1,h2]]
        rw [begun_of h2]
        have FA:=firstAt_any k e
        generalize (if k == 1 then (1:Int) else 9)=m at *
        have n1:(h.pos != 0)=false:=by simp [h1]
        clear h1
        go_enter Try.func8,Try.ntmps8
        go_wp2_with fail;refine bHit w (by (repeat (with_reducible first|assumption|exact bR|refine bA ?_|refine bD ?_|((first|refine bS ?_ ?_|refine bBx ?_ ?_);rotate_left;focus (try simp) <;> (try omega))))) fun bb=>?_;refine (handOk_any h _).mono ?_;rintro _ w1 ⟨rfl,hbw1⟩;have hCw1:Below w.heap.size w w1:=bT bb hbw1;have hsw1:=hbw1.size;(try simp at hsw1);have zz:=And.intro (hpB hbw1 (b:=w.heap.size+1+1) (by (try simp) <;> omega)) <| And.intro (hpB hbw1 (b:=w.heap.size+1) (by (try simp) <;> omega)) <| hpB hbw1 (b:=w.heap.size) (by (try simp) <;> omega);(try simp [go_sem] at zz);(try clear z_wpp x_wpp f_wpp l_wpp);(try clear z_wp x_wp f_wp l_wp);(try clear z_w x_w f_w l_w);obtain ⟨z_wpp,z_wp,z_w⟩:=zz;obtain ⟨x_wpp,f_wpp,l_wpp⟩:=bO z_wpp;obtain ⟨x_wp,f_wp,l_wp⟩:=bO z_wp;obtain ⟨x_w,f_w,l_w⟩:=bO z_w;clear hbw1 bb
        rw [h0]
        go_wp2_with fail;refine bHit w (by (repeat (with_reducible first|assumption|exact bR|refine bA ?_|refine bD ?_|((first|refine bS ?_ ?_|refine bBx ?_ ?_);rotate_left;focus (try simp) <;> (try omega))))) fun bb=>?_;refine (callOk_any k e _).mono ?_;rintro _ w2 ⟨rfl,hbw2⟩;have hCw2:Below w.heap.size w w2:=bT bb hbw2;have hsw2:=hbw2.size;(try simp at hsw2);have zz:=And.intro (hpB hbw2 (b:=w.heap.size+1+1) (by (try simp) <;> omega)) <| And.intro (hpB hbw2 (b:=w.heap.size+1) (by (try simp) <;> omega)) <| hpB hbw2 (b:=w.heap.size) (by (try simp) <;> omega);(first|simp [go_sem,z_wpp,z_wp,z_w,l_w,l_wp,l_wpp] at zz|simp [go_sem] at zz|skip);(try clear z_wpp x_wpp f_wpp l_wpp);(try clear z_wp x_wp f_wp l_wp);(try clear z_w x_w f_w l_w);obtain ⟨z_wpp,z_wp,z_w⟩:=zz;obtain ⟨x_wpp,f_wpp,l_wpp⟩:=bO z_wpp;obtain ⟨x_wp,f_wp,l_wp⟩:=bO z_wp;obtain ⟨x_w,f_w,l_w⟩:=bO z_w;clear hbw2 bb
        rw [h2]
        go_wp2_with fail
        go_region_held3 (fun w'=>w'.cell? ⟨w.heap.size+1,0,none⟩=some (.int .i64 k)∧w'.cell? ⟨w.heap.size+1,1,none⟩=some (.int .i64 e))
          (first|(simp [*,go_sem]))
          (first|(go_at_call 20;refine bHit w (by (repeat (with_reducible first|assumption|exact bR|refine bA ?_|refine bD ?_|((first|refine bS ?_ ?_|refine bBx ?_ ?_);rotate_left;focus (try simp) <;> (try omega))))) fun bb=>?_;refine (FA _).mono ?_;rintro _ w3 ⟨rfl,hbw3⟩;have hCw3:Below w.heap.size w w3:=bT bb hbw3;have hsw3:=hbw3.size;(try simp at hsw3);have zz:=And.intro (hpB hbw3 (b:=w.heap.size+1+1) (by (try simp) <;> omega)) <| And.intro (hpB hbw3 (b:=w.heap.size+1) (by (try simp) <;> omega)) <| hpB hbw3 (b:=w.heap.size) (by (try simp) <;> omega);(first|simp [go_sem,z_wpp,z_wp,z_w,l_w,l_wp,l_wpp] at zz|simp [go_sem] at zz|skip);(try clear z_wpp x_wpp f_wpp l_wpp);(try clear z_wp x_wp f_wp l_wp);(try clear z_w x_w f_w l_w);obtain ⟨z_wpp,z_wp,z_w⟩:=zz;obtain ⟨x_wpp,f_wpp,l_wpp⟩:=bO z_wpp;obtain ⟨x_wp,f_wp,l_wp⟩:=bO z_wp;obtain ⟨x_w,f_w,l_w⟩:=bO z_w;clear hbw3 bb))
        go_wp2
        exact bodyPost_ret (res_ct Try.results8 rfl (ldHand ⟨m,k,e,0,0,0,0,0,0,0,0,0,0,0⟩ (by simp [go_sem, *] <;> rfl))) rfl ⟨rfl,by (repeat (with_reducible first|assumption|exact bR|refine bA ?_|refine bD ?_|((first|refine bS ?_ ?_|refine bBx ?_ ?_);rotate_left;focus (try simp) <;> (try omega))))⟩
      · have h2':callOk k e=false:=by simpa using h2
        rw [show called h k e=(h,2) by simp [called,h0,h1,h2']]
        have n1:(h.pos != 0)=false:=by simp [h1]
        clear h1 h2
        go_enter Try.func8,Try.ntmps8
        go_wp2_with fail;refine bHit w (by (repeat (with_reducible first|assumption|exact bR|refine bA ?_|refine bD ?_|((first|refine bS ?_ ?_|refine bBx ?_ ?_);rotate_left;focus (try simp) <;> (try omega))))) fun bb=>?_;refine (handOk_any h _).mono ?_;rintro _ w1 ⟨rfl,hbw1⟩;have hCw1:Below w.heap.size w w1:=bT bb hbw1;have hsw1:=hbw1.size;(try simp at hsw1);have zz:=And.intro (hpB hbw1 (b:=w.heap.size+1+1) (by (try simp) <;> omega)) <| And.intro (hpB hbw1 (b:=w.heap.size+1) (by (try simp) <;> omega)) <| hpB hbw1 (b:=w.heap.size) (by (try simp) <;> omega);(try simp [go_sem] at zz);(try clear z_wpp x_wpp f_wpp l_wpp);(try clear z_wp x_wp f_wp l_wp);(try clear z_w x_w f_w l_w);obtain ⟨z_wpp,z_wp,z_w⟩:=zz;obtain ⟨x_wpp,f_wpp,l_wpp⟩:=bO z_wpp;obtain ⟨x_wp,f_wp,l_wp⟩:=bO z_wp;obtain ⟨x_w,f_w,l_w⟩:=bO z_w;clear hbw1 bb
        rw [h0]
        go_wp2_with fail;refine bHit w (by (repeat (with_reducible first|assumption|exact bR|refine bA ?_|refine bD ?_|((first|refine bS ?_ ?_|refine bBx ?_ ?_);rotate_left;focus (try simp) <;> (try omega))))) fun bb=>?_;refine (callOk_any k e _).mono ?_;rintro _ w2 ⟨rfl,hbw2⟩;have hCw2:Below w.heap.size w w2:=bT bb hbw2;have hsw2:=hbw2.size;(try simp at hsw2);have zz:=And.intro (hpB hbw2 (b:=w.heap.size+1+1) (by (try simp) <;> omega)) <| And.intro (hpB hbw2 (b:=w.heap.size+1) (by (try simp) <;> omega)) <| hpB hbw2 (b:=w.heap.size) (by (try simp) <;> omega);(first|simp [go_sem,z_wpp,z_wp,z_w,l_w,l_wp,l_wpp] at zz|simp [go_sem] at zz|skip);(try clear z_wpp x_wpp f_wpp l_wpp);(try clear z_wp x_wp f_wp l_wp);(try clear z_w x_w f_w l_w);obtain ⟨z_wpp,z_wp,z_w⟩:=zz;obtain ⟨x_wpp,f_wpp,l_wpp⟩:=bO z_wpp;obtain ⟨x_wp,f_wp,l_wp⟩:=bO z_wp;obtain ⟨x_w,f_w,l_w⟩:=bO z_w;clear hbw2 bb
        rw [h2']
        go_wp2
        exact bodyPost_ret (res_ct Try.results8 rfl (ldHand h (by simp [go_sem, *]))) rfl ⟨rfl,by (repeat (with_reducible first|assumption|exact bR|refine bA ?_|refine bD ?_|((first|refine bS ?_ ?_|refine bBx ?_ ?_);rotate_left;focus (try simp) <;> (try omega))))⟩
    · rw [show called h k e=(h,1) by simp [called,h0,h1]]
      have n1:(h.pos != 0)=true:=by simpa using h1
      clear h1
      go_enter Try.func8,Try.ntmps8
      go_wp2_with fail;refine bHit w (by (repeat (with_reducible first|assumption|exact bR|refine bA ?_|refine bD ?_|((first|refine bS ?_ ?_|refine bBx ?_ ?_);rotate_left;focus (try simp) <;> (try omega))))) fun bb=>?_;refine (handOk_any h _).mono ?_;rintro _ w1 ⟨rfl,hbw1⟩;have hCw1:Below w.heap.size w w1:=bT bb hbw1;have hsw1:=hbw1.size;(try simp at hsw1);have zz:=And.intro (hpB hbw1 (b:=w.heap.size+1+1) (by (try simp) <;> omega)) <| And.intro (hpB hbw1 (b:=w.heap.size+1) (by (try simp) <;> omega)) <| hpB hbw1 (b:=w.heap.size) (by (try simp) <;> omega);(try simp [go_sem] at zz);(try clear z_wpp x_wpp f_wpp l_wpp);(try clear z_wp x_wp f_wp l_wp);(try clear z_w x_w f_w l_w);obtain ⟨z_wpp,z_wp,z_w⟩:=zz;obtain ⟨x_wpp,f_wpp,l_wpp⟩:=bO z_wpp;obtain ⟨x_wp,f_wp,l_wp⟩:=bO z_wp;obtain ⟨x_w,f_w,l_w⟩:=bO z_w;clear hbw1 bb
      rw [h0]
      go_wp2
      exact bodyPost_ret (res_ct Try.results8 rfl (ldHand h (by simp [go_sem, *]))) rfl ⟨rfl,by (repeat (with_reducible first|assumption|exact bR|refine bA ?_|refine bD ?_|((first|refine bS ?_ ?_|refine bBx ?_ ?_);rotate_left;focus (try simp) <;> (try omega))))⟩
  · have h0':handOk h=false:=by simpa using h0
    rw [show called h k e=(Ha.zero,3) by simp [called,h0']]
    clear h0
    go_enter Try.func8,Try.ntmps8
    go_wp2_with fail;refine bHit w (by (repeat (with_reducible first|assumption|exact bR|refine bA ?_|refine bD ?_|((first|refine bS ?_ ?_|refine bBx ?_ ?_);rotate_left;focus (try simp) <;> (try omega))))) fun bb=>?_;refine (handOk_any h _).mono ?_;rintro _ w1 ⟨rfl,hbw1⟩;have hCw1:Below w.heap.size w w1:=bT bb hbw1;have hsw1:=hbw1.size;(try simp at hsw1);have zz:=And.intro (hpB hbw1 (b:=w.heap.size+1+1) (by (try simp) <;> omega)) <| And.intro (hpB hbw1 (b:=w.heap.size+1) (by (try simp) <;> omega)) <| hpB hbw1 (b:=w.heap.size) (by (try simp) <;> omega);(try simp [go_sem] at zz);(try clear z_wpp x_wpp f_wpp l_wpp);(try clear z_wp x_wp f_wp l_wp);(try clear z_w x_w f_w l_w);obtain ⟨z_wpp,z_wp,z_w⟩:=zz;obtain ⟨x_wpp,f_wpp,l_wpp⟩:=bO z_wpp;obtain ⟨x_wp,f_wp,l_wp⟩:=bO z_wp;obtain ⟨x_w,f_w,l_w⟩:=bO z_w;clear hbw1 bb
    rw [h0']
    go_wp2
    exact bodyPost_ret (res_ct Try.results8 rfl (ldHand Ha.zero (by simp [go_sem, *]))) rfl ⟨rfl,by (repeat (with_reducible first|assumption|exact bR|refine bA ?_|refine bD ?_|((first|refine bS ?_ ?_|refine bBx ?_ ?_);rotate_left;focus (try simp) <;> (try omega))))⟩
end Go.Proofs.Ytlfcgeoifmnjnaa
set_option linter.unusedSimpArgs false
set_option linter.unusedVariables false
namespace Go.Proofs.Ytlfcgeoifmnjnaa
open Go.RowKit
set_option linter.unusedSimpArgs false
attribute [local go_sem ↓] zeroHand toLHand toVHand storeHand storeHandC
theorem eqCallW (a b c d:Int) (w:World):(Op.equalIn 10000 25 (.agg #[.int .i64 a,.int .i64 b]) (.agg #[.int .i64 c,.int .i64 d])).run Try.prog w=.ok (a == c && b == d) w:=eqCallV a b c d 9998 w
attribute [local go_sem ↓] eqHandV eqCallW
theorem bigH_any (n cap:Nat) (a:Option Addr) (w:World):Calls Try.prog 4 #[.slice a n cap] w fun r w'=>r=.returned (.bool (decide (4096<(n:Int))))∧w=w':=by
  go_enter Try.func4,Try.ntmps4
  go_wp2
  go_ret
  exact ⟨rfl,rfl⟩
theorem called_zero (u:Ha) (k e:Int) (h:(called u k e).2=0):(called u k e).1=begun k e 0∧callOk k e=true:=by
  unfold called at *
  split at h
  · rename_i h0
    split at h
    · rename_i h1
      split at h
      · rename_i h2
        simp [h0,h1,h2]
      · simp at h
    · simp at h
  · simp at h
theorem begun_ok {k e:Int} (h:callOk k e=true):handOk (begun k e 0)=true:=by
  have hk:k=1∨k=2:=by simp [callOk] at h;omega
  rcases hk with rfl|rfl
  · simp [handOk,handA,handB,handC,begun,h,inB]
  · simp [handOk,handA,handB,handC,begun,h,inB]
theorem begun_busy {k e:Int} (h:callOk k e=true) (c d:Int):called (begun k e 0) c d=(begun k e 0,1):=by
  have hk:k=1∨k=2:=by simp [callOk] at h;omega
  have h2:(begun k e 0).pos≠0:=by rcases hk with rfl|rfl <;> simp [begun]
  simp [called,begun_ok h,h2]
set_option maxRecDepth 100000 in
set_option maxHeartbeats 4000000 in
theorem fnHands_any (n cap:Nat) (a:Option Addr) (bs:Nat→Int) (w:World) (hbs:∀ j,0≤bs j∧bs j≤255) (h:Seg w w.heap.size a n 1 (fun j _=>.int .u8 (bs j))) :
    Calls Try.prog 3 #[.slice a n cap] w fun r w'=>r=.returned (.bool true)∧Below w.heap.size w w':=by
  have HB:=Lib.hid hbs
  have HS:=Lib.hid h
  clear hbs h
  by_cases hn:(4096:Int)<(n:Int)
  · go_enter Try.func3,Try.ntmps3
    go_wp2_with fail
    refine (bigH_any _ _ _ _).mono ?_
    rintro _ _ ⟨rfl,rfl⟩
    go_wp2
    go_ret
    exact ⟨rfl,Below.refl _ _⟩
  · have HC:Hid (Code w w.heap.size a n bs):=⟨by omega,HB.out,HS.out⟩
    clear HB HS
    go_enter Try.func3,Try.ntmps3
    go_wp2_with fail
    refine (bigH_any _ _ _ _).mono ?_
    rintro _ _ ⟨rfl,rfl⟩
    go_wp2_with fail;refine bHit w (by (repeat (with_reducible first|assumption|exact bR|refine bA ?_|refine bD ?_|((first|refine bS ?_ ?_|refine bBx ?_ ?_);rotate_left;focus (try simp) <;> (try omega))))) fun bb=>?_;refine (drawHandOk_any _ _ _ bs _ ((HC.out.below bb).more bb.size)).mono ?_;rintro _ w1 ⟨⟨h,rfl⟩,hbw1⟩;have hCw1:Below w.heap.size w w1:=bT bb hbw1;have hsw1:=hbw1.size;(try simp at hsw1);have hKw1:Below w.heap.size w w1:=hCw1;clear hbw1 bb
    replace HC:=Lib.hid ((HC.out.below hKw1).more hKw1.size)
    go_wp2_with fail;refine bHit w (by (repeat (with_reducible first|assumption|exact bR|refine bA ?_|refine bD ?_|((first|refine bS ?_ ?_|refine bBx ?_ ?_);rotate_left;focus (try simp) <;> (try omega))))) fun bb=>?_;refine bHit w1 (by (repeat (with_reducible first|assumption|exact bR|refine bA ?_|refine bD ?_|((first|refine bS ?_ ?_|refine bBx ?_ ?_);rotate_left;focus (try simp) <;> (try omega))))) fun bk=>?_;refine (drawResting_any _ _ _ bs _ ((HC.out.below bk).more bk.size)).mono ?_;rintro _ w2 ⟨⟨r,o,rfl⟩,hbw2⟩;have hCw2:Below w.heap.size w w2:=bT bb hbw2;have hsw2:=hbw2.size;(try simp at hsw2);have zz:=hpB hbw2 (b:=w1.heap.size) (by (try simp) <;> omega);(try simp [go_sem] at zz);(try clear z_w1 x_w1 f_w1 l_w1);have z_w1:=zz;clear zz;obtain ⟨x_w1,f_w1,l_w1⟩:=bO z_w1;have hKw2:Below w1.heap.size w1 w2:=bT bk hbw2;clear hbw2 bb bk
    replace HC:=Lib.hid ((HC.out.below hKw2).more hKw2.size)
    go_wp2_with fail;refine bHit w (by (repeat (with_reducible first|assumption|exact bR|refine bA ?_|refine bD ?_|((first|refine bS ?_ ?_|refine bBx ?_ ?_);rotate_left;focus (try simp) <;> (try omega))))) fun bb=>?_;refine bHit w2 (by (repeat (with_reducible first|assumption|exact bR|refine bA ?_|refine bD ?_|((first|refine bS ?_ ?_|refine bBx ?_ ?_);rotate_left;focus (try simp) <;> (try omega))))) fun bk=>?_;refine (drawCalled_any _ _ _ bs _ ((HC.out.below bk).more bk.size)).mono ?_;rintro _ w3 ⟨⟨u,kk,ee,rfl⟩,hbw3⟩;have hCw3:Below w.heap.size w w3:=bT bb hbw3;have hsw3:=hbw3.size;(try simp at hsw3);have zz:=hpB hbw3 (b:=w1.heap.size) (by (try simp) <;> omega);(first|simp [go_sem,z_w1,l_w1] at zz|simp [go_sem] at zz|skip);(try clear z_w1 x_w1 f_w1 l_w1);have z_w1:=zz;clear zz;obtain ⟨x_w1,f_w1,l_w1⟩:=bO z_w1;have hKw3:Below w2.heap.size w2 w3:=bT bk hbw3;clear hbw3 bb bk
    clear HC
    obtain ⟨p,hp0⟩:∃ p,called u kk ee=p:=⟨_,rfl⟩
    have PZ:Hid (p.2=0→p.1=begun kk ee 0∧callOk kk ee=true):=Lib.hid (fun e=>by rw [← hp0] at e ⊢;exact called_zero u kk ee e)
    have cI:=called_any u kk ee
    have cS:=sCalled_any u kk ee
    rw [hp0] at cI cS
    clear hp0
    obtain ⟨x,kx⟩:=p
    go_wp2_with fail;refine bHit w (by (repeat (with_reducible first|assumption|exact bR|refine bA ?_|refine bD ?_|((first|refine bS ?_ ?_|refine bBx ?_ ?_);rotate_left;focus (try simp) <;> (try omega))))) fun bb=>?_;refine bHit w3 (by (repeat (with_reducible first|assumption|exact bR|refine bA ?_|refine bD ?_|((first|refine bS ?_ ?_|refine bBx ?_ ?_);rotate_left;focus (try simp) <;> (try omega))))) fun bk=>?_;refine (cI _).mono ?_;rintro _ w4 ⟨rfl,hbw4⟩;have hCw4:Below w.heap.size w w4:=bT bb hbw4;have hsw4:=hbw4.size;(try simp at hsw4);have zz:=And.intro (hpB hbw4 (b:=w3.heap.size+1) (by (try simp) <;> omega)) <| And.intro (hpB hbw4 (b:=w3.heap.size) (by (try simp) <;> omega)) <| hpB hbw4 (b:=w1.heap.size) (by (try simp) <;> omega);(first|simp [go_sem,z_w1,l_w1] at zz|simp [go_sem] at zz|skip);(try clear z_w3p x_w3p f_w3p l_w3p);(try clear z_w3 x_w3 f_w3 l_w3);(try clear z_w1 x_w1 f_w1 l_w1);obtain ⟨z_w3p,z_w3,z_w1⟩:=zz;obtain ⟨x_w3p,f_w3p,l_w3p⟩:=bO z_w3p;obtain ⟨x_w3,f_w3,l_w3⟩:=bO z_w3;obtain ⟨x_w1,f_w1,l_w1⟩:=bO z_w1;have hKw4:Below w3.heap.size w3 w4:=bT bk hbw4;clear hbw4 bb bk
    go_wp2_with fail;refine bHit w (by (repeat (with_reducible first|assumption|exact bR|refine bA ?_|refine bD ?_|((first|refine bS ?_ ?_|refine bBx ?_ ?_);rotate_left;focus (try simp) <;> (try omega))))) fun bb=>?_;refine bHit w4 (by (repeat (with_reducible first|assumption|exact bR|refine bA ?_|refine bD ?_|((first|refine bS ?_ ?_|refine bBx ?_ ?_);rotate_left;focus (try simp) <;> (try omega))))) fun bk=>?_;refine (cS _).mono ?_;rintro _ w5 ⟨rfl,hbw5⟩;have hCw5:Below w.heap.size w w5:=bT bb hbw5;have hsw5:=hbw5.size;(try simp at hsw5);have zz:=And.intro (hpB hbw5 (b:=w4.heap.size) (by (try simp) <;> omega)) <| And.intro (hpB hbw5 (b:=w3.heap.size+1) (by (try simp) <;> omega)) <| And.intro (hpB hbw5 (b:=w3.heap.size) (by (try simp) <;> omega)) <| hpB hbw5 (b:=w1.heap.size) (by (try simp) <;> omega);(first|simp [go_sem,z_w3p,z_w3,z_w1,l_w1,l_w3,l_w3p] at zz|simp [go_sem] at zz|skip);(try clear z_w4 x_w4 f_w4 l_w4);(try clear z_w3p x_w3p f_w3p l_w3p);(try clear z_w3 x_w3 f_w3 l_w3);(try clear z_w1 x_w1 f_w1 l_w1);obtain ⟨z_w4,z_w3p,z_w3,z_w1⟩:=zz;obtain ⟨x_w4,f_w4,l_w4⟩:=bO z_w4;obtain ⟨x_w3p,f_w3p,l_w3p⟩:=bO z_w3p;obtain ⟨x_w3,f_w3,l_w3⟩:=bO z_w3;obtain ⟨x_w1,f_w1,l_w1⟩:=bO z_w1;have hKw5:Below w4.heap.size w4 w5:=bT bk hbw5;clear hbw5 bb bk
    clear cI cS
    go_upto_region 8 with fail
    obtain ⟨bh,HB⟩:∃ b,Hid (handOk h=b):=⟨_,Lib.hid rfl⟩
    have hI:=handOk_any h
    have hS:=sHandOk_any h
    rw [HB.out] at hI hS
    have rI:=resting_any r o
    have rS:=sResting_any r o
    generalize resting r o=q at rI rS
    have eq1:=eqHa_self q
    have eq2:=eqHa_self x

    go_region_held3 (fun w'=>hp w' w1.heap.size=some (.cells (hvals h) 27)∧hp w' w4.heap.size=some (.cells (hvals x) 27)∧hp w' w5.heap.size=some (.cells (hvals x) 27))
      (first|(simp [*,go_sem]))
      (first|(go_at_call 10;refine (hI _).mono ?_;rintro _ w6 ⟨rfl,hbw6⟩;have hBw6:Below w.heap.size w w6:=bT (by (repeat (with_reducible first|assumption|exact bR|refine bA ?_|refine bD ?_|((first|refine bS ?_ ?_|refine bBx ?_ ?_);rotate_left;focus (try simp) <;> (try omega))))) hbw6;have hsw6:=hbw6.size;(try (simp at hsw6));have zz:=hpB hbw6 (b:=w1.heap.size) (by (try simp) <;> omega);(first|(simp [go_sem,z_w1,l_w1] at zz)|(simp [go_sem] at zz));(try clear x_w1 f_w1);(try clear z_w1);have z_w1:=zz;clear zz;(try clear l_w1);obtain ⟨x_w1,f_w1,l_w1⟩:=bO z_w1;have zz:=hpB hbw6 (b:=w3.heap.size) (by (try simp) <;> omega);(first|(simp [go_sem,z_w3,l_w3] at zz)|(simp [go_sem] at zz));(try clear x_w3 f_w3);(try clear z_w3);have z_w3:=zz;clear zz;(try clear l_w3);obtain ⟨x_w3,f_w3,l_w3⟩:=bO z_w3;have zz:=hpB hbw6 (b:=w3.heap.size+1) (by (try simp) <;> omega);(first|(simp [go_sem,z_w3p,l_w3p] at zz)|(simp [go_sem] at zz));(try clear x_w3p f_w3p);(try clear z_w3p);have z_w3p:=zz;clear zz;(try clear l_w3p);obtain ⟨x_w3p,f_w3p,l_w3p⟩:=bO z_w3p;have zz:=hpB hbw6 (b:=w4.heap.size) (by (try simp) <;> omega);(first|(simp [go_sem,z_w4,l_w4] at zz)|(simp [go_sem] at zz));(try clear x_w4 f_w4);(try clear z_w4);have z_w4:=zz;clear zz;(try clear l_w4);obtain ⟨x_w4,f_w4,l_w4⟩:=bO z_w4;have zz:=hpB hbw6 (b:=w5.heap.size) (by (try simp) <;> omega);(first|(simp [go_sem,z_w5,l_w5] at zz)|(simp [go_sem] at zz));(try clear x_w5 f_w5);(try clear z_w5);have z_w5:=zz;clear zz;(try clear l_w5);obtain ⟨x_w5,f_w5,l_w5⟩:=bO z_w5)|(go_at_call 11;refine (hS _).mono ?_;rintro _ w7 ⟨rfl,hbw7⟩;have hBw7:Below w.heap.size w w7:=bT (by (repeat (with_reducible first|assumption|exact bR|refine bA ?_|refine bD ?_|((first|refine bS ?_ ?_|refine bBx ?_ ?_);rotate_left;focus (try simp) <;> (try omega))))) hbw7;have hsw7:=hbw7.size;(try (simp at hsw7));have zz:=hpB hbw7 (b:=w1.heap.size) (by (try simp) <;> omega);(first|(simp [go_sem,z_w1,l_w1] at zz)|(simp [go_sem] at zz));(try clear x_w1 f_w1);(try clear z_w1);have z_w1:=zz;clear zz;(try clear l_w1);obtain ⟨x_w1,f_w1,l_w1⟩:=bO z_w1;have zz:=hpB hbw7 (b:=w3.heap.size) (by (try simp) <;> omega);(first|(simp [go_sem,z_w3,l_w3] at zz)|(simp [go_sem] at zz));(try clear x_w3 f_w3);(try clear z_w3);have z_w3:=zz;clear zz;(try clear l_w3);obtain ⟨x_w3,f_w3,l_w3⟩:=bO z_w3;have zz:=hpB hbw7 (b:=w3.heap.size+1) (by (try simp) <;> omega);(first|(simp [go_sem,z_w3p,l_w3p] at zz)|(simp [go_sem] at zz));(try clear x_w3p f_w3p);(try clear z_w3p);have z_w3p:=zz;clear zz;(try clear l_w3p);obtain ⟨x_w3p,f_w3p,l_w3p⟩:=bO z_w3p;have zz:=hpB hbw7 (b:=w4.heap.size) (by (try simp) <;> omega);(first|(simp [go_sem,z_w4,l_w4] at zz)|(simp [go_sem] at zz));(try clear x_w4 f_w4);(try clear z_w4);have z_w4:=zz;clear zz;(try clear l_w4);obtain ⟨x_w4,f_w4,l_w4⟩:=bO z_w4;have zz:=hpB hbw7 (b:=w5.heap.size) (by (try simp) <;> omega);(first|(simp [go_sem,z_w5,l_w5] at zz)|(simp [go_sem] at zz));(try clear x_w5 f_w5);(try clear z_w5);have z_w5:=zz;clear zz;(try clear l_w5);obtain ⟨x_w5,f_w5,l_w5⟩:=bO z_w5)|(go_at_call 12;refine (rI _).mono ?_;rintro _ w8 ⟨rfl,hbw8⟩;have hBw8:Below w.heap.size w w8:=bT (by (repeat (with_reducible first|assumption|exact bR|refine bA ?_|refine bD ?_|((first|refine bS ?_ ?_|refine bBx ?_ ?_);rotate_left;focus (try simp) <;> (try omega))))) hbw8;have hsw8:=hbw8.size;(try (simp at hsw8));have zz:=hpB hbw8 (b:=w1.heap.size) (by (try simp) <;> omega);(first|(simp [go_sem,z_w1,l_w1] at zz)|(simp [go_sem] at zz));(try clear x_w1 f_w1);(try clear z_w1);have z_w1:=zz;clear zz;(try clear l_w1);obtain ⟨x_w1,f_w1,l_w1⟩:=bO z_w1;have zz:=hpB hbw8 (b:=w3.heap.size) (by (try simp) <;> omega);(first|(simp [go_sem,z_w3,l_w3] at zz)|(simp [go_sem] at zz));(try clear x_w3 f_w3);(try clear z_w3);have z_w3:=zz;clear zz;(try clear l_w3);obtain ⟨x_w3,f_w3,l_w3⟩:=bO z_w3;have zz:=hpB hbw8 (b:=w3.heap.size+1) (by (try simp) <;> omega);(first|(simp [go_sem,z_w3p,l_w3p] at zz)|(simp [go_sem] at zz));(try clear x_w3p f_w3p);(try clear z_w3p);have z_w3p:=zz;clear zz;(try clear l_w3p);obtain ⟨x_w3p,f_w3p,l_w3p⟩:=bO z_w3p;have zz:=hpB hbw8 (b:=w4.heap.size) (by (try simp) <;> omega);(first|(simp [go_sem,z_w4,l_w4] at zz)|(simp [go_sem] at zz));(try clear x_w4 f_w4);(try clear z_w4);have z_w4:=zz;clear zz;(try clear l_w4);obtain ⟨x_w4,f_w4,l_w4⟩:=bO z_w4;have zz:=hpB hbw8 (b:=w5.heap.size) (by (try simp) <;> omega);(first|(simp [go_sem,z_w5,l_w5] at zz)|(simp [go_sem] at zz));(try clear x_w5 f_w5);(try clear z_w5);have z_w5:=zz;clear zz;(try clear l_w5);obtain ⟨x_w5,f_w5,l_w5⟩:=bO z_w5)|(go_at_call 13;refine (rS _).mono ?_;rintro _ w9 ⟨rfl,hbw9⟩;have hBw9:Below w.heap.size w w9:=bT (by (repeat (with_reducible first|assumption|exact bR|refine bA ?_|refine bD ?_|((first|refine bS ?_ ?_|refine bBx ?_ ?_);rotate_left;focus (try simp) <;> (try omega))))) hbw9;have hsw9:=hbw9.size;(try (simp at hsw9));have zz:=hpB hbw9 (b:=w1.heap.size) (by (try simp) <;> omega);(first|(simp [go_sem,z_w1,l_w1] at zz)|(simp [go_sem] at zz));(try clear x_w1 f_w1);(try clear z_w1);have z_w1:=zz;clear zz;(try clear l_w1);obtain ⟨x_w1,f_w1,l_w1⟩:=bO z_w1;have zz:=hpB hbw9 (b:=w3.heap.size) (by (try simp) <;> omega);(first|(simp [go_sem,z_w3,l_w3] at zz)|(simp [go_sem] at zz));(try clear x_w3 f_w3);(try clear z_w3);have z_w3:=zz;clear zz;(try clear l_w3);obtain ⟨x_w3,f_w3,l_w3⟩:=bO z_w3;have zz:=hpB hbw9 (b:=w3.heap.size+1) (by (try simp) <;> omega);(first|(simp [go_sem,z_w3p,l_w3p] at zz)|(simp [go_sem] at zz));(try clear x_w3p f_w3p);(try clear z_w3p);have z_w3p:=zz;clear zz;(try clear l_w3p);obtain ⟨x_w3p,f_w3p,l_w3p⟩:=bO z_w3p;have zz:=hpB hbw9 (b:=w4.heap.size) (by (try simp) <;> omega);(first|(simp [go_sem,z_w4,l_w4] at zz)|(simp [go_sem] at zz));(try clear x_w4 f_w4);(try clear z_w4);have z_w4:=zz;clear zz;(try clear l_w4);obtain ⟨x_w4,f_w4,l_w4⟩:=bO z_w4;have zz:=hpB hbw9 (b:=w5.heap.size) (by (try simp) <;> omega);(first|(simp [go_sem,z_w5,l_w5] at zz)|(simp [go_sem] at zz));(try clear x_w5 f_w5);(try clear z_w5);have z_w5:=zz;clear zz;(try clear l_w5);obtain ⟨x_w5,f_w5,l_w5⟩:=bO z_w5))
    clear hI hS rI rS eq1 eq2 HB
    by_cases hk0:kx=0
    · obtain ⟨hx,hc⟩:=PZ.out hk0
      have hk0b:(kx == 0)=true:=by simpa using hk0
      have hx1:called x kk ee=(x,1):=by rw [hx];exact begun_busy hc kk ee
      have hx2:handOk x=true:=by rw [hx];exact begun_ok hc
      have hx3:(x.code == kk)=true:=by rw [hx];simp [begun]
      have hx4:(x.elem == ee)=true:=by rw [hx];simp [begun]
      have hk:(x.pos == 1)=(kk == 1):=by
        have hk:kk=1∨kk=2:=by simp [callOk] at hc;omega
        rw [hx]
        rcases hk with rfl|rfl <;> rfl
      have cI:=called_any x kk ee
      rw [hx1] at cI
      have oI:=handOk_any x
      rw [hx2] at oI
      clear hx hc hk0 PZ hx1 hx2
      go_wp2_with fail
      refine (cI _).mono ?_
      rintro _ w10 ⟨rfl,hbw10⟩
      have hBw10:Below w.heap.size w w10:=bT (by (repeat (with_reducible first|assumption|exact bR|refine bA ?_|refine bD ?_|((first|refine bS ?_ ?_|refine bBx ?_ ?_);rotate_left;focus (try simp) <;> (try omega))))) hbw10
      have hsw10:=hbw10.size;(try (simp at hsw10));have zz:=hpB hbw10 (b:=w3.heap.size+1) (by (try simp) <;> omega);(first|(simp [go_sem,z_w3p,l_w3p] at zz)|(simp [go_sem] at zz));(try clear x_w3p f_w3p);(try clear z_w3p);have z_w3p:=zz;clear zz;(try clear l_w3p);obtain ⟨x_w3p,f_w3p,l_w3p⟩:=bO z_w3p;have zz:=hpB hbw10 (b:=w4.heap.size) (by (try simp) <;> omega);(first|(simp [go_sem,z_w4,l_w4] at zz)|(simp [go_sem] at zz));(try clear x_w4 f_w4);(try clear z_w4);have z_w4:=zz;clear zz;(try clear l_w4);obtain ⟨x_w4,f_w4,l_w4⟩:=bO z_w4
      have l_w10:w4.heap.size<w10.heap.size:=l_w4
      go_wp2_with (first|(go_at_call 10;refine (oI _).mono ?_;rintro _ w11 ⟨rfl,hbw11⟩;have hBw11:Below w.heap.size w w11:=bT (by (repeat (with_reducible first|assumption|exact bR|refine bA ?_|refine bD ?_|((first|refine bS ?_ ?_|refine bBx ?_ ?_);rotate_left;focus (try simp) <;> (try omega))))) hbw11;have hsw11:=hbw11.size;(try (simp at hsw11));have zz:=hpB hbw11 (b:=w3.heap.size+1) (by (try simp) <;> omega);(first|(simp [go_sem,z_w3p,l_w3p] at zz)|(simp [go_sem] at zz));(try clear x_w3p f_w3p);(try clear z_w3p);have z_w3p:=zz;clear zz;(try clear l_w3p);obtain ⟨x_w3p,f_w3p,l_w3p⟩:=bO z_w3p;have zz:=hpB hbw11 (b:=w4.heap.size) (by (try simp) <;> omega);(first|(simp [go_sem,z_w4,l_w4] at zz)|(simp [go_sem] at zz));(try clear x_w4 f_w4);(try clear z_w4);have z_w4:=zz;clear zz;(try clear l_w4);obtain ⟨x_w4,f_w4,l_w4⟩:=bO z_w4))
      all_goals go_ret
      all_goals (refine ⟨rfl,by (repeat (with_reducible first|assumption|exact bR|refine bA ?_|refine bD ?_|((first|refine bS ?_ ?_|refine bBx ?_ ?_);rotate_left;focus (try simp) <;> (try omega))))⟩)

    · have hk0b:(kx == 0)=false:=by simpa using hk0
      have rO:=handOk_any (resting 0 0)
      rw [show handOk (resting 0 0)=true by decide] at rO
      clear hk0 PZ
      go_wp2_with (first|(go_at_call 12;refine bHit w (by (repeat (with_reducible first|assumption|exact bR|refine bA ?_|refine bD ?_|((first|refine bS ?_ ?_|refine bBx ?_ ?_);rotate_left;focus (try simp) <;> (try omega))))) fun bb=>?_;refine bHit w9 (by (repeat (with_reducible first|assumption|exact bR|refine bA ?_|refine bD ?_|((first|refine bS ?_ ?_|refine bBx ?_ ?_);rotate_left;focus (try simp) <;> (try omega))))) fun bk=>?_;refine (resting_any 0 0 _).mono ?_;rintro _ w10 ⟨rfl,hbw10⟩;have hCw10:Below w.heap.size w w10:=bT bb hbw10;have hsw10:=hbw10.size;(try simp at hsw10);have hKw10:Below w9.heap.size w9 w10:=bT bk hbw10;clear hbw10 bb bk)|(go_at_call 10;refine bHit w (by (repeat (with_reducible first|assumption|exact bR|refine bA ?_|refine bD ?_|((first|refine bS ?_ ?_|refine bBx ?_ ?_);rotate_left;focus (try simp) <;> (try omega))))) fun bb=>?_;refine bHit w10 (by (repeat (with_reducible first|assumption|exact bR|refine bA ?_|refine bD ?_|((first|refine bS ?_ ?_|refine bBx ?_ ?_);rotate_left;focus (try simp) <;> (try omega))))) fun bk=>?_;refine (rO _).mono ?_;rintro _ w11 ⟨rfl,hbw11⟩;have hCw11:Below w.heap.size w w11:=bT bb hbw11;have hsw11:=hbw11.size;(try simp at hsw11);have hKw11:Below w10.heap.size w10 w11:=bT bk hbw11;clear hbw11 bb bk))
      go_ret
      exact ⟨rfl,by (repeat (with_reducible first|assumption|exact bR|refine bA ?_|refine bD ?_|((first|refine bS ?_ ?_|refine bBx ?_ ?_);rotate_left;focus (try simp) <;> (try omega))))⟩

end Go.Proofs.Ytlfcgeoifmnjnaa
