/-
  Two hands that are kept whole are compared as structs; no condition.
  The contracts of the program's functions of chapter 4; no condition.
  The contracts of the program's functions of chapter 5, on hands that are kept whole; no condition.
-/
import Derived.Test.YtmnpgkcdfielbaaP05
import Derived.Laws.StructEq
import Derived.Test.YtmnpgkcdfielbaaP04
import Derived.Test.YtmnpgkcdfielbaaP15
import Derived.BigRegion
import Derived.StillTailTactics
set_option linter.unusedSimpArgs false
set_option linter.unusedVariables false
namespace Go.Proofs.Ytmnpgkcdfielbaa
open Go.RowKit
def eqHa (a b:Ha):Bool:=a.pos == b.pos && ((a.code == b.code && a.elem == b.elem) && (a.cell == b.cell && (a.seen == b.seen && (a.wait == b.wait && (a.fin == b.fin && (a.come == b.come && (a.grow == b.grow && (a.mine == b.mine && (a.nxt == b.nxt && (a.beg == b.beg && (a.reply == b.reply && a.out == b.out)))))))))))
theorem eqCallV (a b c d:Int) (n:Nat) (w:World):(Op.equalIn (n+1+1) 51 (.agg #[.int .i64 a,.int .i64 b]) (.agg #[.int .i64 c,.int .i64 d])).run Try.prog w=.ok (a == c && b == d) w:=by
  have u3:=Try.underlying2
  have a3:=Try.isAgg2
  have z3:=Try.sizeOf2
  have hS:Try.prog.underlying 51=some (.struct (Try.prog.fieldsOf 51)):=by kernel_rfl
  rw [run_equalIn_agg w (n+1) 51 _ _ hS (by kernel_rfl)]
  simp only [Program.fieldsOf,Try.underlying51]
  go_simp
  by_cases h1:a=c <;> by_cases h2:b=d <;> simp [h1,h2]
theorem eqHandV (x y:Ha) (w:World):(Op.equalIn 10000 53 (.agg (hvals x)) (.agg (hvals y))).run Try.prog w=.ok (eqHa x y) w:=by
  have u3:=Try.underlying2
  have a3:=Try.isAgg2
  have z3:=Try.sizeOf2
  have a4:=Try.isAgg51
  have z4:=Try.sizeOf51
  have hS:Try.prog.underlying 53=some (.struct (Try.prog.fieldsOf 53)):=by kernel_rfl
  rw [show (10000:Nat)=9998+1+1 from rfl,run_equalIn_agg w (9998+1) 53 _ _ hS (by kernel_rfl)]
  simp only [Program.fieldsOf,Try.underlying53]
  simp [hvals,Op.eqFields,go_sem,eqCallV,eqHa, *]
  by_cases h0:x.pos=y.pos <;> simp [h0]
  by_cases h1:x.code=y.code <;> simp [h1]
  by_cases h2:x.elem=y.elem <;> simp [h2]
  by_cases h3:x.cell=y.cell <;> simp [h3]
  by_cases h4:x.seen=y.seen <;> simp [h4]
  by_cases h5:x.wait=y.wait <;> simp [h5]
  by_cases h6:x.fin=y.fin <;> simp [h6]
  by_cases h7:x.come=y.come <;> simp [h7]
  by_cases h8:x.grow=y.grow <;> simp [h8]
  by_cases h9:x.mine=y.mine <;> simp [h9]
  by_cases h10:x.nxt=y.nxt <;> simp [h10]
  by_cases h11:x.beg=y.beg <;> simp [h11]
  by_cases h12:x.reply=y.reply <;> simp [h12]
  by_cases h13:x.out=y.out <;> simp [h13]
end Go.Proofs.Ytmnpgkcdfielbaa
set_option linter.unusedSimpArgs false
set_option linter.unusedVariables false
namespace Go.Proofs.Ytmnpgkcdfielbaa
open Go.RowKit
def mostE (k:Int):Int:=if k == 1 then 999 else (if k == 2 then 0 else -1)
def mayR (k r:Int):Bool:=if r == 1 then k == 1 else (if r == 2 then k == 2 else (if r == 3 || r == 4 then k == 1 || k == 2 else false))
theorem callOk_most (k e:Int):inB e 0 (mostE k)=callOk k e:=by
  unfold mostE callOk
  by_cases h1:k=1
  · subst h1;simp
  · by_cases h2:k=2
    · subst h2
      simp [inB]
      rw [Bool.eq_iff_iff];simp;omega
    · have:(if k == 1 then (999:Int) else if k == 2 then 0 else -1)=-1:=by simp [h1,h2]
      rw [this,inB_no (by omega)]
      simp [h1,h2]
theorem replyOk_may (k e r:Int):(callOk k e && mayR k r)=replyOk k e r:=by
  unfold replyOk
  by_cases hc:callOk k e=true
  · rw [hc]
    have hk:k=1∨k=2:=by
      simp [callOk] at hc
      omega
    simp only [Bool.true_and]
    unfold mayR
    by_cases h1:r=1
    · subst h1
      rcases hk with rfl|rfl <;> decide
    · by_cases h2:r=2
      · subst h2
        rcases hk with rfl|rfl <;> decide
      · by_cases h3:r=3
        · subst h3
          rcases hk with rfl|rfl <;> decide
        · by_cases h4:r=4
          · subst h4
            rcases hk with rfl|rfl <;> decide
          · have:inB r 1 4=false:=inB_no (by omega)
            simp [h1,h2,h3,h4,this]
  · simp [not_tt hc]
set_option maxHeartbeats 400000 in
theorem mostElem_any (k:Int) (w:World):Calls Try.prog 89 #[.int .i64 k] w fun r w'=>r=.returned (.int .i64 (mostE k))∧w=w':=by
  go_enter Try.func89,Try.ntmps89
  go_wp2
  all_goals go_ret
  all_goals exact ⟨ret_i64 (by simp_all [mostE]),rfl⟩
set_option maxHeartbeats 400000 in
theorem mayReply_any (k x:Int) (w:World):Calls Try.prog 86 #[.int .i64 k,.int .i64 x] w fun r w'=>r=.returned (.bool (mayR k x))∧w=w':=by
  go_enter Try.func86,Try.ntmps86
  go_wp2
  all_goals go_ret
  all_goals exact ⟨ret_bool (by simp_all [mayR]),rfl⟩
set_option maxHeartbeats 400000 in
theorem coded_any (k e:Int) (w:World):Calls Try.prog 84 #[.agg #[.int .i64 k,.int .i64 e]] w fun r w'=>r=.returned (.agg #[.int .i64 k,.int .i64 e])∧Below w.heap.size w w':=by
  go_enter Try.func84,Try.ntmps84
  go_wp2
  exact bodyPost_ret (v:=.agg #[.int .i64 k,.int .i64 e]) (by simp [results,Try.results84,go_sem, *]) rfl ⟨rfl,by exact zB⟩
set_option maxHeartbeats 400000 in
theorem isRight_any (k e:Int) (w:World):Calls Try.prog 85 #[.agg #[.int .i64 k,.int .i64 e]] w fun r w'=>r=.returned (.bool (callOk k e))∧Below w.heap.size w w':=by
  go_enter Try.func85,Try.ntmps85
  go_wp2_with fail
  go_region_with (first|(go_at_call 89;refine (mostElem_any _ _).mono ?_;rintro _ _ ⟨rfl,rfl⟩)|(go_at_call 49;refine (inRange_any _ _ _).mono ?_;rintro _ _ ⟨rfl,rfl⟩))
  all_goals go_wp2
  all_goals go_ret
  all_goals exact ⟨ret_bool (callOk_most k e),by exact zB⟩
set_option maxHeartbeats 400000 in
theorem callOk_any (k e:Int) (w:World):Calls Try.prog 83 #[.agg #[.int .i64 k,.int .i64 e]] w fun r w'=>r=.returned (.bool (callOk k e))∧Below w.heap.size w w':=by
  go_enter Try.func83,Try.ntmps83
  go_wp2_with fail;refine (coded_any _ _ _).mono ?_;rintro _ w1 ⟨rfl,hbw1⟩;have hBw1:Below w.heap.size w w1:=bT (by exact zB) hbw1;have hsw1:=hbw1.size;(try (simp at hsw1));have:=fun o=>hbw1.cell (p:=⟨w.heap.size,o,none⟩) (by ((try simp);(try omega)));have:=fun o=>hbw1.frozen (p:=⟨w.heap.size,o,none⟩) (by ((try simp);(try omega)));have:w.heap.size<w1.heap.size:=(by omega);have:w.heap.size≤w1.heap.size:=(by omega);have:w.heap.size≤w1.heap.size+1:=(by omega)
  go_wp2_with fail;refine (isRight_any _ _ _).mono ?_;rintro _ w2 ⟨rfl,hbw2⟩;have hBw2:Below w.heap.size w w2:=bT (by exact zB) hbw2;have hsw2:=hbw2.size;(try (simp at hsw2));have:=fun o=>hbw2.cell (p:=⟨w.heap.size,o,none⟩) (by ((try simp);(try omega)));have:=fun o=>hbw2.frozen (p:=⟨w.heap.size,o,none⟩) (by ((try simp);(try omega)));have:w.heap.size<w2.heap.size:=(by omega);have:w.heap.size≤w2.heap.size:=(by omega);have:w.heap.size≤w2.heap.size+1:=(by omega)
  go_wp2
  go_ret
  exact ⟨rfl,by exact zB⟩
set_option maxHeartbeats 400000 in
theorem replyOk_any (k e x:Int) (w:World):Calls Try.prog 74 #[.agg #[.int .i64 k,.int .i64 e],.int .i64 x] w fun r w'=>r=.returned (.bool (replyOk k e x))∧Below w.heap.size w w':=by
  go_enter Try.func74,Try.ntmps74
  go_wp2_with fail;refine (coded_any _ _ _).mono ?_;rintro _ w1 ⟨rfl,hbw1⟩;have hBw1:Below w.heap.size w w1:=bT (by exact zB) hbw1;have hsw1:=hbw1.size;(try (simp at hsw1));have:=fun o=>hbw1.cell (p:=⟨w.heap.size,o,none⟩) (by ((try simp);(try omega)));have:=fun o=>hbw1.frozen (p:=⟨w.heap.size,o,none⟩) (by ((try simp);(try omega)));have:w.heap.size<w1.heap.size:=(by omega);have:w.heap.size≤w1.heap.size:=(by omega);have:w.heap.size≤w1.heap.size+1:=(by omega)
  go_wp2_with fail;refine (isRight_any _ _ _).mono ?_;rintro _ w2 ⟨rfl,hbw2⟩;have hBw2:Below w.heap.size w w2:=bT (by exact zB) hbw2;have hsw2:=hbw2.size;(try (simp at hsw2));have:=fun o=>hbw2.cell (p:=⟨w.heap.size,o,none⟩) (by ((try simp);(try omega)));have:=fun o=>hbw2.frozen (p:=⟨w.heap.size,o,none⟩) (by ((try simp);(try omega)));have:=fun o=>hbw2.cell (p:=⟨w1.heap.size,o,none⟩) (by ((try simp);(try omega)));have:=fun o=>hbw2.frozen (p:=⟨w1.heap.size,o,none⟩) (by ((try simp);(try omega)));have:w.heap.size<w2.heap.size:=(by omega);have:w.heap.size≤w2.heap.size:=(by omega);have:w.heap.size≤w2.heap.size+1:=(by omega);have:w1.heap.size<w2.heap.size:=(by omega);have:w1.heap.size≤w2.heap.size:=(by omega);have:w1.heap.size≤w2.heap.size+1:=(by omega)
  go_wp2_with (go_at_call 86;refine (mayReply_any _ _ _).mono ?_;rintro _ _ ⟨rfl,rfl⟩)
  all_goals go_ret
  all_goals exact ⟨ret_bool (by rw [← replyOk_may];simp_all),by exact zB⟩
end Go.Proofs.Ytmnpgkcdfielbaa
set_option linter.unusedSimpArgs false
set_option linter.unusedVariables false
namespace Go.Proofs.Ytmnpgkcdfielbaa
open Go.RowKit
attribute [local go_sem ↓] zeroHand toLHand toVHand storeHand storeHandC
attribute [local go_sem ↓] eqHandV
def near (n m:Int):Int:=if (if n<0 then 0 else n)≤m then (if n<0 then 0 else n) else m
theorem near_eq {n m:Int} (hm:0≤m):(n == near n m)=inB n 0 m:=by
  rw [Bool.eq_iff_iff]
  simp only [near,inB,beq_iff_eq,Bool.and_eq_true,decide_eq_true_eq]
  repeat' split
  all_goals omega
def boundH (h:Ha):Ha:=⟨near h.pos 25,if h.pos == 0 then 0 else h.code,if h.pos == 0 then 0 else h.elem,near h.cell 39,near h.seen 10,near h.wait 80,near h.fin 40,near h.come 40,near h.grow 39,near h.mine 80,near h.nxt 2,near h.beg 20000,near h.reply 4,near h.out 999⟩
theorem bound_ok (h:Ha):(eqHa h (boundH h) && (h.pos == 0 || callOk h.code h.elem))=handOk h:=by
  simp only [eqHa,boundH,near_eq (show (0:Int)≤25 by decide),near_eq (show (0:Int)≤39 by decide),near_eq (show (0:Int)≤10 by decide),near_eq (show (0:Int)≤80 by decide),near_eq (show (0:Int)≤40 by decide),near_eq (show (0:Int)≤2 by decide),near_eq (show (0:Int)≤20000 by decide),near_eq (show (0:Int)≤4 by decide),near_eq (show (0:Int)≤999 by decide)]
  have e:((h.code == if h.pos == 0 then 0 else h.code) && (h.elem == if h.pos == 0 then 0 else h.elem) && (h.pos == 0 || callOk h.code h.elem))=(if h.pos == 0 then noCall h.code h.elem else callOk h.code h.elem):=by
    by_cases h0:h.pos=0
    · simp [h0,noCall]
    · simp [h0]
  unfold handOk handA handB handC
  rw [← e]
  generalize inB h.pos 0 25=b1
  generalize (h.code == if h.pos == 0 then 0 else h.code)=b2
  generalize (h.elem == if h.pos == 0 then 0 else h.elem)=b3
  generalize inB h.cell 0 39=b4
  generalize inB h.seen 0 10=b5
  generalize inB h.wait 0 80=b6
  generalize inB h.fin 0 40=b7
  generalize inB h.come 0 40=b8
  generalize inB h.grow 0 39=b9
  generalize inB h.mine 0 80=b10
  generalize inB h.nxt 0 2=b11
  generalize inB h.beg 0 20000=b12
  generalize inB h.reply 0 4=b13
  generalize inB h.out 0 999=b14
  generalize (h.pos == 0 || callOk h.code h.elem)=b15
  simp only [Bool.and_assoc]
  cases b1 <;> cases b2 <;> cases b3 <;> cases b15 <;> (try simp) <;> cases b4 <;> cases b9 <;> cases b5 <;> cases b6 <;> cases b10 <;> simp
theorem nearest_any (n m:Int) (w:World):Calls Try.prog 88 #[.int .i64 n,.int .i64 m] w fun r w'=>r=.returned (.int .i64 (near n m))∧w=w':=by
  go_enter Try.func88,Try.ntmps88
  go_wp2
  all_goals go_ret
  all_goals exact ⟨ret_i64 (by (try unfold near);(repeat' split) <;> omega),rfl⟩
theorem nearStill (n m:Int) (w:World):Calls Try.prog 88 #[.int .i64 n,.int .i64 m] w fun r w'=>r=.returned (.int .i64 (near n m))∧w'=w :=
  (nearest_any n m w).mono fun _ _ h=>⟨h.1,h.2.symm⟩
set_option maxRecDepth 100000 in
set_option maxHeartbeats 2000000 in
theorem bounded_any (h:Ha) (w:World):Calls Try.prog 82 #[.agg (hvals h)] w fun r w'=>r=.returned (.agg (hvals (boundH h)))∧Below w.heap.size w w':=by
  by_cases h0:h.pos=0
  · have e0:(h.pos == 0)=true:=by simpa using h0
    clear h0
    have eb:boundH h=⟨near h.pos 25,0,0,near h.cell 39,near h.seen 10,near h.wait 80,near h.fin 40,near h.come 40,near h.grow 39,near h.mine 80,near h.nxt 2,near h.beg 20000,near h.reply 4,near h.out 999⟩:=by simp [boundH,e0]
    rw [eb]
    go_enter Try.func82,Try.ntmps82
    go_wp2
    refine wp_region_still_tail 38 (by kernel_rfl) (by kernel_rfl) ?_
    simp only [List.take_succ_cons,List.take_zero,List.drop_succ_cons,List.drop_zero]
    change wpStill _ _ (World.drew _) _ _ _
    repeat (first|still_step|still_call (nearStill _ _ _))
    refine wpStill_nil ?_
    change wpList _ _ _ _ _ (World.drew _)
    go_wp2
    refine bodyPost_ret (res_c Try.results82 rfl (ldHand ⟨near h.pos 25,0,0,near h.cell 39,near h.seen 10,near h.wait 80,near h.fin 40,near h.come 40,near h.grow 39,near h.mine 80,near h.nxt 2,near h.beg 20000,near h.reply 4,near h.out 999⟩ (by simp [go_sem] <;> rfl))) rfl ⟨rfl,by exact zB⟩
  · have e0:(h.pos == 0)=false:=by simpa using h0
    clear h0
    have eb:boundH h=⟨near h.pos 25,h.code,h.elem,near h.cell 39,near h.seen 10,near h.wait 80,near h.fin 40,near h.come 40,near h.grow 39,near h.mine 80,near h.nxt 2,near h.beg 20000,near h.reply 4,near h.out 999⟩:=by simp [boundH,e0]
    rw [eb]
    go_enter Try.func82,Try.ntmps82
    go_wp2
    refine wp_region_still_tail 38 (by kernel_rfl) (by kernel_rfl) ?_
    simp only [List.take_succ_cons,List.take_zero,List.drop_succ_cons,List.drop_zero]
    change wpStill _ _ (World.drew _) _ _ _
    repeat (first|still_step|still_call (nearStill _ _ _))
    refine wpStill_nil ?_
    change wpList _ _ _ _ _ (World.drew _)
    go_wp2
    refine bodyPost_ret (res_c Try.results82 rfl (ldHand ⟨near h.pos 25,h.code,h.elem,near h.cell 39,near h.seen 10,near h.wait 80,near h.fin 40,near h.come 40,near h.grow 39,near h.mine 80,near h.nxt 2,near h.beg 20000,near h.reply 4,near h.out 999⟩ (by simp [go_sem] <;> rfl))) rfl ⟨rfl,by exact zB⟩
end Go.Proofs.Ytmnpgkcdfielbaa
