/-
  The program's Resting, Called, on hands that are kept whole; no condition.
  Stopping, of the reference model; lists lie in memory and hold at most 2 ^ 40 elements.
  Stopping who is parked, of the reference model; lists lie in memory and hold at most 2 ^ 40 elements.
  Asking, of the reference model; lists lie in memory and hold at most 2 ^ 40 elements.
  Asking who can be asked, of the reference model; lists lie in memory and hold at most 2 ^ 40 elements.
  Stopping and asking, of the reference model, all cases; lists lie in memory and hold at most 2 ^ 40 elements.
-/
import Derived.Test.YtgpdocmclkpknaaP08
import Derived.Test.YtgpdocmclkpknaaP05
set_option linter.unusedSimpArgs false
set_option linter.unusedVariables false
namespace Go.Proofs.Ytgpdocmclkpknaa
open Go.RowKit
attribute [local go_sem ↓] zeroHand toLHand toVHand storeHand storeHandC
attribute [local go_sem ↓] eqHandV
set_option maxRecDepth 100000 in
theorem resting_any (x o:Int) (w:World):Calls Try.prog 42 #[.int .i64 x,.int .i64 o] w fun r w'=>r=.returned (.agg (hvals (resting x o)))∧Below w.heap.size w w':=by
  go_enter Try.func42,Try.ntmps42
  go_wp2
  refine bodyPost_ret (res_c Try.results42 rfl (ldHand (resting x o) (by simp [go_sem] <;> rfl))) rfl ⟨rfl,by exact zB⟩
theorem firstAt_any (k e:Int) (w:World):Calls Try.prog 84 #[.agg #[.int .i64 k,.int .i64 e]] w fun r w'=>r=.returned (.int .i64 (if k == 1 then 1 else 9))∧Below w.heap.size w w':=by
  go_enter Try.func84,Try.ntmps84
  go_wp2
  all_goals go_ret
  all_goals exact ⟨ret_i64 (by simp_all),by exact zB⟩
theorem begun_of {k e:Int} (h:callOk k e=true):begun k e 0=⟨if k == 1 then 1 else 9,k,e,0,0,0,0,0,0,0,0,0,0,0⟩:=by
  have hk:k=1∨k=2:=by simp [callOk] at h;omega
  rcases hk with rfl|rfl <;> rfl
set_option maxRecDepth 100000 in
set_option maxHeartbeats 2000000 in
theorem called_any (h:Ha) (k e:Int) (w:World):Calls Try.prog 53 #[.agg (hvals h),.agg #[.int .i64 k,.int .i64 e]] w fun r w'=>r=.returned (.tuple #[.agg (hvals (called h k e).1),.int .i64 (called h k e).2])∧Below w.heap.size w w':=by
  by_cases h0:handOk h=true
  · by_cases h1:h.pos=0
    · by_cases h2:callOk k e=true
      · rw [show called h k e=(begun k e 0,0) by simp [called,h0,h1,h2]]
        rw [begun_of h2]
        have FA:=firstAt_any k e
        generalize (if k == 1 then (1:Int) else 9)=m at *
        have n1:(h.pos != 0)=false:=by simp [h1]
        clear h1
        go_enter Try.func53,Try.ntmps53
        go_wp2_with fail;refine bHit w (by exact zB) fun bb=>?_;refine (handOk_any h _).mono ?_;rintro _ w1 ⟨rfl,hbw1⟩;have hCw1:Below w.heap.size w w1:=bT bb hbw1;have hsw1:=hbw1.size;(try simp at hsw1);have zz:=And.intro (hQ hbw1 (b:=w.heap.size+1+1)) <| And.intro (hQ hbw1 (b:=w.heap.size+1)) <| hQ hbw1 (b:=w.heap.size);(try simp [go_sem] at zz);(try clear z_wpp x_wpp f_wpp l_wpp);(try clear z_wp x_wp f_wp l_wp);(try clear z_w x_w f_w l_w);obtain ⟨z_wpp,z_wp,z_w⟩:=zz;obtain ⟨x_wpp,f_wpp,l_wpp⟩:=bO z_wpp;obtain ⟨x_wp,f_wp,l_wp⟩:=bO z_wp;obtain ⟨x_w,f_w,l_w⟩:=bO z_w;clear hbw1 bb
        rw [h0]
        go_wp2_with fail;refine bHit w (by exact zB) fun bb=>?_;refine (callOk_any k e _).mono ?_;rintro _ w2 ⟨rfl,hbw2⟩;have hCw2:Below w.heap.size w w2:=bT bb hbw2;have hsw2:=hbw2.size;(try simp at hsw2);have zz:=And.intro (hQ hbw2 (b:=w.heap.size+1+1)) <| And.intro (hQ hbw2 (b:=w.heap.size+1)) <| hQ hbw2 (b:=w.heap.size);(first|simp [go_sem,z_wpp,z_wp,z_w,l_w,l_wp,l_wpp] at zz|simp [go_sem] at zz|skip);(try clear z_wpp x_wpp f_wpp l_wpp);(try clear z_wp x_wp f_wp l_wp);(try clear z_w x_w f_w l_w);obtain ⟨z_wpp,z_wp,z_w⟩:=zz;obtain ⟨x_wpp,f_wpp,l_wpp⟩:=bO z_wpp;obtain ⟨x_wp,f_wp,l_wp⟩:=bO z_wp;obtain ⟨x_w,f_w,l_w⟩:=bO z_w;clear hbw2 bb
        rw [h2]
        go_wp2_with fail
        go_region_held3 (fun w'=>w'.cell? ⟨w.heap.size+1,0,none⟩=some (.int .i64 k)∧w'.cell? ⟨w.heap.size+1,1,none⟩=some (.int .i64 e))
          (first|(simp [*,go_sem]))
          (first|(go_at_call 84;refine bHit w (by exact zB) fun bb=>?_;refine (FA _).mono ?_;rintro _ w3 ⟨rfl,hbw3⟩;have hCw3:Below w.heap.size w w3:=bT bb hbw3;have hsw3:=hbw3.size;(try simp at hsw3);have zz:=And.intro (hQ hbw3 (b:=w.heap.size+1+1)) <| And.intro (hQ hbw3 (b:=w.heap.size+1)) <| hQ hbw3 (b:=w.heap.size);(first|simp [go_sem,z_wpp,z_wp,z_w,l_w,l_wp,l_wpp] at zz|simp [go_sem] at zz|skip);(try clear z_wpp x_wpp f_wpp l_wpp);(try clear z_wp x_wp f_wp l_wp);(try clear z_w x_w f_w l_w);obtain ⟨z_wpp,z_wp,z_w⟩:=zz;obtain ⟨x_wpp,f_wpp,l_wpp⟩:=bO z_wpp;obtain ⟨x_wp,f_wp,l_wp⟩:=bO z_wp;obtain ⟨x_w,f_w,l_w⟩:=bO z_w;clear hbw3 bb))
        go_wp2
        exact bodyPost_ret (res_ct Try.results53 rfl (ldHand ⟨m,k,e,0,0,0,0,0,0,0,0,0,0,0⟩ (by simp [go_sem, *] <;> rfl))) rfl ⟨rfl,by exact zB⟩
      · have h2':callOk k e=false:=by simpa using h2
        rw [show called h k e=(h,2) by simp [called,h0,h1,h2']]
        have n1:(h.pos != 0)=false:=by simp [h1]
        clear h1 h2
        go_enter Try.func53,Try.ntmps53
        go_wp2_with fail;refine bHit w (by exact zB) fun bb=>?_;refine (handOk_any h _).mono ?_;rintro _ w1 ⟨rfl,hbw1⟩;have hCw1:Below w.heap.size w w1:=bT bb hbw1;have hsw1:=hbw1.size;(try simp at hsw1);have zz:=And.intro (hQ hbw1 (b:=w.heap.size+1+1)) <| And.intro (hQ hbw1 (b:=w.heap.size+1)) <| hQ hbw1 (b:=w.heap.size);(try simp [go_sem] at zz);(try clear z_wpp x_wpp f_wpp l_wpp);(try clear z_wp x_wp f_wp l_wp);(try clear z_w x_w f_w l_w);obtain ⟨z_wpp,z_wp,z_w⟩:=zz;obtain ⟨x_wpp,f_wpp,l_wpp⟩:=bO z_wpp;obtain ⟨x_wp,f_wp,l_wp⟩:=bO z_wp;obtain ⟨x_w,f_w,l_w⟩:=bO z_w;clear hbw1 bb
        rw [h0]
        go_wp2_with fail;refine bHit w (by exact zB) fun bb=>?_;refine (callOk_any k e _).mono ?_;rintro _ w2 ⟨rfl,hbw2⟩;have hCw2:Below w.heap.size w w2:=bT bb hbw2;have hsw2:=hbw2.size;(try simp at hsw2);have zz:=And.intro (hQ hbw2 (b:=w.heap.size+1+1)) <| And.intro (hQ hbw2 (b:=w.heap.size+1)) <| hQ hbw2 (b:=w.heap.size);(first|simp [go_sem,z_wpp,z_wp,z_w,l_w,l_wp,l_wpp] at zz|simp [go_sem] at zz|skip);(try clear z_wpp x_wpp f_wpp l_wpp);(try clear z_wp x_wp f_wp l_wp);(try clear z_w x_w f_w l_w);obtain ⟨z_wpp,z_wp,z_w⟩:=zz;obtain ⟨x_wpp,f_wpp,l_wpp⟩:=bO z_wpp;obtain ⟨x_wp,f_wp,l_wp⟩:=bO z_wp;obtain ⟨x_w,f_w,l_w⟩:=bO z_w;clear hbw2 bb
        rw [h2']
        go_wp2
        exact bodyPost_ret (res_ct Try.results53 rfl (ldHand h (by simp [go_sem, *]))) rfl ⟨rfl,by exact zB⟩
    · rw [show called h k e=(h,1) by simp [called,h0,h1]]
      have n1:(h.pos != 0)=true:=by simpa using h1
      clear h1
      go_enter Try.func53,Try.ntmps53
      go_wp2_with fail;refine bHit w (by exact zB) fun bb=>?_;refine (handOk_any h _).mono ?_;rintro _ w1 ⟨rfl,hbw1⟩;have hCw1:Below w.heap.size w w1:=bT bb hbw1;have hsw1:=hbw1.size;(try simp at hsw1);have zz:=And.intro (hQ hbw1 (b:=w.heap.size+1+1)) <| And.intro (hQ hbw1 (b:=w.heap.size+1)) <| hQ hbw1 (b:=w.heap.size);(try simp [go_sem] at zz);(try clear z_wpp x_wpp f_wpp l_wpp);(try clear z_wp x_wp f_wp l_wp);(try clear z_w x_w f_w l_w);obtain ⟨z_wpp,z_wp,z_w⟩:=zz;obtain ⟨x_wpp,f_wpp,l_wpp⟩:=bO z_wpp;obtain ⟨x_wp,f_wp,l_wp⟩:=bO z_wp;obtain ⟨x_w,f_w,l_w⟩:=bO z_w;clear hbw1 bb
      rw [h0]
      go_wp2
      exact bodyPost_ret (res_ct Try.results53 rfl (ldHand h (by simp [go_sem, *]))) rfl ⟨rfl,by exact zB⟩
  · have h0':handOk h=false:=by simpa using h0
    rw [show called h k e=(Ha.zero,3) by simp [called,h0']]
    clear h0
    go_enter Try.func53,Try.ntmps53
    go_wp2_with fail;refine bHit w (by exact zB) fun bb=>?_;refine (handOk_any h _).mono ?_;rintro _ w1 ⟨rfl,hbw1⟩;have hCw1:Below w.heap.size w w1:=bT bb hbw1;have hsw1:=hbw1.size;(try simp at hsw1);have zz:=And.intro (hQ hbw1 (b:=w.heap.size+1+1)) <| And.intro (hQ hbw1 (b:=w.heap.size+1)) <| hQ hbw1 (b:=w.heap.size);(try simp [go_sem] at zz);(try clear z_wpp x_wpp f_wpp l_wpp);(try clear z_wp x_wp f_wp l_wp);(try clear z_w x_w f_w l_w);obtain ⟨z_wpp,z_wp,z_w⟩:=zz;obtain ⟨x_wpp,f_wpp,l_wpp⟩:=bO z_wpp;obtain ⟨x_wp,f_wp,l_wp⟩:=bO z_wp;obtain ⟨x_w,f_w,l_w⟩:=bO z_w;clear hbw1 bb
    rw [h0']
    go_wp2
    exact bodyPost_ret (res_ct Try.results53 rfl (ldHand Ha.zero (by simp [go_sem, *]))) rfl ⟨rfl,by exact zB⟩
end Go.Proofs.Ytgpdocmclkpknaa
set_option linter.unusedSimpArgs false
set_option linter.unusedVariables false
namespace Go.Proofs.Ytgpdocmclkpknaa
open Go.RowKit
set_option linter.unusedSimpArgs false
attribute [local simp] bx_size
attribute [local go_sem ↓] zeroHand toLHand toVHand toSHand storeHandC
attribute [local go_sem] runSHand
end Go.Proofs.Ytgpdocmclkpknaa
set_option linter.unusedSimpArgs false
set_option linter.unusedVariables false
namespace Go.Proofs.Ytgpdocmclkpknaa
open Go.RowKit
set_option linter.unusedSimpArgs false
attribute [local simp] bx_size
attribute [local go_sem ↓] zeroHand toLHand toVHand toSHand storeHandC
attribute [local go_sem] runSHand
end Go.Proofs.Ytgpdocmclkpknaa
set_option linter.unusedSimpArgs false
set_option linter.unusedVariables false
namespace Go.Proofs.Ytgpdocmclkpknaa
open Go.RowKit
set_option linter.unusedSimpArgs false
attribute [local simp] bx_size
attribute [local go_sem ↓] zeroHand toLHand toVHand toSHand storeHandC
attribute [local go_sem] runSHand
set_option maxRecDepth 100000 in
set_option maxHeartbeats 4000000 in
theorem asked_no1 (x:Wo) (who kk ee:Int) (a b d e:Option Addr) (p q r s:Nat) (w:World) (h1:Seg w w.heap.size a x.ch.cells.length 3 (cellF x.ch.cells)) (z1:a=none→p=0) (h2:Seg w w.heap.size b x.ch.words.length 1 (intF x.ch.words)) (z2:b=none→q=0) (h3:Seg w w.heap.size d x.hands.length 14 (handF x.hands)) (z3:d=none→x.hands.length=0∧r=0) (h4:Seg w w.heap.size e x.deals.length 7 (dealF x.deals)) (z4:e=none→x.deals.length=0∧s=0) (m1:x.ch.cells.length≤1099511627776) (m2:x.ch.words.length≤1099511627776) (m3:x.hands.length≤1099511627776) (m4:x.deals.length≤1099511627776) (hk:worldOk x=false) :
    Calls Try.prog 15 #[.agg #[.int .i64 x.ch.cap,.int .i64 x.ch.sent,.int .i64 x.ch.got,.int .i64 x.ch.fin,.slice a x.ch.cells.length p,.slice b x.ch.words.length q,.slice d x.hands.length r,.slice e x.deals.length s,.int .i64 x.now],.int .i64 who,.agg #[.int .i64 kk,.int .i64 ee]] w fun r w'=>WordR w w' (asked x who kk ee).1 (.int .i64 (asked x who kk ee).2) r:=by
  have e0:asked x who kk ee=(Wo.zero,3):=by simp [asked,hk]
  rw [e0]
  have H1:=Lib.hid h1
  have H2:=Lib.hid h2
  have H3:=Lib.hid h3
  have H4:=Lib.hid h4
  have Z1:=Lib.hid z1
  have Z2:=Lib.hid z2
  have Z3:=Lib.hid z3
  have Z4:=Lib.hid z4
  clear h1 h2 h3 h4 z1 z2 z3 z4
  clear e0
  go_enter Try.func15,Try.ntmps15
  go_wp2_with fail;refine bHit w (by exact zB) fun bb=>?_;refine (sWorldOk_any x a b d e p q r s _ ((H1.out.below bb).more bb.size) ((H2.out.below bb).more bb.size) ((H3.out.below bb).more bb.size) ((H4.out.below bb).more bb.size) m3 m4).mono ?_;rintro _ w1 ⟨rfl,hbw1⟩;have hCw1:Below w.heap.size w w1:=bT bb hbw1;have hsw1:=hbw1.size;(try simp at hsw1);have zz:=And.intro (fun o=>hbw1.cell (p:=⟨w.heap.size+1+1,o,none⟩) (by (try simp) <;> omega)) <| And.intro (fun o=>hbw1.frozen (p:=⟨w.heap.size+1+1,o,none⟩) (by (try simp) <;> omega)) <| And.intro (fun o=>hbw1.cell (p:=⟨w.heap.size+1,o,none⟩) (by (try simp) <;> omega)) <| And.intro (fun o=>hbw1.frozen (p:=⟨w.heap.size+1,o,none⟩) (by (try simp) <;> omega)) <| And.intro (fun o=>hbw1.cell (p:=⟨w.heap.size,o,none⟩) (by (try simp) <;> omega)) <| fun o=>hbw1.frozen (p:=⟨w.heap.size,o,none⟩) (by (try simp) <;> omega);(try simp [go_sem] at zz);(try clear x_wpp f_wpp);(try clear x_wp f_wp);(try clear x_w f_w);obtain ⟨x_wpp,f_wpp,x_wp,f_wp,x_w,f_w⟩:=zz;(try clear l_wpp);have l_wpp:w.heap.size+1+1<w1.heap.size:=(by omega);(try clear l_wp);have l_wp:w.heap.size+1<w1.heap.size:=(by omega);(try clear l_w);have l_w:w.heap.size<w1.heap.size:=(by omega);clear hbw1 bb
  rw [hk]
  go_wp2
  exact bodyPost_ret (v:=.tuple #[.agg #[.int .i64 Wo.zero.ch.cap,.int .i64 Wo.zero.ch.sent,.int .i64 Wo.zero.ch.got,.int .i64 Wo.zero.ch.fin,.slice none 0 0,.slice none 0 0,.slice none 0 0,.slice none 0 0,.int .i64 Wo.zero.now],.int .i64 3]) (by simp [results,Try.results15,go_sem,Wo.zero,Ch.zero, *]) rfl ⟨⟨_,_,_,_,rfl,wown_zero _ _⟩,by exact zB⟩
set_option maxRecDepth 100000 in
set_option maxHeartbeats 4000000 in
theorem asked_no2 (x:Wo) (who kk ee:Int) (a b d e:Option Addr) (p q r s:Nat) (w:World) (h1:Seg w w.heap.size a x.ch.cells.length 3 (cellF x.ch.cells)) (z1:a=none→p=0) (h2:Seg w w.heap.size b x.ch.words.length 1 (intF x.ch.words)) (z2:b=none→q=0) (h3:Seg w w.heap.size d x.hands.length 14 (handF x.hands)) (z3:d=none→x.hands.length=0∧r=0) (h4:Seg w w.heap.size e x.deals.length 7 (dealF x.deals)) (z4:e=none→x.deals.length=0∧s=0) (m1:x.ch.cells.length≤1099511627776) (m2:x.ch.words.length≤1099511627776) (m3:x.hands.length≤1099511627776) (m4:x.deals.length≤1099511627776) (hk:worldOk x=true) (ht:taskOk x who=false) :
    Calls Try.prog 15 #[.agg #[.int .i64 x.ch.cap,.int .i64 x.ch.sent,.int .i64 x.ch.got,.int .i64 x.ch.fin,.slice a x.ch.cells.length p,.slice b x.ch.words.length q,.slice d x.hands.length r,.slice e x.deals.length s,.int .i64 x.now],.int .i64 who,.agg #[.int .i64 kk,.int .i64 ee]] w fun r w'=>WordR w w' (asked x who kk ee).1 (.int .i64 (asked x who kk ee).2) r:=by
  have e0:asked x who kk ee=(Wo.zero,3):=by simp [asked,hk,ht]
  rw [e0]
  have H1:=Lib.hid h1
  have H2:=Lib.hid h2
  have H3:=Lib.hid h3
  have H4:=Lib.hid h4
  have Z1:=Lib.hid z1
  have Z2:=Lib.hid z2
  have Z3:=Lib.hid z3
  have Z4:=Lib.hid z4
  clear h1 h2 h3 h4 z1 z2 z3 z4
  clear e0
  have ht2:taskB x.hands.length who=false:=ht
  clear ht
  go_enter Try.func15,Try.ntmps15
  go_wp2_with fail;refine bHit w (by exact zB) fun bb=>?_;refine (sWorldOk_any x a b d e p q r s _ ((H1.out.below bb).more bb.size) ((H2.out.below bb).more bb.size) ((H3.out.below bb).more bb.size) ((H4.out.below bb).more bb.size) m3 m4).mono ?_;rintro _ w1 ⟨rfl,hbw1⟩;have hCw1:Below w.heap.size w w1:=bT bb hbw1;have hsw1:=hbw1.size;(try simp at hsw1);have zz:=And.intro (fun o=>hbw1.cell (p:=⟨w.heap.size+1+1,o,none⟩) (by (try simp) <;> omega)) <| And.intro (fun o=>hbw1.frozen (p:=⟨w.heap.size+1+1,o,none⟩) (by (try simp) <;> omega)) <| And.intro (fun o=>hbw1.cell (p:=⟨w.heap.size+1,o,none⟩) (by (try simp) <;> omega)) <| And.intro (fun o=>hbw1.frozen (p:=⟨w.heap.size+1,o,none⟩) (by (try simp) <;> omega)) <| And.intro (fun o=>hbw1.cell (p:=⟨w.heap.size,o,none⟩) (by (try simp) <;> omega)) <| fun o=>hbw1.frozen (p:=⟨w.heap.size,o,none⟩) (by (try simp) <;> omega);(try simp [go_sem] at zz);(try clear x_wpp f_wpp);(try clear x_wp f_wp);(try clear x_w f_w);obtain ⟨x_wpp,f_wpp,x_wp,f_wp,x_w,f_w⟩:=zz;(try clear l_wpp);have l_wpp:w.heap.size+1+1<w1.heap.size:=(by omega);(try clear l_wp);have l_wp:w.heap.size+1<w1.heap.size:=(by omega);(try clear l_w);have l_w:w.heap.size<w1.heap.size:=(by omega);clear hbw1 bb
  rw [hk]
  go_wp2_with fail;refine bHit w (by exact zB) fun bb=>?_;refine (l11Task_any x.ch x.hands.length x.now who _ _ _ _ _ _ _ _ _ _ _ m3 _).mono ?_;rintro _ w2 ⟨rfl,hbw2⟩;have hCw2:Below w.heap.size w w2:=bT bb hbw2;have hsw2:=hbw2.size;(try simp at hsw2);have zz:=And.intro (fun o=>hbw2.cell (p:=⟨w.heap.size+1+1,o,none⟩) (by (try simp) <;> omega)) <| And.intro (fun o=>hbw2.frozen (p:=⟨w.heap.size+1+1,o,none⟩) (by (try simp) <;> omega)) <| And.intro (fun o=>hbw2.cell (p:=⟨w.heap.size+1,o,none⟩) (by (try simp) <;> omega)) <| And.intro (fun o=>hbw2.frozen (p:=⟨w.heap.size+1,o,none⟩) (by (try simp) <;> omega)) <| And.intro (fun o=>hbw2.cell (p:=⟨w.heap.size,o,none⟩) (by (try simp) <;> omega)) <| fun o=>hbw2.frozen (p:=⟨w.heap.size,o,none⟩) (by (try simp) <;> omega);(first|simp [go_sem,x_wpp,f_wpp,x_wp,f_wp,x_w,f_w,l_w,l_wp,l_wpp] at zz|simp [go_sem,x_wpp,x_wp,x_w,l_w,l_wp,l_wpp] at zz|simp [go_sem] at zz|skip);(try clear x_wpp f_wpp);(try clear x_wp f_wp);(try clear x_w f_w);obtain ⟨x_wpp,f_wpp,x_wp,f_wp,x_w,f_w⟩:=zz;(try clear l_wpp);have l_wpp:w.heap.size+1+1<w2.heap.size:=(by omega);(try clear l_wp);have l_wp:w.heap.size+1<w2.heap.size:=(by omega);(try clear l_w);have l_w:w.heap.size<w2.heap.size:=(by omega);clear hbw2 bb
  rw [ht2]
  go_wp2
  exact bodyPost_ret (v:=.tuple #[.agg #[.int .i64 Wo.zero.ch.cap,.int .i64 Wo.zero.ch.sent,.int .i64 Wo.zero.ch.got,.int .i64 Wo.zero.ch.fin,.slice none 0 0,.slice none 0 0,.slice none 0 0,.slice none 0 0,.int .i64 Wo.zero.now],.int .i64 3]) (by simp [results,Try.results15,go_sem,Wo.zero,Ch.zero, *]) rfl ⟨⟨_,_,_,_,rfl,wown_zero _ _⟩,by exact zB⟩
set_option maxRecDepth 100000 in
set_option maxHeartbeats 4000000 in
theorem asked_code (x:Wo) (who kk ee:Int) (a b d e:Option Addr) (p q r s:Nat) (w:World) (h1:Seg w w.heap.size a x.ch.cells.length 3 (cellF x.ch.cells)) (z1:a=none→p=0) (h2:Seg w w.heap.size b x.ch.words.length 1 (intF x.ch.words)) (z2:b=none→q=0) (h3:Seg w w.heap.size d x.hands.length 14 (handF x.hands)) (z3:d=none→x.hands.length=0∧r=0) (h4:Seg w w.heap.size e x.deals.length 7 (dealF x.deals)) (z4:e=none→x.deals.length=0∧s=0) (m1:x.ch.cells.length≤1099511627776) (m2:x.ch.words.length≤1099511627776) (m3:x.hands.length≤1099511627776) (m4:x.deals.length≤1099511627776) (hk:worldOk x=true) (ht:taskOk x who=true) (hc:((called (handAt x who) kk ee).2 != 0)=true) :
    Calls Try.prog 15 #[.agg #[.int .i64 x.ch.cap,.int .i64 x.ch.sent,.int .i64 x.ch.got,.int .i64 x.ch.fin,.slice a x.ch.cells.length p,.slice b x.ch.words.length q,.slice d x.hands.length r,.slice e x.deals.length s,.int .i64 x.now],.int .i64 who,.agg #[.int .i64 kk,.int .i64 ee]] w fun r w'=>WordR w w' (asked x who kk ee).1 (.int .i64 (asked x who kk ee).2) r:=by
  have H1:=Lib.hid h1
  have H2:=Lib.hid h2
  have H3:=Lib.hid h3
  have H4:=Lib.hid h4
  have Z1:=Lib.hid z1
  have Z2:=Lib.hid z2
  have Z3:=Lib.hid z3
  have Z4:=Lib.hid z4
  clear h1 h2 h3 h4 z1 z2 z3 z4
  obtain ⟨i,rfl⟩:∃ i:Nat,who=(i:Int):=⟨who.toNat,by simp [taskOk,taskB,inB] at ht;omega⟩
  have hi:i<x.hands.length:=by simp [taskOk,taskB,inB] at ht;omega
  obtain ⟨b3,o3,rfl,hb3,hc3⟩:∃ b o,d=some ⟨b,o,none⟩∧b<w.heap.size∧Hid (∀ i j,i<x.hands.length→j<14→w.cell? ⟨b,o+i*14+j,none⟩=some (handF x.hands i j)):=by
    rcases H3.out with h0|h0
    · omega
    · exact h0
  have hLd:∀ W:World,hp W b3=hp w b3→(LHand (.pointer (some ⟨b3,o3+i*14,none⟩))).run Try.prog W=.ok (.agg (hvals (handAt x i))) W:=fun W e=>ldHandE _ fun j hj=>by rw [show (hvals (handAt x i)).getD j (.int .i64 0)=handF x.hands i j by simp [handF,handAt],← hc3.out i j hi hj];exact World.cell?_of_block e
  have hi0:(0:Int)≤(i:Int):=by omega
  have hi1:(i:Int)<(x.hands.length:Int):=by omega
  have e0:asked x i kk ee=(x,(called (handAt x i) kk ee).2):=by simp at hc;simp [asked,hk,ht,hc]
  rw [e0]
  have ht2:taskB x.hands.length i=true:=ht
  clear e0 ht
  go_enter Try.func15,Try.ntmps15
  go_wp2_with fail;refine bHit w (by exact zB) fun bb=>?_;refine (sWorldOk_any x a b _ e p q r s _ ((H1.out.below bb).more bb.size) ((H2.out.below bb).more bb.size) ((H3.out.below bb).more bb.size) ((H4.out.below bb).more bb.size) m3 m4).mono ?_;rintro _ w1 ⟨rfl,hbw1⟩;have hCw1:Below w.heap.size w w1:=bT bb hbw1;have hsw1:=hbw1.size;(try simp at hsw1);have zz:=And.intro (fun o=>hbw1.cell (p:=⟨w.heap.size+1+1,o,none⟩) (by (try simp) <;> omega)) <| And.intro (fun o=>hbw1.frozen (p:=⟨w.heap.size+1+1,o,none⟩) (by (try simp) <;> omega)) <| And.intro (fun o=>hbw1.cell (p:=⟨w.heap.size+1,o,none⟩) (by (try simp) <;> omega)) <| And.intro (fun o=>hbw1.frozen (p:=⟨w.heap.size+1,o,none⟩) (by (try simp) <;> omega)) <| And.intro (fun o=>hbw1.cell (p:=⟨w.heap.size,o,none⟩) (by (try simp) <;> omega)) <| fun o=>hbw1.frozen (p:=⟨w.heap.size,o,none⟩) (by (try simp) <;> omega);(try simp [go_sem] at zz);(try clear x_wpp f_wpp);(try clear x_wp f_wp);(try clear x_w f_w);obtain ⟨x_wpp,f_wpp,x_wp,f_wp,x_w,f_w⟩:=zz;(try clear l_wpp);have l_wpp:w.heap.size+1+1<w1.heap.size:=(by omega);(try clear l_wp);have l_wp:w.heap.size+1<w1.heap.size:=(by omega);(try clear l_w);have l_w:w.heap.size<w1.heap.size:=(by omega);clear hbw1 bb
  rw [hk]
  go_wp2_with fail;refine bHit w (by exact zB) fun bb=>?_;refine (l11Task_any x.ch x.hands.length x.now i _ _ _ _ _ _ _ _ _ _ _ m3 _).mono ?_;rintro _ w2 ⟨rfl,hbw2⟩;have hCw2:Below w.heap.size w w2:=bT bb hbw2;have hsw2:=hbw2.size;(try simp at hsw2);have zz:=And.intro (fun o=>hbw2.cell (p:=⟨w.heap.size+1+1,o,none⟩) (by (try simp) <;> omega)) <| And.intro (fun o=>hbw2.frozen (p:=⟨w.heap.size+1+1,o,none⟩) (by (try simp) <;> omega)) <| And.intro (fun o=>hbw2.cell (p:=⟨w.heap.size+1,o,none⟩) (by (try simp) <;> omega)) <| And.intro (fun o=>hbw2.frozen (p:=⟨w.heap.size+1,o,none⟩) (by (try simp) <;> omega)) <| And.intro (fun o=>hbw2.cell (p:=⟨w.heap.size,o,none⟩) (by (try simp) <;> omega)) <| fun o=>hbw2.frozen (p:=⟨w.heap.size,o,none⟩) (by (try simp) <;> omega);(first|simp [go_sem,x_wpp,f_wpp,x_wp,f_wp,x_w,f_w,l_w,l_wp,l_wpp] at zz|simp [go_sem,x_wpp,x_wp,x_w,l_w,l_wp,l_wpp] at zz|simp [go_sem] at zz|skip);(try clear x_wpp f_wpp);(try clear x_wp f_wp);(try clear x_w f_w);obtain ⟨x_wpp,f_wpp,x_wp,f_wp,x_w,f_w⟩:=zz;(try clear l_wpp);have l_wpp:w.heap.size+1+1<w2.heap.size:=(by omega);(try clear l_wp);have l_wp:w.heap.size+1<w2.heap.size:=(by omega);(try clear l_w);have l_w:w.heap.size<w2.heap.size:=(by omega);clear hbw2 bb
  rw [ht2]
  go_wp2_with fail;refine bHit w (by exact zB) fun bb=>?_;refine (l11Copy_any x a b _ e p q r s _ ((H1.out.below bb).more bb.size) Z1.out ((H2.out.below bb).more bb.size) Z2.out ((H3.out.below bb).more bb.size) Z3.out ((H4.out.below bb).more bb.size) Z4.out m1 m2 m3 m4).mono ?_;rintro _ w3 ⟨⟨v1,v2,v3,v4,rfl,o1,o2,o3x,o4⟩,hbw3⟩;have hCw3:Below w.heap.size w w3:=bT bb hbw3;have hsw3:=hbw3.size;(try simp at hsw3);have zz:=And.intro (fun o=>hbw3.cell (p:=⟨w.heap.size+1+1,o,none⟩) (by (try simp) <;> omega)) <| And.intro (fun o=>hbw3.frozen (p:=⟨w.heap.size+1+1,o,none⟩) (by (try simp) <;> omega)) <| And.intro (fun o=>hbw3.cell (p:=⟨w.heap.size+1,o,none⟩) (by (try simp) <;> omega)) <| And.intro (fun o=>hbw3.frozen (p:=⟨w.heap.size+1,o,none⟩) (by (try simp) <;> omega)) <| And.intro (fun o=>hbw3.cell (p:=⟨w.heap.size,o,none⟩) (by (try simp) <;> omega)) <| fun o=>hbw3.frozen (p:=⟨w.heap.size,o,none⟩) (by (try simp) <;> omega);(first|simp [go_sem,x_wpp,f_wpp,x_wp,f_wp,x_w,f_w,l_w,l_wp,l_wpp] at zz|simp [go_sem,x_wpp,x_wp,x_w,l_w,l_wp,l_wpp] at zz|simp [go_sem] at zz|skip);(try clear x_wpp f_wpp);(try clear x_wp f_wp);(try clear x_w f_w);obtain ⟨x_wpp,f_wpp,x_wp,f_wp,x_w,f_w⟩:=zz;(try clear l_wpp);have l_wpp:w.heap.size+1+1<w3.heap.size:=(by omega);(try clear l_wp);have l_wp:w.heap.size+1<w3.heap.size:=(by omega);(try clear l_w);have l_w:w.heap.size<w3.heap.size:=(by omega);clear hbw3 bb
  try simp at o1 o2 o3x o4
  have O1:=Lib.hid o1
  have O2:=Lib.hid o2
  have O3:=Lib.hid o3x
  have O4:=Lib.hid o4
  obtain ⟨va,vc,rfl,_⟩:=OCells.seg o1
  obtain ⟨vb,vd,rfl,_⟩:=OInts.seg o2
  obtain ⟨vf,vg,rfl,_⟩:=OHands.seg o3x
  obtain ⟨vh,vi,rfl,_⟩:=ODeals.seg o4
  clear o1 o2 o3x o4
  have z3:hp w3 b3=hp w b3:=hCw3.block b3 hb3
  have lb3:b3<w3.heap.size:=by omega
  have nb3:b3≠w3.heap.size:=by omega
  have k0:w.heap.size<w3.heap.size:=by omega
  have k1:w.heap.size+1<w3.heap.size:=by omega
  have k2:w.heap.size+1+1<w3.heap.size:=by omega
  have lb4:b3<w3.heap.size+1:=by omega
  have nb4:b3≠w3.heap.size+1:=by omega
  go_wp2_with fail
  go_region_held3 (fun w'=>w'.cell? ⟨w.heap.size,6,none⟩=some (.slice (some ⟨b3,o3,none⟩) x.hands.length r)∧hp w' b3=hp w b3∧w'.cell? ⟨w.heap.size+1,0,none⟩=some (.int .i64 kk)∧w'.cell? ⟨w.heap.size+1,1,none⟩=some (.int .i64 ee))
    (first|(simp [*,go_sem]))
    (first|(go_at_call 50;refine (sCalled_any (handAt x i) kk ee _).mono ?_;rintro _ w4 ⟨rfl,hb4⟩;have hC4:Below w.heap.size w w4:=bT (by exact zB) hb4;have hK4:Below w3.heap.size w3 w4:=bT (by exact zB) hb4;have hs4:=hb4.size;(try simp at hs4);have x4:=fun o=>hb4.cell (p:=⟨w.heap.size,o,none⟩) (by ((try simp) <;> (try omega)));have xx4:=fun o=>hb4.cell (p:=⟨w.heap.size+1,o,none⟩) (by ((try simp) <;> (try omega)));have y4:=fun o=>hb4.cell (p:=⟨w.heap.size+1+1,o,none⟩) (by ((try simp) <;> (try omega)));have yf4:=fun o=>hb4.frozen (p:=⟨w.heap.size+1+1,o,none⟩) (by ((try simp) <;> (try omega)));have v4:=fun o=>hb4.cell (p:=⟨w3.heap.size,o,none⟩) (by ((try simp) <;> (try omega)));have vf4:=fun o=>hb4.frozen (p:=⟨w3.heap.size,o,none⟩) (by ((try simp) <;> (try omega)));have t4:=fun o=>hb4.cell (p:=⟨w3.heap.size+1,o,none⟩);have tf4:=fun o=>hb4.frozen (p:=⟨w3.heap.size+1,o,none⟩);have tz4:=hpB hb4 (b:=w3.heap.size+1);have zb4:hp w4 b3=hp w b3:=hC4.block b3 hb3;(simp [go_sem,x_w,l_w,k0] at x4);(simp [go_sem,x_wp,l_wp,k1] at xx4);(simp [go_sem,x_wpp,l_wpp,k2] at y4);(simp [go_sem,f_wpp,l_wpp,k2] at yf4);(simp [go_sem] at v4);(simp [go_sem] at vf4);(try simp [go_sem] at t4);(try simp [go_sem] at tf4);(try simp [go_sem] at tz4);have n0:w.heap.size<w4.heap.size:=(by omega);have n1:w.heap.size+1<w4.heap.size:=(by omega);have n12:w.heap.size+1+1<w4.heap.size:=(by omega);have n2:w3.heap.size<w4.heap.size:=(by omega);have n3:b3<w4.heap.size:=(by omega);have n4:b3≠w4.heap.size:=(by omega)))
  all_goals go_wp2
  all_goals (have o1:=own_below O1.out hK4;have o2:=own_below O2.out hK4;have o3:=own_below O3.out hK4;have o4:=own_below O4.out hK4;have q1:=O1.out;have q2:=O2.out;have q3:=O3.out;have q4:=O4.out;have p1:=own_lo (lo':=w.heap.size) o1 (by omega);have p2:=own_lo (lo':=w.heap.size) o2 (by omega);have p3:=own_lo (lo':=w.heap.size) o3 (by omega);have p4:=own_lo (lo':=w.heap.size) o4 (by omega))
  all_goals (refine bodyPost_ret (v:=.tuple #[.agg #[.int .i64 x.ch.cap,.int .i64 x.ch.sent,.int .i64 x.ch.got,.int .i64 x.ch.fin,.slice va x.ch.cells.length vc,.slice vb x.ch.words.length vd,.slice vf x.hands.length vg,.slice vh x.deals.length vi,.int .i64 (x.now)],.int .i64 (called (handAt x i) kk ee).2]) (by simp [results,Try.results15,go_sem, *]) rfl ⟨⟨_,_,_,_,rfl,?_,?_,?_,?_⟩,by exact zB⟩)
  all_goals first|((repeat first|with_reducible exact p1|with_reducible refine oAl ?_ _|with_reducible refine oDr ?_|((with_reducible first|refine own_store ?_ ?_ _|refine own_box ?_ ?_);rotate_left;focus first|(refine own_ne q1 ?_;(try dsimp only);omega)|(refine own_ne' q1 ?_;(try dsimp only);omega)));done)|skip
  all_goals first|((repeat first|with_reducible exact p2|with_reducible refine oAl ?_ _|with_reducible refine oDr ?_|((with_reducible first|refine own_store ?_ ?_ _|refine own_box ?_ ?_);rotate_left;focus first|(refine own_ne q2 ?_;(try dsimp only);omega)|(refine own_ne' q2 ?_;(try dsimp only);omega)));done)|skip
  all_goals first|((repeat first|with_reducible exact p3|with_reducible refine oAl ?_ _|with_reducible refine oDr ?_|((with_reducible first|refine own_store ?_ ?_ _|refine own_box ?_ ?_);rotate_left;focus first|(refine own_ne q3 ?_;(try dsimp only);omega)|(refine own_ne' q3 ?_;(try dsimp only);omega)));done)|skip
  all_goals first|((repeat first|with_reducible exact p4|with_reducible refine oAl ?_ _|with_reducible refine oDr ?_|((with_reducible first|refine own_store ?_ ?_ _|refine own_box ?_ ?_);rotate_left;focus first|(refine own_ne q4 ?_;(try dsimp only);omega)|(refine own_ne' q4 ?_;(try dsimp only);omega)));done)|skip
set_option maxRecDepth 100000 in
set_option maxHeartbeats 4000000 in
theorem asked_busy (x:Wo) (who kk ee:Int) (a b d e:Option Addr) (p q r s:Nat) (w:World) (h1:Seg w w.heap.size a x.ch.cells.length 3 (cellF x.ch.cells)) (z1:a=none→p=0) (h2:Seg w w.heap.size b x.ch.words.length 1 (intF x.ch.words)) (z2:b=none→q=0) (h3:Seg w w.heap.size d x.hands.length 14 (handF x.hands)) (z3:d=none→x.hands.length=0∧r=0) (h4:Seg w w.heap.size e x.deals.length 7 (dealF x.deals)) (z4:e=none→x.deals.length=0∧s=0) (m1:x.ch.cells.length≤1099511627776) (m2:x.ch.words.length≤1099511627776) (m3:x.hands.length≤1099511627776) (m4:x.deals.length≤1099511627776) (hk:worldOk x=true) (ht:taskOk x who=true) (hc:((called (handAt x who) kk ee).2 != 0)=false) (hn:(x.now == 20000)=true) :
    Calls Try.prog 15 #[.agg #[.int .i64 x.ch.cap,.int .i64 x.ch.sent,.int .i64 x.ch.got,.int .i64 x.ch.fin,.slice a x.ch.cells.length p,.slice b x.ch.words.length q,.slice d x.hands.length r,.slice e x.deals.length s,.int .i64 x.now],.int .i64 who,.agg #[.int .i64 kk,.int .i64 ee]] w fun r w'=>WordR w w' (asked x who kk ee).1 (.int .i64 (asked x who kk ee).2) r:=by
  have H1:=Lib.hid h1
  have H2:=Lib.hid h2
  have H3:=Lib.hid h3
  have H4:=Lib.hid h4
  have Z1:=Lib.hid z1
  have Z2:=Lib.hid z2
  have Z3:=Lib.hid z3
  have Z4:=Lib.hid z4
  clear h1 h2 h3 h4 z1 z2 z3 z4
  obtain ⟨i,rfl⟩:∃ i:Nat,who=(i:Int):=⟨who.toNat,by simp [taskOk,taskB,inB] at ht;omega⟩
  have hi:i<x.hands.length:=by simp [taskOk,taskB,inB] at ht;omega
  obtain ⟨b3,o3,rfl,hb3,hc3⟩:∃ b o,d=some ⟨b,o,none⟩∧b<w.heap.size∧Hid (∀ i j,i<x.hands.length→j<14→w.cell? ⟨b,o+i*14+j,none⟩=some (handF x.hands i j)):=by
    rcases H3.out with h0|h0
    · omega
    · exact h0
  have hLd:∀ W:World,hp W b3=hp w b3→(LHand (.pointer (some ⟨b3,o3+i*14,none⟩))).run Try.prog W=.ok (.agg (hvals (handAt x i))) W:=fun W e=>ldHandE _ fun j hj=>by rw [show (hvals (handAt x i)).getD j (.int .i64 0)=handF x.hands i j by simp [handF,handAt],← hc3.out i j hi hj];exact World.cell?_of_block e
  have hi0:(0:Int)≤(i:Int):=by omega
  have hi1:(i:Int)<(x.hands.length:Int):=by omega
  have e0:asked x i kk ee=(x,1):=by simp at hc hn;simp [asked,hk,ht,hc,hn]
  rw [e0]
  have ht2:taskB x.hands.length i=true:=ht
  clear e0 ht
  go_enter Try.func15,Try.ntmps15
  go_wp2_with fail;refine bHit w (by exact zB) fun bb=>?_;refine (sWorldOk_any x a b _ e p q r s _ ((H1.out.below bb).more bb.size) ((H2.out.below bb).more bb.size) ((H3.out.below bb).more bb.size) ((H4.out.below bb).more bb.size) m3 m4).mono ?_;rintro _ w1 ⟨rfl,hbw1⟩;have hCw1:Below w.heap.size w w1:=bT bb hbw1;have hsw1:=hbw1.size;(try simp at hsw1);have zz:=And.intro (fun o=>hbw1.cell (p:=⟨w.heap.size+1+1,o,none⟩) (by (try simp) <;> omega)) <| And.intro (fun o=>hbw1.frozen (p:=⟨w.heap.size+1+1,o,none⟩) (by (try simp) <;> omega)) <| And.intro (fun o=>hbw1.cell (p:=⟨w.heap.size+1,o,none⟩) (by (try simp) <;> omega)) <| And.intro (fun o=>hbw1.frozen (p:=⟨w.heap.size+1,o,none⟩) (by (try simp) <;> omega)) <| And.intro (fun o=>hbw1.cell (p:=⟨w.heap.size,o,none⟩) (by (try simp) <;> omega)) <| fun o=>hbw1.frozen (p:=⟨w.heap.size,o,none⟩) (by (try simp) <;> omega);(try simp [go_sem] at zz);(try clear x_wpp f_wpp);(try clear x_wp f_wp);(try clear x_w f_w);obtain ⟨x_wpp,f_wpp,x_wp,f_wp,x_w,f_w⟩:=zz;(try clear l_wpp);have l_wpp:w.heap.size+1+1<w1.heap.size:=(by omega);(try clear l_wp);have l_wp:w.heap.size+1<w1.heap.size:=(by omega);(try clear l_w);have l_w:w.heap.size<w1.heap.size:=(by omega);clear hbw1 bb
  rw [hk]
  go_wp2_with fail;refine bHit w (by exact zB) fun bb=>?_;refine (l11Task_any x.ch x.hands.length x.now i _ _ _ _ _ _ _ _ _ _ _ m3 _).mono ?_;rintro _ w2 ⟨rfl,hbw2⟩;have hCw2:Below w.heap.size w w2:=bT bb hbw2;have hsw2:=hbw2.size;(try simp at hsw2);have zz:=And.intro (fun o=>hbw2.cell (p:=⟨w.heap.size+1+1,o,none⟩) (by (try simp) <;> omega)) <| And.intro (fun o=>hbw2.frozen (p:=⟨w.heap.size+1+1,o,none⟩) (by (try simp) <;> omega)) <| And.intro (fun o=>hbw2.cell (p:=⟨w.heap.size+1,o,none⟩) (by (try simp) <;> omega)) <| And.intro (fun o=>hbw2.frozen (p:=⟨w.heap.size+1,o,none⟩) (by (try simp) <;> omega)) <| And.intro (fun o=>hbw2.cell (p:=⟨w.heap.size,o,none⟩) (by (try simp) <;> omega)) <| fun o=>hbw2.frozen (p:=⟨w.heap.size,o,none⟩) (by (try simp) <;> omega);(first|simp [go_sem,x_wpp,f_wpp,x_wp,f_wp,x_w,f_w,l_w,l_wp,l_wpp] at zz|simp [go_sem,x_wpp,x_wp,x_w,l_w,l_wp,l_wpp] at zz|simp [go_sem] at zz|skip);(try clear x_wpp f_wpp);(try clear x_wp f_wp);(try clear x_w f_w);obtain ⟨x_wpp,f_wpp,x_wp,f_wp,x_w,f_w⟩:=zz;(try clear l_wpp);have l_wpp:w.heap.size+1+1<w2.heap.size:=(by omega);(try clear l_wp);have l_wp:w.heap.size+1<w2.heap.size:=(by omega);(try clear l_w);have l_w:w.heap.size<w2.heap.size:=(by omega);clear hbw2 bb
  rw [ht2]
  go_wp2_with fail;refine bHit w (by exact zB) fun bb=>?_;refine (l11Copy_any x a b _ e p q r s _ ((H1.out.below bb).more bb.size) Z1.out ((H2.out.below bb).more bb.size) Z2.out ((H3.out.below bb).more bb.size) Z3.out ((H4.out.below bb).more bb.size) Z4.out m1 m2 m3 m4).mono ?_;rintro _ w3 ⟨⟨v1,v2,v3,v4,rfl,o1,o2,o3x,o4⟩,hbw3⟩;have hCw3:Below w.heap.size w w3:=bT bb hbw3;have hsw3:=hbw3.size;(try simp at hsw3);have zz:=And.intro (fun o=>hbw3.cell (p:=⟨w.heap.size+1+1,o,none⟩) (by (try simp) <;> omega)) <| And.intro (fun o=>hbw3.frozen (p:=⟨w.heap.size+1+1,o,none⟩) (by (try simp) <;> omega)) <| And.intro (fun o=>hbw3.cell (p:=⟨w.heap.size+1,o,none⟩) (by (try simp) <;> omega)) <| And.intro (fun o=>hbw3.frozen (p:=⟨w.heap.size+1,o,none⟩) (by (try simp) <;> omega)) <| And.intro (fun o=>hbw3.cell (p:=⟨w.heap.size,o,none⟩) (by (try simp) <;> omega)) <| fun o=>hbw3.frozen (p:=⟨w.heap.size,o,none⟩) (by (try simp) <;> omega);(first|simp [go_sem,x_wpp,f_wpp,x_wp,f_wp,x_w,f_w,l_w,l_wp,l_wpp] at zz|simp [go_sem,x_wpp,x_wp,x_w,l_w,l_wp,l_wpp] at zz|simp [go_sem] at zz|skip);(try clear x_wpp f_wpp);(try clear x_wp f_wp);(try clear x_w f_w);obtain ⟨x_wpp,f_wpp,x_wp,f_wp,x_w,f_w⟩:=zz;(try clear l_wpp);have l_wpp:w.heap.size+1+1<w3.heap.size:=(by omega);(try clear l_wp);have l_wp:w.heap.size+1<w3.heap.size:=(by omega);(try clear l_w);have l_w:w.heap.size<w3.heap.size:=(by omega);clear hbw3 bb
  try simp at o1 o2 o3x o4
  have O1:=Lib.hid o1
  have O2:=Lib.hid o2
  have O3:=Lib.hid o3x
  have O4:=Lib.hid o4
  obtain ⟨va,vc,rfl,_⟩:=OCells.seg o1
  obtain ⟨vb,vd,rfl,_⟩:=OInts.seg o2
  obtain ⟨vf,vg,rfl,_⟩:=OHands.seg o3x
  obtain ⟨vh,vi,rfl,_⟩:=ODeals.seg o4
  clear o1 o2 o3x o4
  have z3:hp w3 b3=hp w b3:=hCw3.block b3 hb3
  have lb3:b3<w3.heap.size:=by omega
  have nb3:b3≠w3.heap.size:=by omega
  have k0:w.heap.size<w3.heap.size:=by omega
  have k1:w.heap.size+1<w3.heap.size:=by omega
  have k2:w.heap.size+1+1<w3.heap.size:=by omega
  have lb4:b3<w3.heap.size+1:=by omega
  have nb4:b3≠w3.heap.size+1:=by omega
  go_wp2_with fail
  go_region_held3 (fun w'=>w'.cell? ⟨w.heap.size,6,none⟩=some (.slice (some ⟨b3,o3,none⟩) x.hands.length r)∧hp w' b3=hp w b3∧w'.cell? ⟨w.heap.size+1,0,none⟩=some (.int .i64 kk)∧w'.cell? ⟨w.heap.size+1,1,none⟩=some (.int .i64 ee))
    (first|(simp [*,go_sem]))
    (first|(go_at_call 50;refine (sCalled_any (handAt x i) kk ee _).mono ?_;rintro _ w4 ⟨rfl,hb4⟩;have hC4:Below w.heap.size w w4:=bT (by exact zB) hb4;have hK4:Below w3.heap.size w3 w4:=bT (by exact zB) hb4;have hs4:=hb4.size;(try simp at hs4);have x4:=fun o=>hb4.cell (p:=⟨w.heap.size,o,none⟩) (by ((try simp) <;> (try omega)));have xx4:=fun o=>hb4.cell (p:=⟨w.heap.size+1,o,none⟩) (by ((try simp) <;> (try omega)));have y4:=fun o=>hb4.cell (p:=⟨w.heap.size+1+1,o,none⟩) (by ((try simp) <;> (try omega)));have yf4:=fun o=>hb4.frozen (p:=⟨w.heap.size+1+1,o,none⟩) (by ((try simp) <;> (try omega)));have v4:=fun o=>hb4.cell (p:=⟨w3.heap.size,o,none⟩) (by ((try simp) <;> (try omega)));have vf4:=fun o=>hb4.frozen (p:=⟨w3.heap.size,o,none⟩) (by ((try simp) <;> (try omega)));have t4:=fun o=>hb4.cell (p:=⟨w3.heap.size+1,o,none⟩);have tf4:=fun o=>hb4.frozen (p:=⟨w3.heap.size+1,o,none⟩);have tz4:=hpB hb4 (b:=w3.heap.size+1);have zb4:hp w4 b3=hp w b3:=hC4.block b3 hb3;(simp [go_sem,x_w,l_w,k0] at x4);(simp [go_sem,x_wp,l_wp,k1] at xx4);(simp [go_sem,x_wpp,l_wpp,k2] at y4);(simp [go_sem,f_wpp,l_wpp,k2] at yf4);(simp [go_sem] at v4);(simp [go_sem] at vf4);(try simp [go_sem] at t4);(try simp [go_sem] at tf4);(try simp [go_sem] at tz4);have n0:w.heap.size<w4.heap.size:=(by omega);have n1:w.heap.size+1<w4.heap.size:=(by omega);have n12:w.heap.size+1+1<w4.heap.size:=(by omega);have n2:w3.heap.size<w4.heap.size:=(by omega);have n3:b3<w4.heap.size:=(by omega);have n4:b3≠w4.heap.size:=(by omega)))
  all_goals go_wp2
  all_goals (have o1:=own_below O1.out hK4;have o2:=own_below O2.out hK4;have o3:=own_below O3.out hK4;have o4:=own_below O4.out hK4;have q1:=O1.out;have q2:=O2.out;have q3:=O3.out;have q4:=O4.out;have p1:=own_lo (lo':=w.heap.size) o1 (by omega);have p2:=own_lo (lo':=w.heap.size) o2 (by omega);have p3:=own_lo (lo':=w.heap.size) o3 (by omega);have p4:=own_lo (lo':=w.heap.size) o4 (by omega))
  all_goals (refine bodyPost_ret (v:=.tuple #[.agg #[.int .i64 x.ch.cap,.int .i64 x.ch.sent,.int .i64 x.ch.got,.int .i64 x.ch.fin,.slice va x.ch.cells.length vc,.slice vb x.ch.words.length vd,.slice vf x.hands.length vg,.slice vh x.deals.length vi,.int .i64 (x.now)],.int .i64 1]) (by simp [results,Try.results15,go_sem, *]) rfl ⟨⟨_,_,_,_,rfl,?_,?_,?_,?_⟩,by exact zB⟩)
  all_goals first|((repeat first|with_reducible exact p1|with_reducible refine oAl ?_ _|with_reducible refine oDr ?_|((with_reducible first|refine own_store ?_ ?_ _|refine own_box ?_ ?_);rotate_left;focus first|(refine own_ne q1 ?_;(try dsimp only);omega)|(refine own_ne' q1 ?_;(try dsimp only);omega)));done)|skip
  all_goals first|((repeat first|with_reducible exact p2|with_reducible refine oAl ?_ _|with_reducible refine oDr ?_|((with_reducible first|refine own_store ?_ ?_ _|refine own_box ?_ ?_);rotate_left;focus first|(refine own_ne q2 ?_;(try dsimp only);omega)|(refine own_ne' q2 ?_;(try dsimp only);omega)));done)|skip
  all_goals first|((repeat first|with_reducible exact p3|with_reducible refine oAl ?_ _|with_reducible refine oDr ?_|((with_reducible first|refine own_store ?_ ?_ _|refine own_box ?_ ?_);rotate_left;focus first|(refine own_ne q3 ?_;(try dsimp only);omega)|(refine own_ne' q3 ?_;(try dsimp only);omega)));done)|skip
  all_goals first|((repeat first|with_reducible exact p4|with_reducible refine oAl ?_ _|with_reducible refine oDr ?_|((with_reducible first|refine own_store ?_ ?_ _|refine own_box ?_ ?_);rotate_left;focus first|(refine own_ne q4 ?_;(try dsimp only);omega)|(refine own_ne' q4 ?_;(try dsimp only);omega)));done)|skip
end Go.Proofs.Ytgpdocmclkpknaa
set_option linter.unusedSimpArgs false
set_option linter.unusedVariables false
namespace Go.Proofs.Ytgpdocmclkpknaa
open Go.RowKit
set_option linter.unusedSimpArgs false
attribute [local simp] bx_size
attribute [local go_sem ↓] zeroHand toLHand toVHand toSHand storeHandC
attribute [local go_sem] runSHand
section
variable {w:World} {b b' o i:Nat} {x:Ha}
theorem se_cell (hi:b'<w.heap.size) (h:b'≠b):(setElem w b o x).cell? ⟨b',i,none⟩=w.cell? ⟨b',i,none⟩:=grCell (setElem_gr w b o x) hi (by simpa using h) i
theorem se_frozen (hi:b'<w.heap.size) (h:b'≠b):(setElem w b o x).frozen? ⟨b',i,none⟩=w.frozen? ⟨b',i,none⟩:=grFroz (setElem_gr w b o x) hi (by simpa using h) i
theorem own_se {lo n k:Nat} {ty:TypeId} {v:Value} {xs:List Value} (h:w.ownsRow lo ty k v n xs) (hn:v.ownBlock≠some b):(setElem w b o x).ownsRow lo ty k v n xs:=h.kept (setElem_gr w b o x) (.inr hn)
theorem bel_se {lo:Nat} {W:World} (h:Below lo w W) (hl:lo≤W.heap.size) (hb:lo≤b):Below lo w (setElem W b o x):=bOwn h (setElem_gr W b o x) hl (fun k hk=>by simp at hk;omega)
theorem off_some {v v':Value} {g:Nat} (h:v.ownBlock=none∨v.ownBlock≠v'.ownBlock) (e:v'.ownBlock=some g):v.ownBlock≠some g:=by
  rcases h with h|h
  · rw [h];simp
  · rw [← e];exact h
end
attribute [local go_sem] se_cell se_frozen setElem_size
set_option maxRecDepth 100000 in
set_option maxHeartbeats 4000000 in
theorem asked_ok (x:Wo) (who kk ee:Int) (a b d e:Option Addr) (p q r s:Nat) (w:World) (h1:Seg w w.heap.size a x.ch.cells.length 3 (cellF x.ch.cells)) (z1:a=none→p=0) (h2:Seg w w.heap.size b x.ch.words.length 1 (intF x.ch.words)) (z2:b=none→q=0) (h3:Seg w w.heap.size d x.hands.length 14 (handF x.hands)) (z3:d=none→x.hands.length=0∧r=0) (h4:Seg w w.heap.size e x.deals.length 7 (dealF x.deals)) (z4:e=none→x.deals.length=0∧s=0) (m1:x.ch.cells.length≤1099511627776) (m2:x.ch.words.length≤1099511627776) (m3:x.hands.length≤1099511627776) (m4:x.deals.length≤1099511627776) (hk:worldOk x=true) (ht:taskOk x who=true) (hc:((called (handAt x who) kk ee).2 != 0)=false) (hn:(x.now == 20000)=false) (hnr:0≤x.now∧x.now≤20000) :
    Calls Try.prog 15 #[.agg #[.int .i64 x.ch.cap,.int .i64 x.ch.sent,.int .i64 x.ch.got,.int .i64 x.ch.fin,.slice a x.ch.cells.length p,.slice b x.ch.words.length q,.slice d x.hands.length r,.slice e x.deals.length s,.int .i64 x.now],.int .i64 who,.agg #[.int .i64 kk,.int .i64 ee]] w fun r w'=>WordR w w' (asked x who kk ee).1 (.int .i64 (asked x who kk ee).2) r:=by
  have H1:=Lib.hid h1
  have H2:=Lib.hid h2
  have H3:=Lib.hid h3
  have H4:=Lib.hid h4
  have Z1:=Lib.hid z1
  have Z2:=Lib.hid z2
  have Z3:=Lib.hid z3
  have Z4:=Lib.hid z4
  clear h1 h2 h3 h4 z1 z2 z3 z4
  obtain ⟨i,rfl⟩:∃ i:Nat,who=(i:Int):=⟨who.toNat,by simp [taskOk,taskB,inB] at ht;omega⟩
  have hi:i<x.hands.length:=by simp [taskOk,taskB,inB] at ht;omega
  obtain ⟨b3,o3,rfl,hb3,hc3⟩:∃ b o,d=some ⟨b,o,none⟩∧b<w.heap.size∧Hid (∀ i j,i<x.hands.length→j<14→w.cell? ⟨b,o+i*14+j,none⟩=some (handF x.hands i j)):=by
    rcases H3.out with h0|h0
    · omega
    · exact h0
  have hLd:∀ W:World,hp W b3=hp w b3→(LHand (.pointer (some ⟨b3,o3+i*14,none⟩))).run Try.prog W=.ok (.agg (hvals (handAt x i))) W:=fun W e=>ldHandE _ fun j hj=>by rw [show (hvals (handAt x i)).getD j (.int .i64 0)=handF x.hands i j by simp [handF,handAt],← hc3.out i j hi hj];exact World.cell?_of_block e
  have hi0:(0:Int)≤(i:Int):=by omega
  have hi1:(i:Int)<(x.hands.length:Int):=by omega
  have e0:asked x i kk ee=({ setHand x i { (called (handAt x i) kk ee).1 with beg:=x.now+1 } with now:=x.now+1 },0):=by simp at hc hn;simp [asked,hk,ht,hc,hn]
  rw [e0]
  have ht2:taskB x.hands.length i=true:=ht
  clear e0 ht
  go_enter Try.func15,Try.ntmps15
  go_wp2_with fail;refine bHit w (by exact zB) fun bb=>?_;refine (sWorldOk_any x a b _ e p q r s _ ((H1.out.below bb).more bb.size) ((H2.out.below bb).more bb.size) ((H3.out.below bb).more bb.size) ((H4.out.below bb).more bb.size) m3 m4).mono ?_;rintro _ w1 ⟨rfl,hbw1⟩;have hCw1:Below w.heap.size w w1:=bT bb hbw1;have hsw1:=hbw1.size;(try simp at hsw1);have zz:=And.intro (fun o=>hbw1.cell (p:=⟨w.heap.size+1+1,o,none⟩) (by (try simp) <;> omega)) <| And.intro (fun o=>hbw1.frozen (p:=⟨w.heap.size+1+1,o,none⟩) (by (try simp) <;> omega)) <| And.intro (fun o=>hbw1.cell (p:=⟨w.heap.size+1,o,none⟩) (by (try simp) <;> omega)) <| And.intro (fun o=>hbw1.frozen (p:=⟨w.heap.size+1,o,none⟩) (by (try simp) <;> omega)) <| And.intro (fun o=>hbw1.cell (p:=⟨w.heap.size,o,none⟩) (by (try simp) <;> omega)) <| fun o=>hbw1.frozen (p:=⟨w.heap.size,o,none⟩) (by (try simp) <;> omega);(try simp [go_sem] at zz);(try clear x_wpp f_wpp);(try clear x_wp f_wp);(try clear x_w f_w);obtain ⟨x_wpp,f_wpp,x_wp,f_wp,x_w,f_w⟩:=zz;(try clear l_wpp);have l_wpp:w.heap.size+1+1<w1.heap.size:=(by omega);(try clear l_wp);have l_wp:w.heap.size+1<w1.heap.size:=(by omega);(try clear l_w);have l_w:w.heap.size<w1.heap.size:=(by omega);clear hbw1 bb
  rw [hk]
  go_wp2_with fail;refine bHit w (by exact zB) fun bb=>?_;refine (l11Task_any x.ch x.hands.length x.now i _ _ _ _ _ _ _ _ _ _ _ m3 _).mono ?_;rintro _ w2 ⟨rfl,hbw2⟩;have hCw2:Below w.heap.size w w2:=bT bb hbw2;have hsw2:=hbw2.size;(try simp at hsw2);have zz:=And.intro (fun o=>hbw2.cell (p:=⟨w.heap.size+1+1,o,none⟩) (by (try simp) <;> omega)) <| And.intro (fun o=>hbw2.frozen (p:=⟨w.heap.size+1+1,o,none⟩) (by (try simp) <;> omega)) <| And.intro (fun o=>hbw2.cell (p:=⟨w.heap.size+1,o,none⟩) (by (try simp) <;> omega)) <| And.intro (fun o=>hbw2.frozen (p:=⟨w.heap.size+1,o,none⟩) (by (try simp) <;> omega)) <| And.intro (fun o=>hbw2.cell (p:=⟨w.heap.size,o,none⟩) (by (try simp) <;> omega)) <| fun o=>hbw2.frozen (p:=⟨w.heap.size,o,none⟩) (by (try simp) <;> omega);(first|simp [go_sem,x_wpp,f_wpp,x_wp,f_wp,x_w,f_w,l_w,l_wp,l_wpp] at zz|simp [go_sem,x_wpp,x_wp,x_w,l_w,l_wp,l_wpp] at zz|simp [go_sem] at zz|skip);(try clear x_wpp f_wpp);(try clear x_wp f_wp);(try clear x_w f_w);obtain ⟨x_wpp,f_wpp,x_wp,f_wp,x_w,f_w⟩:=zz;(try clear l_wpp);have l_wpp:w.heap.size+1+1<w2.heap.size:=(by omega);(try clear l_wp);have l_wp:w.heap.size+1<w2.heap.size:=(by omega);(try clear l_w);have l_w:w.heap.size<w2.heap.size:=(by omega);clear hbw2 bb
  rw [ht2]
  go_wp2_with fail;refine bHit w (by exact zB) fun bb=>?_;refine (l11Copy_any x a b _ e p q r s _ ((H1.out.below bb).more bb.size) Z1.out ((H2.out.below bb).more bb.size) Z2.out ((H3.out.below bb).more bb.size) Z3.out ((H4.out.below bb).more bb.size) Z4.out m1 m2 m3 m4).mono ?_;rintro _ w3 ⟨⟨v1,v2,v3,v4,rfl,o1,o2,o3x,o4⟩,hbw3⟩;have hCw3:Below w.heap.size w w3:=bT bb hbw3;have hsw3:=hbw3.size;(try simp at hsw3);have zz:=And.intro (fun o=>hbw3.cell (p:=⟨w.heap.size+1+1,o,none⟩) (by (try simp) <;> omega)) <| And.intro (fun o=>hbw3.frozen (p:=⟨w.heap.size+1+1,o,none⟩) (by (try simp) <;> omega)) <| And.intro (fun o=>hbw3.cell (p:=⟨w.heap.size+1,o,none⟩) (by (try simp) <;> omega)) <| And.intro (fun o=>hbw3.frozen (p:=⟨w.heap.size+1,o,none⟩) (by (try simp) <;> omega)) <| And.intro (fun o=>hbw3.cell (p:=⟨w.heap.size,o,none⟩) (by (try simp) <;> omega)) <| fun o=>hbw3.frozen (p:=⟨w.heap.size,o,none⟩) (by (try simp) <;> omega);(first|simp [go_sem,x_wpp,f_wpp,x_wp,f_wp,x_w,f_w,l_w,l_wp,l_wpp] at zz|simp [go_sem,x_wpp,x_wp,x_w,l_w,l_wp,l_wpp] at zz|simp [go_sem] at zz|skip);(try clear x_wpp f_wpp);(try clear x_wp f_wp);(try clear x_w f_w);obtain ⟨x_wpp,f_wpp,x_wp,f_wp,x_w,f_w⟩:=zz;(try clear l_wpp);have l_wpp:w.heap.size+1+1<w3.heap.size:=(by omega);(try clear l_wp);have l_wp:w.heap.size+1<w3.heap.size:=(by omega);(try clear l_w);have l_w:w.heap.size<w3.heap.size:=(by omega);clear hbw3 bb
  try simp at o1 o2 o3x o4
  have O1:=Lib.hid o1
  have O2:=Lib.hid o2
  have O3:=Lib.hid o3x
  have O4:=Lib.hid o4
  obtain ⟨va,vc,rfl,_⟩:=OCells.seg o1
  obtain ⟨vb,vd,rfl,_⟩:=OInts.seg o2
  obtain ⟨g,vg,rfl,hlo,lg,hgc,hgf⟩:=OHands.open1 o3x hi
  obtain ⟨vh,vi,rfl,_⟩:=ODeals.seg o4
  clear o1 o2 o3x o4
  have z3:hp w3 b3=hp w b3:=hCw3.block b3 hb3
  have lb3:b3<w3.heap.size:=by omega
  have nb3:b3≠w3.heap.size:=by omega
  have ng0:g≠w.heap.size:=by omega
  have ng1:g≠w.heap.size+1:=by omega
  have ng2:g≠w.heap.size+1+1:=by omega
  have ng3:g≠w3.heap.size:=by omega
  have gt0:w.heap.size<g:=by omega
  have gt1:w.heap.size+1<g:=by omega
  have gt2:w.heap.size+1+1<g:=by omega
  have hh2:(called (handAt x i) kk ee).2=0:=by simpa using hc
  have zk:((called (handAt x i) kk ee).2 != 0)=false:=hc
  have hSt:∀ (W:World) (y:Ha),hp W g=hp w3 g→(SHand (.pointer (some ⟨g,i*14,none⟩)) (.agg (hvals y))).run Try.prog W=.ok () (setElem W g (i*14) y):=fun W y e=>stHandE y (fun j hj=>⟨_,(World.cell?_of_block (show W.heap[g]?=w3.heap[g]? from e)).trans (hgc j hj)⟩) (fun j=>(World.frozen?_of_block (show W.heap[g]?=w3.heap[g]? from e)).trans (hgf j))
  have lg1:g<w3.heap.size+1:=by omega
  have mg0:w.heap.size≠g:=by omega
  have mg1:w.heap.size+1≠g:=by omega
  have mg2:w.heap.size+1+1≠g:=by omega
  have mg3:w3.heap.size≠g:=by omega
  have k0:w.heap.size<w3.heap.size:=by omega
  have k1:w.heap.size+1<w3.heap.size:=by omega
  have k2:w.heap.size+1+1<w3.heap.size:=by omega
  have lb4:b3<w3.heap.size+1:=by omega
  have nb4:b3≠w3.heap.size+1:=by omega
  go_wp2_with fail
  go_region_held3 (fun w'=>w'.cell? ⟨w.heap.size,6,none⟩=some (.slice (some ⟨b3,o3,none⟩) x.hands.length r)∧hp w' b3=hp w b3∧w'.cell? ⟨w.heap.size+1,0,none⟩=some (.int .i64 kk)∧w'.cell? ⟨w.heap.size+1,1,none⟩=some (.int .i64 ee))
    (first|(simp [*,go_sem]))
    (first|(go_at_call 50;refine (sCalled_any (handAt x i) kk ee _).mono ?_;rintro _ w4 ⟨rfl,hb4⟩;have hC4:Below w.heap.size w w4:=bT (by exact zB) hb4;have hK4:Below w3.heap.size w3 w4:=bT (by exact zB) hb4;have hs4:=hb4.size;(try simp at hs4);have x4:=fun o=>hb4.cell (p:=⟨w.heap.size,o,none⟩) (by ((try simp) <;> (try omega)));have xx4:=fun o=>hb4.cell (p:=⟨w.heap.size+1,o,none⟩) (by ((try simp) <;> (try omega)));have y4:=fun o=>hb4.cell (p:=⟨w.heap.size+1+1,o,none⟩) (by ((try simp) <;> (try omega)));have yf4:=fun o=>hb4.frozen (p:=⟨w.heap.size+1+1,o,none⟩) (by ((try simp) <;> (try omega)));have v4:=fun o=>hb4.cell (p:=⟨w3.heap.size,o,none⟩) (by ((try simp) <;> (try omega)));have vf4:=fun o=>hb4.frozen (p:=⟨w3.heap.size,o,none⟩) (by ((try simp) <;> (try omega)));have t4:=fun o=>hb4.cell (p:=⟨w3.heap.size+1,o,none⟩);have tf4:=fun o=>hb4.frozen (p:=⟨w3.heap.size+1,o,none⟩);have tz4:=hpB hb4 (b:=w3.heap.size+1);have zg4:hp w4 g=hp w3 g:=hK4.block g lg;have lg4:g<w4.heap.size:=(by omega);have ng4:g≠w4.heap.size:=(by omega);have zb4:hp w4 b3=hp w b3:=hC4.block b3 hb3;(simp [go_sem,x_w,l_w,k0] at x4);(simp [go_sem,x_wp,l_wp,k1] at xx4);(simp [go_sem,x_wpp,l_wpp,k2] at y4);(simp [go_sem,f_wpp,l_wpp,k2] at yf4);(simp [go_sem] at v4);(simp [go_sem] at vf4);(try simp [go_sem] at t4);(try simp [go_sem] at tf4);(try simp [go_sem] at tz4);have n0:w.heap.size<w4.heap.size:=(by omega);have n1:w.heap.size+1<w4.heap.size:=(by omega);have n12:w.heap.size+1+1<w4.heap.size:=(by omega);have n2:w3.heap.size<w4.heap.size:=(by omega);have n3:b3<w4.heap.size:=(by omega);have n4:b3≠w4.heap.size:=(by omega)))
  all_goals go_wp2
  all_goals (have o1:=own_below O1.out hK4;have o2:=own_below O2.out hK4;have o3:=own_below O3.out hK4;have o4:=own_below O4.out hK4;have q1:=O1.out;have q2:=O2.out;have q3:=O3.out;have q4:=O4.out;have p1:=own_lo (lo':=w.heap.size) o1 (by omega);have p2:=own_lo (lo':=w.heap.size) o2 (by omega);have p3:=own_lo (lo':=w.heap.size) o3 (by omega);have p4:=own_lo (lo':=w.heap.size) o4 (by omega);have e1:=off_some (g:=g) (own_off_ty q1 q3 (by decide)) rfl;have e2:=off_some (g:=g) (own_off_ty q2 q3 (by decide)) rfl;have e4:=off_some (g:=g) (own_off_ty q4 q3 (by decide)) rfl)
  all_goals (refine bodyPost_ret (v:=.tuple #[.agg #[.int .i64 x.ch.cap,.int .i64 x.ch.sent,.int .i64 x.ch.got,.int .i64 x.ch.fin,.slice va x.ch.cells.length vc,.slice vb x.ch.words.length vd,.slice (some ⟨g,0,none⟩) x.hands.length vg,.slice vh x.deals.length vi,.int .i64 (x.now+1)],.int .i64 0]) (by simp [results,Try.results15,go_sem, *]) rfl ⟨⟨_,_,_,_,rfl,?_,?_,?_,?_⟩,by (repeat (first|with_reducible assumption|with_reducible refine bA ?_|with_reducible refine bD ?_|((with_reducible refine bS ?_ ?_);rotate_left;(focus ((try simp);(try omega))))|((with_reducible refine bBx ?_ ?_);rotate_left;(focus ((try simp);(try omega))))|((with_reducible refine bel_se ?_ ?_ ?_);rotate_left;(focus ((try simp);(try omega)));(focus ((try simp);(try omega))))))⟩)
  all_goals first|(show OCells _ _ _ x.ch.cells;(repeat (first|with_reducible exact p1|with_reducible refine World.ownsRow.alloc ?_ _|with_reducible refine World.ownsRow.drew ?_|with_reducible refine own_se ?_ e1|((with_reducible refine own_store ?_ ?_ _);rotate_left;(focus (first|(refine own_ne q1 ?_;(try dsimp only);omega)|(refine own_ne' q1 ?_;(try dsimp only);omega))))|((with_reducible refine own_box ?_ ?_);rotate_left;(focus (first|(refine own_ne q1 ?_;(try dsimp only);omega)|(refine own_ne' q1 ?_;(try dsimp only);omega))))));done)|skip
  all_goals first|(show OInts _ _ _ x.ch.words;(repeat (first|with_reducible exact p2|with_reducible refine World.ownsRow.alloc ?_ _|with_reducible refine World.ownsRow.drew ?_|with_reducible refine own_se ?_ e2|((with_reducible refine own_store ?_ ?_ _);rotate_left;(focus (first|(refine own_ne q2 ?_;(try dsimp only);omega)|(refine own_ne' q2 ?_;(try dsimp only);omega))))|((with_reducible refine own_box ?_ ?_);rotate_left;(focus (first|(refine own_ne q2 ?_;(try dsimp only);omega)|(refine own_ne' q2 ?_;(try dsimp only);omega))))));done)|skip
  all_goals first|(show OHands _ _ _ (x.hands.set i _);(repeat (first|with_reducible exact p3|with_reducible refine World.ownsRow.alloc ?_ _|with_reducible refine World.ownsRow.drew ?_|with_reducible refine OHands.set ?_ hi _|((with_reducible refine own_store ?_ ?_ _);rotate_left;(focus (first|(refine own_ne q3 ?_;(try dsimp only);omega)|(refine own_ne' q3 ?_;(try dsimp only);omega))))|((with_reducible refine own_box ?_ ?_);rotate_left;(focus (first|(refine own_ne q3 ?_;(try dsimp only);omega)|(refine own_ne' q3 ?_;(try dsimp only);omega))))));done)|skip
  all_goals first|(show ODeals _ _ _ x.deals;(repeat (first|with_reducible exact p4|with_reducible refine World.ownsRow.alloc ?_ _|with_reducible refine World.ownsRow.drew ?_|with_reducible refine own_se ?_ e4|((with_reducible refine own_store ?_ ?_ _);rotate_left;(focus (first|(refine own_ne q4 ?_;(try dsimp only);omega)|(refine own_ne' q4 ?_;(try dsimp only);omega))))|((with_reducible refine own_box ?_ ?_);rotate_left;(focus (first|(refine own_ne q4 ?_;(try dsimp only);omega)|(refine own_ne' q4 ?_;(try dsimp only);omega))))));done)|skip
end Go.Proofs.Ytgpdocmclkpknaa
set_option linter.unusedSimpArgs false
set_option linter.unusedVariables false
namespace Go.Proofs.Ytgpdocmclkpknaa
open Go.RowKit
set_option linter.unusedSimpArgs false

theorem world_now {x:Wo} (h:worldOk x=true):0≤x.now∧x.now≤20000:=by
  simp [worldOk,worldHead,inB] at h
  omega
theorem sAsked_any (x:Wo) (who kk ee:Int) (a b d e:Option Addr) (p q r s:Nat) (w:World) (h1:Seg w w.heap.size a x.ch.cells.length 3 (cellF x.ch.cells)) (z1:a=none→p=0) (h2:Seg w w.heap.size b x.ch.words.length 1 (intF x.ch.words)) (z2:b=none→q=0) (h3:Seg w w.heap.size d x.hands.length 14 (handF x.hands)) (z3:d=none→x.hands.length=0∧r=0) (h4:Seg w w.heap.size e x.deals.length 7 (dealF x.deals)) (z4:e=none→x.deals.length=0∧s=0) (m1:x.ch.cells.length≤1099511627776) (m2:x.ch.words.length≤1099511627776) (m3:x.hands.length≤1099511627776) (m4:x.deals.length≤1099511627776) :
    Calls Try.prog 15 #[.agg #[.int .i64 x.ch.cap,.int .i64 x.ch.sent,.int .i64 x.ch.got,.int .i64 x.ch.fin,.slice a x.ch.cells.length p,.slice b x.ch.words.length q,.slice d x.hands.length r,.slice e x.deals.length s,.int .i64 x.now],.int .i64 who,.agg #[.int .i64 kk,.int .i64 ee]] w fun r w'=>WordR w w' (asked x who kk ee).1 (.int .i64 (asked x who kk ee).2) r:=by
  cases hk:worldOk x with
  | false=>exact asked_no1 x who kk ee a b d e p q r s w h1 z1 h2 z2 h3 z3 h4 z4 m1 m2 m3 m4 hk
  | true =>
    cases ht:taskOk x who with
    | false=>exact asked_no2 x who kk ee a b d e p q r s w h1 z1 h2 z2 h3 z3 h4 z4 m1 m2 m3 m4 hk ht
    | true =>
      cases hc:(called (handAt x who) kk ee).2 != 0 with
      | true=>exact asked_code x who kk ee a b d e p q r s w h1 z1 h2 z2 h3 z3 h4 z4 m1 m2 m3 m4 hk ht hc
      | false =>
        cases hn:x.now == 20000 with
        | true=>exact asked_busy x who kk ee a b d e p q r s w h1 z1 h2 z2 h3 z3 h4 z4 m1 m2 m3 m4 hk ht hc hn
        | false=>exact asked_ok x who kk ee a b d e p q r s w h1 z1 h2 z2 h3 z3 h4 z4 m1 m2 m3 m4 hk ht hc hn (world_now hk)
end Go.Proofs.Ytgpdocmclkpknaa
