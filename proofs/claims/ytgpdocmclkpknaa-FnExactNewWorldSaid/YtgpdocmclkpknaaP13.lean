/-
  The program's Asked: what it answers, a copy of its own; the lists lie in memory and hold at most 1048576 elements.
  slices.Repeat over one hand that is all zero, at most six times; no other condition.
  The reference model's KeptIn, WaitingIn and NewChan; lists lie in memory and hold at most 2 ^ 40 elements.
  The program's NewChan, KeptIn and WaitingIn; lists lie in memory and hold at most what memory can hold.
  What comes of a step of the reference model, on hands and channels that are kept whole; the lists are the call's own.
  The contracts of the reference model's Laid and Turned; no condition.
-/
import Derived.Test.YtgpdocmclkpknaaP11
import Derived.Test.YtgpdocmclkpknaaP12
import Derived.Test.YtgpdocmclkpknaaP07
import Derived.Test.YtgpdocmclkpknaaP06
import Derived.Test.YtgpdocmclkpknaaP04
import Derived.Deep.AppendLies
import Derived.Test.YtgpdocmclkpknaaP05
import Derived.BigRegion
set_option linter.unusedSimpArgs false
set_option linter.unusedVariables false
namespace Go.Proofs.Ytgpdocmclkpknaa
open Go.RowKit
set_option linter.unusedSimpArgs false
theorem SegW.at {w W:World} {x:Wo} {a b d e:Option Addr} (h:SegW w w.heap.size x a b d e) (hb:Below w.heap.size w W):SegW W W.heap.size x a b d e:=⟨(h.1.below hb).more hb.size,(h.2.1.below hb).more hb.size,(h.2.2.1.below hb).more hb.size,(h.2.2.2.below hb).more hb.size⟩
attribute [local simp] bx_size
attribute [local go_sem ↓] zeroHand toLHand toVHand toSHand storeHandC
attribute [local go_sem] runSHand
set_option maxRecDepth 100000 in
set_option maxHeartbeats 4000000 in
theorem askI_no1 (x:Wo) (who kk ee:Int) (a b d e:Option Addr) (p q r s:Nat) (w:World) (h:SegW w w.heap.size x a b d e) (m:LenW x) (hk:worldOk x=false) :
    Calls Try.prog 17 #[.agg #[.int .i64 x.ch.cap,.int .i64 x.ch.sent,.int .i64 x.ch.got,.int .i64 x.ch.fin,.slice a x.ch.cells.length p,.slice b x.ch.words.length q,.slice d x.hands.length r,.slice e x.deals.length s,.int .i64 x.now],.int .i64 who,.agg #[.int .i64 kk,.int .i64 ee]] w fun r w'=>WordR w w' Wo.zero (.int .i64 3) r:=by
  have HW:=Lib.hid h
  clear h
  go_enter Try.func17,Try.ntmps17
  go_wp2_with fail;refine bHit w (by exact zB) fun bb=>?_;refine (worldOkI_any x a b d e p q r s _ (HW.out.at bb) m).mono ?_;rintro _ w1 ⟨rfl,hbw1⟩;have hCw1:Below w.heap.size w w1:=bT bb hbw1;have hsw1:=hbw1.size;(try simp at hsw1);have zz:=And.intro (hQ hbw1 (b:=w.heap.size+1+1)) <| And.intro (hQ hbw1 (b:=w.heap.size+1)) <| hQ hbw1 (b:=w.heap.size);(try simp [go_sem] at zz);(try clear z_wpp x_wpp f_wpp l_wpp);(try clear z_wp x_wp f_wp l_wp);(try clear z_w x_w f_w l_w);obtain ⟨z_wpp,z_wp,z_w⟩:=zz;obtain ⟨x_wpp,f_wpp,l_wpp⟩:=bO z_wpp;obtain ⟨x_wp,f_wp,l_wp⟩:=bO z_wp;obtain ⟨x_w,f_w,l_w⟩:=bO z_w;clear hbw1 bb
  rw [hk]
  go_wp2
  refine bodyPost_ret (v:=.tuple #[.agg #[.int .i64 0,.int .i64 0,.int .i64 0,.int .i64 0,.slice none 0 0,.slice none 0 0,.slice none 0 0,.slice none 0 0,.int .i64 0],.int .i64 3]) (by simp [results,Try.results17,go_sem, *]) rfl ⟨⟨_,_,_,_,rfl,wown_zero _ _⟩,by exact zB⟩
set_option maxRecDepth 100000 in
set_option maxHeartbeats 4000000 in
theorem askI_no2 (x:Wo) (who kk ee:Int) (a b d e:Option Addr) (p q r s:Nat) (w:World) (h:SegW w w.heap.size x a b d e) (m:LenW x) (hk:worldOk x=true) (ht:taskB x.hands.length who=false) :
    Calls Try.prog 17 #[.agg #[.int .i64 x.ch.cap,.int .i64 x.ch.sent,.int .i64 x.ch.got,.int .i64 x.ch.fin,.slice a x.ch.cells.length p,.slice b x.ch.words.length q,.slice d x.hands.length r,.slice e x.deals.length s,.int .i64 x.now],.int .i64 who,.agg #[.int .i64 kk,.int .i64 ee]] w fun r w'=>WordR w w' Wo.zero (.int .i64 3) r:=by
  have HW:=Lib.hid h
  have M3:x.hands.length≤1099511627776:=by have:=m.2.2.1;omega
  clear h
  go_enter Try.func17,Try.ntmps17
  go_wp2_with fail;refine bHit w (by exact zB) fun bb=>?_;refine (worldOkI_any x a b d e p q r s _ (HW.out.at bb) m).mono ?_;rintro _ w1 ⟨rfl,hbw1⟩;have hCw1:Below w.heap.size w w1:=bT bb hbw1;have hsw1:=hbw1.size;(try simp at hsw1);have zz:=And.intro (hQ hbw1 (b:=w.heap.size+1+1)) <| And.intro (hQ hbw1 (b:=w.heap.size+1)) <| hQ hbw1 (b:=w.heap.size);(try simp [go_sem] at zz);(try clear z_wpp x_wpp f_wpp l_wpp);(try clear z_wp x_wp f_wp l_wp);(try clear z_w x_w f_w l_w);obtain ⟨z_wpp,z_wp,z_w⟩:=zz;obtain ⟨x_wpp,f_wpp,l_wpp⟩:=bO z_wpp;obtain ⟨x_wp,f_wp,l_wp⟩:=bO z_wp;obtain ⟨x_w,f_w,l_w⟩:=bO z_w;clear hbw1 bb
  rw [hk]
  go_wp2_with fail
  refine (isTask_any x.hands.length who w.heap.size d r _ (by simp [*]) M3).mono ?_
  rintro _ _ ⟨rfl,rfl⟩
  rw [ht]
  go_wp2
  refine bodyPost_ret (v:=.tuple #[.agg #[.int .i64 0,.int .i64 0,.int .i64 0,.int .i64 0,.slice none 0 0,.slice none 0 0,.slice none 0 0,.slice none 0 0,.int .i64 0],.int .i64 3]) (by simp [results,Try.results17,go_sem, *]) rfl ⟨⟨_,_,_,_,rfl,wown_zero _ _⟩,by exact zB⟩
attribute [local go_sem] setElem_size se_cell se_frozen
set_option maxRecDepth 100000 in
set_option maxHeartbeats 8000000 in
theorem askI_yes (x:Wo) (i:Nat) (kk ee:Int) (a b d e:Option Addr) (p q r s:Nat) (w:World) (h:SegW w w.heap.size x a b d e) (z:NoneW x a b d e p q r s) (m:LenW x) (hk:worldOk x=true) (hi:i<x.hands.length) :
    Calls Try.prog 17 #[.agg #[.int .i64 x.ch.cap,.int .i64 x.ch.sent,.int .i64 x.ch.got,.int .i64 x.ch.fin,.slice a x.ch.cells.length p,.slice b x.ch.words.length q,.slice d x.hands.length r,.slice e x.deals.length s,.int .i64 x.now],.int .i64 i,.agg #[.int .i64 kk,.int .i64 ee]] w fun r w'=>WordR w w' (asked x i kk ee).1 (.int .i64 (asked x i kk ee).2) r:=by
  have HW:=Lib.hid h
  have HZ:=Lib.hid z
  have M3:x.hands.length≤1099511627776:=by have:=m.2.2.1;omega
  obtain ⟨b3,o3,rfl,hb3,hc3⟩:∃ b o,d=some ⟨b,o,none⟩∧b<w.heap.size∧Hid (∀ i j,i<x.hands.length→j<14→w.cell? ⟨b,o+i*14+j,none⟩=some (handF x.hands i j)):=by
    rcases h.2.2.1 with h0|h0
    · omega
    · exact h0
  clear h z
  have ht:taskB x.hands.length i=true:=by simp [taskB,inB];omega
  have HA:=Lib.hid (show asked x i kk ee=(if (called (handAt x i) kk ee).2 != 0 then (x,(called (handAt x i) kk ee).2) else if x.now == 20000 then (x,1) else ({ setHand x i { (called (handAt x i) kk ee).1 with beg:=x.now+1 } with now:=x.now+1 },0)) by simp [asked,hk,taskOk,ht])
  obtain ⟨Y,hY⟩:∃ Y,Y=asked x i kk ee:=⟨_,rfl⟩
  rw [← hY] at HA ⊢
  clear hY
  have hLd0:∀ W:World,hp W b3=hp w b3→(LHand (.pointer (some ⟨b3,o3+i*14,none⟩))).run Try.prog W=.ok (.agg (hvals (handAt x i))) W:=fun W e=>ldHandE _ fun j hj=>by rw [show (hvals (handAt x i)).getD j (.int .i64 0)=handF x.hands i j by simp [handF,handAt],← hc3.out i j hi hj];exact World.cell?_of_block e
  obtain ⟨h0,hh0⟩:∃ h0,h0=handAt x i:=⟨_,rfl⟩
  rw [← hh0] at hLd0 HA
  have hLd:=hLd0
  clear hLd0 hc3 hh0
  obtain ⟨H1,cc,hcl⟩:∃ H1 cc,called h0 kk ee=(H1,cc):=⟨_,_,rfl⟩
  rw [hcl] at HA
  have HCL:=Lib.hid hcl
  clear hcl
  have hi0:(0:Int)≤(i:Int):=by omega
  have hi1:(i:Int)<(x.hands.length:Int):=by omega
  have hnow:=world_now hk
  go_enter Try.func17,Try.ntmps17
  go_wp2_with fail;refine bHit w (by exact zB) fun bb=>?_;refine (worldOkI_any x a b _ e p q r s _ (HW.out.at bb) m).mono ?_;rintro _ w1 ⟨rfl,hbw1⟩;have hCw1:Below w.heap.size w w1:=bT bb hbw1;have hsw1:=hbw1.size;(try simp at hsw1);have zz:=And.intro (hQ hbw1 (b:=w.heap.size+1+1)) <| And.intro (hQ hbw1 (b:=w.heap.size+1)) <| hQ hbw1 (b:=w.heap.size);(try simp [go_sem] at zz);(try clear z_wpp x_wpp f_wpp l_wpp);(try clear z_wp x_wp f_wp l_wp);(try clear z_w x_w f_w l_w);obtain ⟨z_wpp,z_wp,z_w⟩:=zz;obtain ⟨x_wpp,f_wpp,l_wpp⟩:=bO z_wpp;obtain ⟨x_wp,f_wp,l_wp⟩:=bO z_wp;obtain ⟨x_w,f_w,l_w⟩:=bO z_w;clear hbw1 bb
  rw [hk]
  go_wp2_with fail
  refine (isTask_any x.hands.length i w.heap.size (some ⟨b3,o3,none⟩) r _ (by simp [*]) M3).mono ?_
  rintro _ _ ⟨rfl,rfl⟩
  rw [ht]
  go_wp2_with fail;refine bHit w (by exact zB) fun bb=>?_;refine (owned_any x a b _ e p q r s _ (HW.out.at bb) HZ.out m).mono ?_;rintro _ w3 ⟨⟨B,v1,v2,v3,v4,rfl,hBlo,z_B,o1,o2,o3x,o4⟩,hbw3⟩;have hCw3:Below w.heap.size w w3:=bT bb hbw3;have hsw3:=hbw3.size;(try simp at hsw3);have zz:=And.intro (hQ hbw3 (b:=w.heap.size+1+1)) <| And.intro (hQ hbw3 (b:=w.heap.size+1)) <| hQ hbw3 (b:=w.heap.size);(first|simp [go_sem,z_wpp,z_wp,z_w,l_w,l_wp,l_wpp] at zz|simp [go_sem] at zz|skip);(try clear z_wpp x_wpp f_wpp l_wpp);(try clear z_wp x_wp f_wp l_wp);(try clear z_w x_w f_w l_w);obtain ⟨z_wpp,z_wp,z_w⟩:=zz;obtain ⟨x_wpp,f_wpp,l_wpp⟩:=bO z_wpp;obtain ⟨x_wp,f_wp,l_wp⟩:=bO z_wp;obtain ⟨x_w,f_w,l_w⟩:=bO z_w;clear hbw3 bb
  obtain ⟨va,vc,rfl,_⟩:=OCells.seg o1
  obtain ⟨vb,vd,rfl,_⟩:=OInts.seg o2
  obtain ⟨g,vg,rfl,hglo,lg,hgc,hgf⟩:=OHands.open1 o3x hi
  obtain ⟨vh,vi,rfl,_⟩:=ODeals.seg o4
  have lBw3:B<w3.heap.size:=(bO z_B).2.2
  have hgB:g≠B:=own_offs o3x z_B (by decide) g rfl
  go_wp2_with fail
  refine wp_region_inv [[],[0],[],[0,1,2],[0,1,2,3],[],[0,1,2,3,4,5],[0,1,2,3,4,5,6],[0,1,2,3,4,5,6,7],[0,1,2,3,4,5,6,7],[],[0,1,2,3,4,5,6,7,8,10],[0,1,2,3,4,5,6,7,9]] [23,24,25,26,27,28,29,22,30,31,9,10] (fun l s wx=>(Below w3.heap.size w3 wx)∧(l 0=true→s 23=.pointer (some ⟨w.heap.size,6,none⟩))∧(l 1=true→s 24=.slice (some ⟨b3,o3,none⟩) x.hands.length r)∧(l 2=true→s 25=.int .i64 i)∧(l 3=true→s 26=.pointer (some ⟨b3,o3+i*14,none⟩))∧(l 4=true→s 27=.agg (hvals h0))∧(l 5=true→s 28=.agg #[.int .i64 kk,.int .i64 ee])∧(l 6=true→s 29=.tuple #[.agg (hvals H1),.int .i64 cc])∧(l 7=true→s 22=.tuple #[.agg (hvals H1),.int .i64 cc])∧(l 8=true→s 30=.agg (hvals H1))∧(l 9=true→s 31=.int .i64 cc)∧(l 10=true→IsBox wx (s 9) w3.heap.size (cond (l 11) (hvals H1) (hvals Ha.zero)) 60)∧(l 12=true→s 10=.int .i64 cc)) (by kernel_rfl) (by kernel_rfl) (by kernel_rfl) (fun s=>by (simp only [fill,fillA,List.setIfInBounds_toArray,List.set_cons_zero,List.set_cons_succ];rfl)) (fun s=>⟨(Below.refl _ _).drew,fun h=>absurd h Bool.false_ne_true,fun h=>absurd h Bool.false_ne_true,fun h=>absurd h Bool.false_ne_true,fun h=>absurd h Bool.false_ne_true,fun h=>absurd h Bool.false_ne_true,fun h=>absurd h Bool.false_ne_true,fun h=>absurd h Bool.false_ne_true,fun h=>absurd h Bool.false_ne_true,fun h=>absurd h Bool.false_ne_true,fun h=>absurd h Bool.false_ne_true,fun h=>absurd h Bool.false_ne_true,fun h=>absurd h Bool.false_ne_true⟩) ?_ ?_
  refine ⟨?_,?_,?_,?_,?_,?_,?_,?_,?_,?_,?_,?_,?_,trivial⟩;rotate_left 13
  · intro l s w8 hall hf
    have hb8:=hf.1
    obtain ⟨gh,ea,hgh,z_gh⟩:=(hf.2.2.2.2.2.2.2.2.2.2.2.1 (hall 10 rfl))
    have ec:=(hf.2.2.2.2.2.2.2.2.2.2.2.2 (hall 12 rfl))
    rw [hall 11 rfl] at z_gh
    dsimp only [cond] at z_gh
    simp only [ea,ec]
    clear ea ec hf hall
    have hB8:Below w.heap.size w w8:=bT hCw3 hb8
    replace z_wpp:=hpS z_wpp hb8
    replace z_B:=hpS z_B hb8
    replace o1:=own_below o1 hb8
    replace o2:=own_below o2 hb8
    replace o3x:=own_below o3x hb8
    replace o4:=own_below o4 hb8
    have zg8:hp w8 g=hp w3 g:=hb8.block g lg
    have hs8:=hb8.size
    have lB3:B<w3.heap.size:=by have:=(bO z_B).2.2;exact lBw3
    replace z_w:=hpS z_w hb8
    clear x_w x_wp x_wpp f_w f_wp f_wpp l_w z_wp hLd
    obtain ⟨x_w,f_w,l_w⟩:=bO z_w
    obtain ⟨x_B,f_B,l_B⟩:=bO z_B
    obtain ⟨x_gh,f_gh,l_gh⟩:=bO z_gh
    obtain ⟨x_wpp,f_wpp,l_wpp2⟩:=bO z_wpp
    simp only [wvals] at x_B
    have n1:B≠w.heap.size+1+1:=by omega
    have n2:w.heap.size+1+1≠B:=by omega
    have n3:gh≠w.heap.size+1+1:=by omega
    have n4:w.heap.size+1+1≠gh:=by omega
    have n5:gh≠B:=by omega
    have n6:B≠gh:=by omega
    have l1:w.heap.size≤B:=by omega
    by_cases hc:cc=0
    · subst hc
      by_cases hn:x.now=20000
      · obtain rfl:Y=(x,1):=by rw [HA.out];simp [hn]
        have hnb:(x.now == 20000)=true:=by simp [hn]
        clear HA hn
        go_wp2
        refine bodyPost_ret (v:=.tuple #[.agg #[.int .i64 x.ch.cap,.int .i64 x.ch.sent,.int .i64 x.ch.got,.int .i64 x.ch.fin,.slice va x.ch.cells.length vc,.slice vb x.ch.words.length vd,.slice (some ⟨g,0,none⟩) x.hands.length vg,.slice vh x.deals.length vi,.int .i64 x.now],.int .i64 1]) (by simp [results,Try.results17,go_sem, *]) rfl ⟨⟨_,_,_,_,rfl,own_lo (lo:=w1.heap.size) (by (repeat (first|with_reducible exact o1|((with_reducible refine own_store ?_ ?_ _);rotate_left;(focus exact fun e9=>own_offs o1 z_wpp (by decide) _ e9 rfl))))) (by omega),own_lo (lo:=w1.heap.size) (by (repeat (first|with_reducible exact o2|((with_reducible refine own_store ?_ ?_ _);rotate_left;(focus exact fun e9=>own_offs o2 z_wpp (by decide) _ e9 rfl))))) (by omega),own_lo (lo:=w1.heap.size) (by (repeat (first|with_reducible exact o3x|((with_reducible refine own_store ?_ ?_ _);rotate_left;(focus exact fun e9=>own_offs o3x z_wpp (by decide) _ e9 rfl))))) (by omega),own_lo (lo:=w1.heap.size) (by (repeat (first|with_reducible exact o4|((with_reducible refine own_store ?_ ?_ _);rotate_left;(focus exact fun e9=>own_offs o4 z_wpp (by decide) _ e9 rfl))))) (by omega)⟩,by exact zB⟩
      · obtain ⟨y,hy⟩:∃ y,Hid (y=({ H1 with beg:=x.now+1 }:Ha)):=⟨_,rfl⟩
        obtain rfl:Y=({ setHand x i y with now:=x.now+1 },0):=by rw [HA.out,hy.out];simp [hn]
        have hnb:(x.now == 20000)=false:=by simp [hn]
        clear HA
        have zg8c:=fun j hj=>(World.cell?_of_block (a:=⟨g,i*14+j,none⟩) zg8).trans (hgc j hj)
        have zg8f:=fun o=>(World.frozen?_of_block (a:=⟨g,o,none⟩) zg8).trans (hgf o)
        go_wp2_with fail
        have lBg:B<gh:=by omega
        have lgg:g<gh:=by omega
        have lwB:w.heap.size+1+1<B:=by omega
        have lwg:w.heap.size+1+1<gh:=by omega
        generalize hwc:World.setCell _ _ _=wc
        have zgc:hp wc g=hp w8 g:=by rw [← hwc];exact (Below.heap_setCell _ _ _ _ (by (try dsimp only) <;> omega)).trans (Below.heap_setCell _ _ _ _ (by (try dsimp only) <;> omega))
        have c_B:hp wc B=some (.cells #[.int .i64 x.ch.cap,.int .i64 x.ch.sent,.int .i64 x.ch.got,.int .i64 x.ch.fin,.slice va x.ch.cells.length vc,.slice vb x.ch.words.length vd,.slice (some ⟨g,0,none⟩) x.hands.length vg,.slice vh x.deals.length vi,.int .i64 (x.now+1)] 38):=by rw [← hwc];simp [go_sem,z_B,lBg,wvals]
        have c_gh:hp wc gh=some (.cells (hvals y) 60):=by rw [← hwc,hy.out];simp [go_sem,z_gh,lBg]
        have c_wpp:hp wc (w.heap.size+1+1)=some (.cells #[.int .i64 0,.int .i64 0,.int .i64 0,.int .i64 0,.slice none 0 0,.slice none 0 0,.slice none 0 0,.slice none 0 0,.int .i64 0] 38):=by rw [← hwc];simp [go_sem,z_wpp,lwB,lwg]
        have hBc:Below w.heap.size w wc:=by rw [← hwc];exact zB
        have hsc:wc.heap.size=w8.heap.size:=by rw [← hwc];simp
        have q1:wc.ownsRow w1.heap.size 89 3 (.slice va x.ch.cells.length vc) x.ch.cells.length (flatC x.ch.cells):=by rw [← hwc];exact own_store (own_store o1 (fun e9=>own_offs o1 z_B (by decide) _ e9 rfl) _) (fun e9=>own_offs o1 z_gh (by decide) _ e9 rfl) _
        have q2:wc.ownsRow w1.heap.size 2 1 (.slice vb x.ch.words.length vd) x.ch.words.length (ints x.ch.words):=by rw [← hwc];exact own_store (own_store o2 (fun e9=>own_offs o2 z_B (by decide) _ e9 rfl) _) (fun e9=>own_offs o2 z_gh (by decide) _ e9 rfl) _
        have q3:wc.ownsRow w1.heap.size 60 14 (.slice (some ⟨g,0,none⟩) x.hands.length vg) x.hands.length (flatH x.hands):=by rw [← hwc];exact own_store (own_store o3x (fun e9=>own_offs o3x z_B (by decide) _ e9 rfl) _) (fun e9=>by simp [Value.ownBlock] at e9;omega) _
        have q4:wc.ownsRow w1.heap.size 62 7 (.slice vh x.deals.length vi) x.deals.length (flatD x.deals):=by rw [← hwc];exact own_store (own_store o4 (fun e9=>own_offs o4 z_B (by decide) _ e9 rfl) _) (fun e9=>own_offs o4 z_gh (by decide) _ e9 rfl) _
        clear hwc o1 o2 o3x o4 z_B z_gh z_wpp z_w x_B x_gh x_wpp x_w f_B f_gh f_wpp f_w l_w l_wpp2 l_B l_gh
        have hSt:∀ (W:World) (y:Ha),hp W g=hp wc g→(SHand (.pointer (some ⟨g,i*14,none⟩)) (.agg (hvals y))).run Try.prog W=.ok () (setElem W g (i*14) y):=fun W y e=>stHandE y (fun j hj=>⟨_,(World.cell?_of_block (show W.heap[g]?=w8.heap[g]? from e.trans zgc)).trans (zg8c j hj)⟩) (fun j=>(World.frozen?_of_block (show W.heap[g]?=w8.heap[g]? from e.trans zgc)).trans (zg8f j))
        have lgc:g<wc.heap.size:=by omega
        have z_B:=c_B
        have z_gh:=c_gh
        have e1:=off_some (g:=g) (own_off_ty q1 q3 (by decide)) rfl
        have e2:=off_some (g:=g) (own_off_ty q2 q3 (by decide)) rfl
        have e4:=off_some (g:=g) (own_off_ty q4 q3 (by decide)) rfl
        clear c_gh zg8c zg8f zg8 zgc hgc hgf
        refine wp_region_inv [[],[0],[0,1],[0,1,2],[],[],[0,1,2,3,4],[0,1,2,3,4,5,6]] [57,58,59,60,61,62,63] (fun l s wx=>(l 7=false→Below wc.heap.size wc wx)∧(l 0=true→s 57=.pointer (some ⟨B,0,none⟩))∧(l 1=true→s 58=.pointer (some ⟨B,0,none⟩))∧(l 2=true→s 59=.pointer (some ⟨B,6,none⟩))∧(l 3=true→s 60=.slice (some ⟨g,0,none⟩) x.hands.length vg)∧(l 4=true→s 61=.int .i64 i)∧(l 5=true→s 62=.agg (hvals y))∧(l 6=true→s 63=.pointer (some ⟨g,i*14,none⟩))∧(l 7=true→∃ W,Below wc.heap.size wc W∧wx=setElem W g (i*14) y)) (by kernel_rfl) (by kernel_rfl) (by kernel_rfl) (fun s=>by (simp only [fill,fillA,List.setIfInBounds_toArray,List.set_cons_zero,List.set_cons_succ];rfl)) (fun s=>⟨fun _=>(Below.refl _ _).drew,fun h=>absurd h Bool.false_ne_true,fun h=>absurd h Bool.false_ne_true,fun h=>absurd h Bool.false_ne_true,fun h=>absurd h Bool.false_ne_true,fun h=>absurd h Bool.false_ne_true,fun h=>absurd h Bool.false_ne_true,fun h=>absurd h Bool.false_ne_true,fun h=>absurd h Bool.false_ne_true⟩) ?_ ?_
        refine ⟨?_,?_,?_,?_,?_,?_,?_,?_,trivial⟩;rotate_left 8
        · intro l s w9 hall hf
          obtain ⟨wd,hbd,rfl⟩:=hf.2.2.2.2.2.2.2.2 (hall 7 rfl)
          clear hf hall
          have hsd:=hbd.size
          generalize hwe:setElem wd g (i*14) y=we
          have gr:=setElem_gr wd g (i*14) y
          rw [hwe] at gr
          have d_B:=(grHp gr (bO (hpS c_B hbd)).2.2 (by simp;omega)).trans (hpS c_B hbd)
          have d_w:=(grHp gr (bO (hpS c_wpp hbd)).2.2 (by simp;omega)).trans (hpS c_wpp hbd)
          have r1:=World.ownsRow.kept (own_below q1 hbd) gr (.inr e1)
          have r2:=World.ownsRow.kept (own_below q2 hbd) gr (.inr e2)
          have r4:=World.ownsRow.kept (own_below q4 hbd) gr (.inr e4)
          have r3:=OHands.set (own_below q3 hbd) hi y
          rw [hwe] at r3
          have hBe:Below w.heap.size w we:=bOwn (bT hBc hbd) gr (by omega) (fun k hk=>by simp at hk;omega)
          obtain ⟨x_B,f_B,l_B⟩:=bO d_B
          obtain ⟨x_w,f_w,l_w⟩:=bO d_w
          clear hwe gr hSt q1 q2 q3 q4 z_B z_gh c_B c_wpp hbd
          go_wp2
          refine bodyPost_ret (v:=.tuple #[.agg #[.int .i64 x.ch.cap,.int .i64 x.ch.sent,.int .i64 x.ch.got,.int .i64 x.ch.fin,.slice va x.ch.cells.length vc,.slice vb x.ch.words.length vd,.slice (some ⟨g,0,none⟩) x.hands.length vg,.slice vh x.deals.length vi,.int .i64 (x.now+1)],.int .i64 0]) (by simp [results,Try.results17,go_sem, *]) rfl ⟨⟨_,_,_,_,rfl,own_lo (lo:=w1.heap.size) (by (show OCells _ _ _ x.ch.cells);(repeat (first|with_reducible exact r1|((with_reducible refine own_store ?_ ?_ _);rotate_left;(focus exact fun e9=>own_offs r1 d_w (by decide) _ e9 rfl))))) (by omega),own_lo (lo:=w1.heap.size) (by (show OInts _ _ _ x.ch.words);(repeat (first|with_reducible exact r2|((with_reducible refine own_store ?_ ?_ _);rotate_left;(focus exact fun e9=>own_offs r2 d_w (by decide) _ e9 rfl))))) (by omega),own_lo (lo:=w1.heap.size) (by (show OHands _ _ _ (x.hands.set i y));(repeat (first|with_reducible exact r3|((with_reducible refine own_store ?_ ?_ _);rotate_left;(focus exact fun e9=>own_offs r3 d_w (by decide) _ e9 rfl))))) (by omega),own_lo (lo:=w1.heap.size) (by (show ODeals _ _ _ x.deals);(repeat (first|with_reducible exact r4|((with_reducible refine own_store ?_ ?_ _);rotate_left;(focus exact fun e9=>own_offs r4 d_w (by decide) _ e9 rfl))))) (by omega)⟩,by exact zB⟩
        · intro l s wx hl hd hn hf0 K hK
          have hf:=Lib.hid hf0
          clear hf0
          go_simp
          refine hK.out (upd s 57 (.pointer (some ⟨B,0,none⟩))) _ _ (by simp [upd_at] <;> rfl) ⟨hf.out.1,fun _=>rfl,fun h=>absurd h (by rw [show upd l 0 true 1=l 1 from rfl,hn 1 rfl];exact Bool.false_ne_true),fun h=>absurd h (by rw [show upd l 0 true 2=l 2 from rfl,hn 2 rfl];exact Bool.false_ne_true),fun h=>absurd h (by rw [show upd l 0 true 3=l 3 from rfl,hn 3 rfl];exact Bool.false_ne_true),fun h=>(hf.out.2.2.2.2.2.1 h),fun h=>(hf.out.2.2.2.2.2.2.1 h),fun h=>absurd h (by rw [show upd l 0 true 6=l 6 from rfl,hn 6 rfl];exact Bool.false_ne_true),fun h=>absurd h (by rw [show upd l 0 true 7=l 7 from rfl,hn 7 rfl];exact Bool.false_ne_true)⟩
        · intro l s wx hl hd hn hf0 K hK
          have hf:=Lib.hid hf0
          clear hf0
          have e0:=(hf.out.2.1 (hd 0 rfl))
          go_simp
          refine hK.out (upd s 58 (.pointer (some ⟨B,0,none⟩))) _ _ (by simp [upd_at,e0] <;> rfl) ⟨hf.out.1,fun h=>(hf.out.2.1 h),fun _=>rfl,fun h=>absurd h (by rw [show upd l 1 true 2=l 2 from rfl,hn 2 rfl];exact Bool.false_ne_true),fun h=>absurd h (by rw [show upd l 1 true 3=l 3 from rfl,hn 3 rfl];exact Bool.false_ne_true),fun h=>(hf.out.2.2.2.2.2.1 h),fun h=>(hf.out.2.2.2.2.2.2.1 h),fun h=>absurd h (by rw [show upd l 1 true 6=l 6 from rfl,hn 6 rfl];exact Bool.false_ne_true),fun h=>absurd h (by rw [show upd l 1 true 7=l 7 from rfl,hn 7 rfl];exact Bool.false_ne_true)⟩
        · intro l s wx hl hd hn hf0 K hK
          have hf:=Lib.hid hf0
          clear hf0
          have e1:=(hf.out.2.2.1 (hd 1 rfl))
          go_simp
          refine hK.out (upd s 59 (.pointer (some ⟨B,6,none⟩))) _ _ (by simp [upd_at,e1] <;> rfl) ⟨hf.out.1,fun h=>(hf.out.2.1 h),fun h=>(hf.out.2.2.1 h),fun _=>rfl,fun h=>absurd h (by rw [show upd l 2 true 3=l 3 from rfl,hn 3 rfl];exact Bool.false_ne_true),fun h=>(hf.out.2.2.2.2.2.1 h),fun h=>(hf.out.2.2.2.2.2.2.1 h),fun h=>absurd h (by rw [show upd l 2 true 6=l 6 from rfl,hn 6 rfl];exact Bool.false_ne_true),fun h=>absurd h (by rw [show upd l 2 true 7=l 7 from rfl,hn 7 rfl];exact Bool.false_ne_true)⟩
        · intro l s wx hl hd hn hf0 K hK
          have hf:=Lib.hid hf0
          clear hf0
          have e2:=(hf.out.2.2.2.1 (hd 2 rfl))
          have z:=(bO (hpS z_B (hf.out.1 (hn 7 rfl)))).1 6
          go_simp
          refine hK.out (upd s 60 (.slice (some ⟨g,0,none⟩) x.hands.length vg)) _ _ (by simp [upd_at,e2] <;> rfl) ⟨hf.out.1,fun h=>(hf.out.2.1 h),fun h=>(hf.out.2.2.1 h),fun h=>(hf.out.2.2.2.1 h),fun _=>rfl,fun h=>(hf.out.2.2.2.2.2.1 h),fun h=>(hf.out.2.2.2.2.2.2.1 h),fun h=>absurd h (by rw [show upd l 3 true 6=l 6 from rfl,hn 6 rfl];exact Bool.false_ne_true),fun h=>absurd h (by rw [show upd l 3 true 7=l 7 from rfl,hn 7 rfl];exact Bool.false_ne_true)⟩
        · intro l s wx hl hd hn hf0 K hK
          have hf:=Lib.hid hf0
          clear hf0
          go_simp
          refine hK.out (upd s 61 (.int .i64 i)) _ _ (by simp [upd_at] <;> rfl) ⟨hf.out.1,fun h=>(hf.out.2.1 h),fun h=>(hf.out.2.2.1 h),fun h=>(hf.out.2.2.2.1 h),fun h=>(hf.out.2.2.2.2.1 h),fun _=>rfl,fun h=>(hf.out.2.2.2.2.2.2.1 h),fun h=>absurd h (by rw [show upd l 4 true 6=l 6 from rfl,hn 6 rfl];exact Bool.false_ne_true),fun h=>absurd h (by rw [show upd l 4 true 7=l 7 from rfl,hn 7 rfl];exact Bool.false_ne_true)⟩
        · intro l s wx hl hd hn hf0 K hK
          have hf:=Lib.hid hf0
          clear hf0
          have z:=hpS z_gh (hf.out.1 (hn 7 rfl))
          go_simp
          refine hK.out (upd s 62 (.agg (hvals y))) _ _ (by simp [upd_at] <;> rfl) ⟨hf.out.1,fun h=>(hf.out.2.1 h),fun h=>(hf.out.2.2.1 h),fun h=>(hf.out.2.2.2.1 h),fun h=>(hf.out.2.2.2.2.1 h),fun h=>(hf.out.2.2.2.2.2.1 h),fun _=>rfl,fun h=>(hf.out.2.2.2.2.2.2.2.1 h),fun h=>absurd h (by rw [show upd l 5 true 7=l 7 from rfl,hn 7 rfl];exact Bool.false_ne_true)⟩
        · intro l s wx hl hd hn hf0 K hK
          have hf:=Lib.hid hf0
          clear hf0
          have e3:=(hf.out.2.2.2.2.1 (hd 3 rfl))
          have e4:=(hf.out.2.2.2.2.2.1 (hd 4 rfl))
          go_simp
          refine hK.out (upd s 63 (.pointer (some ⟨g,i*14,none⟩))) _ _ (by simp [upd_at,e3,e4] <;> rfl) ⟨hf.out.1,fun h=>(hf.out.2.1 h),fun h=>(hf.out.2.2.1 h),fun h=>(hf.out.2.2.2.1 h),fun h=>(hf.out.2.2.2.2.1 h),fun h=>(hf.out.2.2.2.2.2.1 h),fun h=>(hf.out.2.2.2.2.2.2.1 h),fun _=>rfl,fun h=>absurd h (by rw [show upd l 6 true 7=l 7 from rfl,hn 7 rfl];exact Bool.false_ne_true)⟩
        · intro l s wx hl hd hn hf0 K hK
          have hf:=Lib.hid hf0
          clear hf0
          have e5:=(hf.out.2.2.2.2.2.2.1 (hd 5 rfl))
          have e6:=(hf.out.2.2.2.2.2.2.2.1 (hd 6 rfl))
          have hS:=hSt wx y ((hf.out.1 hl).block g lgc)
          go_simp
          refine hK.out (s) _ _ (by simp [upd_at,e5,e6] <;> rfl) ⟨fun h9=>nU h9 (show upd l 7 true 7=true from rfl),fun h=>(hf.out.2.1 h),fun h=>(hf.out.2.2.1 h),fun h=>(hf.out.2.2.2.1 h),fun h=>(hf.out.2.2.2.2.1 h),fun h=>(hf.out.2.2.2.2.2.1 h),fun h=>(hf.out.2.2.2.2.2.2.1 h),fun h=>(hf.out.2.2.2.2.2.2.2.1 h),fun _=>⟨wx,hf.out.1 hl,rfl⟩⟩
    · obtain rfl:Y=(x,cc):=by rw [HA.out];simp [hc]
      have hcb:(cc == 0)=false:=by simp [hc]
      have hcb2:(cc != 0)=true:=by simp [hc]
      clear HA
      go_wp2
      refine bodyPost_ret (v:=.tuple #[.agg #[.int .i64 x.ch.cap,.int .i64 x.ch.sent,.int .i64 x.ch.got,.int .i64 x.ch.fin,.slice va x.ch.cells.length vc,.slice vb x.ch.words.length vd,.slice (some ⟨g,0,none⟩) x.hands.length vg,.slice vh x.deals.length vi,.int .i64 x.now],.int .i64 cc]) (by simp [results,Try.results17,go_sem, *]) rfl ⟨⟨_,_,_,_,rfl,own_lo (lo:=w1.heap.size) (by (repeat (first|with_reducible exact o1|((with_reducible refine own_store ?_ ?_ _);rotate_left;(focus exact fun e9=>own_offs o1 z_wpp (by decide) _ e9 rfl))))) (by omega),own_lo (lo:=w1.heap.size) (by (repeat (first|with_reducible exact o2|((with_reducible refine own_store ?_ ?_ _);rotate_left;(focus exact fun e9=>own_offs o2 z_wpp (by decide) _ e9 rfl))))) (by omega),own_lo (lo:=w1.heap.size) (by (repeat (first|with_reducible exact o3x|((with_reducible refine own_store ?_ ?_ _);rotate_left;(focus exact fun e9=>own_offs o3x z_wpp (by decide) _ e9 rfl))))) (by omega),own_lo (lo:=w1.heap.size) (by (repeat (first|with_reducible exact o4|((with_reducible refine own_store ?_ ?_ _);rotate_left;(focus exact fun e9=>own_offs o4 z_wpp (by decide) _ e9 rfl))))) (by omega)⟩,by exact zB⟩
  · intro l s wx hl hd hn hf0 K hK
    have hf:=Lib.hid hf0
    clear hf0
    go_simp
    refine hK.out (upd s 23 (.pointer (some ⟨w.heap.size,6,none⟩))) _ _ (by simp [upd_at] <;> rfl) ⟨hf.out.1,fun _=>rfl,fun h=>absurd h (by rw [show upd l 0 true 1=l 1 from rfl,hn 1 rfl];exact Bool.false_ne_true),fun h=>(hf.out.2.2.2.1 h),fun h=>absurd h (by rw [show upd l 0 true 3=l 3 from rfl,hn 3 rfl];exact Bool.false_ne_true),fun h=>absurd h (by rw [show upd l 0 true 4=l 4 from rfl,hn 4 rfl];exact Bool.false_ne_true),fun h=>(hf.out.2.2.2.2.2.2.1 h),fun h=>absurd h (by rw [show upd l 0 true 6=l 6 from rfl,hn 6 rfl];exact Bool.false_ne_true),fun h=>absurd h (by rw [show upd l 0 true 7=l 7 from rfl,hn 7 rfl];exact Bool.false_ne_true),fun h=>absurd h (by rw [show upd l 0 true 8=l 8 from rfl,hn 8 rfl];exact Bool.false_ne_true),fun h=>absurd h (by rw [show upd l 0 true 9=l 9 from rfl,hn 9 rfl];exact Bool.false_ne_true),fun h=>(hf.out.2.2.2.2.2.2.2.2.2.2.2.1 h),fun h=>absurd h (by rw [show upd l 0 true 12=l 12 from rfl,hn 12 rfl];exact Bool.false_ne_true)⟩
  · intro l s wx hl hd hn hf0 K hK
    have hf:=Lib.hid hf0
    clear hf0
    have e0:=(hf.out.2.1 (hd 0 rfl))
    have z6:=(bO (hpS z_w hf.out.1)).1 6
    go_simp
    refine hK.out (upd s 24 (.slice (some ⟨b3,o3,none⟩) x.hands.length r)) _ _ (by simp [upd_at,e0] <;> rfl) ⟨hf.out.1,fun h=>(hf.out.2.1 h),fun _=>rfl,fun h=>(hf.out.2.2.2.1 h),fun h=>absurd h (by rw [show upd l 1 true 3=l 3 from rfl,hn 3 rfl];exact Bool.false_ne_true),fun h=>absurd h (by rw [show upd l 1 true 4=l 4 from rfl,hn 4 rfl];exact Bool.false_ne_true),fun h=>(hf.out.2.2.2.2.2.2.1 h),fun h=>absurd h (by rw [show upd l 1 true 6=l 6 from rfl,hn 6 rfl];exact Bool.false_ne_true),fun h=>absurd h (by rw [show upd l 1 true 7=l 7 from rfl,hn 7 rfl];exact Bool.false_ne_true),fun h=>absurd h (by rw [show upd l 1 true 8=l 8 from rfl,hn 8 rfl];exact Bool.false_ne_true),fun h=>absurd h (by rw [show upd l 1 true 9=l 9 from rfl,hn 9 rfl];exact Bool.false_ne_true),fun h=>(hf.out.2.2.2.2.2.2.2.2.2.2.2.1 h),fun h=>absurd h (by rw [show upd l 1 true 12=l 12 from rfl,hn 12 rfl];exact Bool.false_ne_true)⟩
  · intro l s wx hl hd hn hf0 K hK
    have hf:=Lib.hid hf0
    clear hf0
    go_simp
    refine hK.out (upd s 25 (.int .i64 i)) _ _ (by simp [upd_at] <;> rfl) ⟨hf.out.1,fun h=>(hf.out.2.1 h),fun h=>(hf.out.2.2.1 h),fun _=>rfl,fun h=>absurd h (by rw [show upd l 2 true 3=l 3 from rfl,hn 3 rfl];exact Bool.false_ne_true),fun h=>absurd h (by rw [show upd l 2 true 4=l 4 from rfl,hn 4 rfl];exact Bool.false_ne_true),fun h=>(hf.out.2.2.2.2.2.2.1 h),fun h=>absurd h (by rw [show upd l 2 true 6=l 6 from rfl,hn 6 rfl];exact Bool.false_ne_true),fun h=>absurd h (by rw [show upd l 2 true 7=l 7 from rfl,hn 7 rfl];exact Bool.false_ne_true),fun h=>absurd h (by rw [show upd l 2 true 8=l 8 from rfl,hn 8 rfl];exact Bool.false_ne_true),fun h=>absurd h (by rw [show upd l 2 true 9=l 9 from rfl,hn 9 rfl];exact Bool.false_ne_true),fun h=>(hf.out.2.2.2.2.2.2.2.2.2.2.2.1 h),fun h=>absurd h (by rw [show upd l 2 true 12=l 12 from rfl,hn 12 rfl];exact Bool.false_ne_true)⟩
  · intro l s wx hl hd hn hf0 K hK
    have hf:=Lib.hid hf0
    clear hf0
    have e1:=(hf.out.2.2.1 (hd 1 rfl))
    have e2:=(hf.out.2.2.2.1 (hd 2 rfl))
    go_simp
    refine hK.out (upd s 26 (.pointer (some ⟨b3,o3+i*14,none⟩))) _ _ (by simp [upd_at,e1,e2] <;> rfl) ⟨hf.out.1,fun h=>(hf.out.2.1 h),fun h=>(hf.out.2.2.1 h),fun h=>(hf.out.2.2.2.1 h),fun _=>rfl,fun h=>absurd h (by rw [show upd l 3 true 4=l 4 from rfl,hn 4 rfl];exact Bool.false_ne_true),fun h=>(hf.out.2.2.2.2.2.2.1 h),fun h=>absurd h (by rw [show upd l 3 true 6=l 6 from rfl,hn 6 rfl];exact Bool.false_ne_true),fun h=>absurd h (by rw [show upd l 3 true 7=l 7 from rfl,hn 7 rfl];exact Bool.false_ne_true),fun h=>absurd h (by rw [show upd l 3 true 8=l 8 from rfl,hn 8 rfl];exact Bool.false_ne_true),fun h=>absurd h (by rw [show upd l 3 true 9=l 9 from rfl,hn 9 rfl];exact Bool.false_ne_true),fun h=>(hf.out.2.2.2.2.2.2.2.2.2.2.2.1 h),fun h=>absurd h (by rw [show upd l 3 true 12=l 12 from rfl,hn 12 rfl];exact Bool.false_ne_true)⟩
  · intro l s wx hl hd hn hf0 K hK
    have hf:=Lib.hid hf0
    clear hf0
    have e3:=(hf.out.2.2.2.2.1 (hd 3 rfl))
    have hL:=hLd wx ((bT hCw3 hf.out.1).block b3 hb3)
    go_simp
    refine hK.out (upd s 27 (.agg (hvals h0))) _ _ (by simp [upd_at,e3] <;> rfl) ⟨hf.out.1,fun h=>(hf.out.2.1 h),fun h=>(hf.out.2.2.1 h),fun h=>(hf.out.2.2.2.1 h),fun h=>(hf.out.2.2.2.2.1 h),fun _=>rfl,fun h=>(hf.out.2.2.2.2.2.2.1 h),fun h=>absurd h (by rw [show upd l 4 true 6=l 6 from rfl,hn 6 rfl];exact Bool.false_ne_true),fun h=>absurd h (by rw [show upd l 4 true 7=l 7 from rfl,hn 7 rfl];exact Bool.false_ne_true),fun h=>absurd h (by rw [show upd l 4 true 8=l 8 from rfl,hn 8 rfl];exact Bool.false_ne_true),fun h=>absurd h (by rw [show upd l 4 true 9=l 9 from rfl,hn 9 rfl];exact Bool.false_ne_true),fun h=>(hf.out.2.2.2.2.2.2.2.2.2.2.2.1 h),fun h=>absurd h (by rw [show upd l 4 true 12=l 12 from rfl,hn 12 rfl];exact Bool.false_ne_true)⟩
  · intro l s wx hl hd hn hf0 K hK
    have hf:=Lib.hid hf0
    clear hf0
    have z0:=(bO (hpS z_wp hf.out.1)).1 0
    have z1:=(bO (hpS z_wp hf.out.1)).1 1
    go_simp
    refine hK.out (upd s 28 (.agg #[.int .i64 kk,.int .i64 ee])) _ _ (by simp [upd_at] <;> rfl) ⟨hf.out.1,fun h=>(hf.out.2.1 h),fun h=>(hf.out.2.2.1 h),fun h=>(hf.out.2.2.2.1 h),fun h=>(hf.out.2.2.2.2.1 h),fun h=>(hf.out.2.2.2.2.2.1 h),fun _=>rfl,fun h=>absurd h (by rw [show upd l 5 true 6=l 6 from rfl,hn 6 rfl];exact Bool.false_ne_true),fun h=>absurd h (by rw [show upd l 5 true 7=l 7 from rfl,hn 7 rfl];exact Bool.false_ne_true),fun h=>absurd h (by rw [show upd l 5 true 8=l 8 from rfl,hn 8 rfl];exact Bool.false_ne_true),fun h=>absurd h (by rw [show upd l 5 true 9=l 9 from rfl,hn 9 rfl];exact Bool.false_ne_true),fun h=>(hf.out.2.2.2.2.2.2.2.2.2.2.2.1 h),fun h=>absurd h (by rw [show upd l 5 true 12=l 12 from rfl,hn 12 rfl];exact Bool.false_ne_true)⟩
  · intro l s wx hl hd hn hf0 K hK
    have hf:=Lib.hid hf0
    clear hf0
    have e4:=(hf.out.2.2.2.2.2.1 (hd 4 rfl))
    have e5:=(hf.out.2.2.2.2.2.2.1 (hd 5 rfl))
    go_simp
    go_at_call 53
    refine (called_any h0 kk ee _).mono ?_
    rintro _ wy ⟨rfl,hE⟩
    rw [HCL.out]
    refine hK.out (upd s 29 (.tuple #[.agg (hvals H1),.int .i64 cc])) _ _ (by simp [upd_at,e4,e5] <;> rfl) ⟨bT hf.out.1 hE,fun h=>(hf.out.2.1 h),fun h=>(hf.out.2.2.1 h),fun h=>(hf.out.2.2.2.1 h),fun h=>(hf.out.2.2.2.2.1 h),fun h=>(hf.out.2.2.2.2.2.1 h),fun h=>(hf.out.2.2.2.2.2.2.1 h),fun _=>rfl,fun h=>absurd h (by rw [show upd l 6 true 7=l 7 from rfl,hn 7 rfl];exact Bool.false_ne_true),fun h=>absurd h (by rw [show upd l 6 true 8=l 8 from rfl,hn 8 rfl];exact Bool.false_ne_true),fun h=>absurd h (by rw [show upd l 6 true 9=l 9 from rfl,hn 9 rfl];exact Bool.false_ne_true),fun h=>IsBox.below (hf.out.2.2.2.2.2.2.2.2.2.2.2.1 h) hE,fun h=>absurd h (by rw [show upd l 6 true 12=l 12 from rfl,hn 12 rfl];exact Bool.false_ne_true)⟩
  · intro l s wx hl hd hn hf0 K hK
    have hf:=Lib.hid hf0
    clear hf0
    have e6:=(hf.out.2.2.2.2.2.2.2.1 (hd 6 rfl))
    go_simp
    refine hK.out (upd s 22 (.tuple #[.agg (hvals H1),.int .i64 cc])) _ _ (by simp [upd_at,e6] <;> rfl) ⟨hf.out.1,fun h=>(hf.out.2.1 h),fun h=>(hf.out.2.2.1 h),fun h=>(hf.out.2.2.2.1 h),fun h=>(hf.out.2.2.2.2.1 h),fun h=>(hf.out.2.2.2.2.2.1 h),fun h=>(hf.out.2.2.2.2.2.2.1 h),fun h=>(hf.out.2.2.2.2.2.2.2.1 h),fun _=>rfl,fun h=>absurd h (by rw [show upd l 7 true 8=l 8 from rfl,hn 8 rfl];exact Bool.false_ne_true),fun h=>absurd h (by rw [show upd l 7 true 9=l 9 from rfl,hn 9 rfl];exact Bool.false_ne_true),fun h=>(hf.out.2.2.2.2.2.2.2.2.2.2.2.1 h),fun h=>absurd h (by rw [show upd l 7 true 12=l 12 from rfl,hn 12 rfl];exact Bool.false_ne_true)⟩
  · intro l s wx hl hd hn hf0 K hK
    have hf:=Lib.hid hf0
    clear hf0
    have e7:=(hf.out.2.2.2.2.2.2.2.2.1 (hd 7 rfl))
    go_simp
    refine hK.out (upd s 30 (.agg (hvals H1))) _ _ (by simp [upd_at,e7] <;> rfl) ⟨hf.out.1,fun h=>(hf.out.2.1 h),fun h=>(hf.out.2.2.1 h),fun h=>(hf.out.2.2.2.1 h),fun h=>(hf.out.2.2.2.2.1 h),fun h=>(hf.out.2.2.2.2.2.1 h),fun h=>(hf.out.2.2.2.2.2.2.1 h),fun h=>(hf.out.2.2.2.2.2.2.2.1 h),fun h=>(hf.out.2.2.2.2.2.2.2.2.1 h),fun _=>rfl,fun h=>(hf.out.2.2.2.2.2.2.2.2.2.2.1 h),fun h=>(hf.out.2.2.2.2.2.2.2.2.2.2.2.1 h),fun h=>(hf.out.2.2.2.2.2.2.2.2.2.2.2.2 h)⟩
  · intro l s wx hl hd hn hf0 K hK
    have hf:=Lib.hid hf0
    clear hf0
    have e7:=(hf.out.2.2.2.2.2.2.2.2.1 (hd 7 rfl))
    go_simp
    refine hK.out (upd s 31 (.int .i64 cc)) _ _ (by simp [upd_at,e7] <;> rfl) ⟨hf.out.1,fun h=>(hf.out.2.1 h),fun h=>(hf.out.2.2.1 h),fun h=>(hf.out.2.2.2.1 h),fun h=>(hf.out.2.2.2.2.1 h),fun h=>(hf.out.2.2.2.2.2.1 h),fun h=>(hf.out.2.2.2.2.2.2.1 h),fun h=>(hf.out.2.2.2.2.2.2.2.1 h),fun h=>(hf.out.2.2.2.2.2.2.2.2.1 h),fun h=>(hf.out.2.2.2.2.2.2.2.2.2.1 h),fun _=>rfl,fun h=>(hf.out.2.2.2.2.2.2.2.2.2.2.2.1 h),fun h=>absurd h (by rw [show upd l 9 true 12=l 12 from rfl,hn 12 rfl];exact Bool.false_ne_true)⟩
  · intro l s wx hl hd hn hf0 K hK
    have hf:=Lib.hid hf0
    clear hf0
    go_simp
    refine hK.out (upd s 9 (.pointer (some ⟨wx.heap.size,0,none⟩))) _ _ (by simp [upd_at] <;> rfl) ⟨bT hf.out.1 (belowAlloc _ _),fun h=>(hf.out.2.1 h),fun h=>(hf.out.2.2.1 h),fun h=>(hf.out.2.2.2.1 h),fun h=>(hf.out.2.2.2.2.1 h),fun h=>(hf.out.2.2.2.2.2.1 h),fun h=>(hf.out.2.2.2.2.2.2.1 h),fun h=>(hf.out.2.2.2.2.2.2.2.1 h),fun h=>(hf.out.2.2.2.2.2.2.2.2.1 h),fun h=>(hf.out.2.2.2.2.2.2.2.2.2.1 h),fun h=>(hf.out.2.2.2.2.2.2.2.2.2.2.1 h),fun _=>by rw [show upd l 10 true 11=false from hn 11 rfl];exact IsBox.new (Below.size hf.out.1),fun h=>(hf.out.2.2.2.2.2.2.2.2.2.2.2.2 h)⟩
  · intro l s wx hl hd hn hf0 K hK
    have hf:=Lib.hid hf0
    clear hf0
    have e8:=(hf.out.2.2.2.2.2.2.2.2.2.1 (hd 8 rfl))
    obtain ⟨bb,eb,hlo,zb⟩:=(hf.out.2.2.2.2.2.2.2.2.2.2.2.1 (hd 10 rfl))
    rw [hl] at zb
    dsimp only [cond] at zb
    have zn:hp (setBox wx bb (hvals H1)) bb=some (.cells (hvals H1) 60):=hp_set zb
    go_simp
    refine hK.out (s) _ _ (by simp [upd_at,eb,e8] <;> rfl) ⟨bBx hf.out.1 hlo,fun h=>(hf.out.2.1 h),fun h=>(hf.out.2.2.1 h),fun h=>(hf.out.2.2.2.1 h),fun h=>(hf.out.2.2.2.2.1 h),fun h=>(hf.out.2.2.2.2.2.1 h),fun h=>(hf.out.2.2.2.2.2.2.1 h),fun h=>(hf.out.2.2.2.2.2.2.2.1 h),fun h=>(hf.out.2.2.2.2.2.2.2.2.1 h),fun h=>(hf.out.2.2.2.2.2.2.2.2.2.1 h),fun h=>(hf.out.2.2.2.2.2.2.2.2.2.2.1 h),fun _=>⟨bb,eb,hlo,zn⟩,fun h=>(hf.out.2.2.2.2.2.2.2.2.2.2.2.2 h)⟩
  · intro l s wx hl hd hn hf0 K hK
    have hf:=Lib.hid hf0
    clear hf0
    have e9:=(hf.out.2.2.2.2.2.2.2.2.2.2.1 (hd 9 rfl))
    go_simp
    refine hK.out (upd s 10 (.int .i64 cc)) _ _ (by simp [upd_at,e9] <;> rfl) ⟨hf.out.1,fun h=>(hf.out.2.1 h),fun h=>(hf.out.2.2.1 h),fun h=>(hf.out.2.2.2.1 h),fun h=>(hf.out.2.2.2.2.1 h),fun h=>(hf.out.2.2.2.2.2.1 h),fun h=>(hf.out.2.2.2.2.2.2.1 h),fun h=>(hf.out.2.2.2.2.2.2.2.1 h),fun h=>(hf.out.2.2.2.2.2.2.2.2.1 h),fun h=>(hf.out.2.2.2.2.2.2.2.2.2.1 h),fun h=>(hf.out.2.2.2.2.2.2.2.2.2.2.1 h),fun h=>(hf.out.2.2.2.2.2.2.2.2.2.2.2.1 h),fun _=>rfl⟩
theorem askedI_any (x:Wo) (who kk ee:Int) (a b d e:Option Addr) (p q r s:Nat) (w:World) (h:SegW w w.heap.size x a b d e) (z:NoneW x a b d e p q r s) (m:LenW x) :
    Calls Try.prog 17 #[.agg #[.int .i64 x.ch.cap,.int .i64 x.ch.sent,.int .i64 x.ch.got,.int .i64 x.ch.fin,.slice a x.ch.cells.length p,.slice b x.ch.words.length q,.slice d x.hands.length r,.slice e x.deals.length s,.int .i64 x.now],.int .i64 who,.agg #[.int .i64 kk,.int .i64 ee]] w fun r w'=>WordR w w' (asked x who kk ee).1 (.int .i64 (asked x who kk ee).2) r:=by
  cases hk:worldOk x with
  | false =>
    rw [show asked x who kk ee=(Wo.zero,3) by simp [asked,hk]]
    exact askI_no1 x who kk ee a b d e p q r s w h m hk
  | true =>
    cases ht:taskB x.hands.length who with
    | false =>
      rw [show asked x who kk ee=(Wo.zero,3) by simp [asked,hk,taskOk,ht]]
      exact askI_no2 x who kk ee a b d e p q r s w h m hk ht
    | true =>
      obtain ⟨i,rfl⟩:∃ i:Nat,who=(i:Int):=⟨who.toNat,by simp [taskB,inB] at ht;omega⟩
      exact askI_yes x i kk ee a b d e p q r s w h z m hk (by simp [taskB,inB] at ht;omega)
end Go.Proofs.Ytgpdocmclkpknaa
set_option linter.unusedSimpArgs false
set_option linter.unusedVariables false
namespace Go.Proofs.Ytgpdocmclkpknaa
open Go.RowKit
set_option linter.unusedSimpArgs false
section
variable {P:Program} {ops:Array Oper} {Q:Exit→Act→World→Prop}
/-- A drawn region: the frame F by what lies in the slots, the invariant Φ by what has come up; at the start the slots are as they are. -/
theorem wp_region_inv2 {id:Nat} {a:Act} {w:World} (T:List (List Nat)) (ds:List Nat) (Φ:(Nat→Bool)→(Nat→Value)→World→Prop) {F:(Nat→Value)→Act} (hm:P.follows .mixedOrders=true) (hT:waitsOk T 0 ops.toList=true) (hTl:Nat.ble T.length ops.size=true)
    (hF:∀ s,fill a ds s=F s) (h0:Φ (fun _=>false) (fun k=>a.tmps.getD k undef) w.drew) (steps:Steps P ops Q T F Φ 0 ops.toList)
    (fin:∀ (l:Nat→Bool) (s:Nat→Value) (w:World),(∀ i,Nat.blt i ops.size=true→l i=true)→Φ l s w→Q .normal (F s) w):(Code.region id ops true).wp P Q a w:=by
  refine wp_region_any hm ?_
  have:=wpAny_inv hT hTl steps fin ops.size (Array.replicate ops.size false) (fun _=>false) (fun k=>a.tmps.getD k undef) w.drew (by simp) (fun i hi=>by simp [hi]) (by
    generalize ops.size=n
    induction n with
    | zero=>simp [left]
    | succ n ih=>simp [left];exact ih) (fun i e o _ _ _ h=>by cases h) h0
  rw [← hF,fill_self] at this
  exact this
end
theorem mul_any (n:Nat) (h1:1≤n) (h6:n≤6) (w:World):Calls Try.prog 75 #[.int .u64 1,.int .u64 n] w fun r w'=>r=.returned (.tuple #[.int .u64 0,.int .u64 n])∧w=w':=by
  have hn:n=1∨n=2∨n=3∨n=4∨n=5∨n=6:=by omega
  rcases hn with rfl|rfl|rfl|rfl|rfl|rfl
  all_goals
    go_enter Try.func75,Try.ntmps75
    go_wp2_with (go_at_call 94;go_enter Try.func94,Try.ntmps94)
    exact bodyPost_ret (by simp [results,Try.results75,go_sem] <;> rfl) rfl ⟨rfl,rfl⟩
theorem cutFrom (k n g:Nat) (hk:k<n) (W:World):(Instr.sliceAt 35 (.slice (some ⟨g,0,none⟩) n n) (some (.int .i64 k)) none none).run Try.prog W=.ok (.slice (some ⟨g,k*14,none⟩) (n - k) (n - k)) W:=by
  have he:Try.prog.underlying 35=some (.slice (Try.prog.elem 35)):=by kernel_rfl
  have e2:Try.prog.elem 35=60:=by kernel_rfl
  rw [run_sliceAt_slice _ _ _ _ _ _ he,run_slice_l _ _ _ _ _ he _ _ (by omega) (by omega),e2]
  have hne:¬ n=k:=by omega
  simp [go_sem,sliced,hne,Addr.add]
  exact fun e=>e.symm
theorem cutTo (k n g:Nat) (hk:k<n) (W:World):(Instr.sliceAt 35 (.slice (some ⟨g,0,none⟩) n n) none (some (.int .i64 k)) none).run Try.prog W=.ok (.slice (some ⟨g,0,none⟩) k n) W:=by
  have he:Try.prog.underlying 35=some (.slice (Try.prog.elem 35)):=by kernel_rfl
  have e2:Try.prog.elem 35=60:=by kernel_rfl
  rw [run_sliceAt_slice _ _ _ _ _ _ he,run_slice_h _ _ _ _ _ he _ _ (by omega) (by omega),e2]
  simp [go_sem,sliced]
/-- What is copied lies there already. -/
theorem run_copy_same {P:Program} (w:World) (dT sT ty elem:TypeId) (g o dLen dCap k:Nat) (a:Addr) (sLen sCap N:Nat) (z:Value) (t:TypeId) (m:Nat) (hm:Nat.min sLen dLen=m)
    (hu:P.underlying dT=some (.slice elem)) (hs:(P.info? elem).map (·.size)=some k) (hg:w.heap[g]?=some (.cells (Array.replicate N z) t (0,0))) (hfit:o+m*k≤N)
    (hsrc:∀ j,j<m*k→w.cell? (a.add j)=some z) (h1:z.oneCell'=true) :
    (Builtin.copy_ #[dT,sT] ty #[.slice (some ⟨g,o,none⟩) dLen dCap,.slice (some a) sLen sCap]).run P w=.ok (goInt m) w:=by
  have:=run_copy_big (P:=P) w dT sT ty elem g o dLen dCap k a sLen sCap (Array.replicate N z) t (List.replicate (m*k) z) hu hs hg (by simp [hm]) (fun j v hj=>by
    rw [List.getElem?_replicate] at hj
    split at hj
    · rename_i hlt
      rw [hsrc j hlt];simpa using hj
    · cases hj) (by simpa using hfit) (fun v hv=>by rw [(List.mem_replicate.1 hv).2];exact h1)
  rw [this,hm]
  congr 1
  have e:((Array.replicate N z).toList.take o ++ List.replicate (m*k) z ++ (Array.replicate N z).toList.drop (o+(List.replicate (m*k) z).length)).toArray=Array.replicate N z:=by
    apply Array.ext_getElem?
    intro j
    have hl:((Array.replicate N z).toList.take o ++ List.replicate (m*k) z ++ (Array.replicate N z).toList.drop (o+(List.replicate (m*k) z).length))=List.replicate N z:=by
      simp only [Array.toList_replicate,List.take_replicate,List.drop_replicate,List.length_replicate,List.replicate_append_replicate]
      congr 1
      omega
    rw [hl]
    simp
  rw [e]
  exact setRow_self w g _ t (0,0) hg
theorem zero_cell {w:World} {g N M:Nat} {t:TypeId} {z:Value} (hg:w.heap[g]?=some (.cells (Array.replicate N z) t (0,0))) (hM:M≤N):∀ j,j<M→w.cell? ((⟨g,0,none⟩:Addr).add j)=some z:=by
  intro j hj
  have e:(⟨g,0,none⟩:Addr).add j=⟨g,j,none⟩:=by
    simp [Addr.add];intro e;exact e.symm
  rw [e]
  have h2:j<N:=by omega
  simp [World.cell?,hg,h2]
theorem made_zero (n:Nat):madeCells (hvals Ha.zero) (n*14)=Array.replicate (n*14) (.int .i64 0):=by
  apply Array.ext_getElem?
  intro j
  by_cases hj:j<n*14
  · have h:j % 14=0∨j % 14=1∨j % 14=2∨j % 14=3∨j % 14=4∨j % 14=5∨j % 14=6∨j % 14=7∨j % 14=8∨j % 14=9∨j % 14=10∨j % 14=11∨j % 14=12∨j % 14=13:=by omega
    rw [Array.getElem?_replicate,if_pos hj]
    have e:(madeCells (hvals Ha.zero) (n*14))[j]?=some ((hvals Ha.zero)[j % 14]!):=by simp [madeCells,hj,hvals]
    rw [e]
    rcases h with h|h|h|h|h|h|h|h|h|h|h|h|h|h <;> rw [h] <;> rfl
  · rw [Array.getElem?_eq_none (by simp [madeCells];omega),Array.getElem?_eq_none (by simp;omega)]
set_option maxRecDepth 100000 in
set_option maxHeartbeats 4000000 in
theorem repeat_any (n g0:Nat) (h1:1≤n) (h6:n≤6) (w:World) (h0:∀ j,j<14→w.cell? ⟨g0,j,none⟩=some (.int .i64 0)) (l0:g0<w.heap.size) :
    Calls Try.prog 41 #[.slice (some ⟨g0,0,none⟩) 1 1,.int .i64 n] w fun r w'=>(∃ g,r=.returned (.slice (some ⟨g,0,none⟩) n n)∧w.heap.size≤g∧hp w' g=some (.cells (Array.replicate (n*14) (.int .i64 0)) 60))∧Below w.heap.size w w':=by
  have hmk:=mkHands n (by omega)
  simp only [made_zero] at hmk
  have hn0:decide ((n:Int)<0)=false:=by simp
  have hn1:decide ((9223372036854775807:Int)<(n:Int))=false:=by simp;omega
  have M:=fun w=>mul_any n h1 h6 w
  have MM:=Lib.hid M
  clear M
  have H0:=Lib.hid h0
  clear h0
  go_enter Try.func41,Try.ntmps41
  go_wp2_with (go_at_call 75;refine (MM.out _).mono ?_;rintro _ _ ⟨rfl,rfl⟩)
  generalize hwa:World.alloc w _=wa
  have hga:hp wa w.heap.size=some (.cells (Array.replicate (n*14) (.int .i64 0)) 60):=by rw [← hwa];exact heap_alloc_new _ _
  have hBa:Below w.heap.size w wa:=by rw [← hwa];exact belowAlloc _ _
  have lga0:w.heap.size<wa.heap.size:=(bO hga).2.2
  clear hwa hmk
  rw [run_copy_same (P:=Try.prog) wa 35 35 3 60 w.heap.size 0 n n 14 ⟨g0,0,none⟩ 1 1 (n*14) _ 60 1 (by simp [Nat.min_def];omega) Try.underlying35 (by kernel_rfl) hga (by omega) (fun j hj=>by rw [show (⟨g0,0,none⟩:Addr).add j=⟨g0,j,none⟩ by simp [Addr.add];intro e;exact e.symm];exact (hBa.cell (p:=⟨g0,j,none⟩) l0).trans (H0.out j (by omega))) rfl]
  go_wp2_with fail
  go_loopw [8] (fun v wr=>∃ k:Nat,1≤k∧k≤n∧v=.int .i64 k∧Below wa.heap.size wa wr) (fun v _=>n - (intOf v).toNat)
  case atStart=>exact ⟨1,Nat.le_refl _,h1,rfl,Below.refl _ _⟩
  case round =>
    obtain ⟨k,hk1,hkn,rfl,hBr⟩:=hrel
    by_cases hlt:k<n
    · have hgr:=(hBr.block w.heap.size lga0).trans hga
      have lga:w.heap.size<wr.heap.size:=by have:=hBr.size;omega
      have hF:=fun W=>cutFrom k n w.heap.size hlt W
      have hT:=fun W=>cutTo k n w.heap.size hlt W
      obtain ⟨m,hm⟩:∃ m,Nat.min k (n - k)=m:=⟨_,rfl⟩
      have hm1:1≤m:=by have e:min k (n - k)=m:=hm;omega
      have hm2:m≤n - k:=by have e:min k (n - k)=m:=hm;omega
      have hm3:m≤k:=by have e:min k (n - k)=m:=hm;omega
      go_wp2_with fail
      refine wp_region_inv2 [[],[],[],[1,2],[],[],[4,5],[1,2,3,4,5,6],[0,1,2,3,4,5,6,7],[0,1,2,3,4,5,6,7,8]] [38,39,40,41,42,43,44,45,46,8] (fun l s wx=>(Below wr.heap.size wr wx)∧(l 9=false→s 8=.int .i64 k)∧(l 0=true→s 38=.int .i64 k)∧(l 1=true→s 39=.slice (some ⟨w.heap.size,0,none⟩) n n)∧(l 2=true→s 40=.int .i64 k)∧(l 3=true→s 41=.slice (some ⟨w.heap.size,k*14,none⟩) (n - k) (n - k))∧(l 4=true→s 42=.slice (some ⟨w.heap.size,0,none⟩) n n)∧(l 5=true→s 43=.int .i64 k)∧(l 6=true→s 44=.slice (some ⟨w.heap.size,0,none⟩) k n)∧(l 7=true→s 45=.int .i64 m)∧(l 8=true→s 46=.int .i64 ((k:Int)+m))∧(l 9=true→s 8=.int .i64 ((k:Int)+m))) (by kernel_rfl) (by kernel_rfl) (by kernel_rfl) (fun s=>by (simp only [fill,fillA,List.setIfInBounds_toArray,List.set_cons_zero,List.set_cons_succ];rfl)) (⟨(Below.refl _ _).drew,fun _=>rfl,fun h=>absurd h Bool.false_ne_true,fun h=>absurd h Bool.false_ne_true,fun h=>absurd h Bool.false_ne_true,fun h=>absurd h Bool.false_ne_true,fun h=>absurd h Bool.false_ne_true,fun h=>absurd h Bool.false_ne_true,fun h=>absurd h Bool.false_ne_true,fun h=>absurd h Bool.false_ne_true,fun h=>absurd h Bool.false_ne_true,fun h=>absurd h Bool.false_ne_true⟩) ?_ ?_
      refine ⟨?_,?_,?_,?_,?_,?_,?_,?_,?_,?_,trivial⟩;rotate_left 10
      · intro l s w3 hall hf
        have hb3:=hf.1
        have ec:=(hf.2.2.2.2.2.2.2.2.2.2.2 (hall 9 rfl))
        simp only [ec]
        clear ec hf hall
        go_wp2
        go_roundw
        case rel=>exact ⟨k+m,by omega,by omega,by (try simp) <;> rfl,hBr.trans (hb3.mono hBr.size)⟩
        case measure=>simp [intOf];omega
      · intro l s wx hl hd hn hf0 K hK
        have hf:=Lib.hid hf0
        clear hf0
        have e8:=hf.out.2.1 (hn 9 rfl)
        go_simp
        refine hK.out (upd s 38 (.int .i64 k)) _ _ (by simp [upd_at,e8] <;> rfl) ⟨hf.out.1,hf.out.2.1,fun _=>rfl,fun h=>(hf.out.2.2.2.1 h),fun h=>(hf.out.2.2.2.2.1 h),fun h=>(hf.out.2.2.2.2.2.1 h),fun h=>(hf.out.2.2.2.2.2.2.1 h),fun h=>(hf.out.2.2.2.2.2.2.2.1 h),fun h=>(hf.out.2.2.2.2.2.2.2.2.1 h),fun h=>(hf.out.2.2.2.2.2.2.2.2.2.1 h),fun h=>absurd h (by rw [show upd l 0 true 8=l 8 from rfl,hn 8 rfl];exact Bool.false_ne_true),fun h=>absurd h (by rw [show upd l 0 true 9=l 9 from rfl,hn 9 rfl];exact Bool.false_ne_true)⟩
      · intro l s wx hl hd hn hf0 K hK
        have hf:=Lib.hid hf0
        clear hf0
        go_simp
        refine hK.out (upd s 39 (.slice (some ⟨w.heap.size,0,none⟩) n n)) _ _ (by simp [upd_at] <;> rfl) ⟨hf.out.1,hf.out.2.1,fun h=>(hf.out.2.2.1 h),fun _=>rfl,fun h=>(hf.out.2.2.2.2.1 h),fun h=>absurd h (by rw [show upd l 1 true 3=l 3 from rfl,hn 3 rfl];exact Bool.false_ne_true),fun h=>(hf.out.2.2.2.2.2.2.1 h),fun h=>(hf.out.2.2.2.2.2.2.2.1 h),fun h=>(hf.out.2.2.2.2.2.2.2.2.1 h),fun h=>absurd h (by rw [show upd l 1 true 7=l 7 from rfl,hn 7 rfl];exact Bool.false_ne_true),fun h=>absurd h (by rw [show upd l 1 true 8=l 8 from rfl,hn 8 rfl];exact Bool.false_ne_true),fun h=>absurd h (by rw [show upd l 1 true 9=l 9 from rfl,hn 9 rfl];exact Bool.false_ne_true)⟩
      · intro l s wx hl hd hn hf0 K hK
        have hf:=Lib.hid hf0
        clear hf0
        have e8:=hf.out.2.1 (hn 9 rfl)
        go_simp
        refine hK.out (upd s 40 (.int .i64 k)) _ _ (by simp [upd_at,e8] <;> rfl) ⟨hf.out.1,hf.out.2.1,fun h=>(hf.out.2.2.1 h),fun h=>(hf.out.2.2.2.1 h),fun _=>rfl,fun h=>absurd h (by rw [show upd l 2 true 3=l 3 from rfl,hn 3 rfl];exact Bool.false_ne_true),fun h=>(hf.out.2.2.2.2.2.2.1 h),fun h=>(hf.out.2.2.2.2.2.2.2.1 h),fun h=>(hf.out.2.2.2.2.2.2.2.2.1 h),fun h=>absurd h (by rw [show upd l 2 true 7=l 7 from rfl,hn 7 rfl];exact Bool.false_ne_true),fun h=>absurd h (by rw [show upd l 2 true 8=l 8 from rfl,hn 8 rfl];exact Bool.false_ne_true),fun h=>absurd h (by rw [show upd l 2 true 9=l 9 from rfl,hn 9 rfl];exact Bool.false_ne_true)⟩
      · intro l s wx hl hd hn hf0 K hK
        have hf:=Lib.hid hf0
        clear hf0
        have e1:=(hf.out.2.2.2.1 (hd 1 rfl))
        have e2:=(hf.out.2.2.2.2.1 (hd 2 rfl))
        go_simp
        refine hK.out (upd s 41 (.slice (some ⟨w.heap.size,k*14,none⟩) (n - k) (n - k))) _ _ (by simp [upd_at,e1,e2] <;> rfl) ⟨hf.out.1,hf.out.2.1,fun h=>(hf.out.2.2.1 h),fun h=>(hf.out.2.2.2.1 h),fun h=>(hf.out.2.2.2.2.1 h),fun _=>rfl,fun h=>(hf.out.2.2.2.2.2.2.1 h),fun h=>(hf.out.2.2.2.2.2.2.2.1 h),fun h=>(hf.out.2.2.2.2.2.2.2.2.1 h),fun h=>absurd h (by rw [show upd l 3 true 7=l 7 from rfl,hn 7 rfl];exact Bool.false_ne_true),fun h=>absurd h (by rw [show upd l 3 true 8=l 8 from rfl,hn 8 rfl];exact Bool.false_ne_true),fun h=>absurd h (by rw [show upd l 3 true 9=l 9 from rfl,hn 9 rfl];exact Bool.false_ne_true)⟩
      · intro l s wx hl hd hn hf0 K hK
        have hf:=Lib.hid hf0
        clear hf0
        go_simp
        refine hK.out (upd s 42 (.slice (some ⟨w.heap.size,0,none⟩) n n)) _ _ (by simp [upd_at] <;> rfl) ⟨hf.out.1,hf.out.2.1,fun h=>(hf.out.2.2.1 h),fun h=>(hf.out.2.2.2.1 h),fun h=>(hf.out.2.2.2.2.1 h),fun h=>(hf.out.2.2.2.2.2.1 h),fun _=>rfl,fun h=>(hf.out.2.2.2.2.2.2.2.1 h),fun h=>absurd h (by rw [show upd l 4 true 6=l 6 from rfl,hn 6 rfl];exact Bool.false_ne_true),fun h=>absurd h (by rw [show upd l 4 true 7=l 7 from rfl,hn 7 rfl];exact Bool.false_ne_true),fun h=>absurd h (by rw [show upd l 4 true 8=l 8 from rfl,hn 8 rfl];exact Bool.false_ne_true),fun h=>absurd h (by rw [show upd l 4 true 9=l 9 from rfl,hn 9 rfl];exact Bool.false_ne_true)⟩
      · intro l s wx hl hd hn hf0 K hK
        have hf:=Lib.hid hf0
        clear hf0
        have e8:=hf.out.2.1 (hn 9 rfl)
        go_simp
        refine hK.out (upd s 43 (.int .i64 k)) _ _ (by simp [upd_at,e8] <;> rfl) ⟨hf.out.1,hf.out.2.1,fun h=>(hf.out.2.2.1 h),fun h=>(hf.out.2.2.2.1 h),fun h=>(hf.out.2.2.2.2.1 h),fun h=>(hf.out.2.2.2.2.2.1 h),fun h=>(hf.out.2.2.2.2.2.2.1 h),fun _=>rfl,fun h=>absurd h (by rw [show upd l 5 true 6=l 6 from rfl,hn 6 rfl];exact Bool.false_ne_true),fun h=>absurd h (by rw [show upd l 5 true 7=l 7 from rfl,hn 7 rfl];exact Bool.false_ne_true),fun h=>absurd h (by rw [show upd l 5 true 8=l 8 from rfl,hn 8 rfl];exact Bool.false_ne_true),fun h=>absurd h (by rw [show upd l 5 true 9=l 9 from rfl,hn 9 rfl];exact Bool.false_ne_true)⟩
      · intro l s wx hl hd hn hf0 K hK
        have hf:=Lib.hid hf0
        clear hf0
        have e4:=(hf.out.2.2.2.2.2.2.1 (hd 4 rfl))
        have e5:=(hf.out.2.2.2.2.2.2.2.1 (hd 5 rfl))
        go_simp
        refine hK.out (upd s 44 (.slice (some ⟨w.heap.size,0,none⟩) k n)) _ _ (by simp [upd_at,e4,e5] <;> rfl) ⟨hf.out.1,hf.out.2.1,fun h=>(hf.out.2.2.1 h),fun h=>(hf.out.2.2.2.1 h),fun h=>(hf.out.2.2.2.2.1 h),fun h=>(hf.out.2.2.2.2.2.1 h),fun h=>(hf.out.2.2.2.2.2.2.1 h),fun h=>(hf.out.2.2.2.2.2.2.2.1 h),fun _=>rfl,fun h=>absurd h (by rw [show upd l 6 true 7=l 7 from rfl,hn 7 rfl];exact Bool.false_ne_true),fun h=>absurd h (by rw [show upd l 6 true 8=l 8 from rfl,hn 8 rfl];exact Bool.false_ne_true),fun h=>absurd h (by rw [show upd l 6 true 9=l 9 from rfl,hn 9 rfl];exact Bool.false_ne_true)⟩
      · intro l s wx hl hd hn hf0 K hK
        have hf:=Lib.hid hf0
        clear hf0
        have e3:=(hf.out.2.2.2.2.2.1 (hd 3 rfl))
        have e6:=(hf.out.2.2.2.2.2.2.2.2.1 (hd 6 rfl))
        have hg:=((hf.out.1).block w.heap.size lga).trans hgr
        have hrun:=run_copy_same (P:=Try.prog) wx 35 35 3 60 w.heap.size (k*14) (n - k) (n - k) 14 ⟨w.heap.size,0,none⟩ k n (n*14) _ 60 m hm Try.underlying35 (by kernel_rfl) hg (by omega) (zero_cell hg (by omega)) rfl
        go_simp
        refine hK.out (upd s 45 (.int .i64 m)) _ _ (by simp [upd_at,e3,e6] <;> rfl) ⟨hf.out.1,hf.out.2.1,fun h=>(hf.out.2.2.1 h),fun h=>(hf.out.2.2.2.1 h),fun h=>(hf.out.2.2.2.2.1 h),fun h=>(hf.out.2.2.2.2.2.1 h),fun h=>(hf.out.2.2.2.2.2.2.1 h),fun h=>(hf.out.2.2.2.2.2.2.2.1 h),fun h=>(hf.out.2.2.2.2.2.2.2.2.1 h),fun _=>rfl,fun h=>absurd h (by rw [show upd l 7 true 8=l 8 from rfl,hn 8 rfl];exact Bool.false_ne_true),fun h=>absurd h (by rw [show upd l 7 true 9=l 9 from rfl,hn 9 rfl];exact Bool.false_ne_true)⟩
      · intro l s wx hl hd hn hf0 K hK
        have hf:=Lib.hid hf0
        clear hf0
        have e0:=(hf.out.2.2.1 (hd 0 rfl))
        have e7:=(hf.out.2.2.2.2.2.2.2.2.2.1 (hd 7 rfl))
        have hW:IntKind.i64.wrap ((k:Int)+(m:Int))=(k:Int)+m:=IntWalk.i64_in _ (by omega)
        go_simp
        refine hK.out (upd s 46 (.int .i64 ((k:Int)+m))) _ _ (by simp [upd_at,e0,e7] <;> rfl) ⟨hf.out.1,hf.out.2.1,fun h=>(hf.out.2.2.1 h),fun h=>(hf.out.2.2.2.1 h),fun h=>(hf.out.2.2.2.2.1 h),fun h=>(hf.out.2.2.2.2.2.1 h),fun h=>(hf.out.2.2.2.2.2.2.1 h),fun h=>(hf.out.2.2.2.2.2.2.2.1 h),fun h=>(hf.out.2.2.2.2.2.2.2.2.1 h),fun h=>(hf.out.2.2.2.2.2.2.2.2.2.1 h),fun _=>rfl,fun h=>absurd h (by rw [show upd l 8 true 9=l 9 from rfl,hn 9 rfl];exact Bool.false_ne_true)⟩
      · intro l s wx hl hd hn hf0 K hK
        have hf:=Lib.hid hf0
        clear hf0
        have e8:=(hf.out.2.2.2.2.2.2.2.2.2.2.1 (hd 8 rfl))
        go_simp
        refine hK.out (upd s 8 (.int .i64 ((k:Int)+m))) _ _ (by simp [upd_at,e8] <;> rfl) ⟨hf.out.1,fun h9=>nU h9 (show upd l 9 true 9=true from rfl),fun h=>(hf.out.2.2.1 h),fun h=>(hf.out.2.2.2.1 h),fun h=>(hf.out.2.2.2.2.1 h),fun h=>(hf.out.2.2.2.2.2.1 h),fun h=>(hf.out.2.2.2.2.2.2.1 h),fun h=>(hf.out.2.2.2.2.2.2.2.1 h),fun h=>(hf.out.2.2.2.2.2.2.2.2.1 h),fun h=>(hf.out.2.2.2.2.2.2.2.2.2.1 h),fun h=>(hf.out.2.2.2.2.2.2.2.2.2.2.1 h),fun _=>rfl⟩
    · have:k=n:=by omega
      subst this
      go_wp2
      go_ret
      exact ⟨⟨_,rfl,Nat.le_refl _,(hBr.block w.heap.size lga0).trans hga⟩,hBa.trans (hBr.mono hBa.size)⟩
end Go.Proofs.Ytgpdocmclkpknaa
set_option linter.unusedSimpArgs false
set_option linter.unusedVariables false
namespace Go.Proofs.Ytgpdocmclkpknaa
open Go.RowKit
end Go.Proofs.Ytgpdocmclkpknaa
set_option linter.unusedSimpArgs false
set_option linter.unusedVariables false
namespace Go.Proofs.Ytgpdocmclkpknaa
open Go.RowKit
theorem Lie.take {w:World} {b n m k:Nat} {f:Nat→Nat→Value} (h:Lie w b n k f) (hm:m≤n):Lie w b m k f:=by
  obtain ⟨c,t,hb,hn,hc⟩:=h
  exact ⟨c,t,hb,Nat.le_trans (Nat.mul_le_mul_right k hm) hn,fun i j hi hj=>hc i j (by omega) hj⟩
theorem Lie.alloc {w:World} {b n k:Nat} {f:Nat→Nat→Value} (h:Lie w b n k f) (o:Obj):Lie (w.alloc o) b n k f:=h.of_block (Below.heap_alloc w o b h.lt)
theorem infoRow:(Try.prog.info? 106).map (fun i=>(i.zero,i.size,i.bytes))=some (some (.agg (Array.replicate 120 (.int .i64 0))),120,960):=by kernel_rfl
set_option maxRecDepth 100000 in
theorem zeroRow (w:World):(zeroValue 106).run Try.prog w=.ok (.agg (Array.replicate 120 (.int .i64 0))) w:=by
  obtain ⟨i,hi,hz,_⟩:=info_parts infoRow
  have e:Try.prog.info? 106=some Try.t106:=by kernel_rfl
  obtain rfl:Try.t106=i:=by rw [e] at hi;exact Option.some.inj hi
  simp [zeroValue,go_sem,hz]
theorem cellF_zero (n i j:Nat):cellF (List.replicate n C3.zero) i j=.int .i64 0:=by
  have e:(List.replicate n C3.zero).getD i ⟨0,0,0⟩=⟨0,0,0⟩:=by
    unfold List.getD;rw [List.getElem?_replicate];split <;> rfl
  unfold cellF
  rw [e]
  match j with
  | 0=>rfl
  | 1=>rfl
  | n+2=>rfl
set_option maxRecDepth 100000 in
theorem lie_cells (w:World) (g:Nat) (h:g=w.heap.size):Lie (w.alloc (.cells (Array.replicate 120 (.int .i64 0)) 106)) g 40 3 (cellF (List.replicate 40 C3.zero)):=by
  subst h
  refine ⟨_,_,heap_alloc_new w _,by simp,fun i j hi hj=>?_⟩
  rw [cellF_zero,Array.getElem?_replicate,if_pos (by omega)]
set_option maxRecDepth 100000 in
set_option maxHeartbeats 1000000 in
theorem newChan_any (cap:Int) (w:World):Calls Try.prog 40 #[.int .i64 cap] w fun r w' =>
    (∃ v1 v2,r=.returned (.agg #[.int .i64 (newChan cap).cap,.int .i64 (newChan cap).sent,.int .i64 (newChan cap).got,.int .i64 (newChan cap).fin,v1,v2])∧NewC w' w.heap.size v1 (newChan cap).cells∧NewI w' w.heap.size v2 (newChan cap).words∧v2.ownBlock=none)∧Below w.heap.size w w':=by
  by_cases h:inB cap 0 4=true
  · have e:newChan cap=⟨cap,0,0,cap,List.replicate 40 C3.zero,[]⟩:=by simp [newChan,h]
    rw [e]
    have hz:=zeroRow
    have HZ:Hid (∀ (W:World) (g lo n:Nat),g=W.heap.size→lo≤W.heap.size→n=40→NewC (W.alloc (.cells (Array.replicate 120 (.int .i64 0)) 106)) lo (.slice (some ⟨g,0,none⟩) n n) (List.replicate 40 C3.zero)):=fun W g lo n hg h hn=>by
      subst hn
      exact .inr ⟨g,40,by simp,by omega,by simpa using lie_cells W g hg⟩
    generalize Array.replicate 120 (Value.int .i64 0)=mz at hz HZ
    go_enter Try.func40,Try.ntmps40
    go_wp2_with (first|(go_at_call 32;refine (inRange_any _ _ _).mono ?_;rintro _ _ ⟨rfl,rfl⟩)|(go_at_call 74;refine (cutC_any 40 (by omega) _ _).mono ?_;rintro _ _ ⟨rfl,rfl⟩))
    refine bodyPost_ret (v:=.agg #[.int .i64 cap,.int .i64 0,.int .i64 0,.int .i64 cap,.slice (some ⟨w.heap.size+1,0,none⟩) 40 40,.slice none 0 0]) (by simp [results,Try.results40,go_sem, *]) rfl ⟨⟨_,_,rfl,HZ.out _ _ _ _ (by simp) (by simp) rfl,.inl ⟨rfl,rfl⟩,rfl⟩,?_⟩
    exact zB
  · have e:newChan cap=Ch.zero:=by simp [newChan,h]
    rw [e]
    go_enter Try.func40,Try.ntmps40
    go_wp2_with (go_at_call 32;refine (inRange_any _ _ _).mono ?_;rintro _ _ ⟨rfl,rfl⟩)
    refine bodyPost_ret (v:=.agg #[.int .i64 0,.int .i64 0,.int .i64 0,.int .i64 0,.slice none 0 0,.slice none 0 0]) (by simp [results,Try.results40,go_sem, *]) rfl ⟨⟨_,_,rfl,.inl ⟨rfl,rfl⟩,.inl ⟨rfl,rfl⟩,rfl⟩,?_⟩
    exact zB
end Go.Proofs.Ytgpdocmclkpknaa
set_option linter.unusedSimpArgs false
set_option linter.unusedVariables false
namespace Go.Proofs.Ytgpdocmclkpknaa
open Go.RowKit
set_option linter.unusedSimpArgs false
attribute [local simp] bx_size
attribute [local go_sem ↓] zeroHand zeroChan toLHand toLChan toVHand toVChan storeHand storeChan storeHandC storeChanC
end Go.Proofs.Ytgpdocmclkpknaa
set_option linter.unusedSimpArgs false
set_option linter.unusedVariables false
namespace Go.Proofs.Ytgpdocmclkpknaa
open Go.RowKit
end Go.Proofs.Ytgpdocmclkpknaa
