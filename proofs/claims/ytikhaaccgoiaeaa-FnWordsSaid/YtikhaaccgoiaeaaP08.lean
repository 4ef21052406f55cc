/-
  Stopping and asking, of the reference model, all cases; lists lie in memory and hold at most 2 ^ 40 elements.
  What comes of a step of the reference model, on hands and channels that are kept whole; the lists are the call's own.
  The contracts of the reference model's Laid and Turned; no condition.
  The reference model's writing into a cell of a channel of one's own; the lists are the call's own.
  The reference model's functions of chapter 6, on hands and channels that are kept whole; lists hold at most 2 ^ 40 elements.
-/
import Derived.Test.YtikhaaccgoiaeaaP06
import Derived.Test.YtikhaaccgoiaeaaP07
import Derived.BigRegion
import Derived.Test.YtikhaaccgoiaeaaP02
import Derived.Test.YtikhaaccgoiaeaaP01
import Derived.Test.YtikhaaccgoiaeaaP04
set_option linter.unusedSimpArgs false
set_option linter.unusedVariables false
namespace Go.Proofs.Ytikhaaccgoiaeaa
open Go.RowKit
set_option linter.unusedSimpArgs false

theorem world_now {x:Wo} (h:worldOk x=true):0≤x.now∧x.now≤20000:=by
  simp [worldOk,worldHead,inB] at h
  omega
theorem sStopped_any (x:Wo) (who:Int) (a b d e:Option Addr) (p q r s:Nat) (w:World) (h1:Seg w w.heap.size a x.ch.cells.length 3 (cellF x.ch.cells)) (z1:a=none→p=0) (h2:Seg w w.heap.size b x.ch.words.length 1 (intF x.ch.words)) (z2:b=none→q=0) (h3:Seg w w.heap.size d x.hands.length 14 (handF x.hands)) (z3:d=none→x.hands.length=0∧r=0) (h4:Seg w w.heap.size e x.deals.length 7 (dealF x.deals)) (z4:e=none→x.deals.length=0∧s=0) (m1:x.ch.cells.length≤1099511627776) (m2:x.ch.words.length≤1099511627776) (m3:x.hands.length≤1099511627776) (m4:x.deals.length≤1099511627776) :
    Calls Try.prog 85 #[.agg #[.int .i64 x.ch.cap,.int .i64 x.ch.sent,.int .i64 x.ch.got,.int .i64 x.ch.fin,.slice a x.ch.cells.length p,.slice b x.ch.words.length q,.slice d x.hands.length r,.slice e x.deals.length s,.int .i64 x.now],.int .i64 who] w fun r w'=>WordR w w' (stopped x who).1 (.bool (stopped x who).2) r:=by
  cases hk:worldOk x with
  | false=>exact stopped_no1 x who a b d e p q r s w h1 z1 h2 z2 h3 z3 h4 z4 m1 m2 m3 m4 hk
  | true =>
    cases ht:taskOk x who with
    | false=>exact stopped_no2 x who a b d e p q r s w h1 z1 h2 z2 h3 z3 h4 z4 m1 m2 m3 m4 hk ht
    | true =>
      cases hp:(handAt x who).pos != 23 with
      | true=>exact stopped_off x who a b d e p q r s w h1 z1 h2 z2 h3 z3 h4 z4 m1 m2 m3 m4 hk ht hp
      | false=>exact stopped_on x who a b d e p q r s w h1 z1 h2 z2 h3 z3 h4 z4 m1 m2 m3 m4 hk ht hp
theorem sAsked_any (x:Wo) (who kk ee:Int) (a b d e:Option Addr) (p q r s:Nat) (w:World) (h1:Seg w w.heap.size a x.ch.cells.length 3 (cellF x.ch.cells)) (z1:a=none→p=0) (h2:Seg w w.heap.size b x.ch.words.length 1 (intF x.ch.words)) (z2:b=none→q=0) (h3:Seg w w.heap.size d x.hands.length 14 (handF x.hands)) (z3:d=none→x.hands.length=0∧r=0) (h4:Seg w w.heap.size e x.deals.length 7 (dealF x.deals)) (z4:e=none→x.deals.length=0∧s=0) (m1:x.ch.cells.length≤1099511627776) (m2:x.ch.words.length≤1099511627776) (m3:x.hands.length≤1099511627776) (m4:x.deals.length≤1099511627776) :
    Calls Try.prog 83 #[.agg #[.int .i64 x.ch.cap,.int .i64 x.ch.sent,.int .i64 x.ch.got,.int .i64 x.ch.fin,.slice a x.ch.cells.length p,.slice b x.ch.words.length q,.slice d x.hands.length r,.slice e x.deals.length s,.int .i64 x.now],.int .i64 who,.agg #[.int .i64 kk,.int .i64 ee]] w fun r w'=>WordR w w' (asked x who kk ee).1 (.int .i64 (asked x who kk ee).2) r:=by
  cases hk:worldOk x with
  | false=>exact asked_no1 x who kk ee a b d e p q r s w h1 z1 h2 z2 h3 z3 h4 z4 m1 m2 m3 m4 hk
  | true =>
    cases ht:taskOk x who with
    | false=>exact asked_no2 x who kk ee a b d e p q r s w h1 z1 h2 z2 h3 z3 h4 z4 m1 m2 m3 m4 hk ht
    | true =>
      cases hc:(called (handAt x who) kk ee).2 != 0 with
      | true=>exact asked_code x who kk ee a b d e p q r s w h1 z1 h2 z2 h3 z3 h4 z4 m1 m2 m3 m4 hk ht hc
      | false =>
        cases hn:x.now == 20000 with
        | true=>exact asked_busy x who kk ee a b d e p q r s w h1 z1 h2 z2 h3 z3 h4 z4 m1 m2 m3 m4 hk ht hc hn
        | false=>exact asked_ok x who kk ee a b d e p q r s w h1 z1 h2 z2 h3 z3 h4 z4 m1 m2 m3 m4 hk ht hc hn (world_now hk)
end Go.Proofs.Ytikhaaccgoiaeaa
set_option linter.unusedSimpArgs false
set_option linter.unusedVariables false
namespace Go.Proofs.Ytikhaaccgoiaeaa
open Go.RowKit
set_option linter.unusedSimpArgs false
attribute [local simp] bx_size
attribute [local go_sem ↓] zeroHand zeroChan toLHand toLChan toVHand toVChan storeHand storeChan storeHandC storeChanC
set_option maxRecDepth 100000 in
set_option maxHeartbeats 1000000 in
theorem l6Done_any (c:Ch) (h:Ha) (v1 v2:Value) (lo:Nat) (w:World) (h1:OCells w lo v1 c.cells) (h2:OInts w lo v2 c.words) :
    Calls Try.prog 104 #[.agg (cvals c v1 v2),.agg (hvals h)] w fun r w'=>StepR w w' lo v1 v2 (done c h) r∧Below w.heap.size w w':=by
  have O1:=Lib.hid h1
  have O2:=Lib.hid h2
  obtain ⟨a,p,rfl,g1⟩:=h1.seg
  obtain ⟨b,q,rfl,g2⟩:=h2.seg
  have H1:=Lib.hid g1
  have H2:=Lib.hid g2
  clear h1 h2 g1 g2
  by_cases hc:chanOk c=true
  · by_cases hh:handOk h=true
    · rw [done_yes hc hh]
      go_enter Try.func104,Try.ntmps104
      go_wp2_with (first|(go_at_call 13;refine bHit w (by (repeat (with_reducible first|assumption|exact bR|refine bA ?_|refine bD ?_|((first|refine bS ?_ ?_|refine bBx ?_ ?_);rotate_left;focus (try simp) <;> (try omega))))) fun bb=>?_;refine (wChanOk_any c a b p q _ ((H1.out.below bb).more bb.size) ((H2.out.below bb).more bb.size)).mono ?_;rintro _ w1 ⟨rfl,hbw1⟩;have hCw1:Below w.heap.size w w1:=bT bb hbw1;have hsw1:=hbw1.size;(try simp at hsw1);have zz:=And.intro (hpB hbw1 (b:=w.heap.size+1+1+1) (by (try simp) <;> omega)) <| And.intro (hpB hbw1 (b:=w.heap.size+1+1) (by (try simp) <;> omega)) <| And.intro (hpB hbw1 (b:=w.heap.size+1) (by (try simp) <;> omega)) <| hpB hbw1 (b:=w.heap.size) (by (try simp) <;> omega);(try simp [go_sem] at zz);(try clear z_wppp x_wppp f_wppp l_wppp);(try clear z_wpp x_wpp f_wpp l_wpp);(try clear z_wp x_wp f_wp l_wp);(try clear z_w x_w f_w l_w);obtain ⟨z_wppp,z_wpp,z_wp,z_w⟩:=zz;obtain ⟨x_wppp,f_wppp,l_wppp⟩:=bO z_wppp;obtain ⟨x_wpp,f_wpp,l_wpp⟩:=bO z_wpp;obtain ⟨x_wp,f_wp,l_wp⟩:=bO z_wp;obtain ⟨x_w,f_w,l_w⟩:=bO z_w;have hKw1:Below w.heap.size w w1:=hCw1;clear hbw1 bb)|(go_at_call 94;refine bHit w (by (repeat (with_reducible first|assumption|exact bR|refine bA ?_|refine bD ?_|((first|refine bS ?_ ?_|refine bBx ?_ ?_);rotate_left;focus (try simp) <;> (try omega))))) fun bb=>?_;refine (sHandOk_any _ _).mono ?_;rintro _ w2 ⟨rfl,hbw2⟩;have hCw2:Below w.heap.size w w2:=bT bb hbw2;have hsw2:=hbw2.size;(try simp at hsw2);have zz:=And.intro (hpB hbw2 (b:=w.heap.size+1+1+1) (by (try simp) <;> omega)) <| And.intro (hpB hbw2 (b:=w.heap.size+1+1) (by (try simp) <;> omega)) <| And.intro (hpB hbw2 (b:=w.heap.size+1) (by (try simp) <;> omega)) <| hpB hbw2 (b:=w.heap.size) (by (try simp) <;> omega);(first|simp [go_sem,z_wppp,z_wpp,z_wp,z_w,l_w,l_wp,l_wpp,l_wppp] at zz|simp [go_sem] at zz|skip);(try clear z_wppp x_wppp f_wppp l_wppp);(try clear z_wpp x_wpp f_wpp l_wpp);(try clear z_wp x_wp f_wp l_wp);(try clear z_w x_w f_w l_w);obtain ⟨z_wppp,z_wpp,z_wp,z_w⟩:=zz;obtain ⟨x_wppp,f_wppp,l_wppp⟩:=bO z_wppp;obtain ⟨x_wpp,f_wpp,l_wpp⟩:=bO z_wpp;obtain ⟨x_wp,f_wp,l_wp⟩:=bO z_wp;obtain ⟨x_w,f_w,l_w⟩:=bO z_w;have hKw2:Below w.heap.size w w2:=hCw2;clear hbw2 bb))
      have p1:=own_below O1.out hCw2
      have p2:=own_below O2.out hCw2
      have o1:=O1.out
      have o2:=O2.out
      go_region
      go_wp2
      refine bodyPost_ret (res_cct Try.results104 rfl (ldChan c (.slice a c.cells.length p) (.slice b c.words.length q) (by simp [go_sem, *])) rfl (ldHand h (by simp [go_sem, *]))) rfl ⟨⟨_,_,rfl,?_,?_,fresh_refl _ _,fresh_refl _ _⟩,by (repeat (with_reducible first|assumption|exact bR|refine bA ?_|refine bD ?_|((first|refine bS ?_ ?_|refine bBx ?_ ?_);rotate_left;focus (try simp) <;> (try omega))))⟩
      · (repeat first|with_reducible exact p1|with_reducible refine oAl ?_ _|with_reducible refine oDr ?_|((with_reducible first|refine own_store ?_ ?_ _|refine own_box ?_ ?_);rotate_left;focus first|(refine own_ne o1 ?_;(try dsimp only);omega)|(refine own_ne' o1 ?_;(try dsimp only);omega)))
      · (repeat first|with_reducible exact p2|with_reducible refine oAl ?_ _|with_reducible refine oDr ?_|((with_reducible first|refine own_store ?_ ?_ _|refine own_box ?_ ?_);rotate_left;focus first|(refine own_ne o2 ?_;(try dsimp only);omega)|(refine own_ne' o2 ?_;(try dsimp only);omega)))
    · have hh2:handOk h=false:=by simpa using hh
      rw [done_no2 hh2]
      clear hh
      go_enter Try.func104,Try.ntmps104
      go_wp2_with (first|(go_at_call 13;refine bHit w (by (repeat (with_reducible first|assumption|exact bR|refine bA ?_|refine bD ?_|((first|refine bS ?_ ?_|refine bBx ?_ ?_);rotate_left;focus (try simp) <;> (try omega))))) fun bb=>?_;refine (wChanOk_any c a b p q _ ((H1.out.below bb).more bb.size) ((H2.out.below bb).more bb.size)).mono ?_;rintro _ w1 ⟨rfl,hbw1⟩;have hCw1:Below w.heap.size w w1:=bT bb hbw1;have hsw1:=hbw1.size;(try simp at hsw1);have zz:=And.intro (hpB hbw1 (b:=w.heap.size+1+1+1) (by (try simp) <;> omega)) <| And.intro (hpB hbw1 (b:=w.heap.size+1+1) (by (try simp) <;> omega)) <| And.intro (hpB hbw1 (b:=w.heap.size+1) (by (try simp) <;> omega)) <| hpB hbw1 (b:=w.heap.size) (by (try simp) <;> omega);(try simp [go_sem] at zz);(try clear z_wppp x_wppp f_wppp l_wppp);(try clear z_wpp x_wpp f_wpp l_wpp);(try clear z_wp x_wp f_wp l_wp);(try clear z_w x_w f_w l_w);obtain ⟨z_wppp,z_wpp,z_wp,z_w⟩:=zz;obtain ⟨x_wppp,f_wppp,l_wppp⟩:=bO z_wppp;obtain ⟨x_wpp,f_wpp,l_wpp⟩:=bO z_wpp;obtain ⟨x_wp,f_wp,l_wp⟩:=bO z_wp;obtain ⟨x_w,f_w,l_w⟩:=bO z_w;have hKw1:Below w.heap.size w w1:=hCw1;clear hbw1 bb)|(go_at_call 94;refine bHit w (by (repeat (with_reducible first|assumption|exact bR|refine bA ?_|refine bD ?_|((first|refine bS ?_ ?_|refine bBx ?_ ?_);rotate_left;focus (try simp) <;> (try omega))))) fun bb=>?_;refine (sHandOk_any _ _).mono ?_;rintro _ w2 ⟨rfl,hbw2⟩;have hCw2:Below w.heap.size w w2:=bT bb hbw2;have hsw2:=hbw2.size;(try simp at hsw2);have zz:=And.intro (hpB hbw2 (b:=w.heap.size+1+1+1) (by (try simp) <;> omega)) <| And.intro (hpB hbw2 (b:=w.heap.size+1+1) (by (try simp) <;> omega)) <| And.intro (hpB hbw2 (b:=w.heap.size+1) (by (try simp) <;> omega)) <| hpB hbw2 (b:=w.heap.size) (by (try simp) <;> omega);(first|simp [go_sem,z_wppp,z_wpp,z_wp,z_w,l_w,l_wp,l_wpp,l_wppp] at zz|simp [go_sem] at zz|skip);(try clear z_wppp x_wppp f_wppp l_wppp);(try clear z_wpp x_wpp f_wpp l_wpp);(try clear z_wp x_wp f_wp l_wp);(try clear z_w x_w f_w l_w);obtain ⟨z_wppp,z_wpp,z_wp,z_w⟩:=zz;obtain ⟨x_wppp,f_wppp,l_wppp⟩:=bO z_wppp;obtain ⟨x_wpp,f_wpp,l_wpp⟩:=bO z_wpp;obtain ⟨x_wp,f_wp,l_wp⟩:=bO z_wp;obtain ⟨x_w,f_w,l_w⟩:=bO z_w;have hKw2:Below w.heap.size w w2:=hCw2;clear hbw2 bb))
      refine bodyPost_ret (res_cct Try.results104 rfl (ldChan Ch.zero (.slice none 0 0) (.slice none 0 0) (by simp [go_sem, *])) rfl (ldHand Ha.zero (by simp [go_sem, *]))) rfl ⟨stepR_none _ _ _ _ _,by (repeat (with_reducible first|assumption|exact bR|refine bA ?_|refine bD ?_|((first|refine bS ?_ ?_|refine bBx ?_ ?_);rotate_left;focus (try simp) <;> (try omega))))⟩
  · have hc2:chanOk c=false:=by simpa using hc
    rw [done_no1 hc2]
    clear hc
    go_enter Try.func104,Try.ntmps104
    go_wp2_with (first|(go_at_call 13;refine bHit w (by (repeat (with_reducible first|assumption|exact bR|refine bA ?_|refine bD ?_|((first|refine bS ?_ ?_|refine bBx ?_ ?_);rotate_left;focus (try simp) <;> (try omega))))) fun bb=>?_;refine (wChanOk_any c a b p q _ ((H1.out.below bb).more bb.size) ((H2.out.below bb).more bb.size)).mono ?_;rintro _ w1 ⟨rfl,hbw1⟩;have hCw1:Below w.heap.size w w1:=bT bb hbw1;have hsw1:=hbw1.size;(try simp at hsw1);have zz:=And.intro (hpB hbw1 (b:=w.heap.size+1+1+1) (by (try simp) <;> omega)) <| And.intro (hpB hbw1 (b:=w.heap.size+1+1) (by (try simp) <;> omega)) <| And.intro (hpB hbw1 (b:=w.heap.size+1) (by (try simp) <;> omega)) <| hpB hbw1 (b:=w.heap.size) (by (try simp) <;> omega);(try simp [go_sem] at zz);(try clear z_wppp x_wppp f_wppp l_wppp);(try clear z_wpp x_wpp f_wpp l_wpp);(try clear z_wp x_wp f_wp l_wp);(try clear z_w x_w f_w l_w);obtain ⟨z_wppp,z_wpp,z_wp,z_w⟩:=zz;obtain ⟨x_wppp,f_wppp,l_wppp⟩:=bO z_wppp;obtain ⟨x_wpp,f_wpp,l_wpp⟩:=bO z_wpp;obtain ⟨x_wp,f_wp,l_wp⟩:=bO z_wp;obtain ⟨x_w,f_w,l_w⟩:=bO z_w;have hKw1:Below w.heap.size w w1:=hCw1;clear hbw1 bb)|(go_at_call 94;refine bHit w (by (repeat (with_reducible first|assumption|exact bR|refine bA ?_|refine bD ?_|((first|refine bS ?_ ?_|refine bBx ?_ ?_);rotate_left;focus (try simp) <;> (try omega))))) fun bb=>?_;refine (sHandOk_any _ _).mono ?_;rintro _ w2 ⟨rfl,hbw2⟩;have hCw2:Below w.heap.size w w2:=bT bb hbw2;have hsw2:=hbw2.size;(try simp at hsw2);have zz:=And.intro (hpB hbw2 (b:=w.heap.size+1+1+1) (by (try simp) <;> omega)) <| And.intro (hpB hbw2 (b:=w.heap.size+1+1) (by (try simp) <;> omega)) <| And.intro (hpB hbw2 (b:=w.heap.size+1) (by (try simp) <;> omega)) <| hpB hbw2 (b:=w.heap.size) (by (try simp) <;> omega);(first|simp [go_sem,z_wppp,z_wpp,z_wp,z_w,l_w,l_wp,l_wpp,l_wppp] at zz|simp [go_sem] at zz|skip);(try clear z_wppp x_wppp f_wppp l_wppp);(try clear z_wpp x_wpp f_wpp l_wpp);(try clear z_wp x_wp f_wp l_wp);(try clear z_w x_w f_w l_w);obtain ⟨z_wppp,z_wpp,z_wp,z_w⟩:=zz;obtain ⟨x_wppp,f_wppp,l_wppp⟩:=bO z_wppp;obtain ⟨x_wpp,f_wpp,l_wpp⟩:=bO z_wpp;obtain ⟨x_wp,f_wp,l_wp⟩:=bO z_wp;obtain ⟨x_w,f_w,l_w⟩:=bO z_w;have hKw2:Below w.heap.size w w2:=hCw2;clear hbw2 bb))
    refine bodyPost_ret (res_cct Try.results104 rfl (ldChan Ch.zero (.slice none 0 0) (.slice none 0 0) (by simp [go_sem, *])) rfl (ldHand Ha.zero (by simp [go_sem, *]))) rfl ⟨stepR_none _ _ _ _ _,by (repeat (with_reducible first|assumption|exact bR|refine bA ?_|refine bD ?_|((first|refine bS ?_ ?_|refine bBx ?_ ?_);rotate_left;focus (try simp) <;> (try omega))))⟩
end Go.Proofs.Ytikhaaccgoiaeaa
set_option linter.unusedSimpArgs false
set_option linter.unusedVariables false
namespace Go.Proofs.Ytikhaaccgoiaeaa
open Go.RowKit
set_option maxHeartbeats 400000 in
theorem sLaid_any (s e t m:Int) (w:World):Calls Try.prog 105 #[.agg #[.int .i64 s,.int .i64 e,.int .i64 t],.int .i64 m] w fun r w'=>r=.returned (.agg #[.int .i64 s,.int .i64 (laidF s e t m),.int .i64 t])∧Below w.heap.size w w':=by
  go_enter Try.func105,Try.ntmps105
  go_wp2_with (first|(go_at_call 49;refine (sCellOk_any _ _ _ _).mono ?_;rintro _ w1 ⟨rfl,hbw1⟩;have hBw1:Below w.heap.size w w1:=bT (by (repeat (with_reducible first|assumption|exact bR|refine bA ?_|refine bD ?_|((first|refine bS ?_ ?_|refine bBx ?_ ?_);rotate_left;focus (try simp) <;> (try omega))))) hbw1;have hsw1:=hbw1.size;(try (simp at hsw1));have:=fun o=>hbw1.cell (p:=⟨w.heap.size,o,none⟩) (by ((try simp);(try omega)));have:=fun o=>hbw1.frozen (p:=⟨w.heap.size,o,none⟩) (by ((try simp);(try omega)));have:=fun o=>hbw1.cell (p:=⟨w.heap.size+1,o,none⟩) (by ((try simp);(try omega)));have:=fun o=>hbw1.frozen (p:=⟨w.heap.size+1,o,none⟩) (by ((try simp);(try omega)));have:w.heap.size<w1.heap.size:=(by omega);have:w.heap.size≤w1.heap.size:=(by omega);have:w.heap.size≤w1.heap.size+1:=(by omega);have:w.heap.size+1<w1.heap.size:=(by omega);have:w.heap.size+1≤w1.heap.size:=(by omega);have:w.heap.size+1≤w1.heap.size+1:=(by omega))|(go_at_call 67;refine (l1Elem_any _ _).mono ?_;rintro _ _ ⟨rfl,rfl⟩))
  · rw [laidF_2 ‹_›];exact bodyPost_ret (v:=.agg #[.int .i64 s,.int .i64 e,.int .i64 t]) (by simp [results,Try.results105,go_sem, *]) rfl ⟨rfl,by (repeat (with_reducible first|assumption|exact bR|refine bA ?_|refine bD ?_|((first|refine bS ?_ ?_|refine bBx ?_ ?_);rotate_left;focus (try simp) <;> (try omega))))⟩
  · rw [laidF_3 ‹_› ‹_›];exact bodyPost_ret (v:=.agg #[.int .i64 s,.int .i64 m,.int .i64 t]) (by simp [results,Try.results105,go_sem, *]) rfl ⟨rfl,by (repeat (with_reducible first|assumption|exact bR|refine bA ?_|refine bD ?_|((first|refine bS ?_ ?_|refine bBx ?_ ?_);rotate_left;focus (try simp) <;> (try omega))))⟩
  · rw [laidF_1 ‹_›];exact bodyPost_ret (v:=.agg #[.int .i64 s,.int .i64 e,.int .i64 t]) (by simp [results,Try.results105,go_sem, *]) rfl ⟨rfl,by (repeat (with_reducible first|assumption|exact bR|refine bA ?_|refine bD ?_|((first|refine bS ?_ ?_|refine bBx ?_ ?_);rotate_left;focus (try simp) <;> (try omega))))⟩
set_option maxHeartbeats 400000 in
theorem sTurned_any (s e t f n v:Int) (w:World):Calls Try.prog 122 #[.agg #[.int .i64 s,.int .i64 e,.int .i64 t],.int .i64 f,.int .i64 n,.int .i64 v] w fun r w'=>TurnR s e t f n v r∧Below w.heap.size w w':=by
  by_cases hsf:s=f
  · subst hsf
    go_enter Try.func122,Try.ntmps122
    go_wp2_with (go_at_call 49;refine (sCellOk_any _ _ _ _).mono ?_;rintro _ w1 ⟨rfl,hbw1⟩;have hBw1:Below w.heap.size w w1:=bT (by (repeat (with_reducible first|assumption|exact bR|refine bA ?_|refine bD ?_|((first|refine bS ?_ ?_|refine bBx ?_ ?_);rotate_left;focus (try simp) <;> (try omega))))) hbw1;have hsw1:=hbw1.size;(try (simp at hsw1));have:=fun o=>hbw1.cell (p:=⟨w.heap.size,o,none⟩) (by ((try simp);(try omega)));have:=fun o=>hbw1.frozen (p:=⟨w.heap.size,o,none⟩) (by ((try simp);(try omega)));have:=fun o=>hbw1.cell (p:=⟨w.heap.size+1,o,none⟩) (by ((try simp);(try omega)));have:=fun o=>hbw1.frozen (p:=⟨w.heap.size+1,o,none⟩) (by ((try simp);(try omega)));have:=fun o=>hbw1.cell (p:=⟨w.heap.size+1+1,o,none⟩) (by ((try simp);(try omega)));have:=fun o=>hbw1.frozen (p:=⟨w.heap.size+1+1,o,none⟩) (by ((try simp);(try omega)));have:w.heap.size<w1.heap.size:=(by omega);have:w.heap.size≤w1.heap.size:=(by omega);have:w.heap.size≤w1.heap.size+1:=(by omega);have:w.heap.size+1<w1.heap.size:=(by omega);have:w.heap.size+1≤w1.heap.size:=(by omega);have:w.heap.size+1≤w1.heap.size+1:=(by omega);have:w.heap.size+1+1<w1.heap.size:=(by omega);have:w.heap.size+1+1≤w1.heap.size:=(by omega);have:w.heap.size+1+1≤w1.heap.size+1:=(by omega))
    all_goals first
      | (refine bodyPost_ret (v:=.tuple #[.agg #[.int .i64 n,.int .i64 e,.int .i64 v],.bool true]) (by simp [results,Try.results122,go_sem, *]) rfl ⟨turnR_yes (turn_4 ‹_› ‹_›),by (repeat (with_reducible first|assumption|exact bR|refine bA ?_|refine bD ?_|((first|refine bS ?_ ?_|refine bBx ?_ ?_);rotate_left;focus (try simp) <;> (try omega))))⟩)
      | (refine bodyPost_ret (v:=.tuple #[.agg #[.int .i64 s,.int .i64 e,.int .i64 t],.bool false]) (by simp [results,Try.results122,go_sem, *]) rfl ⟨turnR_no (by first|exact turn_2 ‹_›|exact turn_3 ‹_›),by (repeat (with_reducible first|assumption|exact bR|refine bA ?_|refine bD ?_|((first|refine bS ?_ ?_|refine bBx ?_ ?_);rotate_left;focus (try simp) <;> (try omega))))⟩)
  · go_enter Try.func122,Try.ntmps122
    go_wp2_with (go_at_call 49;refine (sCellOk_any _ _ _ _).mono ?_;rintro _ w1 ⟨rfl,hbw1⟩;have hBw1:Below w.heap.size w w1:=bT (by (repeat (with_reducible first|assumption|exact bR|refine bA ?_|refine bD ?_|((first|refine bS ?_ ?_|refine bBx ?_ ?_);rotate_left;focus (try simp) <;> (try omega))))) hbw1;have hsw1:=hbw1.size;(try (simp at hsw1));have:=fun o=>hbw1.cell (p:=⟨w.heap.size,o,none⟩) (by ((try simp);(try omega)));have:=fun o=>hbw1.frozen (p:=⟨w.heap.size,o,none⟩) (by ((try simp);(try omega)));have:=fun o=>hbw1.cell (p:=⟨w.heap.size+1,o,none⟩) (by ((try simp);(try omega)));have:=fun o=>hbw1.frozen (p:=⟨w.heap.size+1,o,none⟩) (by ((try simp);(try omega)));have:=fun o=>hbw1.cell (p:=⟨w.heap.size+1+1,o,none⟩) (by ((try simp);(try omega)));have:=fun o=>hbw1.frozen (p:=⟨w.heap.size+1+1,o,none⟩) (by ((try simp);(try omega)));have:w.heap.size<w1.heap.size:=(by omega);have:w.heap.size≤w1.heap.size:=(by omega);have:w.heap.size≤w1.heap.size+1:=(by omega);have:w.heap.size+1<w1.heap.size:=(by omega);have:w.heap.size+1≤w1.heap.size:=(by omega);have:w.heap.size+1≤w1.heap.size+1:=(by omega);have:w.heap.size+1+1<w1.heap.size:=(by omega);have:w.heap.size+1+1≤w1.heap.size:=(by omega);have:w.heap.size+1+1≤w1.heap.size+1:=(by omega))
    all_goals (refine bodyPost_ret (v:=.tuple #[.agg #[.int .i64 s,.int .i64 e,.int .i64 t],.bool false]) (by simp [results,Try.results122,go_sem, *]) rfl ⟨turnR_no (by first|exact turn_1 ‹_›|exact turn_2 ‹_›),by (repeat (with_reducible first|assumption|exact bR|refine bA ?_|refine bD ?_|((first|refine bS ?_ ?_|refine bBx ?_ ?_);rotate_left;focus (try simp) <;> (try omega))))⟩)
end Go.Proofs.Ytikhaaccgoiaeaa
set_option linter.unusedSimpArgs false
set_option linter.unusedVariables false
namespace Go.Proofs.Ytikhaaccgoiaeaa
open Go.RowKit
/-- A list of cells that is not empty lies in a block of its own. -/
theorem OCells.open1 {w:World} {lo:Nat} {v:Value} {cs:List C3} (h:OCells w lo v cs) {i:Nat} (hi:i<cs.length) :
    ∃ g cap,v=.slice (some ⟨g,0,none⟩) cs.length cap∧lo≤g∧g<w.heap.size∧(∀ j,j<3→w.cell? ⟨g,i*3+j,none⟩=some ((cs.getD i ⟨0,0,0⟩).val j))∧∀ o,w.frozen? ⟨g,o,none⟩=false:=by
  have h2:=h
  rcases h.2 with ⟨_,h0⟩|⟨g,cap,cur,rfl,hl,hg,_⟩
  · omega
  · refine ⟨g,cap,rfl,hl,(Array.getElem?_eq_some_iff.1 hg).1,fun j hj=>?_,fun o=>by simp [World.frozen?,hg]⟩
    have:=h2.cells (g:=g) rfl (i*3+j) _ (flatC_get cs i j hi hj)
    have e2:(⟨g,0,none⟩:Addr).add (i*3+j)=⟨g,i*3+j,none⟩:=by generalize i*3+j=m;by_cases e:m=0 <;> simp [Addr.add,e]
    rw [e2] at this
    exact this
theorem OCells.set {w:World} {lo g cap:Nat} {cs:List C3} (h:OCells w lo (.slice (some ⟨g,0,none⟩) cs.length cap) cs) {i:Nat} (hi:i<cs.length) (x:C3) :
    OCells (((w.setCell ⟨g,i*3,none⟩ (.int .i64 x.s)).setCell ⟨g,i*3+1,none⟩ (.int .i64 x.e)).setCell ⟨g,i*3+2,none⟩ (.int .i64 x.t)) lo (.slice (some ⟨g,0,none⟩) cs.length cap) (cs.set i x):=by
  have h1:=own_set_cell h (i*3) (by rw [flatC_len];omega) (.int .i64 x.s)
  have h2:=own_set_cell h1 (i*3+1) (by rw [List.length_set,flatC_len];omega) (.int .i64 x.e)
  have h3:=own_set_cell h2 (i*3+2) (by rw [List.length_set,List.length_set,flatC_len];omega) (.int .i64 x.t)
  unfold OCells
  rw [flatC_set,List.length_set]
  exact h3
theorem OCells.setS {w:World} {lo g cap:Nat} {cs:List C3} (h:OCells w lo (.slice (some ⟨g,0,none⟩) cs.length cap) cs) {i:Nat} (hi:i<cs.length) (s:Int) :
    OCells (w.setCell ⟨g,i*3,none⟩ (.int .i64 s)) lo (.slice (some ⟨g,0,none⟩) cs.length cap) (cs.set i { cs.getD i ⟨0,0,0⟩ with s:=s }):=by
  have h1:=own_set_cell h (i*3) (by rw [flatC_len];omega) (.int .i64 s)
  have g1:=flatC_get cs i 1 hi (by omega)
  have g2:=flatC_get cs i 2 hi (by omega)
  simp only [cellF,C3.val] at g1 g2
  have e1:∀ (l:List Value) (j:Nat) (x:Value),l[j]?=some x→l.set j x=l:=fun l j x h=>by
    apply List.ext_getElem?
    intro n
    rw [List.getElem?_set]
    by_cases e:j=n
    · subst e;simp only [if_true];rw [h];simp;exact (List.getElem?_eq_some_iff.1 h).1
    · rw [if_neg e]
  unfold OCells
  rw [flatC_set,List.length_set]
  simp only
  rw [e1 _ (i*3+1) _ (by rw [List.getElem?_set_ne (by omega)];exact g1),e1 _ (i*3+2) _ (by rw [List.getElem?_set_ne (by omega)];exact g2)]
  exact h1
theorem stateC_cells (c:Ch) (i:Nat) (st:Int):(stateC c i st).cells=c.cells.set i { c.cells.getD i ⟨0,0,0⟩ with s:=st }:=by simp [stateC,setAt,cellAt]
set_option maxRecDepth 100000 in
set_option maxHeartbeats 1000000 in
theorem l6State_any (c:Ch) (i:Nat) (st:Int) (v1 v2:Value) (lo:Nat) (w:World) (h1:OCells w lo v1 c.cells) (h2:OInts w lo v2 c.words) (hi:i<c.cells.length) :
    Calls Try.prog 109 #[.agg #[.int .i64 c.cap,.int .i64 c.sent,.int .i64 c.got,.int .i64 c.fin,v1,v2],.int .i64 i,.int .i64 st] w fun r w'=>r=.returned (.agg #[.int .i64 c.cap,.int .i64 c.sent,.int .i64 c.got,.int .i64 c.fin,v1,v2])∧OCells w' lo v1 (stateC c i st).cells∧OInts w' lo v2 c.words∧w.grownBy w' v1.ownBlock:=by
  have O2:=Lib.hid h2
  have hne:=h1.ne h2
  obtain ⟨b,q,rfl,_⟩:=h2.seg
  obtain ⟨g,cap,rfl,hlo,hlt,hcell,hfr⟩:=h1.open1 hi
  have O1:=Lib.hid h1
  have c0:=hcell 0 (by omega)
  simp only [C3.val,Nat.add_zero] at c0
  have hi0:(0:Int)≤(i:Int):=by omega
  have hi1:(i:Int)<(c.cells.length:Int):=by omega
  have hgw:w.heap.size≠g:=by omega
  have hgw2:w.heap.size+1≠g:=by omega
  have hgw3:g≠w.heap.size:=by omega
  have hgw4:g≠w.heap.size+1:=by omega
  generalize hcg:c.cells.getD i ⟨0,0,0⟩=x at c0
  clear h1 h2 hcell
  go_enter Try.func109,Try.ntmps109
  go_wp2
  have o1:=O1.out
  have o2:=O2.out
  have P1:=OCells.setS o1 hi st
  rw [stateC_cells]
  refine bodyPost_ret (v:=.agg #[.int .i64 c.cap,.int .i64 c.sent,.int .i64 c.got,.int .i64 c.fin,.slice (some ⟨g,0,none⟩) c.cells.length cap,.slice b c.words.length q]) (by simp [results,Try.results109,go_sem, *]) rfl ⟨rfl,?_,?_,?_⟩
  · (repeat first|with_reducible exact P1|with_reducible refine oAl ?_ _|with_reducible refine oDr ?_|((with_reducible first|refine own_store ?_ ?_ _|refine own_box ?_ ?_);rotate_left;focus first|(refine own_ne o1 ?_;(try dsimp only);omega)|(refine own_ne' o1 ?_;(try dsimp only);omega)))
  · (repeat first|with_reducible exact o2|with_reducible refine oAl ?_ _|with_reducible refine oDr ?_|((with_reducible first|refine own_store ?_ ?_ _|refine own_box ?_ ?_);rotate_left;focus first|(refine own_ne o2 ?_;(try dsimp only);omega)|(refine own_ne' o2 ?_;(try dsimp only);omega)|exact fun h=>OCells.ne o1 o2 _ rfl h))
  · show Gr g w _
    (repeat (first|with_reducible assumption|with_reducible exact gR _ _|with_reducible refine gA ?_|with_reducible refine gD ?_|with_reducible refine gS ?_ (.inl rfl)|((with_reducible refine gBx ?_ (.inr ?_));rotate_left;(focus ((try dsimp only);(try simp);(try omega))))|((with_reducible refine gS ?_ (.inr ?_));rotate_left;(focus ((try dsimp only);(try simp);(try omega))))))
theorem turnC_cells (c:Ch) (i:Nat) (f t v:Int):(turnC c i f t v).cells=c.cells.set i (turnX (c.cells.getD i ⟨0,0,0⟩) f t v):=by simp [turnC,setAt,cellAt]
theorem turnCB_at (c:Ch) (i:Nat) (f t v:Int):turnCB c i f t v=turnXB (c.cells.getD i ⟨0,0,0⟩) f t v:=by simp [turnCB,cellAt]
set_option maxRecDepth 100000 in
set_option maxHeartbeats 1000000 in
theorem l6Turn_any (c:Ch) (i:Nat) (f t v:Int) (v1 v2:Value) (lo:Nat) (w:World) (h1:OCells w lo v1 c.cells) (h2:OInts w lo v2 c.words) (hi:i<c.cells.length) :
    Calls Try.prog 120 #[.agg #[.int .i64 c.cap,.int .i64 c.sent,.int .i64 c.got,.int .i64 c.fin,v1,v2],.int .i64 i,.int .i64 f,.int .i64 t,.int .i64 v] w fun r w'=>r=.returned (.tuple #[.agg #[.int .i64 c.cap,.int .i64 c.sent,.int .i64 c.got,.int .i64 c.fin,v1,v2],.bool (turnCB c i f t v)])∧OCells w' lo v1 (turnC c i f t v).cells∧OInts w' lo v2 c.words∧w.grownBy w' v1.ownBlock:=by
  have O2:=Lib.hid h2
  have hne:=h1.ne h2
  obtain ⟨b,q,rfl,_⟩:=h2.seg
  obtain ⟨g,cap,rfl,hlo,hlt,hcell,hfr⟩:=h1.open1 hi
  have O1:=Lib.hid h1
  have c0:=hcell 0 (by omega)
  have c1:=hcell 1 (by omega)
  have c2:=hcell 2 (by omega)
  simp only [C3.val,Nat.add_zero] at c0 c1 c2
  have hi0:(0:Int)≤(i:Int):=by omega
  have hi1:(i:Int)<(c.cells.length:Int):=by omega
  have hgw:w.heap.size≠g:=by omega
  have hgw2:w.heap.size+1≠g:=by omega
  have hgw3:g≠w.heap.size:=by omega
  have hgw4:g≠w.heap.size+1:=by omega
  rw [turnC_cells,turnCB_at]
  unfold turnXB turnX
  generalize hcg:c.cells.getD i ⟨0,0,0⟩=x at c0 c1 c2
  clear h1 h2 hcell hcg
  go_enter Try.func120,Try.ntmps120
  go_wp2_with fail;refine bHit w (by (repeat (with_reducible first|assumption|exact bR|refine bA ?_|refine bD ?_|((first|refine bS ?_ ?_|refine bBx ?_ ?_);rotate_left;focus (try simp) <;> (try omega))))) fun bb=>?_;refine (sTurned_any _ _ _ f t v _).mono ?_;rintro _ w1 ⟨hr,hbw1⟩;have hCw1:Below w.heap.size w w1:=bT bb hbw1;have hsw1:=hbw1.size;(try simp at hsw1);have zz:=And.intro (fun o=>hbw1.cell (p:=⟨w.heap.size+1,o,none⟩) (by (try simp) <;> omega)) <| And.intro (fun o=>hbw1.frozen (p:=⟨w.heap.size+1,o,none⟩) (by (try simp) <;> omega)) <| And.intro (fun o=>hbw1.cell (p:=⟨w.heap.size,o,none⟩) (by (try simp) <;> omega)) <| fun o=>hbw1.frozen (p:=⟨w.heap.size,o,none⟩) (by (try simp) <;> omega);(try simp [go_sem] at zz);(try clear x_wp f_wp);(try clear x_w f_w);obtain ⟨x_wp,f_wp,x_w,f_w⟩:=zz;(try clear l_wp);have l_wp:w.heap.size+1<w1.heap.size:=(by omega);(try clear l_w);have l_w:w.heap.size<w1.heap.size:=(by omega);have hKw1:Below w.heap.size w w1:=hCw1;clear hbw1 bb
  unfold TurnR at hr
  subst hr
  have o1:=O1.out
  have o2:=O2.out
  have p1:=own_below o1 hCw1
  have p2:=own_below o2 hCw1
  have d1:=fun o=>(hCw1.cell (p:=⟨g,o,none⟩) hlt)
  have d2:=fun o=>(hCw1.frozen (p:=⟨g,o,none⟩) hlt)
  have hgw5:g<w1.heap.size:=by omega
  have hgw6:w1.heap.size≠g:=by omega
  have hgw7:g≠w1.heap.size:=by omega
  have P1:=OCells.set p1 hi (turnX x f t v)
  simp only [turnX] at P1
  go_wp2
  refine bodyPost_ret (v:=.tuple #[.agg #[.int .i64 c.cap,.int .i64 c.sent,.int .i64 c.got,.int .i64 c.fin,.slice (some ⟨g,0,none⟩) c.cells.length cap,.slice b c.words.length q],.bool (turnB x.s x.e x.t f t v)]) (by simp [results,Try.results120,go_sem, *]) rfl ⟨rfl,?_,?_,?_⟩
  · (repeat first|with_reducible exact P1|with_reducible refine oAl ?_ _|with_reducible refine oDr ?_|((with_reducible first|refine own_store ?_ ?_ _|refine own_box ?_ ?_);rotate_left;focus first|(refine own_ne o1 ?_;(try dsimp only);omega)|(refine own_ne' o1 ?_;(try dsimp only);omega)))
  · (repeat first|with_reducible exact p2|with_reducible refine oAl ?_ _|with_reducible refine oDr ?_|((with_reducible first|refine own_store ?_ ?_ _|refine own_box ?_ ?_);rotate_left;focus first|(refine own_ne o2 ?_;(try dsimp only);omega)|(refine own_ne' o2 ?_;(try dsimp only);omega)|exact fun h=>OCells.ne o1 o2 _ rfl h))
  · have hg1:Gr g w w1:=gOfB hCw1
    show Gr g w _
    (repeat (first|with_reducible assumption|with_reducible exact gR _ _|with_reducible refine gA ?_|with_reducible refine gD ?_|with_reducible refine gS ?_ (.inl rfl)|((with_reducible refine gBx ?_ (.inr ?_));rotate_left;(focus ((try dsimp only);(try simp);(try omega))))|((with_reducible refine gS ?_ (.inr ?_));rotate_left;(focus ((try dsimp only);(try simp);(try omega))))))
end Go.Proofs.Ytikhaaccgoiaeaa
set_option linter.unusedSimpArgs false
set_option linter.unusedVariables false
namespace Go.Proofs.Ytikhaaccgoiaeaa
open Go.RowKit
set_option linter.unusedSimpArgs false
attribute [local simp] bx_size
attribute [local go_sem ↓] zeroHand zeroChan toLHand toLChan toVHand toVChan storeHand storeChan storeHandC storeChanC
theorem wState_any (c:Ch) (i:Nat) (st:Int) (v1 v2:Value) (lo:Nat) (w:World) (h1:OCells w lo v1 c.cells) (h2:OInts w lo v2 c.words) (hi:i<c.cells.length) :
    Calls Try.prog 109 #[.agg (cvals c v1 v2),.int .i64 i,.int .i64 st] w fun r w'=>r=.returned (.agg (cvals c v1 v2))∧OCells w' lo v1 (stateC c i st).cells∧OInts w' lo v2 c.words∧w.grownBy w' v1.ownBlock:=l6State_any c i st v1 v2 lo w h1 h2 hi
theorem wTurn_any (c:Ch) (i:Nat) (f t v:Int) (v1 v2:Value) (lo:Nat) (w:World) (h1:OCells w lo v1 c.cells) (h2:OInts w lo v2 c.words) (hi:i<c.cells.length) :
    Calls Try.prog 120 #[.agg (cvals c v1 v2),.int .i64 i,.int .i64 f,.int .i64 t,.int .i64 v] w fun r w'=>r=.returned (.tuple #[.agg (cvals c v1 v2),.bool (turnCB c i f t v)])∧OCells w' lo v1 (turnC c i f t v).cells∧OInts w' lo v2 c.words∧w.grownBy w' v1.ownBlock:=l6Turn_any c i f t v v1 v2 lo w h1 h2 hi
theorem look6_at {c:Ch} {h:Ha} {x:C3} (hx:cellAt c h.cell=x) (n:Int) (hn:x.s=n) :
    look6 c h=if n == 0 then ({ seenAs h x with pos:=4 },true) else if n == 1 then ({ seenAs h x with pos:=6 },true) else if n == 4 then ({ seenAs h x with pos:=7 },true)
      else if n == 8 then (anew (seenAs h x),true) else if n == 10 then (anew (seenAs h x),true) else (seenAs h x,false):=by
  subst hn;subst hx;rfl
set_option maxRecDepth 100000 in
set_option maxHeartbeats 2000000 in
theorem l6Look_any (c:Ch) (h:Ha) (a b:Option Addr) (p q:Nat) (w:World) (h1:Seg w w.heap.size a c.cells.length 3 (cellF c.cells)) (hc0:0≤h.cell) (hc1:h.cell<c.cells.length) :
    Calls Try.prog 106 #[.agg (cvals c (.slice a c.cells.length p) (.slice b c.words.length q)),.agg (hvals h)] w fun r w'=>r=.returned (.tuple #[.agg (hvals (look6 c h).1),.bool (look6 c h).2])∧Below w.heap.size w w':=by
  obtain ⟨i,hci⟩:∃ i:Nat,h.cell=(i:Int):=⟨h.cell.toNat,by omega⟩
  have hi:i<c.cells.length:=by omega
  obtain ⟨bb,bo,rfl,hb,hcell⟩:∃ b' o,a=some ⟨b',o,none⟩∧b'<w.heap.size∧Hid (∀ j,j<3→w.cell? ⟨b',o+i*3+j,none⟩=some ((c.cells.getD i ⟨0,0,0⟩).val j)):=by
    rcases h1 with h0|⟨b',o',e,h1,h2⟩
    · omega
    · exact ⟨b',o',e,h1,fun j hj=>by simpa [cellF] using h2 i j hi hj⟩
  clear h1
  have c0:=hcell.out 0 (by omega)
  have c2:=hcell.out 2 (by omega)
  have hx:Hid (cellAt c h.cell=c.cells.getD i ⟨0,0,0⟩):=by simp [cellAt,Hid,hci]
  clear hcell
  generalize c.cells.getD i ⟨0,0,0⟩=x at *
  obtain ⟨s,e,t⟩:=x
  simp only [C3.val,Nat.add_zero] at c0 c2
  have hi0:(0:Int)≤(i:Int):=by omega
  have hi1:(i:Int)<(c.cells.length:Int):=by omega
  have hb1:bb<w.heap.size+1:=by omega
  have hb2:bb<w.heap.size+1+1:=by omega
  have hne:bb≠w.heap.size:=by omega
  have hne1:bb≠w.heap.size+1:=by omega
  have hne2:bb≠w.heap.size+1+1:=by omega
  by_cases hn:s=0∨s=1∨s=4∨s=8∨s=10
  · rcases hn with rfl|rfl|rfl|rfl|rfl
    · rw [show look6 c h=({ seenAs h ⟨0,e,t⟩ with pos:=4 },true) from look6_at hx.out 0 rfl]
      go_enter Try.func106,Try.ntmps106
      go_wp2
      refine bodyPost_ret (res_ct Try.results106 rfl (ldHand { seenAs h ⟨0,e,t⟩ with pos:=4 } (by simp [go_sem, *] <;> first|rfl|simp [seenAs,anew,hci]))) rfl ⟨rfl,by (repeat (with_reducible first|assumption|exact bR|refine bA ?_|refine bD ?_|((first|refine bS ?_ ?_|refine bBx ?_ ?_);rotate_left;focus (try simp) <;> (try omega))))⟩
    · rw [show look6 c h=({ seenAs h ⟨1,e,t⟩ with pos:=6 },true) from look6_at hx.out 1 rfl]
      go_enter Try.func106,Try.ntmps106
      go_wp2
      refine bodyPost_ret (res_ct Try.results106 rfl (ldHand { seenAs h ⟨1,e,t⟩ with pos:=6 } (by simp [go_sem, *] <;> first|rfl|simp [seenAs,anew,hci]))) rfl ⟨rfl,by (repeat (with_reducible first|assumption|exact bR|refine bA ?_|refine bD ?_|((first|refine bS ?_ ?_|refine bBx ?_ ?_);rotate_left;focus (try simp) <;> (try omega))))⟩
    · rw [show look6 c h=({ seenAs h ⟨4,e,t⟩ with pos:=7 },true) from look6_at hx.out 4 rfl]
      go_enter Try.func106,Try.ntmps106
      go_wp2
      refine bodyPost_ret (res_ct Try.results106 rfl (ldHand { seenAs h ⟨4,e,t⟩ with pos:=7 } (by simp [go_sem, *] <;> first|rfl|simp [seenAs,anew,hci]))) rfl ⟨rfl,by (repeat (with_reducible first|assumption|exact bR|refine bA ?_|refine bD ?_|((first|refine bS ?_ ?_|refine bBx ?_ ?_);rotate_left;focus (try simp) <;> (try omega))))⟩
    · rw [show look6 c h=(anew (seenAs h ⟨8,e,t⟩),true) from look6_at hx.out 8 rfl]
      go_enter Try.func106,Try.ntmps106
      go_wp2_with fail;refine bHit w (by (repeat (with_reducible first|assumption|exact bR|refine bA ?_|refine bD ?_|((first|refine bS ?_ ?_|refine bBx ?_ ?_);rotate_left;focus (try simp) <;> (try omega))))) fun bb=>?_;refine (l6Anew_any _ _).mono ?_;rintro _ w1 ⟨rfl,hbw1⟩;have hCw1:Below w.heap.size w w1:=bT bb hbw1;have hsw1:=hbw1.size;(try simp at hsw1);have zz:=And.intro (hpB hbw1 (b:=w.heap.size+1+1) (by (try simp) <;> omega)) <| And.intro (hpB hbw1 (b:=w.heap.size+1) (by (try simp) <;> omega)) <| hpB hbw1 (b:=w.heap.size) (by (try simp) <;> omega);(try simp [go_sem] at zz);(try clear z_wpp x_wpp f_wpp l_wpp);(try clear z_wp x_wp f_wp l_wp);(try clear z_w x_w f_w l_w);obtain ⟨z_wpp,z_wp,z_w⟩:=zz;obtain ⟨x_wpp,f_wpp,l_wpp⟩:=bO z_wpp;obtain ⟨x_wp,f_wp,l_wp⟩:=bO z_wp;obtain ⟨x_w,f_w,l_w⟩:=bO z_w;clear hbw1 bb
      go_wp2
      refine bodyPost_ret (res_ct Try.results106 rfl (ldHand (anew (seenAs h ⟨8,e,t⟩)) (by simp [go_sem, *] <;> first|rfl|simp [seenAs,anew,hci]))) rfl ⟨rfl,by (repeat (with_reducible first|assumption|exact bR|refine bA ?_|refine bD ?_|((first|refine bS ?_ ?_|refine bBx ?_ ?_);rotate_left;focus (try simp) <;> (try omega))))⟩
    · rw [show look6 c h=(anew (seenAs h ⟨10,e,t⟩),true) from look6_at hx.out 10 rfl]
      go_enter Try.func106,Try.ntmps106
      go_wp2_with fail;refine bHit w (by (repeat (with_reducible first|assumption|exact bR|refine bA ?_|refine bD ?_|((first|refine bS ?_ ?_|refine bBx ?_ ?_);rotate_left;focus (try simp) <;> (try omega))))) fun bb=>?_;refine (l6Anew_any _ _).mono ?_;rintro _ w1 ⟨rfl,hbw1⟩;have hCw1:Below w.heap.size w w1:=bT bb hbw1;have hsw1:=hbw1.size;(try simp at hsw1);have zz:=And.intro (hpB hbw1 (b:=w.heap.size+1+1) (by (try simp) <;> omega)) <| And.intro (hpB hbw1 (b:=w.heap.size+1) (by (try simp) <;> omega)) <| hpB hbw1 (b:=w.heap.size) (by (try simp) <;> omega);(try simp [go_sem] at zz);(try clear z_wpp x_wpp f_wpp l_wpp);(try clear z_wp x_wp f_wp l_wp);(try clear z_w x_w f_w l_w);obtain ⟨z_wpp,z_wp,z_w⟩:=zz;obtain ⟨x_wpp,f_wpp,l_wpp⟩:=bO z_wpp;obtain ⟨x_wp,f_wp,l_wp⟩:=bO z_wp;obtain ⟨x_w,f_w,l_w⟩:=bO z_w;clear hbw1 bb
      go_wp2
      refine bodyPost_ret (res_ct Try.results106 rfl (ldHand (anew (seenAs h ⟨10,e,t⟩)) (by simp [go_sem, *] <;> first|rfl|simp [seenAs,anew,hci]))) rfl ⟨rfl,by (repeat (with_reducible first|assumption|exact bR|refine bA ?_|refine bD ?_|((first|refine bS ?_ ?_|refine bBx ?_ ?_);rotate_left;focus (try simp) <;> (try omega))))⟩
  · have n0:(s == 0)=false:=by simp;omega
    have n1:(s == 1)=false:=by simp;omega
    have n4:(s == 4)=false:=by simp;omega
    have n8:(s == 8)=false:=by simp;omega
    have n10:(s == 10)=false:=by simp;omega
    rw [show look6 c h=(seenAs h ⟨s,e,t⟩,false) from by rw [look6_at hx.out s rfl,n0,n1,n4,n8,n10];rfl]
    clear hn
    go_enter Try.func106,Try.ntmps106
    go_wp2
    refine bodyPost_ret (res_ct Try.results106 rfl (ldHand (seenAs h ⟨s,e,t⟩) (by simp [go_sem, *] <;> first|rfl|simp [seenAs,anew,hci]))) rfl ⟨rfl,by (repeat (with_reducible first|assumption|exact bR|refine bA ?_|refine bD ?_|((first|refine bS ?_ ?_|refine bBx ?_ ?_);rotate_left;focus (try simp) <;> (try omega))))⟩
end Go.Proofs.Ytikhaaccgoiaeaa
