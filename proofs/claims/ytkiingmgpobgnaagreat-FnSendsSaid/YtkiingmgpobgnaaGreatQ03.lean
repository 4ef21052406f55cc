/-
  Stopping who is parked, of the reference model; lists lie in memory and hold at most 2 ^ 40 elements.
  Asking, of the reference model; lists lie in memory and hold at most 2 ^ 40 elements.
  Asking who can be asked, of the reference model; lists lie in memory and hold at most 2 ^ 40 elements.
  Stopping and asking, of the reference model, all cases; lists lie in memory and hold at most 2 ^ 40 elements.
  What comes of a step of the reference model, on hands and channels that are kept whole; the lists are the call's own.
  The contracts of the reference model's Laid and Turned; no condition.
  The reference model's writing into a cell of a channel of one's own; the lists are the call's own.
  The reference model's functions of chapter 6, on hands and channels that are kept whole; lists hold at most 2 ^ 40 elements.
-/
import Derived.Test.YtkiingmgpobgnaaGreatQ02
import Derived.BigRegion
import Derived.Test.YtkiingmgpobgnaaGreatQ01
set_option linter.unusedSimpArgs false
set_option linter.unusedVariables false
namespace Go.Proofs.YtkiingmgpobgnaaGreat
open Go.RowKit
set_option linter.unusedSimpArgs false
attribute [local simp] bx_size
attribute [local go_sem ↓] zeroHand toLHand toVHand toSHand storeHandC
attribute [local go_sem] runSHand
theorem tell_parts (c:Ch) (v x:Int):(tellC c v x).cells=c.cells∧(tellC c v x).cap=c.cap∧(tellC c v x).sent=c.sent∧(tellC c v x).got=c.got∧(tellC c v x).fin=c.fin:=by unfold tellC;split <;> simp
set_option maxRecDepth 100000 in
set_option maxHeartbeats 4000000 in
theorem stopped_on (x:Wo) (who:Int) (a b d e:Option Addr) (p q r s:Nat) (w:World) (h1:Seg w w.heap.size a x.ch.cells.length 3 (cellF x.ch.cells)) (z1:a=none→p=0) (h2:Seg w w.heap.size b x.ch.words.length 1 (intF x.ch.words)) (z2:b=none→q=0) (h3:Seg w w.heap.size d x.hands.length 14 (handF x.hands)) (z3:d=none→x.hands.length=0∧r=0) (h4:Seg w w.heap.size e x.deals.length 7 (dealF x.deals)) (z4:e=none→x.deals.length=0∧s=0) (m1:x.ch.cells.length≤1099511627776) (m2:x.ch.words.length≤1099511627776) (m3:x.hands.length≤1099511627776) (m4:x.deals.length≤1099511627776) (hk:worldOk x=true) (ht:taskOk x who=true) (hp0:((handAt x who).pos != 23)=false) :
    Calls Tryz.prog 55 #[.agg #[.int .i64 x.ch.cap,.int .i64 x.ch.sent,.int .i64 x.ch.got,.int .i64 x.ch.fin,.slice a x.ch.cells.length p,.slice b x.ch.words.length q,.slice d x.hands.length r,.slice e x.deals.length s,.int .i64 x.now],.int .i64 who] w fun r w'=>WordR w w' (stopped x who).1 (.bool (stopped x who).2) r:=by
  have H1:=Lib.hid h1
  have H2:=Lib.hid h2
  have H3:=Lib.hid h3
  have H4:=Lib.hid h4
  have Z1:=Lib.hid z1
  have Z2:=Lib.hid z2
  have Z3:=Lib.hid z3
  have Z4:=Lib.hid z4
  clear h1 h2 h3 h4 z1 z2 z3 z4
  obtain ⟨i,rfl⟩:∃ i:Nat,who=(i:Int):=⟨who.toNat,by simp [taskOk,taskB,inB] at ht;omega⟩
  have hi:i<x.hands.length:=by simp [taskOk,taskB,inB] at ht;omega
  obtain ⟨b3,o3,rfl,hb3,hc3⟩:∃ b o,d=some ⟨b,o,none⟩∧b<w.heap.size∧Hid (∀ i j,i<x.hands.length→j<14→w.cell? ⟨b,o+i*14+j,none⟩=some (handF x.hands i j)):=by
    rcases H3.out with h0|h0
    · omega
    · exact h0
  have hLd:∀ W:World,hp W b3=hp w b3→(LHand (.pointer (some ⟨b3,o3+i*14,none⟩))).run Tryz.prog W=.ok (.agg (hvals (handAt x i))) W:=fun W e=>ldHandE _ fun j hj=>by rw [show (hvals (handAt x i)).getD j (.int .i64 0)=handF x.hands i j by simp [handF,handAt],← hc3.out i j hi hj];exact World.cell?_of_block e
  have hi0:(0:Int)≤(i:Int):=by omega
  have hi1:(i:Int)<(x.hands.length:Int):=by omega
  have e0:stopped x i=({ x with ch:=tellC x.ch (handAt x i).mine 2 },tellB x.ch (handAt x i).mine 2):=by simp at hp0;simp [stopped,hk,ht,hp0]
  rw [e0]
  have ht2:taskB x.hands.length i=true:=ht
  clear e0 ht
  have FF:=Lib.hid (tell_parts x.ch (handAt x i).mine 2)
  have T:=Lib.hid fun a b p q W x1 x2 x3 x4=>l3Told_any x.ch (handAt x i).mine 2 a b p q W x1 x2 x3 x4 m1 m2
  go_enter Tryz.func55,Tryz.ntmps55
  go_wp2_with fail;refine bHit w (by exact zB) fun bb=>?_;refine (sWorldOk_any x a b _ e p q r s _ ((H1.out.below bb).more bb.size) ((H2.out.below bb).more bb.size) ((H3.out.below bb).more bb.size) ((H4.out.below bb).more bb.size) m3 m4).mono ?_;rintro _ w1 ⟨rfl,hbw1⟩;have hCw1:Below w.heap.size w w1:=bT bb hbw1;have hsw1:=hbw1.size;(try simp at hsw1);have zz:=And.intro (fun o=>hbw1.cell (p:=⟨w.heap.size+1,o,none⟩) (by (try simp) <;> omega)) <| And.intro (fun o=>hbw1.frozen (p:=⟨w.heap.size+1,o,none⟩) (by (try simp) <;> omega)) <| And.intro (fun o=>hbw1.cell (p:=⟨w.heap.size,o,none⟩) (by (try simp) <;> omega)) <| fun o=>hbw1.frozen (p:=⟨w.heap.size,o,none⟩) (by (try simp) <;> omega);(try simp [go_sem] at zz);(try clear x_wp f_wp);(try clear x_w f_w);obtain ⟨x_wp,f_wp,x_w,f_w⟩:=zz;(try clear l_wp);have l_wp:w.heap.size+1<w1.heap.size:=(by omega);(try clear l_w);have l_w:w.heap.size<w1.heap.size:=(by omega);clear hbw1 bb
  rw [hk]
  go_wp2_with fail;refine bHit w (by exact zB) fun bb=>?_;refine (l11Task_any x.ch x.hands.length x.now i _ _ _ _ _ _ _ _ _ _ _ m3 _).mono ?_;rintro _ w2 ⟨rfl,hbw2⟩;have hCw2:Below w.heap.size w w2:=bT bb hbw2;have hsw2:=hbw2.size;(try simp at hsw2);have zz:=And.intro (fun o=>hbw2.cell (p:=⟨w.heap.size+1,o,none⟩) (by (try simp) <;> omega)) <| And.intro (fun o=>hbw2.frozen (p:=⟨w.heap.size+1,o,none⟩) (by (try simp) <;> omega)) <| And.intro (fun o=>hbw2.cell (p:=⟨w.heap.size,o,none⟩) (by (try simp) <;> omega)) <| fun o=>hbw2.frozen (p:=⟨w.heap.size,o,none⟩) (by (try simp) <;> omega);(first|simp [go_sem,x_wp,f_wp,x_w,f_w,l_w,l_wp] at zz|simp [go_sem,x_wp,x_w,l_w,l_wp] at zz|simp [go_sem] at zz|skip);(try clear x_wp f_wp);(try clear x_w f_w);obtain ⟨x_wp,f_wp,x_w,f_w⟩:=zz;(try clear l_wp);have l_wp:w.heap.size+1<w2.heap.size:=(by omega);(try clear l_w);have l_w:w.heap.size<w2.heap.size:=(by omega);clear hbw2 bb
  rw [ht2]
  go_wp2_with fail;refine bHit w (by exact zB) fun bb=>?_;refine (l11Copy_any x a b _ e p q r s _ ((H1.out.below bb).more bb.size) Z1.out ((H2.out.below bb).more bb.size) Z2.out ((H3.out.below bb).more bb.size) Z3.out ((H4.out.below bb).more bb.size) Z4.out m1 m2 m3 m4).mono ?_;rintro _ w3 ⟨⟨v1,v2,v3,v4,rfl,o1,o2,o3x,o4⟩,hbw3⟩;have hCw3:Below w.heap.size w w3:=bT bb hbw3;have hsw3:=hbw3.size;(try simp at hsw3);have zz:=And.intro (fun o=>hbw3.cell (p:=⟨w.heap.size+1,o,none⟩) (by (try simp) <;> omega)) <| And.intro (fun o=>hbw3.frozen (p:=⟨w.heap.size+1,o,none⟩) (by (try simp) <;> omega)) <| And.intro (fun o=>hbw3.cell (p:=⟨w.heap.size,o,none⟩) (by (try simp) <;> omega)) <| fun o=>hbw3.frozen (p:=⟨w.heap.size,o,none⟩) (by (try simp) <;> omega);(first|simp [go_sem,x_wp,f_wp,x_w,f_w,l_w,l_wp] at zz|simp [go_sem,x_wp,x_w,l_w,l_wp] at zz|simp [go_sem] at zz|skip);(try clear x_wp f_wp);(try clear x_w f_w);obtain ⟨x_wp,f_wp,x_w,f_w⟩:=zz;(try clear l_wp);have l_wp:w.heap.size+1<w3.heap.size:=(by omega);(try clear l_w);have l_w:w.heap.size<w3.heap.size:=(by omega);clear hbw3 bb
  try simp at o1 o2 o3x o4
  have O1:=Lib.hid o1
  have O2:=Lib.hid o2
  have O3:=Lib.hid o3x
  have O4:=Lib.hid o4
  obtain ⟨va,vc,rfl,_⟩:=OCells.seg o1
  obtain ⟨vb,vd,rfl,_⟩:=OInts.seg o2
  obtain ⟨vf,vg,rfl,_⟩:=OHands.seg o3x
  obtain ⟨vh,vi,rfl,_⟩:=ODeals.seg o4
  clear o1 o2 o3x o4
  have z3:hp w3 b3=hp w b3:=hCw3.block b3 hb3
  have lb3:b3<w3.heap.size:=by omega
  have nb3:b3≠w3.heap.size:=by omega
  have c0:w3.cell? ⟨b3,o3+i*14,none⟩=some (.int .i64 (handAt x i).pos):=(hCw3.cell (p:=⟨b3,o3+i*14,none⟩) hb3).trans ((hc3.out i 0 hi (by omega)).trans (by simp [handF,handAt,hvals,Array.getD]))
  have c9:w3.cell? ⟨b3,o3+i*14+9,none⟩=some (.int .i64 (handAt x i).mine):=(hCw3.cell (p:=⟨b3,o3+i*14+9,none⟩) hb3).trans ((hc3.out i 9 hi (by omega)).trans (by simp [handF,handAt,hvals,Array.getD]))
  have k0:w.heap.size<w3.heap.size:=by omega
  have k1:w.heap.size+1<w3.heap.size:=by omega
  have lb4:b3<w3.heap.size+1:=by omega
  have nb4:b3≠w3.heap.size+1:=by omega
  go_wp2_with fail
  go_region_held3 (fun w'=>w'.cell? ⟨w.heap.size,0,none⟩=some (.int .i64 x.ch.cap)∧w'.cell? ⟨w.heap.size,1,none⟩=some (.int .i64 x.ch.sent)∧w'.cell? ⟨w.heap.size,2,none⟩=some (.int .i64 x.ch.got)∧w'.cell? ⟨w.heap.size,3,none⟩=some (.int .i64 x.ch.fin)∧w'.cell? ⟨w.heap.size,4,none⟩=some (.slice a x.ch.cells.length p)∧w'.cell? ⟨w.heap.size,5,none⟩=some (.slice b x.ch.words.length q)∧w'.cell? ⟨w.heap.size,6,none⟩=some (.slice (some ⟨b3,o3,none⟩) x.hands.length r)∧w'.cell? ⟨b3,o3+i*14+9,none⟩=some (.int .i64 (handAt x i).mine))
    (first|(simp [*,go_sem]))
    (first|(go_at_call 67;refine (T.out a b p q _ ((H1.out.below (by exact zB)).more (by (try simp) <;> omega)) Z1.out ((H2.out.below (by exact zB)).more (by (try simp) <;> omega)) Z2.out).mono ?_;rintro _ w4 ⟨⟨u1,u2,rfl,u3,u4⟩,hb4⟩;have hC4:Below w.heap.size w w4:=bT (by exact zB) hb4;have hK4:Below w3.heap.size w3 w4:=bT (by exact zB) hb4;have hs4:=hb4.size;(try simp at hs4);have x4:=fun o=>hb4.cell (p:=⟨w.heap.size,o,none⟩) (by ((try simp) <;> (try omega)));have y4:=fun o=>hb4.cell (p:=⟨w.heap.size+1,o,none⟩) (by ((try simp) <;> (try omega)));have yf4:=fun o=>hb4.frozen (p:=⟨w.heap.size+1,o,none⟩) (by ((try simp) <;> (try omega)));have v4:=fun o=>hb4.cell (p:=⟨w3.heap.size,o,none⟩) (by ((try simp) <;> (try omega)));have vf4:=fun o=>hb4.frozen (p:=⟨w3.heap.size,o,none⟩) (by ((try simp) <;> (try omega)));have t4:=fun o=>hb4.cell (p:=⟨w3.heap.size+1,o,none⟩);have tf4:=fun o=>hb4.frozen (p:=⟨w3.heap.size+1,o,none⟩);have m4:=hb4.cell (p:=⟨b3,o3+i*14+9,none⟩) (by ((try simp) <;> (try omega)));(simp [go_sem,x_w,l_w,k0] at x4);(simp [go_sem,x_wp,l_wp,k1] at y4);(simp [go_sem,f_wp,l_wp,k1] at yf4);(simp [go_sem] at v4);(simp [go_sem] at vf4);(simp [go_sem,lb3,c9] at m4);(try simp [go_sem] at t4);(try simp [go_sem] at tf4);have n0:w.heap.size<w4.heap.size:=(by omega);have n1:w.heap.size+1<w4.heap.size:=(by omega);have n2:w3.heap.size<w4.heap.size:=(by omega);have n3:b3<w4.heap.size:=(by omega);have n4:b3≠w4.heap.size:=(by omega);(try simp at u3 u4);have U3:=Lib.hid u3;have U4:=Lib.hid u4;obtain ⟨ua,uc,rfl,_⟩:=OCells.seg u3;obtain ⟨ub,ud,rfl,_⟩:=OInts.seg u4;clear u3 u4))
  all_goals go_wp2
  all_goals (have o1:=U3.out;have o2:=U4.out;have o3:=own_below O3.out hK4;have o4:=own_below O4.out hK4;have p1:=own_lo (lo':=w.heap.size) o1 (by omega);have p2:=own_lo (lo':=w.heap.size) o2 (by omega);have p3:=own_lo (lo':=w.heap.size) o3 (by omega);have p4:=own_lo (lo':=w.heap.size) o4 (by omega);have q3:=O3.out;have q4:=O4.out)
  all_goals (obtain ⟨f1,f2,f3,f4,f5⟩:=FF.out;unfold WordR WOwn;simp only [f1,f2,f3,f4,f5])
  all_goals (refine bodyPost_ret (v:=.tuple #[.agg #[.int .i64 x.ch.cap,.int .i64 x.ch.sent,.int .i64 x.ch.got,.int .i64 x.ch.fin,.slice ua x.ch.cells.length uc,.slice ub (tellC x.ch (handAt x i).mine 2).words.length ud,.slice vf x.hands.length vg,.slice vh x.deals.length vi,.int .i64 x.now],.bool (tellB x.ch (handAt x i).mine 2)]) (by simp [results,Tryz.results55,go_sem, *]) rfl ⟨⟨_,_,_,_,rfl,?_,?_,?_,?_⟩,by exact zB⟩)
  all_goals first|((repeat first|with_reducible exact p1|with_reducible refine oAl ?_ _|with_reducible refine oDr ?_|((with_reducible first|refine own_store ?_ ?_ _|refine own_box ?_ ?_);rotate_left;focus first|(refine own_ne o1 ?_;(try dsimp only);omega)|(refine own_ne' o1 ?_;(try dsimp only);omega)));done)|skip
  all_goals first|((repeat first|with_reducible exact p2|with_reducible refine oAl ?_ _|with_reducible refine oDr ?_|((with_reducible first|refine own_store ?_ ?_ _|refine own_box ?_ ?_);rotate_left;focus first|(refine own_ne o2 ?_;(try dsimp only);omega)|(refine own_ne' o2 ?_;(try dsimp only);omega)));done)|skip
  all_goals first|((repeat first|with_reducible exact p3|with_reducible refine oAl ?_ _|with_reducible refine oDr ?_|((with_reducible first|refine own_store ?_ ?_ _|refine own_box ?_ ?_);rotate_left;focus first|(refine own_ne q3 ?_;(try dsimp only);omega)|(refine own_ne' q3 ?_;(try dsimp only);omega)));done)|skip
  all_goals first|((repeat first|with_reducible exact p4|with_reducible refine oAl ?_ _|with_reducible refine oDr ?_|((with_reducible first|refine own_store ?_ ?_ _|refine own_box ?_ ?_);rotate_left;focus first|(refine own_ne q4 ?_;(try dsimp only);omega)|(refine own_ne' q4 ?_;(try dsimp only);omega)));done)|skip
end Go.Proofs.YtkiingmgpobgnaaGreat
set_option linter.unusedSimpArgs false
set_option linter.unusedVariables false
namespace Go.Proofs.YtkiingmgpobgnaaGreat
open Go.RowKit
set_option linter.unusedSimpArgs false
attribute [local simp] bx_size
attribute [local go_sem ↓] zeroHand toLHand toVHand toSHand storeHandC
attribute [local go_sem] runSHand
set_option maxRecDepth 100000 in
set_option maxHeartbeats 4000000 in
theorem asked_no1 (x:Wo) (who kk ee:Int) (a b d e:Option Addr) (p q r s:Nat) (w:World) (h1:Seg w w.heap.size a x.ch.cells.length 3 (cellF x.ch.cells)) (z1:a=none→p=0) (h2:Seg w w.heap.size b x.ch.words.length 1 (intF x.ch.words)) (z2:b=none→q=0) (h3:Seg w w.heap.size d x.hands.length 14 (handF x.hands)) (z3:d=none→x.hands.length=0∧r=0) (h4:Seg w w.heap.size e x.deals.length 7 (dealF x.deals)) (z4:e=none→x.deals.length=0∧s=0) (m1:x.ch.cells.length≤1099511627776) (m2:x.ch.words.length≤1099511627776) (m3:x.hands.length≤1099511627776) (m4:x.deals.length≤1099511627776) (hk:worldOk x=false) :
    Calls Tryz.prog 51 #[.agg #[.int .i64 x.ch.cap,.int .i64 x.ch.sent,.int .i64 x.ch.got,.int .i64 x.ch.fin,.slice a x.ch.cells.length p,.slice b x.ch.words.length q,.slice d x.hands.length r,.slice e x.deals.length s,.int .i64 x.now],.int .i64 who,.agg #[.int .i64 kk,.int .i64 ee]] w fun r w'=>WordR w w' (asked x who kk ee).1 (.int .i64 (asked x who kk ee).2) r:=by
  have e0:asked x who kk ee=(Wo.zero,3):=by simp [asked,hk]
  rw [e0]
  have H1:=Lib.hid h1
  have H2:=Lib.hid h2
  have H3:=Lib.hid h3
  have H4:=Lib.hid h4
  have Z1:=Lib.hid z1
  have Z2:=Lib.hid z2
  have Z3:=Lib.hid z3
  have Z4:=Lib.hid z4
  clear h1 h2 h3 h4 z1 z2 z3 z4
  clear e0
  go_enter Tryz.func51,Tryz.ntmps51
  go_wp2_with fail;refine bHit w (by exact zB) fun bb=>?_;refine (sWorldOk_any x a b d e p q r s _ ((H1.out.below bb).more bb.size) ((H2.out.below bb).more bb.size) ((H3.out.below bb).more bb.size) ((H4.out.below bb).more bb.size) m3 m4).mono ?_;rintro _ w1 ⟨rfl,hbw1⟩;have hCw1:Below w.heap.size w w1:=bT bb hbw1;have hsw1:=hbw1.size;(try simp at hsw1);have zz:=And.intro (fun o=>hbw1.cell (p:=⟨w.heap.size+1+1,o,none⟩) (by (try simp) <;> omega)) <| And.intro (fun o=>hbw1.frozen (p:=⟨w.heap.size+1+1,o,none⟩) (by (try simp) <;> omega)) <| And.intro (fun o=>hbw1.cell (p:=⟨w.heap.size+1,o,none⟩) (by (try simp) <;> omega)) <| And.intro (fun o=>hbw1.frozen (p:=⟨w.heap.size+1,o,none⟩) (by (try simp) <;> omega)) <| And.intro (fun o=>hbw1.cell (p:=⟨w.heap.size,o,none⟩) (by (try simp) <;> omega)) <| fun o=>hbw1.frozen (p:=⟨w.heap.size,o,none⟩) (by (try simp) <;> omega);(try simp [go_sem] at zz);(try clear x_wpp f_wpp);(try clear x_wp f_wp);(try clear x_w f_w);obtain ⟨x_wpp,f_wpp,x_wp,f_wp,x_w,f_w⟩:=zz;(try clear l_wpp);have l_wpp:w.heap.size+1+1<w1.heap.size:=(by omega);(try clear l_wp);have l_wp:w.heap.size+1<w1.heap.size:=(by omega);(try clear l_w);have l_w:w.heap.size<w1.heap.size:=(by omega);clear hbw1 bb
  rw [hk]
  go_wp2
  exact bodyPost_ret (v:=.tuple #[.agg #[.int .i64 Wo.zero.ch.cap,.int .i64 Wo.zero.ch.sent,.int .i64 Wo.zero.ch.got,.int .i64 Wo.zero.ch.fin,.slice none 0 0,.slice none 0 0,.slice none 0 0,.slice none 0 0,.int .i64 Wo.zero.now],.int .i64 3]) (by simp [results,Tryz.results51,go_sem,Wo.zero,Ch.zero, *]) rfl ⟨⟨_,_,_,_,rfl,wown_zero _ _⟩,by exact zB⟩
set_option maxRecDepth 100000 in
set_option maxHeartbeats 4000000 in
theorem asked_no2 (x:Wo) (who kk ee:Int) (a b d e:Option Addr) (p q r s:Nat) (w:World) (h1:Seg w w.heap.size a x.ch.cells.length 3 (cellF x.ch.cells)) (z1:a=none→p=0) (h2:Seg w w.heap.size b x.ch.words.length 1 (intF x.ch.words)) (z2:b=none→q=0) (h3:Seg w w.heap.size d x.hands.length 14 (handF x.hands)) (z3:d=none→x.hands.length=0∧r=0) (h4:Seg w w.heap.size e x.deals.length 7 (dealF x.deals)) (z4:e=none→x.deals.length=0∧s=0) (m1:x.ch.cells.length≤1099511627776) (m2:x.ch.words.length≤1099511627776) (m3:x.hands.length≤1099511627776) (m4:x.deals.length≤1099511627776) (hk:worldOk x=true) (ht:taskOk x who=false) :
    Calls Tryz.prog 51 #[.agg #[.int .i64 x.ch.cap,.int .i64 x.ch.sent,.int .i64 x.ch.got,.int .i64 x.ch.fin,.slice a x.ch.cells.length p,.slice b x.ch.words.length q,.slice d x.hands.length r,.slice e x.deals.length s,.int .i64 x.now],.int .i64 who,.agg #[.int .i64 kk,.int .i64 ee]] w fun r w'=>WordR w w' (asked x who kk ee).1 (.int .i64 (asked x who kk ee).2) r:=by
  have e0:asked x who kk ee=(Wo.zero,3):=by simp [asked,hk,ht]
  rw [e0]
  have H1:=Lib.hid h1
  have H2:=Lib.hid h2
  have H3:=Lib.hid h3
  have H4:=Lib.hid h4
  have Z1:=Lib.hid z1
  have Z2:=Lib.hid z2
  have Z3:=Lib.hid z3
  have Z4:=Lib.hid z4
  clear h1 h2 h3 h4 z1 z2 z3 z4
  clear e0
  have ht2:taskB x.hands.length who=false:=ht
  clear ht
  go_enter Tryz.func51,Tryz.ntmps51
  go_wp2_with fail;refine bHit w (by exact zB) fun bb=>?_;refine (sWorldOk_any x a b d e p q r s _ ((H1.out.below bb).more bb.size) ((H2.out.below bb).more bb.size) ((H3.out.below bb).more bb.size) ((H4.out.below bb).more bb.size) m3 m4).mono ?_;rintro _ w1 ⟨rfl,hbw1⟩;have hCw1:Below w.heap.size w w1:=bT bb hbw1;have hsw1:=hbw1.size;(try simp at hsw1);have zz:=And.intro (fun o=>hbw1.cell (p:=⟨w.heap.size+1+1,o,none⟩) (by (try simp) <;> omega)) <| And.intro (fun o=>hbw1.frozen (p:=⟨w.heap.size+1+1,o,none⟩) (by (try simp) <;> omega)) <| And.intro (fun o=>hbw1.cell (p:=⟨w.heap.size+1,o,none⟩) (by (try simp) <;> omega)) <| And.intro (fun o=>hbw1.frozen (p:=⟨w.heap.size+1,o,none⟩) (by (try simp) <;> omega)) <| And.intro (fun o=>hbw1.cell (p:=⟨w.heap.size,o,none⟩) (by (try simp) <;> omega)) <| fun o=>hbw1.frozen (p:=⟨w.heap.size,o,none⟩) (by (try simp) <;> omega);(try simp [go_sem] at zz);(try clear x_wpp f_wpp);(try clear x_wp f_wp);(try clear x_w f_w);obtain ⟨x_wpp,f_wpp,x_wp,f_wp,x_w,f_w⟩:=zz;(try clear l_wpp);have l_wpp:w.heap.size+1+1<w1.heap.size:=(by omega);(try clear l_wp);have l_wp:w.heap.size+1<w1.heap.size:=(by omega);(try clear l_w);have l_w:w.heap.size<w1.heap.size:=(by omega);clear hbw1 bb
  rw [hk]
  go_wp2_with fail;refine bHit w (by exact zB) fun bb=>?_;refine (l11Task_any x.ch x.hands.length x.now who _ _ _ _ _ _ _ _ _ _ _ m3 _).mono ?_;rintro _ w2 ⟨rfl,hbw2⟩;have hCw2:Below w.heap.size w w2:=bT bb hbw2;have hsw2:=hbw2.size;(try simp at hsw2);have zz:=And.intro (fun o=>hbw2.cell (p:=⟨w.heap.size+1+1,o,none⟩) (by (try simp) <;> omega)) <| And.intro (fun o=>hbw2.frozen (p:=⟨w.heap.size+1+1,o,none⟩) (by (try simp) <;> omega)) <| And.intro (fun o=>hbw2.cell (p:=⟨w.heap.size+1,o,none⟩) (by (try simp) <;> omega)) <| And.intro (fun o=>hbw2.frozen (p:=⟨w.heap.size+1,o,none⟩) (by (try simp) <;> omega)) <| And.intro (fun o=>hbw2.cell (p:=⟨w.heap.size,o,none⟩) (by (try simp) <;> omega)) <| fun o=>hbw2.frozen (p:=⟨w.heap.size,o,none⟩) (by (try simp) <;> omega);(first|simp [go_sem,x_wpp,f_wpp,x_wp,f_wp,x_w,f_w,l_w,l_wp,l_wpp] at zz|simp [go_sem,x_wpp,x_wp,x_w,l_w,l_wp,l_wpp] at zz|simp [go_sem] at zz|skip);(try clear x_wpp f_wpp);(try clear x_wp f_wp);(try clear x_w f_w);obtain ⟨x_wpp,f_wpp,x_wp,f_wp,x_w,f_w⟩:=zz;(try clear l_wpp);have l_wpp:w.heap.size+1+1<w2.heap.size:=(by omega);(try clear l_wp);have l_wp:w.heap.size+1<w2.heap.size:=(by omega);(try clear l_w);have l_w:w.heap.size<w2.heap.size:=(by omega);clear hbw2 bb
  rw [ht2]
  go_wp2
  exact bodyPost_ret (v:=.tuple #[.agg #[.int .i64 Wo.zero.ch.cap,.int .i64 Wo.zero.ch.sent,.int .i64 Wo.zero.ch.got,.int .i64 Wo.zero.ch.fin,.slice none 0 0,.slice none 0 0,.slice none 0 0,.slice none 0 0,.int .i64 Wo.zero.now],.int .i64 3]) (by simp [results,Tryz.results51,go_sem,Wo.zero,Ch.zero, *]) rfl ⟨⟨_,_,_,_,rfl,wown_zero _ _⟩,by exact zB⟩
set_option maxRecDepth 100000 in
set_option maxHeartbeats 4000000 in
theorem asked_code (x:Wo) (who kk ee:Int) (a b d e:Option Addr) (p q r s:Nat) (w:World) (h1:Seg w w.heap.size a x.ch.cells.length 3 (cellF x.ch.cells)) (z1:a=none→p=0) (h2:Seg w w.heap.size b x.ch.words.length 1 (intF x.ch.words)) (z2:b=none→q=0) (h3:Seg w w.heap.size d x.hands.length 14 (handF x.hands)) (z3:d=none→x.hands.length=0∧r=0) (h4:Seg w w.heap.size e x.deals.length 7 (dealF x.deals)) (z4:e=none→x.deals.length=0∧s=0) (m1:x.ch.cells.length≤1099511627776) (m2:x.ch.words.length≤1099511627776) (m3:x.hands.length≤1099511627776) (m4:x.deals.length≤1099511627776) (hk:worldOk x=true) (ht:taskOk x who=true) (hc:((called (handAt x who) kk ee).2 != 0)=true) :
    Calls Tryz.prog 51 #[.agg #[.int .i64 x.ch.cap,.int .i64 x.ch.sent,.int .i64 x.ch.got,.int .i64 x.ch.fin,.slice a x.ch.cells.length p,.slice b x.ch.words.length q,.slice d x.hands.length r,.slice e x.deals.length s,.int .i64 x.now],.int .i64 who,.agg #[.int .i64 kk,.int .i64 ee]] w fun r w'=>WordR w w' (asked x who kk ee).1 (.int .i64 (asked x who kk ee).2) r:=by
  have H1:=Lib.hid h1
  have H2:=Lib.hid h2
  have H3:=Lib.hid h3
  have H4:=Lib.hid h4
  have Z1:=Lib.hid z1
  have Z2:=Lib.hid z2
  have Z3:=Lib.hid z3
  have Z4:=Lib.hid z4
  clear h1 h2 h3 h4 z1 z2 z3 z4
  obtain ⟨i,rfl⟩:∃ i:Nat,who=(i:Int):=⟨who.toNat,by simp [taskOk,taskB,inB] at ht;omega⟩
  have hi:i<x.hands.length:=by simp [taskOk,taskB,inB] at ht;omega
  obtain ⟨b3,o3,rfl,hb3,hc3⟩:∃ b o,d=some ⟨b,o,none⟩∧b<w.heap.size∧Hid (∀ i j,i<x.hands.length→j<14→w.cell? ⟨b,o+i*14+j,none⟩=some (handF x.hands i j)):=by
    rcases H3.out with h0|h0
    · omega
    · exact h0
  have hLd:∀ W:World,hp W b3=hp w b3→(LHand (.pointer (some ⟨b3,o3+i*14,none⟩))).run Tryz.prog W=.ok (.agg (hvals (handAt x i))) W:=fun W e=>ldHandE _ fun j hj=>by rw [show (hvals (handAt x i)).getD j (.int .i64 0)=handF x.hands i j by simp [handF,handAt],← hc3.out i j hi hj];exact World.cell?_of_block e
  have hi0:(0:Int)≤(i:Int):=by omega
  have hi1:(i:Int)<(x.hands.length:Int):=by omega
  have e0:asked x i kk ee=(x,(called (handAt x i) kk ee).2):=by simp at hc;simp [asked,hk,ht,hc]
  rw [e0]
  have ht2:taskB x.hands.length i=true:=ht
  clear e0 ht
  go_enter Tryz.func51,Tryz.ntmps51
  go_wp2_with fail;refine bHit w (by exact zB) fun bb=>?_;refine (sWorldOk_any x a b _ e p q r s _ ((H1.out.below bb).more bb.size) ((H2.out.below bb).more bb.size) ((H3.out.below bb).more bb.size) ((H4.out.below bb).more bb.size) m3 m4).mono ?_;rintro _ w1 ⟨rfl,hbw1⟩;have hCw1:Below w.heap.size w w1:=bT bb hbw1;have hsw1:=hbw1.size;(try simp at hsw1);have zz:=And.intro (fun o=>hbw1.cell (p:=⟨w.heap.size+1+1,o,none⟩) (by (try simp) <;> omega)) <| And.intro (fun o=>hbw1.frozen (p:=⟨w.heap.size+1+1,o,none⟩) (by (try simp) <;> omega)) <| And.intro (fun o=>hbw1.cell (p:=⟨w.heap.size+1,o,none⟩) (by (try simp) <;> omega)) <| And.intro (fun o=>hbw1.frozen (p:=⟨w.heap.size+1,o,none⟩) (by (try simp) <;> omega)) <| And.intro (fun o=>hbw1.cell (p:=⟨w.heap.size,o,none⟩) (by (try simp) <;> omega)) <| fun o=>hbw1.frozen (p:=⟨w.heap.size,o,none⟩) (by (try simp) <;> omega);(try simp [go_sem] at zz);(try clear x_wpp f_wpp);(try clear x_wp f_wp);(try clear x_w f_w);obtain ⟨x_wpp,f_wpp,x_wp,f_wp,x_w,f_w⟩:=zz;(try clear l_wpp);have l_wpp:w.heap.size+1+1<w1.heap.size:=(by omega);(try clear l_wp);have l_wp:w.heap.size+1<w1.heap.size:=(by omega);(try clear l_w);have l_w:w.heap.size<w1.heap.size:=(by omega);clear hbw1 bb
  rw [hk]
  go_wp2_with fail;refine bHit w (by exact zB) fun bb=>?_;refine (l11Task_any x.ch x.hands.length x.now i _ _ _ _ _ _ _ _ _ _ _ m3 _).mono ?_;rintro _ w2 ⟨rfl,hbw2⟩;have hCw2:Below w.heap.size w w2:=bT bb hbw2;have hsw2:=hbw2.size;(try simp at hsw2);have zz:=And.intro (fun o=>hbw2.cell (p:=⟨w.heap.size+1+1,o,none⟩) (by (try simp) <;> omega)) <| And.intro (fun o=>hbw2.frozen (p:=⟨w.heap.size+1+1,o,none⟩) (by (try simp) <;> omega)) <| And.intro (fun o=>hbw2.cell (p:=⟨w.heap.size+1,o,none⟩) (by (try simp) <;> omega)) <| And.intro (fun o=>hbw2.frozen (p:=⟨w.heap.size+1,o,none⟩) (by (try simp) <;> omega)) <| And.intro (fun o=>hbw2.cell (p:=⟨w.heap.size,o,none⟩) (by (try simp) <;> omega)) <| fun o=>hbw2.frozen (p:=⟨w.heap.size,o,none⟩) (by (try simp) <;> omega);(first|simp [go_sem,x_wpp,f_wpp,x_wp,f_wp,x_w,f_w,l_w,l_wp,l_wpp] at zz|simp [go_sem,x_wpp,x_wp,x_w,l_w,l_wp,l_wpp] at zz|simp [go_sem] at zz|skip);(try clear x_wpp f_wpp);(try clear x_wp f_wp);(try clear x_w f_w);obtain ⟨x_wpp,f_wpp,x_wp,f_wp,x_w,f_w⟩:=zz;(try clear l_wpp);have l_wpp:w.heap.size+1+1<w2.heap.size:=(by omega);(try clear l_wp);have l_wp:w.heap.size+1<w2.heap.size:=(by omega);(try clear l_w);have l_w:w.heap.size<w2.heap.size:=(by omega);clear hbw2 bb
  rw [ht2]
  go_wp2_with fail;refine bHit w (by exact zB) fun bb=>?_;refine (l11Copy_any x a b _ e p q r s _ ((H1.out.below bb).more bb.size) Z1.out ((H2.out.below bb).more bb.size) Z2.out ((H3.out.below bb).more bb.size) Z3.out ((H4.out.below bb).more bb.size) Z4.out m1 m2 m3 m4).mono ?_;rintro _ w3 ⟨⟨v1,v2,v3,v4,rfl,o1,o2,o3x,o4⟩,hbw3⟩;have hCw3:Below w.heap.size w w3:=bT bb hbw3;have hsw3:=hbw3.size;(try simp at hsw3);have zz:=And.intro (fun o=>hbw3.cell (p:=⟨w.heap.size+1+1,o,none⟩) (by (try simp) <;> omega)) <| And.intro (fun o=>hbw3.frozen (p:=⟨w.heap.size+1+1,o,none⟩) (by (try simp) <;> omega)) <| And.intro (fun o=>hbw3.cell (p:=⟨w.heap.size+1,o,none⟩) (by (try simp) <;> omega)) <| And.intro (fun o=>hbw3.frozen (p:=⟨w.heap.size+1,o,none⟩) (by (try simp) <;> omega)) <| And.intro (fun o=>hbw3.cell (p:=⟨w.heap.size,o,none⟩) (by (try simp) <;> omega)) <| fun o=>hbw3.frozen (p:=⟨w.heap.size,o,none⟩) (by (try simp) <;> omega);(first|simp [go_sem,x_wpp,f_wpp,x_wp,f_wp,x_w,f_w,l_w,l_wp,l_wpp] at zz|simp [go_sem,x_wpp,x_wp,x_w,l_w,l_wp,l_wpp] at zz|simp [go_sem] at zz|skip);(try clear x_wpp f_wpp);(try clear x_wp f_wp);(try clear x_w f_w);obtain ⟨x_wpp,f_wpp,x_wp,f_wp,x_w,f_w⟩:=zz;(try clear l_wpp);have l_wpp:w.heap.size+1+1<w3.heap.size:=(by omega);(try clear l_wp);have l_wp:w.heap.size+1<w3.heap.size:=(by omega);(try clear l_w);have l_w:w.heap.size<w3.heap.size:=(by omega);clear hbw3 bb
  try simp at o1 o2 o3x o4
  have O1:=Lib.hid o1
  have O2:=Lib.hid o2
  have O3:=Lib.hid o3x
  have O4:=Lib.hid o4
  obtain ⟨va,vc,rfl,_⟩:=OCells.seg o1
  obtain ⟨vb,vd,rfl,_⟩:=OInts.seg o2
  obtain ⟨vf,vg,rfl,_⟩:=OHands.seg o3x
  obtain ⟨vh,vi,rfl,_⟩:=ODeals.seg o4
  clear o1 o2 o3x o4
  have z3:hp w3 b3=hp w b3:=hCw3.block b3 hb3
  have lb3:b3<w3.heap.size:=by omega
  have nb3:b3≠w3.heap.size:=by omega
  have k0:w.heap.size<w3.heap.size:=by omega
  have k1:w.heap.size+1<w3.heap.size:=by omega
  have k2:w.heap.size+1+1<w3.heap.size:=by omega
  have lb4:b3<w3.heap.size+1:=by omega
  have nb4:b3≠w3.heap.size+1:=by omega
  go_wp2_with fail
  go_region_held3 (fun w'=>w'.cell? ⟨w.heap.size,6,none⟩=some (.slice (some ⟨b3,o3,none⟩) x.hands.length r)∧hp w' b3=hp w b3∧w'.cell? ⟨w.heap.size+1,0,none⟩=some (.int .i64 kk)∧w'.cell? ⟨w.heap.size+1,1,none⟩=some (.int .i64 ee))
    (first|(simp [*,go_sem]))
    (first|(go_at_call 84;refine (sCalled_any (handAt x i) kk ee _).mono ?_;rintro _ w4 ⟨rfl,hb4⟩;have hC4:Below w.heap.size w w4:=bT (by exact zB) hb4;have hK4:Below w3.heap.size w3 w4:=bT (by exact zB) hb4;have hs4:=hb4.size;(try simp at hs4);have x4:=fun o=>hb4.cell (p:=⟨w.heap.size,o,none⟩) (by ((try simp) <;> (try omega)));have xx4:=fun o=>hb4.cell (p:=⟨w.heap.size+1,o,none⟩) (by ((try simp) <;> (try omega)));have y4:=fun o=>hb4.cell (p:=⟨w.heap.size+1+1,o,none⟩) (by ((try simp) <;> (try omega)));have yf4:=fun o=>hb4.frozen (p:=⟨w.heap.size+1+1,o,none⟩) (by ((try simp) <;> (try omega)));have v4:=fun o=>hb4.cell (p:=⟨w3.heap.size,o,none⟩) (by ((try simp) <;> (try omega)));have vf4:=fun o=>hb4.frozen (p:=⟨w3.heap.size,o,none⟩) (by ((try simp) <;> (try omega)));have t4:=fun o=>hb4.cell (p:=⟨w3.heap.size+1,o,none⟩);have tf4:=fun o=>hb4.frozen (p:=⟨w3.heap.size+1,o,none⟩);have tz4:=hpB hb4 (b:=w3.heap.size+1);have zb4:hp w4 b3=hp w b3:=hC4.block b3 hb3;(simp [go_sem,x_w,l_w,k0] at x4);(simp [go_sem,x_wp,l_wp,k1] at xx4);(simp [go_sem,x_wpp,l_wpp,k2] at y4);(simp [go_sem,f_wpp,l_wpp,k2] at yf4);(simp [go_sem] at v4);(simp [go_sem] at vf4);(try simp [go_sem] at t4);(try simp [go_sem] at tf4);(try simp [go_sem] at tz4);have n0:w.heap.size<w4.heap.size:=(by omega);have n1:w.heap.size+1<w4.heap.size:=(by omega);have n12:w.heap.size+1+1<w4.heap.size:=(by omega);have n2:w3.heap.size<w4.heap.size:=(by omega);have n3:b3<w4.heap.size:=(by omega);have n4:b3≠w4.heap.size:=(by omega)))
  all_goals go_wp2
  all_goals (have o1:=own_below O1.out hK4;have o2:=own_below O2.out hK4;have o3:=own_below O3.out hK4;have o4:=own_below O4.out hK4;have q1:=O1.out;have q2:=O2.out;have q3:=O3.out;have q4:=O4.out;have p1:=own_lo (lo':=w.heap.size) o1 (by omega);have p2:=own_lo (lo':=w.heap.size) o2 (by omega);have p3:=own_lo (lo':=w.heap.size) o3 (by omega);have p4:=own_lo (lo':=w.heap.size) o4 (by omega))
  all_goals (refine bodyPost_ret (v:=.tuple #[.agg #[.int .i64 x.ch.cap,.int .i64 x.ch.sent,.int .i64 x.ch.got,.int .i64 x.ch.fin,.slice va x.ch.cells.length vc,.slice vb x.ch.words.length vd,.slice vf x.hands.length vg,.slice vh x.deals.length vi,.int .i64 (x.now)],.int .i64 (called (handAt x i) kk ee).2]) (by simp [results,Tryz.results51,go_sem, *]) rfl ⟨⟨_,_,_,_,rfl,?_,?_,?_,?_⟩,by exact zB⟩)
  all_goals first|((repeat first|with_reducible exact p1|with_reducible refine oAl ?_ _|with_reducible refine oDr ?_|((with_reducible first|refine own_store ?_ ?_ _|refine own_box ?_ ?_);rotate_left;focus first|(refine own_ne q1 ?_;(try dsimp only);omega)|(refine own_ne' q1 ?_;(try dsimp only);omega)));done)|skip
  all_goals first|((repeat first|with_reducible exact p2|with_reducible refine oAl ?_ _|with_reducible refine oDr ?_|((with_reducible first|refine own_store ?_ ?_ _|refine own_box ?_ ?_);rotate_left;focus first|(refine own_ne q2 ?_;(try dsimp only);omega)|(refine own_ne' q2 ?_;(try dsimp only);omega)));done)|skip
  all_goals first|((repeat first|with_reducible exact p3|with_reducible refine oAl ?_ _|with_reducible refine oDr ?_|((with_reducible first|refine own_store ?_ ?_ _|refine own_box ?_ ?_);rotate_left;focus first|(refine own_ne q3 ?_;(try dsimp only);omega)|(refine own_ne' q3 ?_;(try dsimp only);omega)));done)|skip
  all_goals first|((repeat first|with_reducible exact p4|with_reducible refine oAl ?_ _|with_reducible refine oDr ?_|((with_reducible first|refine own_store ?_ ?_ _|refine own_box ?_ ?_);rotate_left;focus first|(refine own_ne q4 ?_;(try dsimp only);omega)|(refine own_ne' q4 ?_;(try dsimp only);omega)));done)|skip
set_option maxRecDepth 100000 in
set_option maxHeartbeats 4000000 in
theorem asked_busy (x:Wo) (who kk ee:Int) (a b d e:Option Addr) (p q r s:Nat) (w:World) (h1:Seg w w.heap.size a x.ch.cells.length 3 (cellF x.ch.cells)) (z1:a=none→p=0) (h2:Seg w w.heap.size b x.ch.words.length 1 (intF x.ch.words)) (z2:b=none→q=0) (h3:Seg w w.heap.size d x.hands.length 14 (handF x.hands)) (z3:d=none→x.hands.length=0∧r=0) (h4:Seg w w.heap.size e x.deals.length 7 (dealF x.deals)) (z4:e=none→x.deals.length=0∧s=0) (m1:x.ch.cells.length≤1099511627776) (m2:x.ch.words.length≤1099511627776) (m3:x.hands.length≤1099511627776) (m4:x.deals.length≤1099511627776) (hk:worldOk x=true) (ht:taskOk x who=true) (hc:((called (handAt x who) kk ee).2 != 0)=false) (hn:(x.now == 20000)=true) :
    Calls Tryz.prog 51 #[.agg #[.int .i64 x.ch.cap,.int .i64 x.ch.sent,.int .i64 x.ch.got,.int .i64 x.ch.fin,.slice a x.ch.cells.length p,.slice b x.ch.words.length q,.slice d x.hands.length r,.slice e x.deals.length s,.int .i64 x.now],.int .i64 who,.agg #[.int .i64 kk,.int .i64 ee]] w fun r w'=>WordR w w' (asked x who kk ee).1 (.int .i64 (asked x who kk ee).2) r:=by
  have H1:=Lib.hid h1
  have H2:=Lib.hid h2
  have H3:=Lib.hid h3
  have H4:=Lib.hid h4
  have Z1:=Lib.hid z1
  have Z2:=Lib.hid z2
  have Z3:=Lib.hid z3
  have Z4:=Lib.hid z4
  clear h1 h2 h3 h4 z1 z2 z3 z4
  obtain ⟨i,rfl⟩:∃ i:Nat,who=(i:Int):=⟨who.toNat,by simp [taskOk,taskB,inB] at ht;omega⟩
  have hi:i<x.hands.length:=by simp [taskOk,taskB,inB] at ht;omega
  obtain ⟨b3,o3,rfl,hb3,hc3⟩:∃ b o,d=some ⟨b,o,none⟩∧b<w.heap.size∧Hid (∀ i j,i<x.hands.length→j<14→w.cell? ⟨b,o+i*14+j,none⟩=some (handF x.hands i j)):=by
    rcases H3.out with h0|h0
    · omega
    · exact h0
  have hLd:∀ W:World,hp W b3=hp w b3→(LHand (.pointer (some ⟨b3,o3+i*14,none⟩))).run Tryz.prog W=.ok (.agg (hvals (handAt x i))) W:=fun W e=>ldHandE _ fun j hj=>by rw [show (hvals (handAt x i)).getD j (.int .i64 0)=handF x.hands i j by simp [handF,handAt],← hc3.out i j hi hj];exact World.cell?_of_block e
  have hi0:(0:Int)≤(i:Int):=by omega
  have hi1:(i:Int)<(x.hands.length:Int):=by omega
  have e0:asked x i kk ee=(x,1):=by simp at hc hn;simp [asked,hk,ht,hc,hn]
  rw [e0]
  have ht2:taskB x.hands.length i=true:=ht
  clear e0 ht
  go_enter Tryz.func51,Tryz.ntmps51
  go_wp2_with fail;refine bHit w (by exact zB) fun bb=>?_;refine (sWorldOk_any x a b _ e p q r s _ ((H1.out.below bb).more bb.size) ((H2.out.below bb).more bb.size) ((H3.out.below bb).more bb.size) ((H4.out.below bb).more bb.size) m3 m4).mono ?_;rintro _ w1 ⟨rfl,hbw1⟩;have hCw1:Below w.heap.size w w1:=bT bb hbw1;have hsw1:=hbw1.size;(try simp at hsw1);have zz:=And.intro (fun o=>hbw1.cell (p:=⟨w.heap.size+1+1,o,none⟩) (by (try simp) <;> omega)) <| And.intro (fun o=>hbw1.frozen (p:=⟨w.heap.size+1+1,o,none⟩) (by (try simp) <;> omega)) <| And.intro (fun o=>hbw1.cell (p:=⟨w.heap.size+1,o,none⟩) (by (try simp) <;> omega)) <| And.intro (fun o=>hbw1.frozen (p:=⟨w.heap.size+1,o,none⟩) (by (try simp) <;> omega)) <| And.intro (fun o=>hbw1.cell (p:=⟨w.heap.size,o,none⟩) (by (try simp) <;> omega)) <| fun o=>hbw1.frozen (p:=⟨w.heap.size,o,none⟩) (by (try simp) <;> omega);(try simp [go_sem] at zz);(try clear x_wpp f_wpp);(try clear x_wp f_wp);(try clear x_w f_w);obtain ⟨x_wpp,f_wpp,x_wp,f_wp,x_w,f_w⟩:=zz;(try clear l_wpp);have l_wpp:w.heap.size+1+1<w1.heap.size:=(by omega);(try clear l_wp);have l_wp:w.heap.size+1<w1.heap.size:=(by omega);(try clear l_w);have l_w:w.heap.size<w1.heap.size:=(by omega);clear hbw1 bb
  rw [hk]
  go_wp2_with fail;refine bHit w (by exact zB) fun bb=>?_;refine (l11Task_any x.ch x.hands.length x.now i _ _ _ _ _ _ _ _ _ _ _ m3 _).mono ?_;rintro _ w2 ⟨rfl,hbw2⟩;have hCw2:Below w.heap.size w w2:=bT bb hbw2;have hsw2:=hbw2.size;(try simp at hsw2);have zz:=And.intro (fun o=>hbw2.cell (p:=⟨w.heap.size+1+1,o,none⟩) (by (try simp) <;> omega)) <| And.intro (fun o=>hbw2.frozen (p:=⟨w.heap.size+1+1,o,none⟩) (by (try simp) <;> omega)) <| And.intro (fun o=>hbw2.cell (p:=⟨w.heap.size+1,o,none⟩) (by (try simp) <;> omega)) <| And.intro (fun o=>hbw2.frozen (p:=⟨w.heap.size+1,o,none⟩) (by (try simp) <;> omega)) <| And.intro (fun o=>hbw2.cell (p:=⟨w.heap.size,o,none⟩) (by (try simp) <;> omega)) <| fun o=>hbw2.frozen (p:=⟨w.heap.size,o,none⟩) (by (try simp) <;> omega);(first|simp [go_sem,x_wpp,f_wpp,x_wp,f_wp,x_w,f_w,l_w,l_wp,l_wpp] at zz|simp [go_sem,x_wpp,x_wp,x_w,l_w,l_wp,l_wpp] at zz|simp [go_sem] at zz|skip);(try clear x_wpp f_wpp);(try clear x_wp f_wp);(try clear x_w f_w);obtain ⟨x_wpp,f_wpp,x_wp,f_wp,x_w,f_w⟩:=zz;(try clear l_wpp);have l_wpp:w.heap.size+1+1<w2.heap.size:=(by omega);(try clear l_wp);have l_wp:w.heap.size+1<w2.heap.size:=(by omega);(try clear l_w);have l_w:w.heap.size<w2.heap.size:=(by omega);clear hbw2 bb
  rw [ht2]
  go_wp2_with fail;refine bHit w (by exact zB) fun bb=>?_;refine (l11Copy_any x a b _ e p q r s _ ((H1.out.below bb).more bb.size) Z1.out ((H2.out.below bb).more bb.size) Z2.out ((H3.out.below bb).more bb.size) Z3.out ((H4.out.below bb).more bb.size) Z4.out m1 m2 m3 m4).mono ?_;rintro _ w3 ⟨⟨v1,v2,v3,v4,rfl,o1,o2,o3x,o4⟩,hbw3⟩;have hCw3:Below w.heap.size w w3:=bT bb hbw3;have hsw3:=hbw3.size;(try simp at hsw3);have zz:=And.intro (fun o=>hbw3.cell (p:=⟨w.heap.size+1+1,o,none⟩) (by (try simp) <;> omega)) <| And.intro (fun o=>hbw3.frozen (p:=⟨w.heap.size+1+1,o,none⟩) (by (try simp) <;> omega)) <| And.intro (fun o=>hbw3.cell (p:=⟨w.heap.size+1,o,none⟩) (by (try simp) <;> omega)) <| And.intro (fun o=>hbw3.frozen (p:=⟨w.heap.size+1,o,none⟩) (by (try simp) <;> omega)) <| And.intro (fun o=>hbw3.cell (p:=⟨w.heap.size,o,none⟩) (by (try simp) <;> omega)) <| fun o=>hbw3.frozen (p:=⟨w.heap.size,o,none⟩) (by (try simp) <;> omega);(first|simp [go_sem,x_wpp,f_wpp,x_wp,f_wp,x_w,f_w,l_w,l_wp,l_wpp] at zz|simp [go_sem,x_wpp,x_wp,x_w,l_w,l_wp,l_wpp] at zz|simp [go_sem] at zz|skip);(try clear x_wpp f_wpp);(try clear x_wp f_wp);(try clear x_w f_w);obtain ⟨x_wpp,f_wpp,x_wp,f_wp,x_w,f_w⟩:=zz;(try clear l_wpp);have l_wpp:w.heap.size+1+1<w3.heap.size:=(by omega);(try clear l_wp);have l_wp:w.heap.size+1<w3.heap.size:=(by omega);(try clear l_w);have l_w:w.heap.size<w3.heap.size:=(by omega);clear hbw3 bb
  try simp at o1 o2 o3x o4
  have O1:=Lib.hid o1
  have O2:=Lib.hid o2
  have O3:=Lib.hid o3x
  have O4:=Lib.hid o4
  obtain ⟨va,vc,rfl,_⟩:=OCells.seg o1
  obtain ⟨vb,vd,rfl,_⟩:=OInts.seg o2
  obtain ⟨vf,vg,rfl,_⟩:=OHands.seg o3x
  obtain ⟨vh,vi,rfl,_⟩:=ODeals.seg o4
  clear o1 o2 o3x o4
  have z3:hp w3 b3=hp w b3:=hCw3.block b3 hb3
  have lb3:b3<w3.heap.size:=by omega
  have nb3:b3≠w3.heap.size:=by omega
  have k0:w.heap.size<w3.heap.size:=by omega
  have k1:w.heap.size+1<w3.heap.size:=by omega
  have k2:w.heap.size+1+1<w3.heap.size:=by omega
  have lb4:b3<w3.heap.size+1:=by omega
  have nb4:b3≠w3.heap.size+1:=by omega
  go_wp2_with fail
  go_region_held3 (fun w'=>w'.cell? ⟨w.heap.size,6,none⟩=some (.slice (some ⟨b3,o3,none⟩) x.hands.length r)∧hp w' b3=hp w b3∧w'.cell? ⟨w.heap.size+1,0,none⟩=some (.int .i64 kk)∧w'.cell? ⟨w.heap.size+1,1,none⟩=some (.int .i64 ee))
    (first|(simp [*,go_sem]))
    (first|(go_at_call 84;refine (sCalled_any (handAt x i) kk ee _).mono ?_;rintro _ w4 ⟨rfl,hb4⟩;have hC4:Below w.heap.size w w4:=bT (by exact zB) hb4;have hK4:Below w3.heap.size w3 w4:=bT (by exact zB) hb4;have hs4:=hb4.size;(try simp at hs4);have x4:=fun o=>hb4.cell (p:=⟨w.heap.size,o,none⟩) (by ((try simp) <;> (try omega)));have xx4:=fun o=>hb4.cell (p:=⟨w.heap.size+1,o,none⟩) (by ((try simp) <;> (try omega)));have y4:=fun o=>hb4.cell (p:=⟨w.heap.size+1+1,o,none⟩) (by ((try simp) <;> (try omega)));have yf4:=fun o=>hb4.frozen (p:=⟨w.heap.size+1+1,o,none⟩) (by ((try simp) <;> (try omega)));have v4:=fun o=>hb4.cell (p:=⟨w3.heap.size,o,none⟩) (by ((try simp) <;> (try omega)));have vf4:=fun o=>hb4.frozen (p:=⟨w3.heap.size,o,none⟩) (by ((try simp) <;> (try omega)));have t4:=fun o=>hb4.cell (p:=⟨w3.heap.size+1,o,none⟩);have tf4:=fun o=>hb4.frozen (p:=⟨w3.heap.size+1,o,none⟩);have tz4:=hpB hb4 (b:=w3.heap.size+1);have zb4:hp w4 b3=hp w b3:=hC4.block b3 hb3;(simp [go_sem,x_w,l_w,k0] at x4);(simp [go_sem,x_wp,l_wp,k1] at xx4);(simp [go_sem,x_wpp,l_wpp,k2] at y4);(simp [go_sem,f_wpp,l_wpp,k2] at yf4);(simp [go_sem] at v4);(simp [go_sem] at vf4);(try simp [go_sem] at t4);(try simp [go_sem] at tf4);(try simp [go_sem] at tz4);have n0:w.heap.size<w4.heap.size:=(by omega);have n1:w.heap.size+1<w4.heap.size:=(by omega);have n12:w.heap.size+1+1<w4.heap.size:=(by omega);have n2:w3.heap.size<w4.heap.size:=(by omega);have n3:b3<w4.heap.size:=(by omega);have n4:b3≠w4.heap.size:=(by omega)))
  all_goals go_wp2
  all_goals (have o1:=own_below O1.out hK4;have o2:=own_below O2.out hK4;have o3:=own_below O3.out hK4;have o4:=own_below O4.out hK4;have q1:=O1.out;have q2:=O2.out;have q3:=O3.out;have q4:=O4.out;have p1:=own_lo (lo':=w.heap.size) o1 (by omega);have p2:=own_lo (lo':=w.heap.size) o2 (by omega);have p3:=own_lo (lo':=w.heap.size) o3 (by omega);have p4:=own_lo (lo':=w.heap.size) o4 (by omega))
  all_goals (refine bodyPost_ret (v:=.tuple #[.agg #[.int .i64 x.ch.cap,.int .i64 x.ch.sent,.int .i64 x.ch.got,.int .i64 x.ch.fin,.slice va x.ch.cells.length vc,.slice vb x.ch.words.length vd,.slice vf x.hands.length vg,.slice vh x.deals.length vi,.int .i64 (x.now)],.int .i64 1]) (by simp [results,Tryz.results51,go_sem, *]) rfl ⟨⟨_,_,_,_,rfl,?_,?_,?_,?_⟩,by exact zB⟩)
  all_goals first|((repeat first|with_reducible exact p1|with_reducible refine oAl ?_ _|with_reducible refine oDr ?_|((with_reducible first|refine own_store ?_ ?_ _|refine own_box ?_ ?_);rotate_left;focus first|(refine own_ne q1 ?_;(try dsimp only);omega)|(refine own_ne' q1 ?_;(try dsimp only);omega)));done)|skip
  all_goals first|((repeat first|with_reducible exact p2|with_reducible refine oAl ?_ _|with_reducible refine oDr ?_|((with_reducible first|refine own_store ?_ ?_ _|refine own_box ?_ ?_);rotate_left;focus first|(refine own_ne q2 ?_;(try dsimp only);omega)|(refine own_ne' q2 ?_;(try dsimp only);omega)));done)|skip
  all_goals first|((repeat first|with_reducible exact p3|with_reducible refine oAl ?_ _|with_reducible refine oDr ?_|((with_reducible first|refine own_store ?_ ?_ _|refine own_box ?_ ?_);rotate_left;focus first|(refine own_ne q3 ?_;(try dsimp only);omega)|(refine own_ne' q3 ?_;(try dsimp only);omega)));done)|skip
  all_goals first|((repeat first|with_reducible exact p4|with_reducible refine oAl ?_ _|with_reducible refine oDr ?_|((with_reducible first|refine own_store ?_ ?_ _|refine own_box ?_ ?_);rotate_left;focus first|(refine own_ne q4 ?_;(try dsimp only);omega)|(refine own_ne' q4 ?_;(try dsimp only);omega)));done)|skip
end Go.Proofs.YtkiingmgpobgnaaGreat
set_option linter.unusedSimpArgs false
set_option linter.unusedVariables false
namespace Go.Proofs.YtkiingmgpobgnaaGreat
open Go.RowKit
set_option linter.unusedSimpArgs false
attribute [local simp] bx_size
attribute [local go_sem ↓] zeroHand toLHand toVHand toSHand storeHandC
attribute [local go_sem] runSHand
section
variable {w:World} {b b' o i:Nat} {x:Ha}
theorem se_cell (hi:b'<w.heap.size) (h:b'≠b):(setElem w b o x).cell? ⟨b',i,none⟩=w.cell? ⟨b',i,none⟩:=grCell (setElem_gr w b o x) hi (by simpa using h) i
theorem se_frozen (hi:b'<w.heap.size) (h:b'≠b):(setElem w b o x).frozen? ⟨b',i,none⟩=w.frozen? ⟨b',i,none⟩:=grFroz (setElem_gr w b o x) hi (by simpa using h) i
theorem own_se {lo n k:Nat} {ty:TypeId} {v:Value} {xs:List Value} (h:w.ownsRow lo ty k v n xs) (hn:v.ownBlock≠some b):(setElem w b o x).ownsRow lo ty k v n xs:=h.kept (setElem_gr w b o x) (.inr hn)
theorem bel_se {lo:Nat} {W:World} (h:Below lo w W) (hl:lo≤W.heap.size) (hb:lo≤b):Below lo w (setElem W b o x):=bOwn h (setElem_gr W b o x) hl (fun k hk=>by simp at hk;omega)
theorem off_some {v v':Value} {g:Nat} (h:v.ownBlock=none∨v.ownBlock≠v'.ownBlock) (e:v'.ownBlock=some g):v.ownBlock≠some g:=by
  rcases h with h|h
  · rw [h];simp
  · rw [← e];exact h
end
attribute [local go_sem] se_cell se_frozen setElem_size
set_option maxRecDepth 100000 in
set_option maxHeartbeats 4000000 in
theorem asked_ok (x:Wo) (who kk ee:Int) (a b d e:Option Addr) (p q r s:Nat) (w:World) (h1:Seg w w.heap.size a x.ch.cells.length 3 (cellF x.ch.cells)) (z1:a=none→p=0) (h2:Seg w w.heap.size b x.ch.words.length 1 (intF x.ch.words)) (z2:b=none→q=0) (h3:Seg w w.heap.size d x.hands.length 14 (handF x.hands)) (z3:d=none→x.hands.length=0∧r=0) (h4:Seg w w.heap.size e x.deals.length 7 (dealF x.deals)) (z4:e=none→x.deals.length=0∧s=0) (m1:x.ch.cells.length≤1099511627776) (m2:x.ch.words.length≤1099511627776) (m3:x.hands.length≤1099511627776) (m4:x.deals.length≤1099511627776) (hk:worldOk x=true) (ht:taskOk x who=true) (hc:((called (handAt x who) kk ee).2 != 0)=false) (hn:(x.now == 20000)=false) (hnr:0≤x.now∧x.now≤20000) :
    Calls Tryz.prog 51 #[.agg #[.int .i64 x.ch.cap,.int .i64 x.ch.sent,.int .i64 x.ch.got,.int .i64 x.ch.fin,.slice a x.ch.cells.length p,.slice b x.ch.words.length q,.slice d x.hands.length r,.slice e x.deals.length s,.int .i64 x.now],.int .i64 who,.agg #[.int .i64 kk,.int .i64 ee]] w fun r w'=>WordR w w' (asked x who kk ee).1 (.int .i64 (asked x who kk ee).2) r:=by
  have H1:=Lib.hid h1
  have H2:=Lib.hid h2
  have H3:=Lib.hid h3
  have H4:=Lib.hid h4
  have Z1:=Lib.hid z1
  have Z2:=Lib.hid z2
  have Z3:=Lib.hid z3
  have Z4:=Lib.hid z4
  clear h1 h2 h3 h4 z1 z2 z3 z4
  obtain ⟨i,rfl⟩:∃ i:Nat,who=(i:Int):=⟨who.toNat,by simp [taskOk,taskB,inB] at ht;omega⟩
  have hi:i<x.hands.length:=by simp [taskOk,taskB,inB] at ht;omega
  obtain ⟨b3,o3,rfl,hb3,hc3⟩:∃ b o,d=some ⟨b,o,none⟩∧b<w.heap.size∧Hid (∀ i j,i<x.hands.length→j<14→w.cell? ⟨b,o+i*14+j,none⟩=some (handF x.hands i j)):=by
    rcases H3.out with h0|h0
    · omega
    · exact h0
  have hLd:∀ W:World,hp W b3=hp w b3→(LHand (.pointer (some ⟨b3,o3+i*14,none⟩))).run Tryz.prog W=.ok (.agg (hvals (handAt x i))) W:=fun W e=>ldHandE _ fun j hj=>by rw [show (hvals (handAt x i)).getD j (.int .i64 0)=handF x.hands i j by simp [handF,handAt],← hc3.out i j hi hj];exact World.cell?_of_block e
  have hi0:(0:Int)≤(i:Int):=by omega
  have hi1:(i:Int)<(x.hands.length:Int):=by omega
  have e0:asked x i kk ee=({ setHand x i { (called (handAt x i) kk ee).1 with beg:=x.now+1 } with now:=x.now+1 },0):=by simp at hc hn;simp [asked,hk,ht,hc,hn]
  rw [e0]
  have ht2:taskB x.hands.length i=true:=ht
  clear e0 ht
  go_enter Tryz.func51,Tryz.ntmps51
  go_wp2_with fail;refine bHit w (by exact zB) fun bb=>?_;refine (sWorldOk_any x a b _ e p q r s _ ((H1.out.below bb).more bb.size) ((H2.out.below bb).more bb.size) ((H3.out.below bb).more bb.size) ((H4.out.below bb).more bb.size) m3 m4).mono ?_;rintro _ w1 ⟨rfl,hbw1⟩;have hCw1:Below w.heap.size w w1:=bT bb hbw1;have hsw1:=hbw1.size;(try simp at hsw1);have zz:=And.intro (fun o=>hbw1.cell (p:=⟨w.heap.size+1+1,o,none⟩) (by (try simp) <;> omega)) <| And.intro (fun o=>hbw1.frozen (p:=⟨w.heap.size+1+1,o,none⟩) (by (try simp) <;> omega)) <| And.intro (fun o=>hbw1.cell (p:=⟨w.heap.size+1,o,none⟩) (by (try simp) <;> omega)) <| And.intro (fun o=>hbw1.frozen (p:=⟨w.heap.size+1,o,none⟩) (by (try simp) <;> omega)) <| And.intro (fun o=>hbw1.cell (p:=⟨w.heap.size,o,none⟩) (by (try simp) <;> omega)) <| fun o=>hbw1.frozen (p:=⟨w.heap.size,o,none⟩) (by (try simp) <;> omega);(try simp [go_sem] at zz);(try clear x_wpp f_wpp);(try clear x_wp f_wp);(try clear x_w f_w);obtain ⟨x_wpp,f_wpp,x_wp,f_wp,x_w,f_w⟩:=zz;(try clear l_wpp);have l_wpp:w.heap.size+1+1<w1.heap.size:=(by omega);(try clear l_wp);have l_wp:w.heap.size+1<w1.heap.size:=(by omega);(try clear l_w);have l_w:w.heap.size<w1.heap.size:=(by omega);clear hbw1 bb
  rw [hk]
  go_wp2_with fail;refine bHit w (by exact zB) fun bb=>?_;refine (l11Task_any x.ch x.hands.length x.now i _ _ _ _ _ _ _ _ _ _ _ m3 _).mono ?_;rintro _ w2 ⟨rfl,hbw2⟩;have hCw2:Below w.heap.size w w2:=bT bb hbw2;have hsw2:=hbw2.size;(try simp at hsw2);have zz:=And.intro (fun o=>hbw2.cell (p:=⟨w.heap.size+1+1,o,none⟩) (by (try simp) <;> omega)) <| And.intro (fun o=>hbw2.frozen (p:=⟨w.heap.size+1+1,o,none⟩) (by (try simp) <;> omega)) <| And.intro (fun o=>hbw2.cell (p:=⟨w.heap.size+1,o,none⟩) (by (try simp) <;> omega)) <| And.intro (fun o=>hbw2.frozen (p:=⟨w.heap.size+1,o,none⟩) (by (try simp) <;> omega)) <| And.intro (fun o=>hbw2.cell (p:=⟨w.heap.size,o,none⟩) (by (try simp) <;> omega)) <| fun o=>hbw2.frozen (p:=⟨w.heap.size,o,none⟩) (by (try simp) <;> omega);(first|simp [go_sem,x_wpp,f_wpp,x_wp,f_wp,x_w,f_w,l_w,l_wp,l_wpp] at zz|simp [go_sem,x_wpp,x_wp,x_w,l_w,l_wp,l_wpp] at zz|simp [go_sem] at zz|skip);(try clear x_wpp f_wpp);(try clear x_wp f_wp);(try clear x_w f_w);obtain ⟨x_wpp,f_wpp,x_wp,f_wp,x_w,f_w⟩:=zz;(try clear l_wpp);have l_wpp:w.heap.size+1+1<w2.heap.size:=(by omega);(try clear l_wp);have l_wp:w.heap.size+1<w2.heap.size:=(by omega);(try clear l_w);have l_w:w.heap.size<w2.heap.size:=(by omega);clear hbw2 bb
  rw [ht2]
  go_wp2_with fail;refine bHit w (by exact zB) fun bb=>?_;refine (l11Copy_any x a b _ e p q r s _ ((H1.out.below bb).more bb.size) Z1.out ((H2.out.below bb).more bb.size) Z2.out ((H3.out.below bb).more bb.size) Z3.out ((H4.out.below bb).more bb.size) Z4.out m1 m2 m3 m4).mono ?_;rintro _ w3 ⟨⟨v1,v2,v3,v4,rfl,o1,o2,o3x,o4⟩,hbw3⟩;have hCw3:Below w.heap.size w w3:=bT bb hbw3;have hsw3:=hbw3.size;(try simp at hsw3);have zz:=And.intro (fun o=>hbw3.cell (p:=⟨w.heap.size+1+1,o,none⟩) (by (try simp) <;> omega)) <| And.intro (fun o=>hbw3.frozen (p:=⟨w.heap.size+1+1,o,none⟩) (by (try simp) <;> omega)) <| And.intro (fun o=>hbw3.cell (p:=⟨w.heap.size+1,o,none⟩) (by (try simp) <;> omega)) <| And.intro (fun o=>hbw3.frozen (p:=⟨w.heap.size+1,o,none⟩) (by (try simp) <;> omega)) <| And.intro (fun o=>hbw3.cell (p:=⟨w.heap.size,o,none⟩) (by (try simp) <;> omega)) <| fun o=>hbw3.frozen (p:=⟨w.heap.size,o,none⟩) (by (try simp) <;> omega);(first|simp [go_sem,x_wpp,f_wpp,x_wp,f_wp,x_w,f_w,l_w,l_wp,l_wpp] at zz|simp [go_sem,x_wpp,x_wp,x_w,l_w,l_wp,l_wpp] at zz|simp [go_sem] at zz|skip);(try clear x_wpp f_wpp);(try clear x_wp f_wp);(try clear x_w f_w);obtain ⟨x_wpp,f_wpp,x_wp,f_wp,x_w,f_w⟩:=zz;(try clear l_wpp);have l_wpp:w.heap.size+1+1<w3.heap.size:=(by omega);(try clear l_wp);have l_wp:w.heap.size+1<w3.heap.size:=(by omega);(try clear l_w);have l_w:w.heap.size<w3.heap.size:=(by omega);clear hbw3 bb
  try simp at o1 o2 o3x o4
  have O1:=Lib.hid o1
  have O2:=Lib.hid o2
  have O3:=Lib.hid o3x
  have O4:=Lib.hid o4
  obtain ⟨va,vc,rfl,_⟩:=OCells.seg o1
  obtain ⟨vb,vd,rfl,_⟩:=OInts.seg o2
  obtain ⟨g,vg,rfl,hlo,lg,hgc,hgf⟩:=OHands.open1 o3x hi
  obtain ⟨vh,vi,rfl,_⟩:=ODeals.seg o4
  clear o1 o2 o3x o4
  have z3:hp w3 b3=hp w b3:=hCw3.block b3 hb3
  have lb3:b3<w3.heap.size:=by omega
  have nb3:b3≠w3.heap.size:=by omega
  have ng0:g≠w.heap.size:=by omega
  have ng1:g≠w.heap.size+1:=by omega
  have ng2:g≠w.heap.size+1+1:=by omega
  have ng3:g≠w3.heap.size:=by omega
  have gt0:w.heap.size<g:=by omega
  have gt1:w.heap.size+1<g:=by omega
  have gt2:w.heap.size+1+1<g:=by omega
  have hh2:(called (handAt x i) kk ee).2=0:=by simpa using hc
  have zk:((called (handAt x i) kk ee).2 != 0)=false:=hc
  have hSt:∀ (W:World) (y:Ha),hp W g=hp w3 g→(SHand (.pointer (some ⟨g,i*14,none⟩)) (.agg (hvals y))).run Tryz.prog W=.ok () (setElem W g (i*14) y):=fun W y e=>stHandE y (fun j hj=>⟨_,(World.cell?_of_block (show W.heap[g]?=w3.heap[g]? from e)).trans (hgc j hj)⟩) (fun j=>(World.frozen?_of_block (show W.heap[g]?=w3.heap[g]? from e)).trans (hgf j))
  have lg1:g<w3.heap.size+1:=by omega
  have mg0:w.heap.size≠g:=by omega
  have mg1:w.heap.size+1≠g:=by omega
  have mg2:w.heap.size+1+1≠g:=by omega
  have mg3:w3.heap.size≠g:=by omega
  have k0:w.heap.size<w3.heap.size:=by omega
  have k1:w.heap.size+1<w3.heap.size:=by omega
  have k2:w.heap.size+1+1<w3.heap.size:=by omega
  have lb4:b3<w3.heap.size+1:=by omega
  have nb4:b3≠w3.heap.size+1:=by omega
  go_wp2_with fail
  go_region_held3 (fun w'=>w'.cell? ⟨w.heap.size,6,none⟩=some (.slice (some ⟨b3,o3,none⟩) x.hands.length r)∧hp w' b3=hp w b3∧w'.cell? ⟨w.heap.size+1,0,none⟩=some (.int .i64 kk)∧w'.cell? ⟨w.heap.size+1,1,none⟩=some (.int .i64 ee))
    (first|(simp [*,go_sem]))
    (first|(go_at_call 84;refine (sCalled_any (handAt x i) kk ee _).mono ?_;rintro _ w4 ⟨rfl,hb4⟩;have hC4:Below w.heap.size w w4:=bT (by exact zB) hb4;have hK4:Below w3.heap.size w3 w4:=bT (by exact zB) hb4;have hs4:=hb4.size;(try simp at hs4);have x4:=fun o=>hb4.cell (p:=⟨w.heap.size,o,none⟩) (by ((try simp) <;> (try omega)));have xx4:=fun o=>hb4.cell (p:=⟨w.heap.size+1,o,none⟩) (by ((try simp) <;> (try omega)));have y4:=fun o=>hb4.cell (p:=⟨w.heap.size+1+1,o,none⟩) (by ((try simp) <;> (try omega)));have yf4:=fun o=>hb4.frozen (p:=⟨w.heap.size+1+1,o,none⟩) (by ((try simp) <;> (try omega)));have v4:=fun o=>hb4.cell (p:=⟨w3.heap.size,o,none⟩) (by ((try simp) <;> (try omega)));have vf4:=fun o=>hb4.frozen (p:=⟨w3.heap.size,o,none⟩) (by ((try simp) <;> (try omega)));have t4:=fun o=>hb4.cell (p:=⟨w3.heap.size+1,o,none⟩);have tf4:=fun o=>hb4.frozen (p:=⟨w3.heap.size+1,o,none⟩);have tz4:=hpB hb4 (b:=w3.heap.size+1);have zg4:hp w4 g=hp w3 g:=hK4.block g lg;have lg4:g<w4.heap.size:=(by omega);have ng4:g≠w4.heap.size:=(by omega);have zb4:hp w4 b3=hp w b3:=hC4.block b3 hb3;(simp [go_sem,x_w,l_w,k0] at x4);(simp [go_sem,x_wp,l_wp,k1] at xx4);(simp [go_sem,x_wpp,l_wpp,k2] at y4);(simp [go_sem,f_wpp,l_wpp,k2] at yf4);(simp [go_sem] at v4);(simp [go_sem] at vf4);(try simp [go_sem] at t4);(try simp [go_sem] at tf4);(try simp [go_sem] at tz4);have n0:w.heap.size<w4.heap.size:=(by omega);have n1:w.heap.size+1<w4.heap.size:=(by omega);have n12:w.heap.size+1+1<w4.heap.size:=(by omega);have n2:w3.heap.size<w4.heap.size:=(by omega);have n3:b3<w4.heap.size:=(by omega);have n4:b3≠w4.heap.size:=(by omega)))
  all_goals go_wp2
  all_goals (have o1:=own_below O1.out hK4;have o2:=own_below O2.out hK4;have o3:=own_below O3.out hK4;have o4:=own_below O4.out hK4;have q1:=O1.out;have q2:=O2.out;have q3:=O3.out;have q4:=O4.out;have p1:=own_lo (lo':=w.heap.size) o1 (by omega);have p2:=own_lo (lo':=w.heap.size) o2 (by omega);have p3:=own_lo (lo':=w.heap.size) o3 (by omega);have p4:=own_lo (lo':=w.heap.size) o4 (by omega);have e1:=off_some (g:=g) (own_off_ty q1 q3 (by decide)) rfl;have e2:=off_some (g:=g) (own_off_ty q2 q3 (by decide)) rfl;have e4:=off_some (g:=g) (own_off_ty q4 q3 (by decide)) rfl)
  all_goals (refine bodyPost_ret (v:=.tuple #[.agg #[.int .i64 x.ch.cap,.int .i64 x.ch.sent,.int .i64 x.ch.got,.int .i64 x.ch.fin,.slice va x.ch.cells.length vc,.slice vb x.ch.words.length vd,.slice (some ⟨g,0,none⟩) x.hands.length vg,.slice vh x.deals.length vi,.int .i64 (x.now+1)],.int .i64 0]) (by simp [results,Tryz.results51,go_sem, *]) rfl ⟨⟨_,_,_,_,rfl,?_,?_,?_,?_⟩,by (repeat (first|with_reducible assumption|with_reducible refine bA ?_|with_reducible refine bD ?_|((with_reducible refine bS ?_ ?_);rotate_left;(focus ((try simp);(try omega))))|((with_reducible refine bBx ?_ ?_);rotate_left;(focus ((try simp);(try omega))))|((with_reducible refine bel_se ?_ ?_ ?_);rotate_left;(focus ((try simp);(try omega)));(focus ((try simp);(try omega))))))⟩)
  all_goals first|(show OCells _ _ _ x.ch.cells;(repeat (first|with_reducible exact p1|with_reducible refine World.ownsRow.alloc ?_ _|with_reducible refine World.ownsRow.drew ?_|with_reducible refine own_se ?_ e1|((with_reducible refine own_store ?_ ?_ _);rotate_left;(focus (first|(refine own_ne q1 ?_;(try dsimp only);omega)|(refine own_ne' q1 ?_;(try dsimp only);omega))))|((with_reducible refine own_box ?_ ?_);rotate_left;(focus (first|(refine own_ne q1 ?_;(try dsimp only);omega)|(refine own_ne' q1 ?_;(try dsimp only);omega))))));done)|skip
  all_goals first|(show OInts _ _ _ x.ch.words;(repeat (first|with_reducible exact p2|with_reducible refine World.ownsRow.alloc ?_ _|with_reducible refine World.ownsRow.drew ?_|with_reducible refine own_se ?_ e2|((with_reducible refine own_store ?_ ?_ _);rotate_left;(focus (first|(refine own_ne q2 ?_;(try dsimp only);omega)|(refine own_ne' q2 ?_;(try dsimp only);omega))))|((with_reducible refine own_box ?_ ?_);rotate_left;(focus (first|(refine own_ne q2 ?_;(try dsimp only);omega)|(refine own_ne' q2 ?_;(try dsimp only);omega))))));done)|skip
  all_goals first|(show OHands _ _ _ (x.hands.set i _);(repeat (first|with_reducible exact p3|with_reducible refine World.ownsRow.alloc ?_ _|with_reducible refine World.ownsRow.drew ?_|with_reducible refine OHands.set ?_ hi _|((with_reducible refine own_store ?_ ?_ _);rotate_left;(focus (first|(refine own_ne q3 ?_;(try dsimp only);omega)|(refine own_ne' q3 ?_;(try dsimp only);omega))))|((with_reducible refine own_box ?_ ?_);rotate_left;(focus (first|(refine own_ne q3 ?_;(try dsimp only);omega)|(refine own_ne' q3 ?_;(try dsimp only);omega))))));done)|skip
  all_goals first|(show ODeals _ _ _ x.deals;(repeat (first|with_reducible exact p4|with_reducible refine World.ownsRow.alloc ?_ _|with_reducible refine World.ownsRow.drew ?_|with_reducible refine own_se ?_ e4|((with_reducible refine own_store ?_ ?_ _);rotate_left;(focus (first|(refine own_ne q4 ?_;(try dsimp only);omega)|(refine own_ne' q4 ?_;(try dsimp only);omega))))|((with_reducible refine own_box ?_ ?_);rotate_left;(focus (first|(refine own_ne q4 ?_;(try dsimp only);omega)|(refine own_ne' q4 ?_;(try dsimp only);omega))))));done)|skip
end Go.Proofs.YtkiingmgpobgnaaGreat
set_option linter.unusedSimpArgs false
set_option linter.unusedVariables false
namespace Go.Proofs.YtkiingmgpobgnaaGreat
open Go.RowKit
set_option linter.unusedSimpArgs false

theorem world_now {x:Wo} (h:worldOk x=true):0≤x.now∧x.now≤20000:=by
  simp [worldOk,worldHead,inB] at h
  omega
theorem sStopped_any (x:Wo) (who:Int) (a b d e:Option Addr) (p q r s:Nat) (w:World) (h1:Seg w w.heap.size a x.ch.cells.length 3 (cellF x.ch.cells)) (z1:a=none→p=0) (h2:Seg w w.heap.size b x.ch.words.length 1 (intF x.ch.words)) (z2:b=none→q=0) (h3:Seg w w.heap.size d x.hands.length 14 (handF x.hands)) (z3:d=none→x.hands.length=0∧r=0) (h4:Seg w w.heap.size e x.deals.length 7 (dealF x.deals)) (z4:e=none→x.deals.length=0∧s=0) (m1:x.ch.cells.length≤1099511627776) (m2:x.ch.words.length≤1099511627776) (m3:x.hands.length≤1099511627776) (m4:x.deals.length≤1099511627776) :
    Calls Tryz.prog 55 #[.agg #[.int .i64 x.ch.cap,.int .i64 x.ch.sent,.int .i64 x.ch.got,.int .i64 x.ch.fin,.slice a x.ch.cells.length p,.slice b x.ch.words.length q,.slice d x.hands.length r,.slice e x.deals.length s,.int .i64 x.now],.int .i64 who] w fun r w'=>WordR w w' (stopped x who).1 (.bool (stopped x who).2) r:=by
  cases hk:worldOk x with
  | false=>exact stopped_no1 x who a b d e p q r s w h1 z1 h2 z2 h3 z3 h4 z4 m1 m2 m3 m4 hk
  | true =>
    cases ht:taskOk x who with
    | false=>exact stopped_no2 x who a b d e p q r s w h1 z1 h2 z2 h3 z3 h4 z4 m1 m2 m3 m4 hk ht
    | true =>
      cases hp:(handAt x who).pos != 23 with
      | true=>exact stopped_off x who a b d e p q r s w h1 z1 h2 z2 h3 z3 h4 z4 m1 m2 m3 m4 hk ht hp
      | false=>exact stopped_on x who a b d e p q r s w h1 z1 h2 z2 h3 z3 h4 z4 m1 m2 m3 m4 hk ht hp
theorem sAsked_any (x:Wo) (who kk ee:Int) (a b d e:Option Addr) (p q r s:Nat) (w:World) (h1:Seg w w.heap.size a x.ch.cells.length 3 (cellF x.ch.cells)) (z1:a=none→p=0) (h2:Seg w w.heap.size b x.ch.words.length 1 (intF x.ch.words)) (z2:b=none→q=0) (h3:Seg w w.heap.size d x.hands.length 14 (handF x.hands)) (z3:d=none→x.hands.length=0∧r=0) (h4:Seg w w.heap.size e x.deals.length 7 (dealF x.deals)) (z4:e=none→x.deals.length=0∧s=0) (m1:x.ch.cells.length≤1099511627776) (m2:x.ch.words.length≤1099511627776) (m3:x.hands.length≤1099511627776) (m4:x.deals.length≤1099511627776) :
    Calls Tryz.prog 51 #[.agg #[.int .i64 x.ch.cap,.int .i64 x.ch.sent,.int .i64 x.ch.got,.int .i64 x.ch.fin,.slice a x.ch.cells.length p,.slice b x.ch.words.length q,.slice d x.hands.length r,.slice e x.deals.length s,.int .i64 x.now],.int .i64 who,.agg #[.int .i64 kk,.int .i64 ee]] w fun r w'=>WordR w w' (asked x who kk ee).1 (.int .i64 (asked x who kk ee).2) r:=by
  cases hk:worldOk x with
  | false=>exact asked_no1 x who kk ee a b d e p q r s w h1 z1 h2 z2 h3 z3 h4 z4 m1 m2 m3 m4 hk
  | true =>
    cases ht:taskOk x who with
    | false=>exact asked_no2 x who kk ee a b d e p q r s w h1 z1 h2 z2 h3 z3 h4 z4 m1 m2 m3 m4 hk ht
    | true =>
      cases hc:(called (handAt x who) kk ee).2 != 0 with
      | true=>exact asked_code x who kk ee a b d e p q r s w h1 z1 h2 z2 h3 z3 h4 z4 m1 m2 m3 m4 hk ht hc
      | false =>
        cases hn:x.now == 20000 with
        | true=>exact asked_busy x who kk ee a b d e p q r s w h1 z1 h2 z2 h3 z3 h4 z4 m1 m2 m3 m4 hk ht hc hn
        | false=>exact asked_ok x who kk ee a b d e p q r s w h1 z1 h2 z2 h3 z3 h4 z4 m1 m2 m3 m4 hk ht hc hn (world_now hk)
end Go.Proofs.YtkiingmgpobgnaaGreat
set_option linter.unusedSimpArgs false
set_option linter.unusedVariables false
namespace Go.Proofs.YtkiingmgpobgnaaGreat
open Go.RowKit
set_option linter.unusedSimpArgs false
attribute [local simp] bx_size
attribute [local go_sem ↓] zeroHand zeroChan toLHand toLChan toVHand toVChan storeHand storeChan storeHandC storeChanC
set_option maxRecDepth 100000 in
set_option maxHeartbeats 1000000 in
theorem l6Done_any (c:Ch) (h:Ha) (v1 v2:Value) (lo:Nat) (w:World) (h1:OCells w lo v1 c.cells) (h2:OInts w lo v2 c.words) :
    Calls Tryz.prog 26 #[.agg (cvals c v1 v2),.agg (hvals h)] w fun r w'=>StepR w w' lo v1 v2 (done c h) r∧Below w.heap.size w w':=by
  have O1:=Lib.hid h1
  have O2:=Lib.hid h2
  obtain ⟨a,p,rfl,g1⟩:=h1.seg
  obtain ⟨b,q,rfl,g2⟩:=h2.seg
  have H1:=Lib.hid g1
  have H2:=Lib.hid g2
  clear h1 h2 g1 g2
  by_cases hc:chanOk c=true
  · by_cases hh:handOk h=true
    · rw [done_yes hc hh]
      go_enter Tryz.func26,Tryz.ntmps26
      go_wp2_with (first|(go_at_call 58;refine bHit w (by exact zB) fun bb=>?_;refine (wChanOk_any c a b p q _ ((H1.out.below bb).more bb.size) ((H2.out.below bb).more bb.size)).mono ?_;rintro _ w1 ⟨rfl,hbw1⟩;have hCw1:Below w.heap.size w w1:=bT bb hbw1;have hsw1:=hbw1.size;(try simp at hsw1);have zz:=q4 hbw1 (b:=w.heap.size);(try simp [go_sem] at zz);(try clear z_wppp x_wppp f_wppp l_wppp);(try clear z_wpp x_wpp f_wpp l_wpp);(try clear z_wp x_wp f_wp l_wp);(try clear z_w x_w f_w l_w);obtain ⟨z_wppp,z_wpp,z_wp,z_w⟩:=zz;obtain ⟨x_wppp,f_wppp,l_wppp⟩:=bO z_wppp;obtain ⟨x_wpp,f_wpp,l_wpp⟩:=bO z_wpp;obtain ⟨x_wp,f_wp,l_wp⟩:=bO z_wp;obtain ⟨x_w,f_w,l_w⟩:=bO z_w;have hKw1:Below w.heap.size w w1:=hCw1;clear hbw1 bb)|(go_at_call 59;refine bHit w (by exact zB) fun bb=>?_;refine (sHandOk_any _ _).mono ?_;rintro _ w2 ⟨rfl,hbw2⟩;have hCw2:Below w.heap.size w w2:=bT bb hbw2;have hsw2:=hbw2.size;(try simp at hsw2);have zz:=q4 hbw2 (b:=w.heap.size);(first|simp [go_sem,z_wppp,z_wpp,z_wp,z_w,l_w,l_wp,l_wpp,l_wppp] at zz|simp [go_sem] at zz|skip);(try clear z_wppp x_wppp f_wppp l_wppp);(try clear z_wpp x_wpp f_wpp l_wpp);(try clear z_wp x_wp f_wp l_wp);(try clear z_w x_w f_w l_w);obtain ⟨z_wppp,z_wpp,z_wp,z_w⟩:=zz;obtain ⟨x_wppp,f_wppp,l_wppp⟩:=bO z_wppp;obtain ⟨x_wpp,f_wpp,l_wpp⟩:=bO z_wpp;obtain ⟨x_wp,f_wp,l_wp⟩:=bO z_wp;obtain ⟨x_w,f_w,l_w⟩:=bO z_w;have hKw2:Below w.heap.size w w2:=hCw2;clear hbw2 bb))
      have p1:=own_below O1.out hCw2
      have p2:=own_below O2.out hCw2
      have o1:=O1.out
      have o2:=O2.out
      go_region
      go_wp2
      refine bodyPost_ret (res_cct Tryz.results26 rfl (ldChan c (.slice a c.cells.length p) (.slice b c.words.length q) (by simp [go_sem, *])) rfl (ldHand h (by simp [go_sem, *]))) rfl ⟨⟨_,_,rfl,?_,?_,fresh_refl _ _,fresh_refl _ _⟩,by exact zB⟩
      · exact zO p1 o1
      · exact zO p2 o2
    · have hh2:handOk h=false:=by simpa using hh
      rw [done_no2 hh2]
      clear hh
      go_enter Tryz.func26,Tryz.ntmps26
      go_wp2_with (first|(go_at_call 58;refine bHit w (by exact zB) fun bb=>?_;refine (wChanOk_any c a b p q _ ((H1.out.below bb).more bb.size) ((H2.out.below bb).more bb.size)).mono ?_;rintro _ w1 ⟨rfl,hbw1⟩;have hCw1:Below w.heap.size w w1:=bT bb hbw1;have hsw1:=hbw1.size;(try simp at hsw1);have zz:=q4 hbw1 (b:=w.heap.size);(try simp [go_sem] at zz);(try clear z_wppp x_wppp f_wppp l_wppp);(try clear z_wpp x_wpp f_wpp l_wpp);(try clear z_wp x_wp f_wp l_wp);(try clear z_w x_w f_w l_w);obtain ⟨z_wppp,z_wpp,z_wp,z_w⟩:=zz;obtain ⟨x_wppp,f_wppp,l_wppp⟩:=bO z_wppp;obtain ⟨x_wpp,f_wpp,l_wpp⟩:=bO z_wpp;obtain ⟨x_wp,f_wp,l_wp⟩:=bO z_wp;obtain ⟨x_w,f_w,l_w⟩:=bO z_w;have hKw1:Below w.heap.size w w1:=hCw1;clear hbw1 bb)|(go_at_call 59;refine bHit w (by exact zB) fun bb=>?_;refine (sHandOk_any _ _).mono ?_;rintro _ w2 ⟨rfl,hbw2⟩;have hCw2:Below w.heap.size w w2:=bT bb hbw2;have hsw2:=hbw2.size;(try simp at hsw2);have zz:=q4 hbw2 (b:=w.heap.size);(first|simp [go_sem,z_wppp,z_wpp,z_wp,z_w,l_w,l_wp,l_wpp,l_wppp] at zz|simp [go_sem] at zz|skip);(try clear z_wppp x_wppp f_wppp l_wppp);(try clear z_wpp x_wpp f_wpp l_wpp);(try clear z_wp x_wp f_wp l_wp);(try clear z_w x_w f_w l_w);obtain ⟨z_wppp,z_wpp,z_wp,z_w⟩:=zz;obtain ⟨x_wppp,f_wppp,l_wppp⟩:=bO z_wppp;obtain ⟨x_wpp,f_wpp,l_wpp⟩:=bO z_wpp;obtain ⟨x_wp,f_wp,l_wp⟩:=bO z_wp;obtain ⟨x_w,f_w,l_w⟩:=bO z_w;have hKw2:Below w.heap.size w w2:=hCw2;clear hbw2 bb))
      refine bodyPost_ret (res_cct Tryz.results26 rfl (ldChan Ch.zero (.slice none 0 0) (.slice none 0 0) (by simp [go_sem, *])) rfl (ldHand Ha.zero (by simp [go_sem, *]))) rfl ⟨stepR_none _ _ _ _ _,by exact zB⟩
  · have hc2:chanOk c=false:=by simpa using hc
    rw [done_no1 hc2]
    clear hc
    go_enter Tryz.func26,Tryz.ntmps26
    go_wp2_with (first|(go_at_call 58;refine bHit w (by exact zB) fun bb=>?_;refine (wChanOk_any c a b p q _ ((H1.out.below bb).more bb.size) ((H2.out.below bb).more bb.size)).mono ?_;rintro _ w1 ⟨rfl,hbw1⟩;have hCw1:Below w.heap.size w w1:=bT bb hbw1;have hsw1:=hbw1.size;(try simp at hsw1);have zz:=q4 hbw1 (b:=w.heap.size);(try simp [go_sem] at zz);(try clear z_wppp x_wppp f_wppp l_wppp);(try clear z_wpp x_wpp f_wpp l_wpp);(try clear z_wp x_wp f_wp l_wp);(try clear z_w x_w f_w l_w);obtain ⟨z_wppp,z_wpp,z_wp,z_w⟩:=zz;obtain ⟨x_wppp,f_wppp,l_wppp⟩:=bO z_wppp;obtain ⟨x_wpp,f_wpp,l_wpp⟩:=bO z_wpp;obtain ⟨x_wp,f_wp,l_wp⟩:=bO z_wp;obtain ⟨x_w,f_w,l_w⟩:=bO z_w;have hKw1:Below w.heap.size w w1:=hCw1;clear hbw1 bb)|(go_at_call 59;refine bHit w (by exact zB) fun bb=>?_;refine (sHandOk_any _ _).mono ?_;rintro _ w2 ⟨rfl,hbw2⟩;have hCw2:Below w.heap.size w w2:=bT bb hbw2;have hsw2:=hbw2.size;(try simp at hsw2);have zz:=q4 hbw2 (b:=w.heap.size);(first|simp [go_sem,z_wppp,z_wpp,z_wp,z_w,l_w,l_wp,l_wpp,l_wppp] at zz|simp [go_sem] at zz|skip);(try clear z_wppp x_wppp f_wppp l_wppp);(try clear z_wpp x_wpp f_wpp l_wpp);(try clear z_wp x_wp f_wp l_wp);(try clear z_w x_w f_w l_w);obtain ⟨z_wppp,z_wpp,z_wp,z_w⟩:=zz;obtain ⟨x_wppp,f_wppp,l_wppp⟩:=bO z_wppp;obtain ⟨x_wpp,f_wpp,l_wpp⟩:=bO z_wpp;obtain ⟨x_wp,f_wp,l_wp⟩:=bO z_wp;obtain ⟨x_w,f_w,l_w⟩:=bO z_w;have hKw2:Below w.heap.size w w2:=hCw2;clear hbw2 bb))
    refine bodyPost_ret (res_cct Tryz.results26 rfl (ldChan Ch.zero (.slice none 0 0) (.slice none 0 0) (by simp [go_sem, *])) rfl (ldHand Ha.zero (by simp [go_sem, *]))) rfl ⟨stepR_none _ _ _ _ _,by exact zB⟩
end Go.Proofs.YtkiingmgpobgnaaGreat
set_option linter.unusedSimpArgs false
set_option linter.unusedVariables false
namespace Go.Proofs.YtkiingmgpobgnaaGreat
open Go.RowKit
set_option maxHeartbeats 400000 in
theorem sLaid_any (s e t m:Int) (w:World):Calls Tryz.prog 28 #[.agg #[.int .i64 s,.int .i64 e,.int .i64 t],.int .i64 m] w fun r w'=>r=.returned (.agg #[.int .i64 s,.int .i64 (laidF s e t m),.int .i64 t])∧Below w.heap.size w w':=by
  go_enter Tryz.func28,Tryz.ntmps28
  go_wp2_with (first|(go_at_call 62;refine (sCellOk_any _ _ _ _).mono ?_;rintro _ w1 ⟨rfl,hbw1⟩;have hBw1:Below w.heap.size w w1:=bT (by exact zB) hbw1;have hsw1:=hbw1.size;(try (simp at hsw1));have:=fun o=>hbw1.cell (p:=⟨w.heap.size,o,none⟩) (by ((try simp);(try omega)));have:=fun o=>hbw1.frozen (p:=⟨w.heap.size,o,none⟩) (by ((try simp);(try omega)));have:=fun o=>hbw1.cell (p:=⟨w.heap.size+1,o,none⟩) (by ((try simp);(try omega)));have:=fun o=>hbw1.frozen (p:=⟨w.heap.size+1,o,none⟩) (by ((try simp);(try omega)));have:w.heap.size<w1.heap.size:=(by omega);have:w.heap.size≤w1.heap.size:=(by omega);have:w.heap.size≤w1.heap.size+1:=(by omega);have:w.heap.size+1<w1.heap.size:=(by omega);have:w.heap.size+1≤w1.heap.size:=(by omega);have:w.heap.size+1≤w1.heap.size+1:=(by omega))|(go_at_call 63;refine (l1Elem_any _ _).mono ?_;rintro _ _ ⟨rfl,rfl⟩))
  · rw [laidF_2 ‹_›];exact bodyPost_ret (v:=.agg #[.int .i64 s,.int .i64 e,.int .i64 t]) (by simp [results,Tryz.results28,go_sem, *]) rfl ⟨rfl,by exact zB⟩
  · rw [laidF_3 ‹_› ‹_›];exact bodyPost_ret (v:=.agg #[.int .i64 s,.int .i64 m,.int .i64 t]) (by simp [results,Tryz.results28,go_sem, *]) rfl ⟨rfl,by exact zB⟩
  · rw [laidF_1 ‹_›];exact bodyPost_ret (v:=.agg #[.int .i64 s,.int .i64 e,.int .i64 t]) (by simp [results,Tryz.results28,go_sem, *]) rfl ⟨rfl,by exact zB⟩
set_option maxHeartbeats 400000 in
theorem sTurned_any (s e t f n v:Int) (w:World):Calls Tryz.prog 102 #[.agg #[.int .i64 s,.int .i64 e,.int .i64 t],.int .i64 f,.int .i64 n,.int .i64 v] w fun r w'=>TurnR s e t f n v r∧Below w.heap.size w w':=by
  by_cases hsf:s=f
  · subst hsf
    go_enter Tryz.func102,Tryz.ntmps102
    go_wp2_with (go_at_call 62;refine (sCellOk_any _ _ _ _).mono ?_;rintro _ w1 ⟨rfl,hbw1⟩;have hBw1:Below w.heap.size w w1:=bT (by exact zB) hbw1;have hsw1:=hbw1.size;(try (simp at hsw1));have:=fun o=>hbw1.cell (p:=⟨w.heap.size,o,none⟩) (by ((try simp);(try omega)));have:=fun o=>hbw1.frozen (p:=⟨w.heap.size,o,none⟩) (by ((try simp);(try omega)));have:=fun o=>hbw1.cell (p:=⟨w.heap.size+1,o,none⟩) (by ((try simp);(try omega)));have:=fun o=>hbw1.frozen (p:=⟨w.heap.size+1,o,none⟩) (by ((try simp);(try omega)));have:=fun o=>hbw1.cell (p:=⟨w.heap.size+1+1,o,none⟩) (by ((try simp);(try omega)));have:=fun o=>hbw1.frozen (p:=⟨w.heap.size+1+1,o,none⟩) (by ((try simp);(try omega)));have:w.heap.size<w1.heap.size:=(by omega);have:w.heap.size≤w1.heap.size:=(by omega);have:w.heap.size≤w1.heap.size+1:=(by omega);have:w.heap.size+1<w1.heap.size:=(by omega);have:w.heap.size+1≤w1.heap.size:=(by omega);have:w.heap.size+1≤w1.heap.size+1:=(by omega);have:w.heap.size+1+1<w1.heap.size:=(by omega);have:w.heap.size+1+1≤w1.heap.size:=(by omega);have:w.heap.size+1+1≤w1.heap.size+1:=(by omega))
    all_goals first
      | (refine bodyPost_ret (v:=.tuple #[.agg #[.int .i64 n,.int .i64 e,.int .i64 v],.bool true]) (by simp [results,Tryz.results102,go_sem, *]) rfl ⟨turnR_yes (turn_4 ‹_› ‹_›),by exact zB⟩)
      | (refine bodyPost_ret (v:=.tuple #[.agg #[.int .i64 s,.int .i64 e,.int .i64 t],.bool false]) (by simp [results,Tryz.results102,go_sem, *]) rfl ⟨turnR_no (by first|exact turn_2 ‹_›|exact turn_3 ‹_›),by exact zB⟩)
  · go_enter Tryz.func102,Tryz.ntmps102
    go_wp2_with (go_at_call 62;refine (sCellOk_any _ _ _ _).mono ?_;rintro _ w1 ⟨rfl,hbw1⟩;have hBw1:Below w.heap.size w w1:=bT (by exact zB) hbw1;have hsw1:=hbw1.size;(try (simp at hsw1));have:=fun o=>hbw1.cell (p:=⟨w.heap.size,o,none⟩) (by ((try simp);(try omega)));have:=fun o=>hbw1.frozen (p:=⟨w.heap.size,o,none⟩) (by ((try simp);(try omega)));have:=fun o=>hbw1.cell (p:=⟨w.heap.size+1,o,none⟩) (by ((try simp);(try omega)));have:=fun o=>hbw1.frozen (p:=⟨w.heap.size+1,o,none⟩) (by ((try simp);(try omega)));have:=fun o=>hbw1.cell (p:=⟨w.heap.size+1+1,o,none⟩) (by ((try simp);(try omega)));have:=fun o=>hbw1.frozen (p:=⟨w.heap.size+1+1,o,none⟩) (by ((try simp);(try omega)));have:w.heap.size<w1.heap.size:=(by omega);have:w.heap.size≤w1.heap.size:=(by omega);have:w.heap.size≤w1.heap.size+1:=(by omega);have:w.heap.size+1<w1.heap.size:=(by omega);have:w.heap.size+1≤w1.heap.size:=(by omega);have:w.heap.size+1≤w1.heap.size+1:=(by omega);have:w.heap.size+1+1<w1.heap.size:=(by omega);have:w.heap.size+1+1≤w1.heap.size:=(by omega);have:w.heap.size+1+1≤w1.heap.size+1:=(by omega))
    all_goals (refine bodyPost_ret (v:=.tuple #[.agg #[.int .i64 s,.int .i64 e,.int .i64 t],.bool false]) (by simp [results,Tryz.results102,go_sem, *]) rfl ⟨turnR_no (by first|exact turn_1 ‹_›|exact turn_2 ‹_›),by exact zB⟩)
end Go.Proofs.YtkiingmgpobgnaaGreat
set_option linter.unusedSimpArgs false
set_option linter.unusedVariables false
namespace Go.Proofs.YtkiingmgpobgnaaGreat
open Go.RowKit
/-- A list of cells that is not empty lies in a block of its own. -/
theorem OCells.open1 {w:World} {lo:Nat} {v:Value} {cs:List C3} (h:OCells w lo v cs) {i:Nat} (hi:i<cs.length) :
    ∃ g cap,v=.slice (some ⟨g,0,none⟩) cs.length cap∧lo≤g∧g<w.heap.size∧(∀ j,j<3→w.cell? ⟨g,i*3+j,none⟩=some ((cs.getD i ⟨0,0,0⟩).val j))∧∀ o,w.frozen? ⟨g,o,none⟩=false:=by
  have h2:=h
  rcases h.2 with ⟨_,h0⟩|⟨g,cap,cur,rfl,hl,hg,_⟩
  · omega
  · refine ⟨g,cap,rfl,hl,(Array.getElem?_eq_some_iff.1 hg).1,fun j hj=>?_,fun o=>by simp [World.frozen?,hg]⟩
    have:=h2.cells (g:=g) rfl (i*3+j) _ (flatC_get cs i j hi hj)
    have e2:(⟨g,0,none⟩:Addr).add (i*3+j)=⟨g,i*3+j,none⟩:=by generalize i*3+j=m;by_cases e:m=0 <;> simp [Addr.add,e]
    rw [e2] at this
    exact this
theorem OCells.set {w:World} {lo g cap:Nat} {cs:List C3} (h:OCells w lo (.slice (some ⟨g,0,none⟩) cs.length cap) cs) {i:Nat} (hi:i<cs.length) (x:C3) :
    OCells (((w.setCell ⟨g,i*3,none⟩ (.int .i64 x.s)).setCell ⟨g,i*3+1,none⟩ (.int .i64 x.e)).setCell ⟨g,i*3+2,none⟩ (.int .i64 x.t)) lo (.slice (some ⟨g,0,none⟩) cs.length cap) (cs.set i x):=by
  have h1:=own_set_cell h (i*3) (by rw [flatC_len];omega) (.int .i64 x.s)
  have h2:=own_set_cell h1 (i*3+1) (by rw [List.length_set,flatC_len];omega) (.int .i64 x.e)
  have h3:=own_set_cell h2 (i*3+2) (by rw [List.length_set,List.length_set,flatC_len];omega) (.int .i64 x.t)
  unfold OCells
  rw [flatC_set,List.length_set]
  exact h3
theorem OCells.setS {w:World} {lo g cap:Nat} {cs:List C3} (h:OCells w lo (.slice (some ⟨g,0,none⟩) cs.length cap) cs) {i:Nat} (hi:i<cs.length) (s:Int) :
    OCells (w.setCell ⟨g,i*3,none⟩ (.int .i64 s)) lo (.slice (some ⟨g,0,none⟩) cs.length cap) (cs.set i { cs.getD i ⟨0,0,0⟩ with s:=s }):=by
  have h1:=own_set_cell h (i*3) (by rw [flatC_len];omega) (.int .i64 s)
  have g1:=flatC_get cs i 1 hi (by omega)
  have g2:=flatC_get cs i 2 hi (by omega)
  simp only [cellF,C3.val] at g1 g2
  have e1:∀ (l:List Value) (j:Nat) (x:Value),l[j]?=some x→l.set j x=l:=fun l j x h=>by
    apply List.ext_getElem?
    intro n
    rw [List.getElem?_set]
    by_cases e:j=n
    · subst e;simp only [if_true];rw [h];simp;exact (List.getElem?_eq_some_iff.1 h).1
    · rw [if_neg e]
  unfold OCells
  rw [flatC_set,List.length_set]
  simp only
  rw [e1 _ (i*3+1) _ (by rw [List.getElem?_set_ne (by omega)];exact g1),e1 _ (i*3+2) _ (by rw [List.getElem?_set_ne (by omega)];exact g2)]
  exact h1
theorem stateC_cells (c:Ch) (i:Nat) (st:Int):(stateC c i st).cells=c.cells.set i { c.cells.getD i ⟨0,0,0⟩ with s:=st }:=by simp [stateC,setAt,cellAt]
set_option maxRecDepth 100000 in
set_option maxHeartbeats 1000000 in
theorem l6State_any (c:Ch) (i:Nat) (st:Int) (v1 v2:Value) (lo:Nat) (w:World) (h1:OCells w lo v1 c.cells) (h2:OInts w lo v2 c.words) (hi:i<c.cells.length) :
    Calls Tryz.prog 32 #[.agg #[.int .i64 c.cap,.int .i64 c.sent,.int .i64 c.got,.int .i64 c.fin,v1,v2],.int .i64 i,.int .i64 st] w fun r w'=>r=.returned (.agg #[.int .i64 c.cap,.int .i64 c.sent,.int .i64 c.got,.int .i64 c.fin,v1,v2])∧OCells w' lo v1 (stateC c i st).cells∧OInts w' lo v2 c.words∧w.grownBy w' v1.ownBlock:=by
  have O2:=Lib.hid h2
  have hne:=h1.ne h2
  obtain ⟨b,q,rfl,_⟩:=h2.seg
  obtain ⟨g,cap,rfl,hlo,hlt,hcell,hfr⟩:=h1.open1 hi
  have O1:=Lib.hid h1
  have c0:=hcell 0 (by omega)
  simp only [C3.val,Nat.add_zero] at c0
  have hi0:(0:Int)≤(i:Int):=by omega
  have hi1:(i:Int)<(c.cells.length:Int):=by omega
  have hgw:w.heap.size≠g:=by omega
  have hgw2:w.heap.size+1≠g:=by omega
  have hgw3:g≠w.heap.size:=by omega
  have hgw4:g≠w.heap.size+1:=by omega
  generalize hcg:c.cells.getD i ⟨0,0,0⟩=x at c0
  clear h1 h2 hcell
  go_enter Tryz.func32,Tryz.ntmps32
  go_wp2
  have o1:=O1.out
  have o2:=O2.out
  have P1:=OCells.setS o1 hi st
  rw [stateC_cells]
  refine bodyPost_ret (v:=.agg #[.int .i64 c.cap,.int .i64 c.sent,.int .i64 c.got,.int .i64 c.fin,.slice (some ⟨g,0,none⟩) c.cells.length cap,.slice b c.words.length q]) (by simp [results,Tryz.results32,go_sem, *]) rfl ⟨rfl,?_,?_,?_⟩
  · exact zO P1 o1
  · (repeat first|with_reducible exact o2|with_reducible refine oAl ?_ _|with_reducible refine oDr ?_|((with_reducible first|refine own_store ?_ ?_ _|refine own_box ?_ ?_);rotate_left;focus first|(refine own_ne o2 ?_;(try dsimp only);omega)|(refine own_ne' o2 ?_;(try dsimp only);omega)|exact fun h=>OCells.ne o1 o2 _ rfl h))
  · show Gr g w _
    (repeat (first|with_reducible assumption|with_reducible exact gR _ _|with_reducible refine gA ?_|with_reducible refine gD ?_|with_reducible refine gS ?_ (.inl rfl)|((with_reducible refine gBx ?_ (.inr ?_));rotate_left;(focus ((try dsimp only);(try simp);(try omega))))|((with_reducible refine gS ?_ (.inr ?_));rotate_left;(focus ((try dsimp only);(try simp);(try omega))))))
theorem turnC_cells (c:Ch) (i:Nat) (f t v:Int):(turnC c i f t v).cells=c.cells.set i (turnX (c.cells.getD i ⟨0,0,0⟩) f t v):=by simp [turnC,setAt,cellAt]
theorem turnCB_at (c:Ch) (i:Nat) (f t v:Int):turnCB c i f t v=turnXB (c.cells.getD i ⟨0,0,0⟩) f t v:=by simp [turnCB,cellAt]
set_option maxRecDepth 100000 in
set_option maxHeartbeats 1000000 in
theorem l6Turn_any (c:Ch) (i:Nat) (f t v:Int) (v1 v2:Value) (lo:Nat) (w:World) (h1:OCells w lo v1 c.cells) (h2:OInts w lo v2 c.words) (hi:i<c.cells.length) :
    Calls Tryz.prog 66 #[.agg #[.int .i64 c.cap,.int .i64 c.sent,.int .i64 c.got,.int .i64 c.fin,v1,v2],.int .i64 i,.int .i64 f,.int .i64 t,.int .i64 v] w fun r w'=>r=.returned (.tuple #[.agg #[.int .i64 c.cap,.int .i64 c.sent,.int .i64 c.got,.int .i64 c.fin,v1,v2],.bool (turnCB c i f t v)])∧OCells w' lo v1 (turnC c i f t v).cells∧OInts w' lo v2 c.words∧w.grownBy w' v1.ownBlock:=by
  have O2:=Lib.hid h2
  have hne:=h1.ne h2
  obtain ⟨b,q,rfl,_⟩:=h2.seg
  obtain ⟨g,cap,rfl,hlo,hlt,hcell,hfr⟩:=h1.open1 hi
  have O1:=Lib.hid h1
  have c0:=hcell 0 (by omega)
  have c1:=hcell 1 (by omega)
  have c2:=hcell 2 (by omega)
  simp only [C3.val,Nat.add_zero] at c0 c1 c2
  have hi0:(0:Int)≤(i:Int):=by omega
  have hi1:(i:Int)<(c.cells.length:Int):=by omega
  have hgw:w.heap.size≠g:=by omega
  have hgw2:w.heap.size+1≠g:=by omega
  have hgw3:g≠w.heap.size:=by omega
  have hgw4:g≠w.heap.size+1:=by omega
  rw [turnC_cells,turnCB_at]
  unfold turnXB turnX
  generalize hcg:c.cells.getD i ⟨0,0,0⟩=x at c0 c1 c2
  clear h1 h2 hcell hcg
  go_enter Tryz.func66,Tryz.ntmps66
  go_wp2_with fail;refine bHit w (by exact zB) fun bb=>?_;refine (sTurned_any _ _ _ f t v _).mono ?_;rintro _ w1 ⟨hr,hbw1⟩;have hCw1:Below w.heap.size w w1:=bT bb hbw1;have hsw1:=hbw1.size;(try simp at hsw1);have zz:=And.intro (fun o=>hbw1.cell (p:=⟨w.heap.size+1,o,none⟩) (by (try simp) <;> omega)) <| And.intro (fun o=>hbw1.frozen (p:=⟨w.heap.size+1,o,none⟩) (by (try simp) <;> omega)) <| And.intro (fun o=>hbw1.cell (p:=⟨w.heap.size,o,none⟩) (by (try simp) <;> omega)) <| fun o=>hbw1.frozen (p:=⟨w.heap.size,o,none⟩) (by (try simp) <;> omega);(try simp [go_sem] at zz);(try clear x_wp f_wp);(try clear x_w f_w);obtain ⟨x_wp,f_wp,x_w,f_w⟩:=zz;(try clear l_wp);have l_wp:w.heap.size+1<w1.heap.size:=(by omega);(try clear l_w);have l_w:w.heap.size<w1.heap.size:=(by omega);have hKw1:Below w.heap.size w w1:=hCw1;clear hbw1 bb
  unfold TurnR at hr
  subst hr
  have o1:=O1.out
  have o2:=O2.out
  have p1:=own_below o1 hCw1
  have p2:=own_below o2 hCw1
  have d1:=fun o=>(hCw1.cell (p:=⟨g,o,none⟩) hlt)
  have d2:=fun o=>(hCw1.frozen (p:=⟨g,o,none⟩) hlt)
  have hgw5:g<w1.heap.size:=by omega
  have hgw6:w1.heap.size≠g:=by omega
  have hgw7:g≠w1.heap.size:=by omega
  have P1:=OCells.set p1 hi (turnX x f t v)
  simp only [turnX] at P1
  go_wp2
  refine bodyPost_ret (v:=.tuple #[.agg #[.int .i64 c.cap,.int .i64 c.sent,.int .i64 c.got,.int .i64 c.fin,.slice (some ⟨g,0,none⟩) c.cells.length cap,.slice b c.words.length q],.bool (turnB x.s x.e x.t f t v)]) (by simp [results,Tryz.results66,go_sem, *]) rfl ⟨rfl,?_,?_,?_⟩
  · exact zO P1 o1
  · (repeat first|with_reducible exact p2|with_reducible refine oAl ?_ _|with_reducible refine oDr ?_|((with_reducible first|refine own_store ?_ ?_ _|refine own_box ?_ ?_);rotate_left;focus first|(refine own_ne o2 ?_;(try dsimp only);omega)|(refine own_ne' o2 ?_;(try dsimp only);omega)|exact fun h=>OCells.ne o1 o2 _ rfl h))
  · have hg1:Gr g w w1:=gOfB hCw1
    show Gr g w _
    (repeat (first|with_reducible assumption|with_reducible exact gR _ _|with_reducible refine gA ?_|with_reducible refine gD ?_|with_reducible refine gS ?_ (.inl rfl)|((with_reducible refine gBx ?_ (.inr ?_));rotate_left;(focus ((try dsimp only);(try simp);(try omega))))|((with_reducible refine gS ?_ (.inr ?_));rotate_left;(focus ((try dsimp only);(try simp);(try omega))))))
end Go.Proofs.YtkiingmgpobgnaaGreat
set_option linter.unusedSimpArgs false
set_option linter.unusedVariables false
namespace Go.Proofs.YtkiingmgpobgnaaGreat
open Go.RowKit
set_option linter.unusedSimpArgs false
attribute [local simp] bx_size
attribute [local go_sem ↓] zeroHand zeroChan toLHand toLChan toVHand toVChan storeHand storeChan storeHandC storeChanC
theorem wState_any (c:Ch) (i:Nat) (st:Int) (v1 v2:Value) (lo:Nat) (w:World) (h1:OCells w lo v1 c.cells) (h2:OInts w lo v2 c.words) (hi:i<c.cells.length) :
    Calls Tryz.prog 32 #[.agg (cvals c v1 v2),.int .i64 i,.int .i64 st] w fun r w'=>r=.returned (.agg (cvals c v1 v2))∧OCells w' lo v1 (stateC c i st).cells∧OInts w' lo v2 c.words∧w.grownBy w' v1.ownBlock:=l6State_any c i st v1 v2 lo w h1 h2 hi
theorem wTurn_any (c:Ch) (i:Nat) (f t v:Int) (v1 v2:Value) (lo:Nat) (w:World) (h1:OCells w lo v1 c.cells) (h2:OInts w lo v2 c.words) (hi:i<c.cells.length) :
    Calls Tryz.prog 66 #[.agg (cvals c v1 v2),.int .i64 i,.int .i64 f,.int .i64 t,.int .i64 v] w fun r w'=>r=.returned (.tuple #[.agg (cvals c v1 v2),.bool (turnCB c i f t v)])∧OCells w' lo v1 (turnC c i f t v).cells∧OInts w' lo v2 c.words∧w.grownBy w' v1.ownBlock:=l6Turn_any c i f t v v1 v2 lo w h1 h2 hi
theorem look6_at {c:Ch} {h:Ha} {x:C3} (hx:cellAt c h.cell=x) (n:Int) (hn:x.s=n) :
    look6 c h=if n == 0 then ({ seenAs h x with pos:=4 },true) else if n == 1 then ({ seenAs h x with pos:=6 },true) else if n == 4 then ({ seenAs h x with pos:=7 },true)
      else if n == 8 then (anew (seenAs h x),true) else if n == 10 then (anew (seenAs h x),true) else (seenAs h x,false):=by
  subst hn;subst hx;rfl
set_option maxRecDepth 100000 in
set_option maxHeartbeats 2000000 in
theorem l6Look_any (c:Ch) (h:Ha) (a b:Option Addr) (p q:Nat) (w:World) (h1:Seg w w.heap.size a c.cells.length 3 (cellF c.cells)) (hc0:0≤h.cell) (hc1:h.cell<c.cells.length) :
    Calls Tryz.prog 29 #[.agg (cvals c (.slice a c.cells.length p) (.slice b c.words.length q)),.agg (hvals h)] w fun r w'=>r=.returned (.tuple #[.agg (hvals (look6 c h).1),.bool (look6 c h).2])∧Below w.heap.size w w':=by
  obtain ⟨i,hci⟩:∃ i:Nat,h.cell=(i:Int):=⟨h.cell.toNat,by omega⟩
  have hi:i<c.cells.length:=by omega
  obtain ⟨bb,bo,rfl,hb,hcell⟩:∃ b' o,a=some ⟨b',o,none⟩∧b'<w.heap.size∧Hid (∀ j,j<3→w.cell? ⟨b',o+i*3+j,none⟩=some ((c.cells.getD i ⟨0,0,0⟩).val j)):=by
    rcases h1 with h0|⟨b',o',e,h1,h2⟩
    · omega
    · exact ⟨b',o',e,h1,fun j hj=>by simpa [cellF] using h2 i j hi hj⟩
  clear h1
  have c0:=hcell.out 0 (by omega)
  have c2:=hcell.out 2 (by omega)
  have hx:Hid (cellAt c h.cell=c.cells.getD i ⟨0,0,0⟩):=by simp [cellAt,Hid,hci]
  clear hcell
  generalize c.cells.getD i ⟨0,0,0⟩=x at *
  obtain ⟨s,e,t⟩:=x
  simp only [C3.val,Nat.add_zero] at c0 c2
  have hi0:(0:Int)≤(i:Int):=by omega
  have hi1:(i:Int)<(c.cells.length:Int):=by omega
  have hb1:bb<w.heap.size+1:=by omega
  have hb2:bb<w.heap.size+1+1:=by omega
  have hne:bb≠w.heap.size:=by omega
  have hne1:bb≠w.heap.size+1:=by omega
  have hne2:bb≠w.heap.size+1+1:=by omega
  by_cases hn:s=0∨s=1∨s=4∨s=8∨s=10
  · rcases hn with rfl|rfl|rfl|rfl|rfl
    · rw [show look6 c h=({ seenAs h ⟨0,e,t⟩ with pos:=4 },true) from look6_at hx.out 0 rfl]
      go_enter Tryz.func29,Tryz.ntmps29
      go_wp2
      refine bodyPost_ret (res_ct Tryz.results29 rfl (ldHand { seenAs h ⟨0,e,t⟩ with pos:=4 } (by simp [go_sem, *] <;> first|rfl|simp [seenAs,anew,hci]))) rfl ⟨rfl,by exact zB⟩
    · rw [show look6 c h=({ seenAs h ⟨1,e,t⟩ with pos:=6 },true) from look6_at hx.out 1 rfl]
      go_enter Tryz.func29,Tryz.ntmps29
      go_wp2
      refine bodyPost_ret (res_ct Tryz.results29 rfl (ldHand { seenAs h ⟨1,e,t⟩ with pos:=6 } (by simp [go_sem, *] <;> first|rfl|simp [seenAs,anew,hci]))) rfl ⟨rfl,by exact zB⟩
    · rw [show look6 c h=({ seenAs h ⟨4,e,t⟩ with pos:=7 },true) from look6_at hx.out 4 rfl]
      go_enter Tryz.func29,Tryz.ntmps29
      go_wp2
      refine bodyPost_ret (res_ct Tryz.results29 rfl (ldHand { seenAs h ⟨4,e,t⟩ with pos:=7 } (by simp [go_sem, *] <;> first|rfl|simp [seenAs,anew,hci]))) rfl ⟨rfl,by exact zB⟩
    · rw [show look6 c h=(anew (seenAs h ⟨8,e,t⟩),true) from look6_at hx.out 8 rfl]
      go_enter Tryz.func29,Tryz.ntmps29
      go_wp2_with fail;refine bHit w (by exact zB) fun bb=>?_;refine (l6Anew_any _ _).mono ?_;rintro _ w1 ⟨rfl,hbw1⟩;have hCw1:Below w.heap.size w w1:=bT bb hbw1;have hsw1:=hbw1.size;(try simp at hsw1);have zz:=And.intro (hQ hbw1 (b:=w.heap.size+1+1)) <| And.intro (hQ hbw1 (b:=w.heap.size+1)) <| hQ hbw1 (b:=w.heap.size);(try simp [go_sem] at zz);(try clear z_wpp x_wpp f_wpp l_wpp);(try clear z_wp x_wp f_wp l_wp);(try clear z_w x_w f_w l_w);obtain ⟨z_wpp,z_wp,z_w⟩:=zz;obtain ⟨x_wpp,f_wpp,l_wpp⟩:=bO z_wpp;obtain ⟨x_wp,f_wp,l_wp⟩:=bO z_wp;obtain ⟨x_w,f_w,l_w⟩:=bO z_w;clear hbw1 bb
      go_wp2
      refine bodyPost_ret (res_ct Tryz.results29 rfl (ldHand (anew (seenAs h ⟨8,e,t⟩)) (by simp [go_sem, *] <;> first|rfl|simp [seenAs,anew,hci]))) rfl ⟨rfl,by exact zB⟩
    · rw [show look6 c h=(anew (seenAs h ⟨10,e,t⟩),true) from look6_at hx.out 10 rfl]
      go_enter Tryz.func29,Tryz.ntmps29
      go_wp2_with fail;refine bHit w (by exact zB) fun bb=>?_;refine (l6Anew_any _ _).mono ?_;rintro _ w1 ⟨rfl,hbw1⟩;have hCw1:Below w.heap.size w w1:=bT bb hbw1;have hsw1:=hbw1.size;(try simp at hsw1);have zz:=And.intro (hQ hbw1 (b:=w.heap.size+1+1)) <| And.intro (hQ hbw1 (b:=w.heap.size+1)) <| hQ hbw1 (b:=w.heap.size);(try simp [go_sem] at zz);(try clear z_wpp x_wpp f_wpp l_wpp);(try clear z_wp x_wp f_wp l_wp);(try clear z_w x_w f_w l_w);obtain ⟨z_wpp,z_wp,z_w⟩:=zz;obtain ⟨x_wpp,f_wpp,l_wpp⟩:=bO z_wpp;obtain ⟨x_wp,f_wp,l_wp⟩:=bO z_wp;obtain ⟨x_w,f_w,l_w⟩:=bO z_w;clear hbw1 bb
      go_wp2
      refine bodyPost_ret (res_ct Tryz.results29 rfl (ldHand (anew (seenAs h ⟨10,e,t⟩)) (by simp [go_sem, *] <;> first|rfl|simp [seenAs,anew,hci]))) rfl ⟨rfl,by exact zB⟩
  · have n0:(s == 0)=false:=by simp;omega
    have n1:(s == 1)=false:=by simp;omega
    have n4:(s == 4)=false:=by simp;omega
    have n8:(s == 8)=false:=by simp;omega
    have n10:(s == 10)=false:=by simp;omega
    rw [show look6 c h=(seenAs h ⟨s,e,t⟩,false) from by rw [look6_at hx.out s rfl,n0,n1,n4,n8,n10];rfl]
    clear hn
    go_enter Tryz.func29,Tryz.ntmps29
    go_wp2
    refine bodyPost_ret (res_ct Tryz.results29 rfl (ldHand (seenAs h ⟨s,e,t⟩) (by simp [go_sem, *] <;> first|rfl|simp [seenAs,anew,hci]))) rfl ⟨rfl,by exact zB⟩
end Go.Proofs.YtkiingmgpobgnaaGreat
