/-
  Stopping, of the reference model; lists lie in memory and hold at most 2 ^ 40 elements.
  Stopping who is parked, of the reference model; lists lie in memory and hold at most 2 ^ 40 elements.
  Stopping and asking, of the reference model, all cases; lists lie in memory and hold at most 2 ^ 40 elements.
-/
import Derived.Test.YtmnpgkcdfielbaaP10
import Derived.Test.YtmnpgkcdfielbaaP20
set_option linter.unusedSimpArgs false
set_option linter.unusedVariables false
namespace Go.Proofs.Ytmnpgkcdfielbaa
open Go.RowKit
set_option linter.unusedSimpArgs false
attribute [local simp] bx_size
attribute [local go_sem ↓] zeroHand toLHand toVHand toSHand storeHandC
attribute [local go_sem] runSHand
set_option maxRecDepth 100000 in
set_option maxHeartbeats 4000000 in
theorem stopped_no1 (x:Wo) (who:Int) (a b d e:Option Addr) (p q r s:Nat) (w:World) (h1:Seg w w.heap.size a x.ch.cells.length 3 (cellF x.ch.cells)) (z1:a=none→p=0) (h2:Seg w w.heap.size b x.ch.words.length 1 (intF x.ch.words)) (z2:b=none→q=0) (h3:Seg w w.heap.size d x.hands.length 14 (handF x.hands)) (z3:d=none→x.hands.length=0∧r=0) (h4:Seg w w.heap.size e x.deals.length 7 (dealF x.deals)) (z4:e=none→x.deals.length=0∧s=0) (m1:x.ch.cells.length≤1099511627776) (m2:x.ch.words.length≤1099511627776) (m3:x.hands.length≤1099511627776) (m4:x.deals.length≤1099511627776) (hk:worldOk x=false) :
    Calls Try.prog 5 #[.agg #[.int .i64 x.ch.cap,.int .i64 x.ch.sent,.int .i64 x.ch.got,.int .i64 x.ch.fin,.slice a x.ch.cells.length p,.slice b x.ch.words.length q,.slice d x.hands.length r,.slice e x.deals.length s,.int .i64 x.now],.int .i64 who] w fun r w'=>WordR w w' (stopped x who).1 (.bool (stopped x who).2) r:=by
  have e0:stopped x who=(Wo.zero,false):=by simp [stopped,hk]
  rw [e0]
  have H1:=Lib.hid h1
  have H2:=Lib.hid h2
  have H3:=Lib.hid h3
  have H4:=Lib.hid h4
  have Z1:=Lib.hid z1
  have Z2:=Lib.hid z2
  have Z3:=Lib.hid z3
  have Z4:=Lib.hid z4
  clear h1 h2 h3 h4 z1 z2 z3 z4
  clear e0
  go_enter Try.func5,Try.ntmps5
  go_wp2_with fail;refine bHit w (by exact zB) fun bb=>?_;refine (sWorldOk_any x a b d e p q r s _ ((H1.out.below bb).more bb.size) ((H2.out.below bb).more bb.size) ((H3.out.below bb).more bb.size) ((H4.out.below bb).more bb.size) m3 m4).mono ?_;rintro _ w1 ⟨rfl,hbw1⟩;have hCw1:Below w.heap.size w w1:=bT bb hbw1;have hsw1:=hbw1.size;(try simp at hsw1);have zz:=And.intro (fun o=>hbw1.cell (p:=⟨w.heap.size+1,o,none⟩) (by (try simp) <;> omega)) <| And.intro (fun o=>hbw1.frozen (p:=⟨w.heap.size+1,o,none⟩) (by (try simp) <;> omega)) <| And.intro (fun o=>hbw1.cell (p:=⟨w.heap.size,o,none⟩) (by (try simp) <;> omega)) <| fun o=>hbw1.frozen (p:=⟨w.heap.size,o,none⟩) (by (try simp) <;> omega);(try simp [go_sem] at zz);(try clear x_wp f_wp);(try clear x_w f_w);obtain ⟨x_wp,f_wp,x_w,f_w⟩:=zz;(try clear l_wp);have l_wp:w.heap.size+1<w1.heap.size:=(by omega);(try clear l_w);have l_w:w.heap.size<w1.heap.size:=(by omega);clear hbw1 bb
  rw [hk]
  go_wp2
  exact bodyPost_ret (v:=.tuple #[.agg #[.int .i64 Wo.zero.ch.cap,.int .i64 Wo.zero.ch.sent,.int .i64 Wo.zero.ch.got,.int .i64 Wo.zero.ch.fin,.slice none 0 0,.slice none 0 0,.slice none 0 0,.slice none 0 0,.int .i64 Wo.zero.now],.bool false]) (by simp [results,Try.results5,go_sem,Wo.zero,Ch.zero, *]) rfl ⟨⟨_,_,_,_,rfl,wown_zero _ _⟩,by exact zB⟩
set_option maxRecDepth 100000 in
set_option maxHeartbeats 4000000 in
theorem stopped_no2 (x:Wo) (who:Int) (a b d e:Option Addr) (p q r s:Nat) (w:World) (h1:Seg w w.heap.size a x.ch.cells.length 3 (cellF x.ch.cells)) (z1:a=none→p=0) (h2:Seg w w.heap.size b x.ch.words.length 1 (intF x.ch.words)) (z2:b=none→q=0) (h3:Seg w w.heap.size d x.hands.length 14 (handF x.hands)) (z3:d=none→x.hands.length=0∧r=0) (h4:Seg w w.heap.size e x.deals.length 7 (dealF x.deals)) (z4:e=none→x.deals.length=0∧s=0) (m1:x.ch.cells.length≤1099511627776) (m2:x.ch.words.length≤1099511627776) (m3:x.hands.length≤1099511627776) (m4:x.deals.length≤1099511627776) (hk:worldOk x=true) (ht:taskOk x who=false) :
    Calls Try.prog 5 #[.agg #[.int .i64 x.ch.cap,.int .i64 x.ch.sent,.int .i64 x.ch.got,.int .i64 x.ch.fin,.slice a x.ch.cells.length p,.slice b x.ch.words.length q,.slice d x.hands.length r,.slice e x.deals.length s,.int .i64 x.now],.int .i64 who] w fun r w'=>WordR w w' (stopped x who).1 (.bool (stopped x who).2) r:=by
  have e0:stopped x who=(Wo.zero,false):=by simp [stopped,hk,ht]
  rw [e0]
  have H1:=Lib.hid h1
  have H2:=Lib.hid h2
  have H3:=Lib.hid h3
  have H4:=Lib.hid h4
  have Z1:=Lib.hid z1
  have Z2:=Lib.hid z2
  have Z3:=Lib.hid z3
  have Z4:=Lib.hid z4
  clear h1 h2 h3 h4 z1 z2 z3 z4
  clear e0
  have ht2:taskB x.hands.length who=false:=ht
  clear ht
  go_enter Try.func5,Try.ntmps5
  go_wp2_with fail;refine bHit w (by exact zB) fun bb=>?_;refine (sWorldOk_any x a b d e p q r s _ ((H1.out.below bb).more bb.size) ((H2.out.below bb).more bb.size) ((H3.out.below bb).more bb.size) ((H4.out.below bb).more bb.size) m3 m4).mono ?_;rintro _ w1 ⟨rfl,hbw1⟩;have hCw1:Below w.heap.size w w1:=bT bb hbw1;have hsw1:=hbw1.size;(try simp at hsw1);have zz:=And.intro (fun o=>hbw1.cell (p:=⟨w.heap.size+1,o,none⟩) (by (try simp) <;> omega)) <| And.intro (fun o=>hbw1.frozen (p:=⟨w.heap.size+1,o,none⟩) (by (try simp) <;> omega)) <| And.intro (fun o=>hbw1.cell (p:=⟨w.heap.size,o,none⟩) (by (try simp) <;> omega)) <| fun o=>hbw1.frozen (p:=⟨w.heap.size,o,none⟩) (by (try simp) <;> omega);(try simp [go_sem] at zz);(try clear x_wp f_wp);(try clear x_w f_w);obtain ⟨x_wp,f_wp,x_w,f_w⟩:=zz;(try clear l_wp);have l_wp:w.heap.size+1<w1.heap.size:=(by omega);(try clear l_w);have l_w:w.heap.size<w1.heap.size:=(by omega);clear hbw1 bb
  rw [hk]
  go_wp2_with fail;refine bHit w (by exact zB) fun bb=>?_;refine (l11Task_any x.ch x.hands.length x.now who _ _ _ _ _ _ _ _ _ _ _ m3 _).mono ?_;rintro _ w2 ⟨rfl,hbw2⟩;have hCw2:Below w.heap.size w w2:=bT bb hbw2;have hsw2:=hbw2.size;(try simp at hsw2);have zz:=And.intro (fun o=>hbw2.cell (p:=⟨w.heap.size+1,o,none⟩) (by (try simp) <;> omega)) <| And.intro (fun o=>hbw2.frozen (p:=⟨w.heap.size+1,o,none⟩) (by (try simp) <;> omega)) <| And.intro (fun o=>hbw2.cell (p:=⟨w.heap.size,o,none⟩) (by (try simp) <;> omega)) <| fun o=>hbw2.frozen (p:=⟨w.heap.size,o,none⟩) (by (try simp) <;> omega);(first|simp [go_sem,x_wp,f_wp,x_w,f_w,l_w,l_wp] at zz|simp [go_sem,x_wp,x_w,l_w,l_wp] at zz|simp [go_sem] at zz|skip);(try clear x_wp f_wp);(try clear x_w f_w);obtain ⟨x_wp,f_wp,x_w,f_w⟩:=zz;(try clear l_wp);have l_wp:w.heap.size+1<w2.heap.size:=(by omega);(try clear l_w);have l_w:w.heap.size<w2.heap.size:=(by omega);clear hbw2 bb
  rw [ht2]
  go_wp2
  exact bodyPost_ret (v:=.tuple #[.agg #[.int .i64 Wo.zero.ch.cap,.int .i64 Wo.zero.ch.sent,.int .i64 Wo.zero.ch.got,.int .i64 Wo.zero.ch.fin,.slice none 0 0,.slice none 0 0,.slice none 0 0,.slice none 0 0,.int .i64 Wo.zero.now],.bool false]) (by simp [results,Try.results5,go_sem,Wo.zero,Ch.zero, *]) rfl ⟨⟨_,_,_,_,rfl,wown_zero _ _⟩,by exact zB⟩
set_option maxRecDepth 100000 in
set_option maxHeartbeats 4000000 in
theorem stopped_off (x:Wo) (who:Int) (a b d e:Option Addr) (p q r s:Nat) (w:World) (h1:Seg w w.heap.size a x.ch.cells.length 3 (cellF x.ch.cells)) (z1:a=none→p=0) (h2:Seg w w.heap.size b x.ch.words.length 1 (intF x.ch.words)) (z2:b=none→q=0) (h3:Seg w w.heap.size d x.hands.length 14 (handF x.hands)) (z3:d=none→x.hands.length=0∧r=0) (h4:Seg w w.heap.size e x.deals.length 7 (dealF x.deals)) (z4:e=none→x.deals.length=0∧s=0) (m1:x.ch.cells.length≤1099511627776) (m2:x.ch.words.length≤1099511627776) (m3:x.hands.length≤1099511627776) (m4:x.deals.length≤1099511627776) (hk:worldOk x=true) (ht:taskOk x who=true) (hp0:((handAt x who).pos != 23)=true) :
    Calls Try.prog 5 #[.agg #[.int .i64 x.ch.cap,.int .i64 x.ch.sent,.int .i64 x.ch.got,.int .i64 x.ch.fin,.slice a x.ch.cells.length p,.slice b x.ch.words.length q,.slice d x.hands.length r,.slice e x.deals.length s,.int .i64 x.now],.int .i64 who] w fun r w'=>WordR w w' (stopped x who).1 (.bool (stopped x who).2) r:=by
  have H1:=Lib.hid h1
  have H2:=Lib.hid h2
  have H3:=Lib.hid h3
  have H4:=Lib.hid h4
  have Z1:=Lib.hid z1
  have Z2:=Lib.hid z2
  have Z3:=Lib.hid z3
  have Z4:=Lib.hid z4
  clear h1 h2 h3 h4 z1 z2 z3 z4
  obtain ⟨i,rfl⟩:∃ i:Nat,who=(i:Int):=⟨who.toNat,by simp [taskOk,taskB,inB] at ht;omega⟩
  have hi:i<x.hands.length:=by simp [taskOk,taskB,inB] at ht;omega
  obtain ⟨b3,o3,rfl,hb3,hc3⟩:∃ b o,d=some ⟨b,o,none⟩∧b<w.heap.size∧Hid (∀ i j,i<x.hands.length→j<14→w.cell? ⟨b,o+i*14+j,none⟩=some (handF x.hands i j)):=by
    rcases H3.out with h0|h0
    · omega
    · exact h0
  have hLd:∀ W:World,hp W b3=hp w b3→(LHand (.pointer (some ⟨b3,o3+i*14,none⟩))).run Try.prog W=.ok (.agg (hvals (handAt x i))) W:=fun W e=>ldHandE _ fun j hj=>by rw [show (hvals (handAt x i)).getD j (.int .i64 0)=handF x.hands i j by simp [handF,handAt],← hc3.out i j hi hj];exact World.cell?_of_block e
  have hi0:(0:Int)≤(i:Int):=by omega
  have hi1:(i:Int)<(x.hands.length:Int):=by omega
  have e0:stopped x i=(x,false):=by simp at hp0;simp [stopped,hk,ht,hp0]
  rw [e0]
  have ht2:taskB x.hands.length i=true:=ht
  clear e0 ht
  go_enter Try.func5,Try.ntmps5
  go_wp2_with fail;refine bHit w (by exact zB) fun bb=>?_;refine (sWorldOk_any x a b _ e p q r s _ ((H1.out.below bb).more bb.size) ((H2.out.below bb).more bb.size) ((H3.out.below bb).more bb.size) ((H4.out.below bb).more bb.size) m3 m4).mono ?_;rintro _ w1 ⟨rfl,hbw1⟩;have hCw1:Below w.heap.size w w1:=bT bb hbw1;have hsw1:=hbw1.size;(try simp at hsw1);have zz:=And.intro (fun o=>hbw1.cell (p:=⟨w.heap.size+1,o,none⟩) (by (try simp) <;> omega)) <| And.intro (fun o=>hbw1.frozen (p:=⟨w.heap.size+1,o,none⟩) (by (try simp) <;> omega)) <| And.intro (fun o=>hbw1.cell (p:=⟨w.heap.size,o,none⟩) (by (try simp) <;> omega)) <| fun o=>hbw1.frozen (p:=⟨w.heap.size,o,none⟩) (by (try simp) <;> omega);(try simp [go_sem] at zz);(try clear x_wp f_wp);(try clear x_w f_w);obtain ⟨x_wp,f_wp,x_w,f_w⟩:=zz;(try clear l_wp);have l_wp:w.heap.size+1<w1.heap.size:=(by omega);(try clear l_w);have l_w:w.heap.size<w1.heap.size:=(by omega);clear hbw1 bb
  rw [hk]
  go_wp2_with fail;refine bHit w (by exact zB) fun bb=>?_;refine (l11Task_any x.ch x.hands.length x.now i _ _ _ _ _ _ _ _ _ _ _ m3 _).mono ?_;rintro _ w2 ⟨rfl,hbw2⟩;have hCw2:Below w.heap.size w w2:=bT bb hbw2;have hsw2:=hbw2.size;(try simp at hsw2);have zz:=And.intro (fun o=>hbw2.cell (p:=⟨w.heap.size+1,o,none⟩) (by (try simp) <;> omega)) <| And.intro (fun o=>hbw2.frozen (p:=⟨w.heap.size+1,o,none⟩) (by (try simp) <;> omega)) <| And.intro (fun o=>hbw2.cell (p:=⟨w.heap.size,o,none⟩) (by (try simp) <;> omega)) <| fun o=>hbw2.frozen (p:=⟨w.heap.size,o,none⟩) (by (try simp) <;> omega);(first|simp [go_sem,x_wp,f_wp,x_w,f_w,l_w,l_wp] at zz|simp [go_sem,x_wp,x_w,l_w,l_wp] at zz|simp [go_sem] at zz|skip);(try clear x_wp f_wp);(try clear x_w f_w);obtain ⟨x_wp,f_wp,x_w,f_w⟩:=zz;(try clear l_wp);have l_wp:w.heap.size+1<w2.heap.size:=(by omega);(try clear l_w);have l_w:w.heap.size<w2.heap.size:=(by omega);clear hbw2 bb
  rw [ht2]
  go_wp2_with fail;refine bHit w (by exact zB) fun bb=>?_;refine (l11Copy_any x a b _ e p q r s _ ((H1.out.below bb).more bb.size) Z1.out ((H2.out.below bb).more bb.size) Z2.out ((H3.out.below bb).more bb.size) Z3.out ((H4.out.below bb).more bb.size) Z4.out m1 m2 m3 m4).mono ?_;rintro _ w3 ⟨⟨v1,v2,v3,v4,rfl,o1,o2,o3x,o4⟩,hbw3⟩;have hCw3:Below w.heap.size w w3:=bT bb hbw3;have hsw3:=hbw3.size;(try simp at hsw3);have zz:=And.intro (fun o=>hbw3.cell (p:=⟨w.heap.size+1,o,none⟩) (by (try simp) <;> omega)) <| And.intro (fun o=>hbw3.frozen (p:=⟨w.heap.size+1,o,none⟩) (by (try simp) <;> omega)) <| And.intro (fun o=>hbw3.cell (p:=⟨w.heap.size,o,none⟩) (by (try simp) <;> omega)) <| fun o=>hbw3.frozen (p:=⟨w.heap.size,o,none⟩) (by (try simp) <;> omega);(first|simp [go_sem,x_wp,f_wp,x_w,f_w,l_w,l_wp] at zz|simp [go_sem,x_wp,x_w,l_w,l_wp] at zz|simp [go_sem] at zz|skip);(try clear x_wp f_wp);(try clear x_w f_w);obtain ⟨x_wp,f_wp,x_w,f_w⟩:=zz;(try clear l_wp);have l_wp:w.heap.size+1<w3.heap.size:=(by omega);(try clear l_w);have l_w:w.heap.size<w3.heap.size:=(by omega);clear hbw3 bb
  try simp at o1 o2 o3x o4
  have O1:=Lib.hid o1
  have O2:=Lib.hid o2
  have O3:=Lib.hid o3x
  have O4:=Lib.hid o4
  obtain ⟨va,vc,rfl,_⟩:=OCells.seg o1
  obtain ⟨vb,vd,rfl,_⟩:=OInts.seg o2
  obtain ⟨vf,vg,rfl,_⟩:=OHands.seg o3x
  obtain ⟨vh,vi,rfl,_⟩:=ODeals.seg o4
  clear o1 o2 o3x o4
  have z3:hp w3 b3=hp w b3:=hCw3.block b3 hb3
  have lb3:b3<w3.heap.size:=by omega
  have nb3:b3≠w3.heap.size:=by omega
  have c0:w3.cell? ⟨b3,o3+i*14,none⟩=some (.int .i64 (handAt x i).pos):=(hCw3.cell (p:=⟨b3,o3+i*14,none⟩) hb3).trans ((hc3.out i 0 hi (by omega)).trans (by simp [handF,handAt,hvals,Array.getD]))
  go_wp2
  have o1:=O1.out
  have o2:=O2.out
  have o3:=O3.out
  have o4:=O4.out
  refine bodyPost_ret (v:=.tuple #[.agg #[.int .i64 x.ch.cap,.int .i64 x.ch.sent,.int .i64 x.ch.got,.int .i64 x.ch.fin,.slice va x.ch.cells.length vc,.slice vb x.ch.words.length vd,.slice vf x.hands.length vg,.slice vh x.deals.length vi,.int .i64 (x.now)],.bool false]) (by simp [results,Try.results5,go_sem, *]) rfl ⟨⟨_,_,_,_,rfl,own_lo (lo:=w2.heap.size) ?_ (by omega),own_lo (lo:=w2.heap.size) ?_ (by omega),own_lo (lo:=w2.heap.size) ?_ (by omega),own_lo (lo:=w2.heap.size) ?_ (by omega)⟩,by exact zB⟩
  · exact zO o1 o1
  · exact zO o2 o2
  · exact zO o3 o3
  · exact zO o4 o4
end Go.Proofs.Ytmnpgkcdfielbaa
set_option linter.unusedSimpArgs false
set_option linter.unusedVariables false
namespace Go.Proofs.Ytmnpgkcdfielbaa
open Go.RowKit
set_option linter.unusedSimpArgs false
attribute [local simp] bx_size
attribute [local go_sem ↓] zeroHand toLHand toVHand toSHand storeHandC
attribute [local go_sem] runSHand
theorem tell_parts (c:Ch) (v x:Int):(tellC c v x).cells=c.cells∧(tellC c v x).cap=c.cap∧(tellC c v x).sent=c.sent∧(tellC c v x).got=c.got∧(tellC c v x).fin=c.fin:=by unfold tellC;split <;> simp
set_option maxRecDepth 100000 in
set_option maxHeartbeats 4000000 in
theorem stopped_on (x:Wo) (who:Int) (a b d e:Option Addr) (p q r s:Nat) (w:World) (h1:Seg w w.heap.size a x.ch.cells.length 3 (cellF x.ch.cells)) (z1:a=none→p=0) (h2:Seg w w.heap.size b x.ch.words.length 1 (intF x.ch.words)) (z2:b=none→q=0) (h3:Seg w w.heap.size d x.hands.length 14 (handF x.hands)) (z3:d=none→x.hands.length=0∧r=0) (h4:Seg w w.heap.size e x.deals.length 7 (dealF x.deals)) (z4:e=none→x.deals.length=0∧s=0) (m1:x.ch.cells.length≤1099511627776) (m2:x.ch.words.length≤1099511627776) (m3:x.hands.length≤1099511627776) (m4:x.deals.length≤1099511627776) (hk:worldOk x=true) (ht:taskOk x who=true) (hp0:((handAt x who).pos != 23)=false) :
    Calls Try.prog 5 #[.agg #[.int .i64 x.ch.cap,.int .i64 x.ch.sent,.int .i64 x.ch.got,.int .i64 x.ch.fin,.slice a x.ch.cells.length p,.slice b x.ch.words.length q,.slice d x.hands.length r,.slice e x.deals.length s,.int .i64 x.now],.int .i64 who] w fun r w'=>WordR w w' (stopped x who).1 (.bool (stopped x who).2) r:=by
  have H1:=Lib.hid h1
  have H2:=Lib.hid h2
  have H3:=Lib.hid h3
  have H4:=Lib.hid h4
  have Z1:=Lib.hid z1
  have Z2:=Lib.hid z2
  have Z3:=Lib.hid z3
  have Z4:=Lib.hid z4
  clear h1 h2 h3 h4 z1 z2 z3 z4
  obtain ⟨i,rfl⟩:∃ i:Nat,who=(i:Int):=⟨who.toNat,by simp [taskOk,taskB,inB] at ht;omega⟩
  have hi:i<x.hands.length:=by simp [taskOk,taskB,inB] at ht;omega
  obtain ⟨b3,o3,rfl,hb3,hc3⟩:∃ b o,d=some ⟨b,o,none⟩∧b<w.heap.size∧Hid (∀ i j,i<x.hands.length→j<14→w.cell? ⟨b,o+i*14+j,none⟩=some (handF x.hands i j)):=by
    rcases H3.out with h0|h0
    · omega
    · exact h0
  have hLd:∀ W:World,hp W b3=hp w b3→(LHand (.pointer (some ⟨b3,o3+i*14,none⟩))).run Try.prog W=.ok (.agg (hvals (handAt x i))) W:=fun W e=>ldHandE _ fun j hj=>by rw [show (hvals (handAt x i)).getD j (.int .i64 0)=handF x.hands i j by simp [handF,handAt],← hc3.out i j hi hj];exact World.cell?_of_block e
  have hi0:(0:Int)≤(i:Int):=by omega
  have hi1:(i:Int)<(x.hands.length:Int):=by omega
  have e0:stopped x i=({ x with ch:=tellC x.ch (handAt x i).mine 2 },tellB x.ch (handAt x i).mine 2):=by simp at hp0;simp [stopped,hk,ht,hp0]
  rw [e0]
  have ht2:taskB x.hands.length i=true:=ht
  clear e0 ht
  have FF:=Lib.hid (tell_parts x.ch (handAt x i).mine 2)
  have T:=Lib.hid fun a b p q W x1 x2 x3 x4=>l3Told_any x.ch (handAt x i).mine 2 a b p q W x1 x2 x3 x4 m1 m2
  go_enter Try.func5,Try.ntmps5
  go_wp2_with fail;refine bHit w (by exact zB) fun bb=>?_;refine (sWorldOk_any x a b _ e p q r s _ ((H1.out.below bb).more bb.size) ((H2.out.below bb).more bb.size) ((H3.out.below bb).more bb.size) ((H4.out.below bb).more bb.size) m3 m4).mono ?_;rintro _ w1 ⟨rfl,hbw1⟩;have hCw1:Below w.heap.size w w1:=bT bb hbw1;have hsw1:=hbw1.size;(try simp at hsw1);have zz:=And.intro (fun o=>hbw1.cell (p:=⟨w.heap.size+1,o,none⟩) (by (try simp) <;> omega)) <| And.intro (fun o=>hbw1.frozen (p:=⟨w.heap.size+1,o,none⟩) (by (try simp) <;> omega)) <| And.intro (fun o=>hbw1.cell (p:=⟨w.heap.size,o,none⟩) (by (try simp) <;> omega)) <| fun o=>hbw1.frozen (p:=⟨w.heap.size,o,none⟩) (by (try simp) <;> omega);(try simp [go_sem] at zz);(try clear x_wp f_wp);(try clear x_w f_w);obtain ⟨x_wp,f_wp,x_w,f_w⟩:=zz;(try clear l_wp);have l_wp:w.heap.size+1<w1.heap.size:=(by omega);(try clear l_w);have l_w:w.heap.size<w1.heap.size:=(by omega);clear hbw1 bb
  rw [hk]
  go_wp2_with fail;refine bHit w (by exact zB) fun bb=>?_;refine (l11Task_any x.ch x.hands.length x.now i _ _ _ _ _ _ _ _ _ _ _ m3 _).mono ?_;rintro _ w2 ⟨rfl,hbw2⟩;have hCw2:Below w.heap.size w w2:=bT bb hbw2;have hsw2:=hbw2.size;(try simp at hsw2);have zz:=And.intro (fun o=>hbw2.cell (p:=⟨w.heap.size+1,o,none⟩) (by (try simp) <;> omega)) <| And.intro (fun o=>hbw2.frozen (p:=⟨w.heap.size+1,o,none⟩) (by (try simp) <;> omega)) <| And.intro (fun o=>hbw2.cell (p:=⟨w.heap.size,o,none⟩) (by (try simp) <;> omega)) <| fun o=>hbw2.frozen (p:=⟨w.heap.size,o,none⟩) (by (try simp) <;> omega);(first|simp [go_sem,x_wp,f_wp,x_w,f_w,l_w,l_wp] at zz|simp [go_sem,x_wp,x_w,l_w,l_wp] at zz|simp [go_sem] at zz|skip);(try clear x_wp f_wp);(try clear x_w f_w);obtain ⟨x_wp,f_wp,x_w,f_w⟩:=zz;(try clear l_wp);have l_wp:w.heap.size+1<w2.heap.size:=(by omega);(try clear l_w);have l_w:w.heap.size<w2.heap.size:=(by omega);clear hbw2 bb
  rw [ht2]
  go_wp2_with fail;refine bHit w (by exact zB) fun bb=>?_;refine (l11Copy_any x a b _ e p q r s _ ((H1.out.below bb).more bb.size) Z1.out ((H2.out.below bb).more bb.size) Z2.out ((H3.out.below bb).more bb.size) Z3.out ((H4.out.below bb).more bb.size) Z4.out m1 m2 m3 m4).mono ?_;rintro _ w3 ⟨⟨v1,v2,v3,v4,rfl,o1,o2,o3x,o4⟩,hbw3⟩;have hCw3:Below w.heap.size w w3:=bT bb hbw3;have hsw3:=hbw3.size;(try simp at hsw3);have zz:=And.intro (fun o=>hbw3.cell (p:=⟨w.heap.size+1,o,none⟩) (by (try simp) <;> omega)) <| And.intro (fun o=>hbw3.frozen (p:=⟨w.heap.size+1,o,none⟩) (by (try simp) <;> omega)) <| And.intro (fun o=>hbw3.cell (p:=⟨w.heap.size,o,none⟩) (by (try simp) <;> omega)) <| fun o=>hbw3.frozen (p:=⟨w.heap.size,o,none⟩) (by (try simp) <;> omega);(first|simp [go_sem,x_wp,f_wp,x_w,f_w,l_w,l_wp] at zz|simp [go_sem,x_wp,x_w,l_w,l_wp] at zz|simp [go_sem] at zz|skip);(try clear x_wp f_wp);(try clear x_w f_w);obtain ⟨x_wp,f_wp,x_w,f_w⟩:=zz;(try clear l_wp);have l_wp:w.heap.size+1<w3.heap.size:=(by omega);(try clear l_w);have l_w:w.heap.size<w3.heap.size:=(by omega);clear hbw3 bb
  try simp at o1 o2 o3x o4
  have O1:=Lib.hid o1
  have O2:=Lib.hid o2
  have O3:=Lib.hid o3x
  have O4:=Lib.hid o4
  obtain ⟨va,vc,rfl,_⟩:=OCells.seg o1
  obtain ⟨vb,vd,rfl,_⟩:=OInts.seg o2
  obtain ⟨vf,vg,rfl,_⟩:=OHands.seg o3x
  obtain ⟨vh,vi,rfl,_⟩:=ODeals.seg o4
  clear o1 o2 o3x o4
  have z3:hp w3 b3=hp w b3:=hCw3.block b3 hb3
  have lb3:b3<w3.heap.size:=by omega
  have nb3:b3≠w3.heap.size:=by omega
  have c0:w3.cell? ⟨b3,o3+i*14,none⟩=some (.int .i64 (handAt x i).pos):=(hCw3.cell (p:=⟨b3,o3+i*14,none⟩) hb3).trans ((hc3.out i 0 hi (by omega)).trans (by simp [handF,handAt,hvals,Array.getD]))
  have c9:w3.cell? ⟨b3,o3+i*14+9,none⟩=some (.int .i64 (handAt x i).mine):=(hCw3.cell (p:=⟨b3,o3+i*14+9,none⟩) hb3).trans ((hc3.out i 9 hi (by omega)).trans (by simp [handF,handAt,hvals,Array.getD]))
  have k0:w.heap.size<w3.heap.size:=by omega
  have k1:w.heap.size+1<w3.heap.size:=by omega
  have lb4:b3<w3.heap.size+1:=by omega
  have nb4:b3≠w3.heap.size+1:=by omega
  go_wp2_with fail
  go_region_held3 (fun w'=>w'.cell? ⟨w.heap.size,0,none⟩=some (.int .i64 x.ch.cap)∧w'.cell? ⟨w.heap.size,1,none⟩=some (.int .i64 x.ch.sent)∧w'.cell? ⟨w.heap.size,2,none⟩=some (.int .i64 x.ch.got)∧w'.cell? ⟨w.heap.size,3,none⟩=some (.int .i64 x.ch.fin)∧w'.cell? ⟨w.heap.size,4,none⟩=some (.slice a x.ch.cells.length p)∧w'.cell? ⟨w.heap.size,5,none⟩=some (.slice b x.ch.words.length q)∧w'.cell? ⟨w.heap.size,6,none⟩=some (.slice (some ⟨b3,o3,none⟩) x.hands.length r)∧w'.cell? ⟨b3,o3+i*14+9,none⟩=some (.int .i64 (handAt x i).mine))
    (first|(simp [*,go_sem]))
    (first|(go_at_call 17;refine (T.out a b p q _ ((H1.out.below (by exact zB)).more (by (try simp) <;> omega)) Z1.out ((H2.out.below (by exact zB)).more (by (try simp) <;> omega)) Z2.out).mono ?_;rintro _ w4 ⟨⟨u1,u2,rfl,u3,u4⟩,hb4⟩;have hC4:Below w.heap.size w w4:=bT (by exact zB) hb4;have hK4:Below w3.heap.size w3 w4:=bT (by exact zB) hb4;have hs4:=hb4.size;(try simp at hs4);have x4:=fun o=>hb4.cell (p:=⟨w.heap.size,o,none⟩) (by ((try simp) <;> (try omega)));have y4:=fun o=>hb4.cell (p:=⟨w.heap.size+1,o,none⟩) (by ((try simp) <;> (try omega)));have yf4:=fun o=>hb4.frozen (p:=⟨w.heap.size+1,o,none⟩) (by ((try simp) <;> (try omega)));have v4:=fun o=>hb4.cell (p:=⟨w3.heap.size,o,none⟩) (by ((try simp) <;> (try omega)));have vf4:=fun o=>hb4.frozen (p:=⟨w3.heap.size,o,none⟩) (by ((try simp) <;> (try omega)));have t4:=fun o=>hb4.cell (p:=⟨w3.heap.size+1,o,none⟩);have tf4:=fun o=>hb4.frozen (p:=⟨w3.heap.size+1,o,none⟩);have m4:=hb4.cell (p:=⟨b3,o3+i*14+9,none⟩) (by ((try simp) <;> (try omega)));(simp [go_sem,x_w,l_w,k0] at x4);(simp [go_sem,x_wp,l_wp,k1] at y4);(simp [go_sem,f_wp,l_wp,k1] at yf4);(simp [go_sem] at v4);(simp [go_sem] at vf4);(simp [go_sem,lb3,c9] at m4);(try simp [go_sem] at t4);(try simp [go_sem] at tf4);have n0:w.heap.size<w4.heap.size:=(by omega);have n1:w.heap.size+1<w4.heap.size:=(by omega);have n2:w3.heap.size<w4.heap.size:=(by omega);have n3:b3<w4.heap.size:=(by omega);have n4:b3≠w4.heap.size:=(by omega);(try simp at u3 u4);have U3:=Lib.hid u3;have U4:=Lib.hid u4;obtain ⟨ua,uc,rfl,_⟩:=OCells.seg u3;obtain ⟨ub,ud,rfl,_⟩:=OInts.seg u4;clear u3 u4))
  all_goals go_wp2
  all_goals (have o1:=U3.out;have o2:=U4.out;have o3:=own_below O3.out hK4;have o4:=own_below O4.out hK4;have p1:=own_lo (lo':=w.heap.size) o1 (by omega);have p2:=own_lo (lo':=w.heap.size) o2 (by omega);have p3:=own_lo (lo':=w.heap.size) o3 (by omega);have p4:=own_lo (lo':=w.heap.size) o4 (by omega);have q3:=O3.out;have q4:=O4.out)
  all_goals (obtain ⟨f1,f2,f3,f4,f5⟩:=FF.out;unfold WordR WOwn;simp only [f1,f2,f3,f4,f5])
  all_goals (refine bodyPost_ret (v:=.tuple #[.agg #[.int .i64 x.ch.cap,.int .i64 x.ch.sent,.int .i64 x.ch.got,.int .i64 x.ch.fin,.slice ua x.ch.cells.length uc,.slice ub (tellC x.ch (handAt x i).mine 2).words.length ud,.slice vf x.hands.length vg,.slice vh x.deals.length vi,.int .i64 x.now],.bool (tellB x.ch (handAt x i).mine 2)]) (by simp [results,Try.results5,go_sem, *]) rfl ⟨⟨_,_,_,_,rfl,?_,?_,?_,?_⟩,by exact zB⟩)
  all_goals first|((repeat first|with_reducible exact p1|with_reducible refine oAl ?_ _|with_reducible refine oDr ?_|((with_reducible first|refine own_store ?_ ?_ _|refine own_box ?_ ?_);rotate_left;focus first|(refine own_ne o1 ?_;(try dsimp only);omega)|(refine own_ne' o1 ?_;(try dsimp only);omega)));done)|skip
  all_goals first|((repeat first|with_reducible exact p2|with_reducible refine oAl ?_ _|with_reducible refine oDr ?_|((with_reducible first|refine own_store ?_ ?_ _|refine own_box ?_ ?_);rotate_left;focus first|(refine own_ne o2 ?_;(try dsimp only);omega)|(refine own_ne' o2 ?_;(try dsimp only);omega)));done)|skip
  all_goals first|((repeat first|with_reducible exact p3|with_reducible refine oAl ?_ _|with_reducible refine oDr ?_|((with_reducible first|refine own_store ?_ ?_ _|refine own_box ?_ ?_);rotate_left;focus first|(refine own_ne q3 ?_;(try dsimp only);omega)|(refine own_ne' q3 ?_;(try dsimp only);omega)));done)|skip
  all_goals first|((repeat first|with_reducible exact p4|with_reducible refine oAl ?_ _|with_reducible refine oDr ?_|((with_reducible first|refine own_store ?_ ?_ _|refine own_box ?_ ?_);rotate_left;focus first|(refine own_ne q4 ?_;(try dsimp only);omega)|(refine own_ne' q4 ?_;(try dsimp only);omega)));done)|skip
end Go.Proofs.Ytmnpgkcdfielbaa
set_option linter.unusedSimpArgs false
set_option linter.unusedVariables false
namespace Go.Proofs.Ytmnpgkcdfielbaa
open Go.RowKit
set_option linter.unusedSimpArgs false
theorem sStopped_any (x:Wo) (who:Int) (a b d e:Option Addr) (p q r s:Nat) (w:World) (h1:Seg w w.heap.size a x.ch.cells.length 3 (cellF x.ch.cells)) (z1:a=none→p=0) (h2:Seg w w.heap.size b x.ch.words.length 1 (intF x.ch.words)) (z2:b=none→q=0) (h3:Seg w w.heap.size d x.hands.length 14 (handF x.hands)) (z3:d=none→x.hands.length=0∧r=0) (h4:Seg w w.heap.size e x.deals.length 7 (dealF x.deals)) (z4:e=none→x.deals.length=0∧s=0) (m1:x.ch.cells.length≤1099511627776) (m2:x.ch.words.length≤1099511627776) (m3:x.hands.length≤1099511627776) (m4:x.deals.length≤1099511627776) :
    Calls Try.prog 5 #[.agg #[.int .i64 x.ch.cap,.int .i64 x.ch.sent,.int .i64 x.ch.got,.int .i64 x.ch.fin,.slice a x.ch.cells.length p,.slice b x.ch.words.length q,.slice d x.hands.length r,.slice e x.deals.length s,.int .i64 x.now],.int .i64 who] w fun r w'=>WordR w w' (stopped x who).1 (.bool (stopped x who).2) r:=by
  cases hk:worldOk x with
  | false=>exact stopped_no1 x who a b d e p q r s w h1 z1 h2 z2 h3 z3 h4 z4 m1 m2 m3 m4 hk
  | true =>
    cases ht:taskOk x who with
    | false=>exact stopped_no2 x who a b d e p q r s w h1 z1 h2 z2 h3 z3 h4 z4 m1 m2 m3 m4 hk ht
    | true =>
      cases hp:(handAt x who).pos != 23 with
      | true=>exact stopped_off x who a b d e p q r s w h1 z1 h2 z2 h3 z3 h4 z4 m1 m2 m3 m4 hk ht hp
      | false=>exact stopped_on x who a b d e p q r s w h1 z1 h2 z2 h3 z3 h4 z4 m1 m2 m3 m4 hk ht hp
end Go.Proofs.Ytmnpgkcdfielbaa
