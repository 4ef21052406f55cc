/-
  A step of a world that ends, of the reference model; lists lie in memory and hold at most 2 ^ 40 elements.
-/
import Derived.Test.YthdjlpkcmhajlaaGreatP19
set_option linter.unusedSimpArgs false
set_option linter.unusedVariables false
namespace Go.Proofs.YthdjlpkcmhajlaaGreat
open Go.RowKit
set_option linter.unusedSimpArgs false
attribute [local simp] bx_size
attribute [local go_sem ↓] zeroHand toLHand toVHand toSHand storeHandC
attribute [local go_sem] runSHand
attribute [local go_sem] se_cell se_frozen setElem_size
set_option maxRecDepth 100000 in
set_option maxHeartbeats 4000000 in
theorem l11step_full (x:Wo) (who:Int) (S:St) (a b d e:Option Addr) (p q r s:Nat) (w:World) (h1:Seg w w.heap.size a x.ch.cells.length 3 (cellF x.ch.cells)) (z1:a=none→p=0) (h2:Seg w w.heap.size b x.ch.words.length 1 (intF x.ch.words)) (z2:b=none→q=0) (h3:Seg w w.heap.size d x.hands.length 14 (handF x.hands)) (z3:d=none→x.hands.length=0∧r=0) (h4:Seg w w.heap.size e x.deals.length 7 (dealF x.deals)) (z4:e=none→x.deals.length=0∧s=0) (m1:x.ch.cells.length≤1099511627776) (m2:x.ch.words.length≤1099511627776) (m3:x.hands.length≤1099511627776) (m4:x.deals.length≤1099511627776) (ht:taskOk x who=true) (hS:stepC x.ch (handAt x who)=S) (hc:S.2.2=true) (hn:(x.now == 20000)=false) (hnr:0≤x.now∧x.now≤20000) (hx:(S.2.1.pos != 0)=false) (hf:decide (1000≤x.deals.length)=true) :
    Calls Tryz.prog 40 #[.agg #[.int .i64 x.ch.cap,.int .i64 x.ch.sent,.int .i64 x.ch.got,.int .i64 x.ch.fin,.slice a x.ch.cells.length p,.slice b x.ch.words.length q,.slice d x.hands.length r,.slice e x.deals.length s,.int .i64 x.now],.int .i64 who] w fun r w'=>WordR w w' (stepW x who S).1 (.bool (stepW x who S).2) r:=by
  have H1:=Lib.hid h1
  have H2:=Lib.hid h2
  have H3:=Lib.hid h3
  have H4:=Lib.hid h4
  have Z1:=Lib.hid z1
  have Z2:=Lib.hid z2
  have Z3:=Lib.hid z3
  have Z4:=Lib.hid z4
  clear h1 h2 h3 h4 z1 z2 z3 z4
  obtain ⟨i,rfl⟩:∃ i:Nat,who=(i:Int):=⟨who.toNat,by simp [taskOk,taskB,inB] at ht;omega⟩
  have hi:i<x.hands.length:=by simp [taskOk,taskB,inB] at ht;omega
  obtain ⟨b3,o3,rfl,hb3,hc3⟩:∃ b o,d=some ⟨b,o,none⟩∧b<w.heap.size∧Hid (∀ i j,i<x.hands.length→j<14→w.cell? ⟨b,o+i*14+j,none⟩=some (handF x.hands i j)):=by
    rcases H3.out with h0|h0
    · omega
    · exact h0
  have hLd:∀ W:World,hp W b3=hp w b3→(LHand (.pointer (some ⟨b3,o3+i*14,none⟩))).run Tryz.prog W=.ok (.agg (hvals (handAt x i))) W:=fun W e=>ldHandE _ fun j hj=>by rw [show (hvals (handAt x i)).getD j (.int .i64 0)=handF x.hands i j by simp [handF,handAt],← hc3.out i j hi hj];exact World.cell?_of_block e
  have hi0:(0:Int)≤(i:Int):=by omega
  have hi1:(i:Int)<(x.hands.length:Int):=by omega
  have e0:stepW x i S=(x,false):=by simp at hn hx hf;simp [stepW,hc,hn,hx,hf]
  rw [e0]
  clear e0
  have T:=Lib.hid fun a b p q W=>sStep_any x.ch (handAt x i) a b p q W
  rw [hS] at T
  clear hS
  have lb1:b3<w.heap.size+1:=by omega
  have lb2:b3<w.heap.size+1+1:=by omega
  have nb1:b3≠w.heap.size:=by omega
  have nb2:b3≠w.heap.size+1:=by omega
  go_enter Tryz.func40,Tryz.ntmps40
  go_wp2_with fail;refine bHit w (by exact zB) fun bb=>?_;refine (T.out a b p q _ ((H1.out.below bb).more bb.size) Z1.out ((H2.out.below bb).more bb.size) Z2.out).mono ?_;rintro _ w2 ⟨⟨y1,y2,rfl,oY1,oY2,_,_⟩,hbw2⟩;have hCw2:Below w.heap.size w w2:=bT bb hbw2;have hsw2:=hbw2.size;(try simp at hsw2);have zz:=And.intro (hQ hbw2 (b:=w.heap.size+1+1)) <| And.intro (hQ hbw2 (b:=w.heap.size+1)) <| hQ hbw2 (b:=w.heap.size);(try simp [go_sem] at zz);(try clear z_wpp x_wpp f_wpp l_wpp);(try clear z_wp x_wp f_wp l_wp);(try clear z_w x_w f_w l_w);obtain ⟨z_wpp,z_wp,z_w⟩:=zz;obtain ⟨x_wpp,f_wpp,l_wpp⟩:=bO z_wpp;obtain ⟨x_wp,f_wp,l_wp⟩:=bO z_wp;obtain ⟨x_w,f_w,l_w⟩:=bO z_w;clear hbw2 bb
  try simp at oY1 oY2
  have U1:=Lib.hid oY1
  have U2:=Lib.hid oY2
  obtain ⟨ya,yc,rfl,_⟩:=OCells.seg oY1
  obtain ⟨yb,yd,rfl,_⟩:=OInts.seg oY2
  clear oY1 oY2
  simp only [cvals]
  have z2:hp w2 b3=hp w b3:=hCw2.block b3 hb3
  have lb3:b3<w2.heap.size:=by omega
  have nb3:b3≠w2.heap.size:=by omega
  have nb4:b3≠w2.heap.size+1:=by omega
  have lb4:b3<w2.heap.size+1:=by omega
  rw [hc]
  go_wp2_with fail;refine bHit w (by exact zB) fun bb=>?_;refine bHit w2 (by exact zB) fun bk=>?_;refine (l11Copy_any x a b _ e p q r s _ ((H1.out.below bb).more bb.size) Z1.out ((H2.out.below bb).more bb.size) Z2.out ((H3.out.below bb).more bb.size) Z3.out ((H4.out.below bb).more bb.size) Z4.out m1 m2 m3 m4).mono ?_;rintro _ w3 ⟨⟨v1,v2,v3,v4,rfl,o1,o2,o3x,o4⟩,hbw3⟩;have hCw3:Below w.heap.size w w3:=bT bb hbw3;have hsw3:=hbw3.size;(try simp at hsw3);have zz:=And.intro (hQ hbw3 (b:=w2.heap.size+1)) <| And.intro (hQ hbw3 (b:=w2.heap.size)) <| And.intro (hQ hbw3 (b:=w.heap.size+1+1)) <| And.intro (hQ hbw3 (b:=w.heap.size+1)) <| hQ hbw3 (b:=w.heap.size);(first|simp [go_sem,z_wpp,z_wp,z_w,l_w,l_wp,l_wpp] at zz|simp [go_sem] at zz|skip);(try clear z_w2p x_w2p f_w2p l_w2p);(try clear z_w2 x_w2 f_w2 l_w2);(try clear z_wpp x_wpp f_wpp l_wpp);(try clear z_wp x_wp f_wp l_wp);(try clear z_w x_w f_w l_w);obtain ⟨z_w2p,z_w2,z_wpp,z_wp,z_w⟩:=zz;obtain ⟨x_w2p,f_w2p,l_w2p⟩:=bO z_w2p;obtain ⟨x_w2,f_w2,l_w2⟩:=bO z_w2;obtain ⟨x_wpp,f_wpp,l_wpp⟩:=bO z_wpp;obtain ⟨x_wp,f_wp,l_wp⟩:=bO z_wp;obtain ⟨x_w,f_w,l_w⟩:=bO z_w;have hKw3:Below w2.heap.size w2 w3:=bT bk hbw3;clear hbw3 bb bk
  try simp at o1 o2 o3x o4
  have O1:=Lib.hid o1
  have O2:=Lib.hid o2
  have O3:=Lib.hid o3x
  have O4:=Lib.hid o4
  obtain ⟨va,vc,rfl,_⟩:=OCells.seg o1
  obtain ⟨vb,vd,rfl,_⟩:=OInts.seg o2
  obtain ⟨g,vg,rfl,hlo,lg,hgc,hgf⟩:=OHands.open1 o3x hi
  obtain ⟨vh,vi,rfl,_⟩:=ODeals.seg o4
  clear o1 o2 o3x o4
  have z3:hp w3 b3=hp w b3:=hCw3.block b3 hb3
  have ng0:g≠w.heap.size:=by omega
  have mg0:w.heap.size≠g:=by omega
  have ng1:g≠w.heap.size+1:=by omega
  have mg1:w.heap.size+1≠g:=by omega
  have ng2:g≠w.heap.size+1+1:=by omega
  have mg2:w.heap.size+1+1≠g:=by omega
  have ng3:g≠w2.heap.size:=by omega
  have mg3:w2.heap.size≠g:=by omega
  have ng4:g≠w2.heap.size+1:=by omega
  have mg4:w2.heap.size+1≠g:=by omega
  have ng5:g≠w3.heap.size:=by omega
  have mg5:w3.heap.size≠g:=by omega
  have gt0:w.heap.size<g:=by omega
  have gt1:w.heap.size+1<g:=by omega
  have gt2:w.heap.size+1+1<g:=by omega
  have gt3:w2.heap.size<g:=by omega
  have gt4:w2.heap.size+1<g:=by omega
  have lg1:g<w3.heap.size+1:=by omega
  have hSt:∀ (W:World) (y:Ha),hp W g=hp w3 g→(SHand (.pointer (some ⟨g,i*14,none⟩)) (.agg (hvals y))).run Tryz.prog W=.ok () (setElem W g (i*14) y):=fun W y e=>stHandE y (fun j hj=>⟨_,(World.cell?_of_block (show W.heap[g]?=w3.heap[g]? from e)).trans (hgc j hj)⟩) (fun j=>(World.frozen?_of_block (show W.heap[g]?=w3.heap[g]? from e)).trans (hgf j))
  have hf2:(1000:Int)≤(x.deals.length:Int):=by simp at hf;omega
  go_wp2_with fail
  obtain ⟨w5,hw5⟩:∃ w5,w5=setElem (w3.alloc (.cells #[.int .i64 S.1.cap,.int .i64 S.1.sent,.int .i64 S.1.got,.int .i64 S.1.fin,.slice ya S.1.cells.length yc,.slice yb S.1.words.length yd,.slice (some ⟨g,0,none⟩) x.hands.length vg,.slice vh x.deals.length vi,.int .i64 (x.now+1)] 69)) g (i*14) S.2.1:=⟨_,rfl⟩
  rw [← hw5]
  have x_w3:∀ o,w5.cell? ⟨w3.heap.size,o,none⟩=#[Value.int .i64 S.1.cap,.int .i64 S.1.sent,.int .i64 S.1.got,.int .i64 S.1.fin,.slice ya S.1.cells.length yc,.slice yb S.1.words.length yd,.slice (some ⟨g,0,none⟩) x.hands.length vg,.slice vh x.deals.length vi,.int .i64 (x.now+1)][o]?:=fun o=>by rw [hw5];simp [go_sem, *]
  have f_w3:∀ o,w5.frozen? ⟨w3.heap.size,o,none⟩=false:=fun o=>by rw [hw5];simp [go_sem, *]
  have z_w3:hp w5 w3.heap.size=some (.cells #[.int .i64 S.1.cap,.int .i64 S.1.sent,.int .i64 S.1.got,.int .i64 S.1.fin,.slice ya S.1.cells.length yc,.slice yb S.1.words.length yd,.slice (some ⟨g,0,none⟩) x.hands.length vg,.slice vh x.deals.length vi,.int .i64 (x.now+1)] 69):=by
    rw [hw5]
    exact (grHp (setElem_gr _ g (i*14) S.2.1) (by simp) (by simpa using mg5)).trans (heap_alloc_new w3 _)
  have hG5:w3.grownBy w5 (some g):=by rw [hw5];exact gT (gA (gR _ _)) (setElem_gr _ g (i*14) S.2.1)
  have l_w3:w3.heap.size<w5.heap.size:=by rw [hw5,setElem_size];simp
  have hs5:w3.heap.size+1≤w5.heap.size:=l_w3
  have sb0:some (w.heap.size)≠some g:=by simpa using mg0
  have sb1:some (w.heap.size+1)≠some g:=by simpa using mg1
  have sb2:some (w.heap.size+1+1)≠some g:=by simpa using mg2
  have sb3:some (w2.heap.size)≠some g:=by simpa using mg3
  have sb4:some (w2.heap.size+1)≠some g:=by simpa using mg4
  have o1:=own_below U1.out hKw3
  have o2:=own_below U2.out hKw3
  have o3:=O3.out
  have o4:=O4.out
  have e1:=off_some (g:=g) (own_off_ty o1 o3 (by decide)) rfl
  have e2:=off_some (g:=g) (own_off_ty o2 o3 (by decide)) rfl
  have e4:=off_some (g:=g) (own_off_ty o4 o3 (by decide)) rfl
  have r1:=o1.kept hG5 (.inr e1)
  have r2:=o2.kept hG5 (.inr e2)
  have r4:=o4.kept hG5 (.inr e4)
  have r3:OHands w5 (w2.heap.size+1+1) (.slice (some ⟨g,0,none⟩) x.hands.length vg) (x.hands.set i S.2.1):=by rw [hw5];exact OHands.set (World.ownsRow.alloc o3 _) hi _
  have R1:=Lib.hid r1
  have R2:=Lib.hid r2
  have R3:=Lib.hid r3
  have R4:=Lib.hid r4
  have B5:Below w.heap.size w w5:=bOwn hCw3 hG5 (by omega) (fun k hk=>by simp at hk;omega)
  have b4:∀ j,(Value.slice vh x.deals.length vi).ownBlock=some j→w2.heap.size+1+1≤j∧j<w3.heap.size:=fun j hj=>o4.lt j hj
  have nn1:(Value.slice ya S.1.cells.length yc).ownBlock≠some w3.heap.size:=fun e=>by have:=(o1.lt _ e).2;omega
  have nn2:(Value.slice yb S.1.words.length yd).ownBlock≠some w3.heap.size:=fun e=>by have:=(o2.lt _ e).2;omega
  have nn3:(Value.slice (some ⟨g,0,none⟩) x.hands.length vg).ownBlock≠some w3.heap.size:=fun e=>by have:=(o3.lt _ e).2;omega
  clear hw5 o1 o2 o3 o4 r1 r2 r3 r4 e1 e2 e4 O1 O2 O3 O4 U1 U2 hSt hgc hgf hCw3 hKw3
  have hsw5:=hG5.size;(try (simp at hsw5));have zz:=And.intro (grHp hG5 (b:=w2.heap.size+1) (by (try simp) <;> omega) (by assumption)) <| And.intro (grHp hG5 (b:=w2.heap.size) (by (try simp) <;> omega) (by assumption)) <| And.intro (grHp hG5 (b:=w.heap.size+1+1) (by (try simp) <;> omega) (by assumption)) <| And.intro (grHp hG5 (b:=w.heap.size+1) (by (try simp) <;> omega) (by assumption)) <| grHp hG5 (b:=w.heap.size) (by (try simp) <;> omega) (by assumption);(first|simp [go_sem,z_w2p,z_w2,z_wpp,z_wp,z_w,l_w,l_w2,l_w2p,l_wp,l_wpp] at zz|simp [go_sem] at zz|skip);(try clear z_w2p x_w2p f_w2p l_w2p);(try clear z_w2 x_w2 f_w2 l_w2);(try clear z_wpp x_wpp f_wpp l_wpp);(try clear z_wp x_wp f_wp l_wp);(try clear z_w x_w f_w l_w);obtain ⟨z_w2p,z_w2,z_wpp,z_wp,z_w⟩:=zz;obtain ⟨x_w2p,f_w2p,l_w2p⟩:=bO z_w2p;obtain ⟨x_w2,f_w2,l_w2⟩:=bO z_w2;obtain ⟨x_wpp,f_wpp,l_wpp⟩:=bO z_wpp;obtain ⟨x_wp,f_wp,l_wp⟩:=bO z_wp;obtain ⟨x_w,f_w,l_w⟩:=bO z_w
  clear hG5
  go_wp2_with fail;refine bHit w (by exact zB) fun bb=>?_;refine (l11Copy_any x a b _ e p q r s _ ((H1.out.below bb).more bb.size) Z1.out ((H2.out.below bb).more bb.size) Z2.out ((H3.out.below bb).more bb.size) Z3.out ((H4.out.below bb).more bb.size) Z4.out m1 m2 m3 m4).mono ?_;rintro _ w7 ⟨⟨v1,v2,v3,v4,rfl,u1,u2,u3x,u4⟩,hbw7⟩;have hCw7:Below w.heap.size w w7:=bT bb hbw7;have hsw7:=hbw7.size;(try simp at hsw7);have zz:=And.intro (fun o=>hbw7.cell (p:=⟨w.heap.size+1+1,o,none⟩) (by (try simp) <;> omega)) <| And.intro (fun o=>hbw7.frozen (p:=⟨w.heap.size+1+1,o,none⟩) (by (try simp) <;> omega)) <| And.intro (fun o=>hbw7.cell (p:=⟨w.heap.size+1,o,none⟩) (by (try simp) <;> omega)) <| And.intro (fun o=>hbw7.frozen (p:=⟨w.heap.size+1,o,none⟩) (by (try simp) <;> omega)) <| And.intro (fun o=>hbw7.cell (p:=⟨w.heap.size,o,none⟩) (by (try simp) <;> omega)) <| fun o=>hbw7.frozen (p:=⟨w.heap.size,o,none⟩) (by (try simp) <;> omega);(first|simp [go_sem,x_wpp,f_wpp,x_wp,f_wp,x_w,f_w,l_w,l_wp,l_wpp] at zz|simp [go_sem,x_wpp,x_wp,x_w,l_w,l_wp,l_wpp] at zz|simp [go_sem] at zz|skip);(try clear x_wpp f_wpp);(try clear x_wp f_wp);(try clear x_w f_w);obtain ⟨x_wpp,f_wpp,x_wp,f_wp,x_w,f_w⟩:=zz;(try clear l_wpp);have l_wpp:w.heap.size+1+1<w7.heap.size:=(by omega);(try clear l_wp);have l_wp:w.heap.size+1<w7.heap.size:=(by omega);(try clear l_w);have l_w:w.heap.size<w7.heap.size:=(by omega);clear hbw7 bb
  try simp at u1 u2 u3x u4
  have O1:=Lib.hid u1
  have O2:=Lib.hid u2
  have O3:=Lib.hid u3x
  have O4:=Lib.hid u4
  obtain ⟨va,vc,rfl,_⟩:=OCells.seg u1
  obtain ⟨vb,vd,rfl,_⟩:=OInts.seg u2
  obtain ⟨vf,vg,rfl,_⟩:=OHands.seg u3x
  obtain ⟨vh,vi,rfl,_⟩:=ODeals.seg u4
  clear u1 u2 u3x u4
  go_wp2
  have o1:=O1.out
  have o2:=O2.out
  have o3:=O3.out
  have o4:=O4.out
  refine bodyPost_ret (v:=.tuple #[.agg #[.int .i64 x.ch.cap,.int .i64 x.ch.sent,.int .i64 x.ch.got,.int .i64 x.ch.fin,.slice va x.ch.cells.length vc,.slice vb x.ch.words.length vd,.slice vf x.hands.length vg,.slice vh x.deals.length vi,.int .i64 (x.now)],.bool false]) (by simp [results,Tryz.results40,go_sem, *]) rfl ⟨⟨_,_,_,_,rfl,own_lo (lo:=w5.heap.size) ?_ (by omega),own_lo (lo:=w5.heap.size) ?_ (by omega),own_lo (lo:=w5.heap.size) ?_ (by omega),own_lo (lo:=w5.heap.size) ?_ (by omega)⟩,by exact zB⟩
  · exact zO o1 o1
  · exact zO o2 o2
  · exact zO o3 o3
  · exact zO o4 o4
set_option maxRecDepth 100000 in
set_option maxHeartbeats 4000000 in
theorem l11step_unfit (x:Wo) (who:Int) (S:St) (a b d e:Option Addr) (p q r s:Nat) (w:World) (h1:Seg w w.heap.size a x.ch.cells.length 3 (cellF x.ch.cells)) (z1:a=none→p=0) (h2:Seg w w.heap.size b x.ch.words.length 1 (intF x.ch.words)) (z2:b=none→q=0) (h3:Seg w w.heap.size d x.hands.length 14 (handF x.hands)) (z3:d=none→x.hands.length=0∧r=0) (h4:Seg w w.heap.size e x.deals.length 7 (dealF x.deals)) (z4:e=none→x.deals.length=0∧s=0) (m1:x.ch.cells.length≤1099511627776) (m2:x.ch.words.length≤1099511627776) (m3:x.hands.length≤1099511627776) (m4:x.deals.length≤1099511627776) (ht:taskOk x who=true) (hS:stepC x.ch (handAt x who)=S) (hc:S.2.2=true) (hn:(x.now == 20000)=false) (hnr:0≤x.now∧x.now≤20000) (hx:(S.2.1.pos != 0)=false) (hf:decide (1000≤x.deals.length)=false) (hr:replyOk (handAt x who).code (handAt x who).elem S.2.1.reply=false) :
    Calls Tryz.prog 40 #[.agg #[.int .i64 x.ch.cap,.int .i64 x.ch.sent,.int .i64 x.ch.got,.int .i64 x.ch.fin,.slice a x.ch.cells.length p,.slice b x.ch.words.length q,.slice d x.hands.length r,.slice e x.deals.length s,.int .i64 x.now],.int .i64 who] w fun r w'=>WordR w w' (stepW x who S).1 (.bool (stepW x who S).2) r:=by
  have H1:=Lib.hid h1
  have H2:=Lib.hid h2
  have H3:=Lib.hid h3
  have H4:=Lib.hid h4
  have Z1:=Lib.hid z1
  have Z2:=Lib.hid z2
  have Z3:=Lib.hid z3
  have Z4:=Lib.hid z4
  clear h1 h2 h3 h4 z1 z2 z3 z4
  obtain ⟨i,rfl⟩:∃ i:Nat,who=(i:Int):=⟨who.toNat,by simp [taskOk,taskB,inB] at ht;omega⟩
  have hi:i<x.hands.length:=by simp [taskOk,taskB,inB] at ht;omega
  obtain ⟨b3,o3,rfl,hb3,hc3⟩:∃ b o,d=some ⟨b,o,none⟩∧b<w.heap.size∧Hid (∀ i j,i<x.hands.length→j<14→w.cell? ⟨b,o+i*14+j,none⟩=some (handF x.hands i j)):=by
    rcases H3.out with h0|h0
    · omega
    · exact h0
  have hLd:∀ W:World,hp W b3=hp w b3→(LHand (.pointer (some ⟨b3,o3+i*14,none⟩))).run Tryz.prog W=.ok (.agg (hvals (handAt x i))) W:=fun W e=>ldHandE _ fun j hj=>by rw [show (hvals (handAt x i)).getD j (.int .i64 0)=handF x.hands i j by simp [handF,handAt],← hc3.out i j hi hj];exact World.cell?_of_block e
  have hi0:(0:Int)≤(i:Int):=by omega
  have hi1:(i:Int)<(x.hands.length:Int):=by omega
  have e0:stepW x i S=(x,false):=by simp at hn hx hf;simp [stepW,hc,hn,hx,hf,hr]
  rw [e0]
  clear e0
  have T:=Lib.hid fun a b p q W=>sStep_any x.ch (handAt x i) a b p q W
  rw [hS] at T
  clear hS
  have lb1:b3<w.heap.size+1:=by omega
  have lb2:b3<w.heap.size+1+1:=by omega
  have nb1:b3≠w.heap.size:=by omega
  have nb2:b3≠w.heap.size+1:=by omega
  go_enter Tryz.func40,Tryz.ntmps40
  go_wp2_with fail;refine bHit w (by exact zB) fun bb=>?_;refine (T.out a b p q _ ((H1.out.below bb).more bb.size) Z1.out ((H2.out.below bb).more bb.size) Z2.out).mono ?_;rintro _ w2 ⟨⟨y1,y2,rfl,oY1,oY2,_,_⟩,hbw2⟩;have hCw2:Below w.heap.size w w2:=bT bb hbw2;have hsw2:=hbw2.size;(try simp at hsw2);have zz:=And.intro (hQ hbw2 (b:=w.heap.size+1+1)) <| And.intro (hQ hbw2 (b:=w.heap.size+1)) <| hQ hbw2 (b:=w.heap.size);(try simp [go_sem] at zz);(try clear z_wpp x_wpp f_wpp l_wpp);(try clear z_wp x_wp f_wp l_wp);(try clear z_w x_w f_w l_w);obtain ⟨z_wpp,z_wp,z_w⟩:=zz;obtain ⟨x_wpp,f_wpp,l_wpp⟩:=bO z_wpp;obtain ⟨x_wp,f_wp,l_wp⟩:=bO z_wp;obtain ⟨x_w,f_w,l_w⟩:=bO z_w;clear hbw2 bb
  try simp at oY1 oY2
  have U1:=Lib.hid oY1
  have U2:=Lib.hid oY2
  obtain ⟨ya,yc,rfl,_⟩:=OCells.seg oY1
  obtain ⟨yb,yd,rfl,_⟩:=OInts.seg oY2
  clear oY1 oY2
  simp only [cvals]
  have z2:hp w2 b3=hp w b3:=hCw2.block b3 hb3
  have lb3:b3<w2.heap.size:=by omega
  have nb3:b3≠w2.heap.size:=by omega
  have nb4:b3≠w2.heap.size+1:=by omega
  have lb4:b3<w2.heap.size+1:=by omega
  rw [hc]
  go_wp2_with fail;refine bHit w (by exact zB) fun bb=>?_;refine bHit w2 (by exact zB) fun bk=>?_;refine (l11Copy_any x a b _ e p q r s _ ((H1.out.below bb).more bb.size) Z1.out ((H2.out.below bb).more bb.size) Z2.out ((H3.out.below bb).more bb.size) Z3.out ((H4.out.below bb).more bb.size) Z4.out m1 m2 m3 m4).mono ?_;rintro _ w3 ⟨⟨v1,v2,v3,v4,rfl,o1,o2,o3x,o4⟩,hbw3⟩;have hCw3:Below w.heap.size w w3:=bT bb hbw3;have hsw3:=hbw3.size;(try simp at hsw3);have zz:=And.intro (hQ hbw3 (b:=w2.heap.size+1)) <| And.intro (hQ hbw3 (b:=w2.heap.size)) <| And.intro (hQ hbw3 (b:=w.heap.size+1+1)) <| And.intro (hQ hbw3 (b:=w.heap.size+1)) <| hQ hbw3 (b:=w.heap.size);(first|simp [go_sem,z_wpp,z_wp,z_w,l_w,l_wp,l_wpp] at zz|simp [go_sem] at zz|skip);(try clear z_w2p x_w2p f_w2p l_w2p);(try clear z_w2 x_w2 f_w2 l_w2);(try clear z_wpp x_wpp f_wpp l_wpp);(try clear z_wp x_wp f_wp l_wp);(try clear z_w x_w f_w l_w);obtain ⟨z_w2p,z_w2,z_wpp,z_wp,z_w⟩:=zz;obtain ⟨x_w2p,f_w2p,l_w2p⟩:=bO z_w2p;obtain ⟨x_w2,f_w2,l_w2⟩:=bO z_w2;obtain ⟨x_wpp,f_wpp,l_wpp⟩:=bO z_wpp;obtain ⟨x_wp,f_wp,l_wp⟩:=bO z_wp;obtain ⟨x_w,f_w,l_w⟩:=bO z_w;have hKw3:Below w2.heap.size w2 w3:=bT bk hbw3;clear hbw3 bb bk
  try simp at o1 o2 o3x o4
  have O1:=Lib.hid o1
  have O2:=Lib.hid o2
  have O3:=Lib.hid o3x
  have O4:=Lib.hid o4
  obtain ⟨va,vc,rfl,_⟩:=OCells.seg o1
  obtain ⟨vb,vd,rfl,_⟩:=OInts.seg o2
  obtain ⟨g,vg,rfl,hlo,lg,hgc,hgf⟩:=OHands.open1 o3x hi
  obtain ⟨vh,vi,rfl,_⟩:=ODeals.seg o4
  clear o1 o2 o3x o4
  have z3:hp w3 b3=hp w b3:=hCw3.block b3 hb3
  have ng0:g≠w.heap.size:=by omega
  have mg0:w.heap.size≠g:=by omega
  have ng1:g≠w.heap.size+1:=by omega
  have mg1:w.heap.size+1≠g:=by omega
  have ng2:g≠w.heap.size+1+1:=by omega
  have mg2:w.heap.size+1+1≠g:=by omega
  have ng3:g≠w2.heap.size:=by omega
  have mg3:w2.heap.size≠g:=by omega
  have ng4:g≠w2.heap.size+1:=by omega
  have mg4:w2.heap.size+1≠g:=by omega
  have ng5:g≠w3.heap.size:=by omega
  have mg5:w3.heap.size≠g:=by omega
  have gt0:w.heap.size<g:=by omega
  have gt1:w.heap.size+1<g:=by omega
  have gt2:w.heap.size+1+1<g:=by omega
  have gt3:w2.heap.size<g:=by omega
  have gt4:w2.heap.size+1<g:=by omega
  have lg1:g<w3.heap.size+1:=by omega
  have hSt:∀ (W:World) (y:Ha),hp W g=hp w3 g→(SHand (.pointer (some ⟨g,i*14,none⟩)) (.agg (hvals y))).run Tryz.prog W=.ok () (setElem W g (i*14) y):=fun W y e=>stHandE y (fun j hj=>⟨_,(World.cell?_of_block (show W.heap[g]?=w3.heap[g]? from e)).trans (hgc j hj)⟩) (fun j=>(World.frozen?_of_block (show W.heap[g]?=w3.heap[g]? from e)).trans (hgf j))
  have hf2:¬ (1000:Int)≤(x.deals.length:Int):=by simp at hf;omega
  go_wp2_with fail
  obtain ⟨w5,hw5⟩:∃ w5,w5=setElem (w3.alloc (.cells #[.int .i64 S.1.cap,.int .i64 S.1.sent,.int .i64 S.1.got,.int .i64 S.1.fin,.slice ya S.1.cells.length yc,.slice yb S.1.words.length yd,.slice (some ⟨g,0,none⟩) x.hands.length vg,.slice vh x.deals.length vi,.int .i64 (x.now+1)] 69)) g (i*14) S.2.1:=⟨_,rfl⟩
  rw [← hw5]
  have x_w3:∀ o,w5.cell? ⟨w3.heap.size,o,none⟩=#[Value.int .i64 S.1.cap,.int .i64 S.1.sent,.int .i64 S.1.got,.int .i64 S.1.fin,.slice ya S.1.cells.length yc,.slice yb S.1.words.length yd,.slice (some ⟨g,0,none⟩) x.hands.length vg,.slice vh x.deals.length vi,.int .i64 (x.now+1)][o]?:=fun o=>by rw [hw5];simp [go_sem, *]
  have f_w3:∀ o,w5.frozen? ⟨w3.heap.size,o,none⟩=false:=fun o=>by rw [hw5];simp [go_sem, *]
  have z_w3:hp w5 w3.heap.size=some (.cells #[.int .i64 S.1.cap,.int .i64 S.1.sent,.int .i64 S.1.got,.int .i64 S.1.fin,.slice ya S.1.cells.length yc,.slice yb S.1.words.length yd,.slice (some ⟨g,0,none⟩) x.hands.length vg,.slice vh x.deals.length vi,.int .i64 (x.now+1)] 69):=by
    rw [hw5]
    exact (grHp (setElem_gr _ g (i*14) S.2.1) (by simp) (by simpa using mg5)).trans (heap_alloc_new w3 _)
  have hG5:w3.grownBy w5 (some g):=by rw [hw5];exact gT (gA (gR _ _)) (setElem_gr _ g (i*14) S.2.1)
  have l_w3:w3.heap.size<w5.heap.size:=by rw [hw5,setElem_size];simp
  have hs5:w3.heap.size+1≤w5.heap.size:=l_w3
  have sb0:some (w.heap.size)≠some g:=by simpa using mg0
  have sb1:some (w.heap.size+1)≠some g:=by simpa using mg1
  have sb2:some (w.heap.size+1+1)≠some g:=by simpa using mg2
  have sb3:some (w2.heap.size)≠some g:=by simpa using mg3
  have sb4:some (w2.heap.size+1)≠some g:=by simpa using mg4
  have o1:=own_below U1.out hKw3
  have o2:=own_below U2.out hKw3
  have o3:=O3.out
  have o4:=O4.out
  have e1:=off_some (g:=g) (own_off_ty o1 o3 (by decide)) rfl
  have e2:=off_some (g:=g) (own_off_ty o2 o3 (by decide)) rfl
  have e4:=off_some (g:=g) (own_off_ty o4 o3 (by decide)) rfl
  have r1:=o1.kept hG5 (.inr e1)
  have r2:=o2.kept hG5 (.inr e2)
  have r4:=o4.kept hG5 (.inr e4)
  have r3:OHands w5 (w2.heap.size+1+1) (.slice (some ⟨g,0,none⟩) x.hands.length vg) (x.hands.set i S.2.1):=by rw [hw5];exact OHands.set (World.ownsRow.alloc o3 _) hi _
  have R1:=Lib.hid r1
  have R2:=Lib.hid r2
  have R3:=Lib.hid r3
  have R4:=Lib.hid r4
  have B5:Below w.heap.size w w5:=bOwn hCw3 hG5 (by omega) (fun k hk=>by simp at hk;omega)
  have b4:∀ j,(Value.slice vh x.deals.length vi).ownBlock=some j→w2.heap.size+1+1≤j∧j<w3.heap.size:=fun j hj=>o4.lt j hj
  have nn1:(Value.slice ya S.1.cells.length yc).ownBlock≠some w3.heap.size:=fun e=>by have:=(o1.lt _ e).2;omega
  have nn2:(Value.slice yb S.1.words.length yd).ownBlock≠some w3.heap.size:=fun e=>by have:=(o2.lt _ e).2;omega
  have nn3:(Value.slice (some ⟨g,0,none⟩) x.hands.length vg).ownBlock≠some w3.heap.size:=fun e=>by have:=(o3.lt _ e).2;omega
  clear hw5 o1 o2 o3 o4 r1 r2 r3 r4 e1 e2 e4 O1 O2 O3 O4 U1 U2 hSt hgc hgf hCw3 hKw3
  have hsw5:=hG5.size;(try (simp at hsw5));have zz:=And.intro (grHp hG5 (b:=w2.heap.size+1) (by (try simp) <;> omega) (by assumption)) <| And.intro (grHp hG5 (b:=w2.heap.size) (by (try simp) <;> omega) (by assumption)) <| And.intro (grHp hG5 (b:=w.heap.size+1+1) (by (try simp) <;> omega) (by assumption)) <| And.intro (grHp hG5 (b:=w.heap.size+1) (by (try simp) <;> omega) (by assumption)) <| grHp hG5 (b:=w.heap.size) (by (try simp) <;> omega) (by assumption);(first|simp [go_sem,z_w2p,z_w2,z_wpp,z_wp,z_w,l_w,l_w2,l_w2p,l_wp,l_wpp] at zz|simp [go_sem] at zz|skip);(try clear z_w2p x_w2p f_w2p l_w2p);(try clear z_w2 x_w2 f_w2 l_w2);(try clear z_wpp x_wpp f_wpp l_wpp);(try clear z_wp x_wp f_wp l_wp);(try clear z_w x_w f_w l_w);obtain ⟨z_w2p,z_w2,z_wpp,z_wp,z_w⟩:=zz;obtain ⟨x_w2p,f_w2p,l_w2p⟩:=bO z_w2p;obtain ⟨x_w2,f_w2,l_w2⟩:=bO z_w2;obtain ⟨x_wpp,f_wpp,l_wpp⟩:=bO z_wpp;obtain ⟨x_wp,f_wp,l_wp⟩:=bO z_wp;obtain ⟨x_w,f_w,l_w⟩:=bO z_w
  clear hG5
  go_wp2_with fail;refine bHit w (by exact zB) fun bb=>?_;refine bHit w5 (by exact zB) fun bk=>?_;refine (sReplyOk_any (handAt x i).code (handAt x i).elem S.2.1.reply _).mono ?_;rintro _ w6 ⟨rfl,hbw6⟩;have hCw6:Below w.heap.size w w6:=bT bb hbw6;have hsw6:=hbw6.size;(try simp at hsw6);have zz:=And.intro (hQ hbw6 (b:=w3.heap.size)) <| And.intro (hQ hbw6 (b:=w2.heap.size+1)) <| And.intro (hQ hbw6 (b:=w2.heap.size)) <| And.intro (hQ hbw6 (b:=w.heap.size+1+1)) <| And.intro (hQ hbw6 (b:=w.heap.size+1)) <| hQ hbw6 (b:=w.heap.size);(first|simp [go_sem,z_w3,z_w2p,z_w2,z_wpp,z_wp,z_w,l_w,l_w2,l_w2p,l_w3,l_wp,l_wpp] at zz|simp [go_sem] at zz|skip);(try clear z_w3 x_w3 f_w3 l_w3);(try clear z_w2p x_w2p f_w2p l_w2p);(try clear z_w2 x_w2 f_w2 l_w2);(try clear z_wpp x_wpp f_wpp l_wpp);(try clear z_wp x_wp f_wp l_wp);(try clear z_w x_w f_w l_w);obtain ⟨z_w3,z_w2p,z_w2,z_wpp,z_wp,z_w⟩:=zz;obtain ⟨x_w3,f_w3,l_w3⟩:=bO z_w3;obtain ⟨x_w2p,f_w2p,l_w2p⟩:=bO z_w2p;obtain ⟨x_w2,f_w2,l_w2⟩:=bO z_w2;obtain ⟨x_wpp,f_wpp,l_wpp⟩:=bO z_wpp;obtain ⟨x_wp,f_wp,l_wp⟩:=bO z_wp;obtain ⟨x_w,f_w,l_w⟩:=bO z_w;have hKw6:Below w5.heap.size w5 w6:=bT bk hbw6;clear hbw6 bb bk
  rw [hr]
  go_wp2_with fail;refine bHit w (by exact zB) fun bb=>?_;refine (l11Copy_any x a b _ e p q r s _ ((H1.out.below bb).more bb.size) Z1.out ((H2.out.below bb).more bb.size) Z2.out ((H3.out.below bb).more bb.size) Z3.out ((H4.out.below bb).more bb.size) Z4.out m1 m2 m3 m4).mono ?_;rintro _ w7 ⟨⟨v1,v2,v3,v4,rfl,u1,u2,u3x,u4⟩,hbw7⟩;have hCw7:Below w.heap.size w w7:=bT bb hbw7;have hsw7:=hbw7.size;(try simp at hsw7);have zz:=And.intro (fun o=>hbw7.cell (p:=⟨w.heap.size+1+1,o,none⟩) (by (try simp) <;> omega)) <| And.intro (fun o=>hbw7.frozen (p:=⟨w.heap.size+1+1,o,none⟩) (by (try simp) <;> omega)) <| And.intro (fun o=>hbw7.cell (p:=⟨w.heap.size+1,o,none⟩) (by (try simp) <;> omega)) <| And.intro (fun o=>hbw7.frozen (p:=⟨w.heap.size+1,o,none⟩) (by (try simp) <;> omega)) <| And.intro (fun o=>hbw7.cell (p:=⟨w.heap.size,o,none⟩) (by (try simp) <;> omega)) <| fun o=>hbw7.frozen (p:=⟨w.heap.size,o,none⟩) (by (try simp) <;> omega);(first|simp [go_sem,x_wpp,f_wpp,x_wp,f_wp,x_w,f_w,l_w,l_wp,l_wpp] at zz|simp [go_sem,x_wpp,x_wp,x_w,l_w,l_wp,l_wpp] at zz|simp [go_sem] at zz|skip);(try clear x_wpp f_wpp);(try clear x_wp f_wp);(try clear x_w f_w);obtain ⟨x_wpp,f_wpp,x_wp,f_wp,x_w,f_w⟩:=zz;(try clear l_wpp);have l_wpp:w.heap.size+1+1<w7.heap.size:=(by omega);(try clear l_wp);have l_wp:w.heap.size+1<w7.heap.size:=(by omega);(try clear l_w);have l_w:w.heap.size<w7.heap.size:=(by omega);clear hbw7 bb
  try simp at u1 u2 u3x u4
  have O1:=Lib.hid u1
  have O2:=Lib.hid u2
  have O3:=Lib.hid u3x
  have O4:=Lib.hid u4
  obtain ⟨va,vc,rfl,_⟩:=OCells.seg u1
  obtain ⟨vb,vd,rfl,_⟩:=OInts.seg u2
  obtain ⟨vf,vg,rfl,_⟩:=OHands.seg u3x
  obtain ⟨vh,vi,rfl,_⟩:=ODeals.seg u4
  clear u1 u2 u3x u4
  go_wp2
  have o1:=O1.out
  have o2:=O2.out
  have o3:=O3.out
  have o4:=O4.out
  refine bodyPost_ret (v:=.tuple #[.agg #[.int .i64 x.ch.cap,.int .i64 x.ch.sent,.int .i64 x.ch.got,.int .i64 x.ch.fin,.slice va x.ch.cells.length vc,.slice vb x.ch.words.length vd,.slice vf x.hands.length vg,.slice vh x.deals.length vi,.int .i64 (x.now)],.bool false]) (by simp [results,Tryz.results40,go_sem, *]) rfl ⟨⟨_,_,_,_,rfl,own_lo (lo:=w6.heap.size) ?_ (by omega),own_lo (lo:=w6.heap.size) ?_ (by omega),own_lo (lo:=w6.heap.size) ?_ (by omega),own_lo (lo:=w6.heap.size) ?_ (by omega)⟩,by exact zB⟩
  · exact zO o1 o1
  · exact zO o2 o2
  · exact zO o3 o3
  · exact zO o4 o4
end Go.Proofs.YthdjlpkcmhajlaaGreat
