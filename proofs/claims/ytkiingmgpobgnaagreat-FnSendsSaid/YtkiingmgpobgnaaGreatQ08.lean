/-
  A step of a world that does not end, of the reference model; lists lie in memory and hold at most 2 ^ 40 elements.
  A step of a world that ends, of the reference model; lists lie in memory and hold at most 2 ^ 40 elements.
  A step of a world that ends, of the reference model; lists lie in memory and hold at most 2 ^ 40 elements.
  A step of a world, of the reference model, all cases; lists lie in memory and hold at most 2 ^ 40 elements.
  What steps leave right, on plain numbers and lists: right worlds stay right, and one who is stepped alone waits in at most one cell; no condition.
  Right worlds stay right, on plain numbers and lists; no condition.
  Lists that are made with a number of zeros; at most 1048576 elements.
  The reference model's NewChan; no condition.
  The draws of the laws: what each hands back is some value of its range, and only the cursor turns; the drawn bytes are at most 4096.
  A new world of the reference model; no condition.
-/
import Derived.Test.YtkiingmgpobgnaaGreatQ07
import Derived.Test.YtkiingmgpobgnaaGreatQ01
import Derived.IntWalk
import Derived.Deep.RegionLaw
set_option linter.unusedSimpArgs false
set_option linter.unusedVariables false
namespace Go.Proofs.YtkiingmgpobgnaaGreat
open Go.RowKit
set_option linter.unusedSimpArgs false
attribute [local simp] bx_size
attribute [local go_sem ↓] zeroHand toLHand toVHand toSHand storeHandC
attribute [local go_sem] runSHand
attribute [local go_sem] se_cell se_frozen setElem_size
set_option maxRecDepth 100000 in
set_option maxHeartbeats 4000000 in
theorem l11step_on (x:Wo) (who:Int) (S:St) (a b d e:Option Addr) (p q r s:Nat) (w:World) (h1:Seg w w.heap.size a x.ch.cells.length 3 (cellF x.ch.cells)) (z1:a=none→p=0) (h2:Seg w w.heap.size b x.ch.words.length 1 (intF x.ch.words)) (z2:b=none→q=0) (h3:Seg w w.heap.size d x.hands.length 14 (handF x.hands)) (z3:d=none→x.hands.length=0∧r=0) (h4:Seg w w.heap.size e x.deals.length 7 (dealF x.deals)) (z4:e=none→x.deals.length=0∧s=0) (m1:x.ch.cells.length≤1099511627776) (m2:x.ch.words.length≤1099511627776) (m3:x.hands.length≤1099511627776) (m4:x.deals.length≤1099511627776) (ht:taskOk x who=true) (hS:stepC x.ch (handAt x who)=S) (hc:S.2.2=true) (hn:(x.now == 20000)=false) (hnr:0≤x.now∧x.now≤20000) (hx:(S.2.1.pos != 0)=true) :
    Calls Tryz.prog 53 #[.agg #[.int .i64 x.ch.cap,.int .i64 x.ch.sent,.int .i64 x.ch.got,.int .i64 x.ch.fin,.slice a x.ch.cells.length p,.slice b x.ch.words.length q,.slice d x.hands.length r,.slice e x.deals.length s,.int .i64 x.now],.int .i64 who] w fun r w'=>WordR w w' (stepW x who S).1 (.bool (stepW x who S).2) r:=by
  have H1:=Lib.hid h1
  have H2:=Lib.hid h2
  have H3:=Lib.hid h3
  have H4:=Lib.hid h4
  have Z1:=Lib.hid z1
  have Z2:=Lib.hid z2
  have Z3:=Lib.hid z3
  have Z4:=Lib.hid z4
  clear h1 h2 h3 h4 z1 z2 z3 z4
  obtain ⟨i,rfl⟩:∃ i:Nat,who=(i:Int):=⟨who.toNat,by simp [taskOk,taskB,inB] at ht;omega⟩
  have hi:i<x.hands.length:=by simp [taskOk,taskB,inB] at ht;omega
  obtain ⟨b3,o3,rfl,hb3,hc3⟩:∃ b o,d=some ⟨b,o,none⟩∧b<w.heap.size∧Hid (∀ i j,i<x.hands.length→j<14→w.cell? ⟨b,o+i*14+j,none⟩=some (handF x.hands i j)):=by
    rcases H3.out with h0|h0
    · omega
    · exact h0
  have hLd:∀ W:World,hp W b3=hp w b3→(LHand (.pointer (some ⟨b3,o3+i*14,none⟩))).run Tryz.prog W=.ok (.agg (hvals (handAt x i))) W:=fun W e=>ldHandE _ fun j hj=>by rw [show (hvals (handAt x i)).getD j (.int .i64 0)=handF x.hands i j by simp [handF,handAt],← hc3.out i j hi hj];exact World.cell?_of_block e
  have hi0:(0:Int)≤(i:Int):=by omega
  have hi1:(i:Int)<(x.hands.length:Int):=by omega
  have e0:stepW x i S=({ setHand x i S.2.1 with now:=x.now+1,ch:=S.1 },true):=by simp at hn hx;simp [stepW,hc,hn,hx]
  rw [e0]
  clear e0
  have T:=Lib.hid fun a b p q W=>sStep_any x.ch (handAt x i) a b p q W
  rw [hS] at T
  clear hS
  have lb1:b3<w.heap.size+1:=by omega
  have lb2:b3<w.heap.size+1+1:=by omega
  have nb1:b3≠w.heap.size:=by omega
  have nb2:b3≠w.heap.size+1:=by omega
  go_enter Tryz.func53,Tryz.ntmps53
  go_wp2_with fail;refine bHit w (by exact zB) fun bb=>?_;refine (T.out a b p q _ ((H1.out.below bb).more bb.size) Z1.out ((H2.out.below bb).more bb.size) Z2.out).mono ?_;rintro _ w2 ⟨⟨y1,y2,rfl,oY1,oY2,_,_⟩,hbw2⟩;have hCw2:Below w.heap.size w w2:=bT bb hbw2;have hsw2:=hbw2.size;(try simp at hsw2);have zz:=And.intro (hQ hbw2 (b:=w.heap.size+1+1)) <| And.intro (hQ hbw2 (b:=w.heap.size+1)) <| hQ hbw2 (b:=w.heap.size);(try simp [go_sem] at zz);(try clear z_wpp x_wpp f_wpp l_wpp);(try clear z_wp x_wp f_wp l_wp);(try clear z_w x_w f_w l_w);obtain ⟨z_wpp,z_wp,z_w⟩:=zz;obtain ⟨x_wpp,f_wpp,l_wpp⟩:=bO z_wpp;obtain ⟨x_wp,f_wp,l_wp⟩:=bO z_wp;obtain ⟨x_w,f_w,l_w⟩:=bO z_w;clear hbw2 bb
  try simp at oY1 oY2
  have U1:=Lib.hid oY1
  have U2:=Lib.hid oY2
  obtain ⟨ya,yc,rfl,_⟩:=OCells.seg oY1
  obtain ⟨yb,yd,rfl,_⟩:=OInts.seg oY2
  clear oY1 oY2
  simp only [cvals]
  have z2:hp w2 b3=hp w b3:=hCw2.block b3 hb3
  have lb3:b3<w2.heap.size:=by omega
  have nb3:b3≠w2.heap.size:=by omega
  have nb4:b3≠w2.heap.size+1:=by omega
  have lb4:b3<w2.heap.size+1:=by omega
  rw [hc]
  go_wp2_with fail;refine bHit w (by exact zB) fun bb=>?_;refine bHit w2 (by exact zB) fun bk=>?_;refine (l11Copy_any x a b _ e p q r s _ ((H1.out.below bb).more bb.size) Z1.out ((H2.out.below bb).more bb.size) Z2.out ((H3.out.below bb).more bb.size) Z3.out ((H4.out.below bb).more bb.size) Z4.out m1 m2 m3 m4).mono ?_;rintro _ w3 ⟨⟨v1,v2,v3,v4,rfl,o1,o2,o3x,o4⟩,hbw3⟩;have hCw3:Below w.heap.size w w3:=bT bb hbw3;have hsw3:=hbw3.size;(try simp at hsw3);have zz:=And.intro (hQ hbw3 (b:=w2.heap.size+1)) <| And.intro (hQ hbw3 (b:=w2.heap.size)) <| And.intro (hQ hbw3 (b:=w.heap.size+1+1)) <| And.intro (hQ hbw3 (b:=w.heap.size+1)) <| hQ hbw3 (b:=w.heap.size);(first|simp [go_sem,z_wpp,z_wp,z_w,l_w,l_wp,l_wpp] at zz|simp [go_sem] at zz|skip);(try clear z_w2p x_w2p f_w2p l_w2p);(try clear z_w2 x_w2 f_w2 l_w2);(try clear z_wpp x_wpp f_wpp l_wpp);(try clear z_wp x_wp f_wp l_wp);(try clear z_w x_w f_w l_w);obtain ⟨z_w2p,z_w2,z_wpp,z_wp,z_w⟩:=zz;obtain ⟨x_w2p,f_w2p,l_w2p⟩:=bO z_w2p;obtain ⟨x_w2,f_w2,l_w2⟩:=bO z_w2;obtain ⟨x_wpp,f_wpp,l_wpp⟩:=bO z_wpp;obtain ⟨x_wp,f_wp,l_wp⟩:=bO z_wp;obtain ⟨x_w,f_w,l_w⟩:=bO z_w;have hKw3:Below w2.heap.size w2 w3:=bT bk hbw3;clear hbw3 bb bk
  try simp at o1 o2 o3x o4
  have O1:=Lib.hid o1
  have O2:=Lib.hid o2
  have O3:=Lib.hid o3x
  have O4:=Lib.hid o4
  obtain ⟨va,vc,rfl,_⟩:=OCells.seg o1
  obtain ⟨vb,vd,rfl,_⟩:=OInts.seg o2
  obtain ⟨g,vg,rfl,hlo,lg,hgc,hgf⟩:=OHands.open1 o3x hi
  obtain ⟨vh,vi,rfl,_⟩:=ODeals.seg o4
  clear o1 o2 o3x o4
  have z3:hp w3 b3=hp w b3:=hCw3.block b3 hb3
  have ng0:g≠w.heap.size:=by omega
  have mg0:w.heap.size≠g:=by omega
  have ng1:g≠w.heap.size+1:=by omega
  have mg1:w.heap.size+1≠g:=by omega
  have ng2:g≠w.heap.size+1+1:=by omega
  have mg2:w.heap.size+1+1≠g:=by omega
  have ng3:g≠w2.heap.size:=by omega
  have mg3:w2.heap.size≠g:=by omega
  have ng4:g≠w2.heap.size+1:=by omega
  have mg4:w2.heap.size+1≠g:=by omega
  have ng5:g≠w3.heap.size:=by omega
  have mg5:w3.heap.size≠g:=by omega
  have gt0:w.heap.size<g:=by omega
  have gt1:w.heap.size+1<g:=by omega
  have gt2:w.heap.size+1+1<g:=by omega
  have gt3:w2.heap.size<g:=by omega
  have gt4:w2.heap.size+1<g:=by omega
  have lg1:g<w3.heap.size+1:=by omega
  have hSt:∀ (W:World) (y:Ha),hp W g=hp w3 g→(SHand (.pointer (some ⟨g,i*14,none⟩)) (.agg (hvals y))).run Tryz.prog W=.ok () (setElem W g (i*14) y):=fun W y e=>stHandE y (fun j hj=>⟨_,(World.cell?_of_block (show W.heap[g]?=w3.heap[g]? from e)).trans (hgc j hj)⟩) (fun j=>(World.frozen?_of_block (show W.heap[g]?=w3.heap[g]? from e)).trans (hgf j))
  go_wp2
  have o1:=own_below U1.out hKw3
  have o2:=own_below U2.out hKw3
  have o3:=O3.out
  have o4:=O4.out
  have p1:=own_lo (lo':=w.heap.size) o1 (by omega)
  have p2:=own_lo (lo':=w.heap.size) o2 (by omega)
  have p3:=own_lo (lo':=w.heap.size) o3 (by omega)
  have p4:=own_lo (lo':=w.heap.size) o4 (by omega)
  have e1:=off_some (g:=g) (own_off_ty o1 o3 (by decide)) rfl
  have e2:=off_some (g:=g) (own_off_ty o2 o3 (by decide)) rfl
  have e4:=off_some (g:=g) (own_off_ty o4 o3 (by decide)) rfl
  refine bodyPost_ret (v:=.tuple #[.agg #[.int .i64 S.1.cap,.int .i64 S.1.sent,.int .i64 S.1.got,.int .i64 S.1.fin,.slice ya S.1.cells.length yc,.slice yb S.1.words.length yd,.slice (some ⟨g,0,none⟩) x.hands.length vg,.slice vh x.deals.length vi,.int .i64 (x.now+1)],.bool true]) (by simp [results,Tryz.results53,go_sem, *]) rfl ⟨⟨_,_,_,_,rfl,?_,?_,?_,?_⟩,by (repeat (first|with_reducible assumption|with_reducible refine bA ?_|with_reducible refine bD ?_|((with_reducible refine bS ?_ ?_);rotate_left;(focus ((try simp);(try omega))))|((with_reducible refine bBx ?_ ?_);rotate_left;(focus ((try simp);(try omega))))|((with_reducible refine bel_se ?_ ?_ ?_);rotate_left;(focus ((try simp);(try omega)));(focus ((try simp);(try omega))))))⟩
  · show OCells _ _ _ S.1.cells
    (repeat (first|with_reducible exact p1|with_reducible refine World.ownsRow.alloc ?_ _|with_reducible refine World.ownsRow.drew ?_|with_reducible refine own_se ?_ e1|((with_reducible refine own_store ?_ ?_ _);rotate_left;(focus (first|(refine own_ne o1 ?_;(try dsimp only);omega)|(refine own_ne' o1 ?_;(try dsimp only);omega))))|((with_reducible refine own_box ?_ ?_);rotate_left;(focus (first|(refine own_ne o1 ?_;(try dsimp only);omega)|(refine own_ne' o1 ?_;(try dsimp only);omega))))))
  · show OInts _ _ _ S.1.words
    (repeat (first|with_reducible exact p2|with_reducible refine World.ownsRow.alloc ?_ _|with_reducible refine World.ownsRow.drew ?_|with_reducible refine own_se ?_ e2|((with_reducible refine own_store ?_ ?_ _);rotate_left;(focus (first|(refine own_ne o2 ?_;(try dsimp only);omega)|(refine own_ne' o2 ?_;(try dsimp only);omega))))|((with_reducible refine own_box ?_ ?_);rotate_left;(focus (first|(refine own_ne o2 ?_;(try dsimp only);omega)|(refine own_ne' o2 ?_;(try dsimp only);omega))))))
  · show OHands _ _ _ (x.hands.set i _)
    (repeat (first|with_reducible exact p3|with_reducible refine World.ownsRow.alloc ?_ _|with_reducible refine World.ownsRow.drew ?_|with_reducible refine OHands.set ?_ hi _|((with_reducible refine own_store ?_ ?_ _);rotate_left;(focus (first|(refine own_ne o3 ?_;(try dsimp only);omega)|(refine own_ne' o3 ?_;(try dsimp only);omega))))|((with_reducible refine own_box ?_ ?_);rotate_left;(focus (first|(refine own_ne o3 ?_;(try dsimp only);omega)|(refine own_ne' o3 ?_;(try dsimp only);omega))))))
  · show ODeals _ _ _ x.deals
    (repeat (first|with_reducible exact p4|with_reducible refine World.ownsRow.alloc ?_ _|with_reducible refine World.ownsRow.drew ?_|with_reducible refine own_se ?_ e4|((with_reducible refine own_store ?_ ?_ _);rotate_left;(focus (first|(refine own_ne o4 ?_;(try dsimp only);omega)|(refine own_ne' o4 ?_;(try dsimp only);omega))))|((with_reducible refine own_box ?_ ?_);rotate_left;(focus (first|(refine own_ne o4 ?_;(try dsimp only);omega)|(refine own_ne' o4 ?_;(try dsimp only);omega))))))
end Go.Proofs.YtkiingmgpobgnaaGreat
set_option linter.unusedSimpArgs false
set_option linter.unusedVariables false
namespace Go.Proofs.YtkiingmgpobgnaaGreat
open Go.RowKit
set_option linter.unusedSimpArgs false
attribute [local simp] bx_size
attribute [local go_sem ↓] zeroHand toLHand toVHand toSHand storeHandC
attribute [local go_sem] runSHand
attribute [local go_sem] se_cell se_frozen setElem_size
set_option maxRecDepth 100000 in
set_option maxHeartbeats 4000000 in
theorem l11step_full (x:Wo) (who:Int) (S:St) (a b d e:Option Addr) (p q r s:Nat) (w:World) (h1:Seg w w.heap.size a x.ch.cells.length 3 (cellF x.ch.cells)) (z1:a=none→p=0) (h2:Seg w w.heap.size b x.ch.words.length 1 (intF x.ch.words)) (z2:b=none→q=0) (h3:Seg w w.heap.size d x.hands.length 14 (handF x.hands)) (z3:d=none→x.hands.length=0∧r=0) (h4:Seg w w.heap.size e x.deals.length 7 (dealF x.deals)) (z4:e=none→x.deals.length=0∧s=0) (m1:x.ch.cells.length≤1099511627776) (m2:x.ch.words.length≤1099511627776) (m3:x.hands.length≤1099511627776) (m4:x.deals.length≤1099511627776) (ht:taskOk x who=true) (hS:stepC x.ch (handAt x who)=S) (hc:S.2.2=true) (hn:(x.now == 20000)=false) (hnr:0≤x.now∧x.now≤20000) (hx:(S.2.1.pos != 0)=false) (hf:decide (1000≤x.deals.length)=true) :
    Calls Tryz.prog 53 #[.agg #[.int .i64 x.ch.cap,.int .i64 x.ch.sent,.int .i64 x.ch.got,.int .i64 x.ch.fin,.slice a x.ch.cells.length p,.slice b x.ch.words.length q,.slice d x.hands.length r,.slice e x.deals.length s,.int .i64 x.now],.int .i64 who] w fun r w'=>WordR w w' (stepW x who S).1 (.bool (stepW x who S).2) r:=by
  have H1:=Lib.hid h1
  have H2:=Lib.hid h2
  have H3:=Lib.hid h3
  have H4:=Lib.hid h4
  have Z1:=Lib.hid z1
  have Z2:=Lib.hid z2
  have Z3:=Lib.hid z3
  have Z4:=Lib.hid z4
  clear h1 h2 h3 h4 z1 z2 z3 z4
  obtain ⟨i,rfl⟩:∃ i:Nat,who=(i:Int):=⟨who.toNat,by simp [taskOk,taskB,inB] at ht;omega⟩
  have hi:i<x.hands.length:=by simp [taskOk,taskB,inB] at ht;omega
  obtain ⟨b3,o3,rfl,hb3,hc3⟩:∃ b o,d=some ⟨b,o,none⟩∧b<w.heap.size∧Hid (∀ i j,i<x.hands.length→j<14→w.cell? ⟨b,o+i*14+j,none⟩=some (handF x.hands i j)):=by
    rcases H3.out with h0|h0
    · omega
    · exact h0
  have hLd:∀ W:World,hp W b3=hp w b3→(LHand (.pointer (some ⟨b3,o3+i*14,none⟩))).run Tryz.prog W=.ok (.agg (hvals (handAt x i))) W:=fun W e=>ldHandE _ fun j hj=>by rw [show (hvals (handAt x i)).getD j (.int .i64 0)=handF x.hands i j by simp [handF,handAt],← hc3.out i j hi hj];exact World.cell?_of_block e
  have hi0:(0:Int)≤(i:Int):=by omega
  have hi1:(i:Int)<(x.hands.length:Int):=by omega
  have e0:stepW x i S=(x,false):=by simp at hn hx hf;simp [stepW,hc,hn,hx,hf]
  rw [e0]
  clear e0
  have T:=Lib.hid fun a b p q W=>sStep_any x.ch (handAt x i) a b p q W
  rw [hS] at T
  clear hS
  have lb1:b3<w.heap.size+1:=by omega
  have lb2:b3<w.heap.size+1+1:=by omega
  have nb1:b3≠w.heap.size:=by omega
  have nb2:b3≠w.heap.size+1:=by omega
  go_enter Tryz.func53,Tryz.ntmps53
  go_wp2_with fail;refine bHit w (by exact zB) fun bb=>?_;refine (T.out a b p q _ ((H1.out.below bb).more bb.size) Z1.out ((H2.out.below bb).more bb.size) Z2.out).mono ?_;rintro _ w2 ⟨⟨y1,y2,rfl,oY1,oY2,_,_⟩,hbw2⟩;have hCw2:Below w.heap.size w w2:=bT bb hbw2;have hsw2:=hbw2.size;(try simp at hsw2);have zz:=And.intro (hQ hbw2 (b:=w.heap.size+1+1)) <| And.intro (hQ hbw2 (b:=w.heap.size+1)) <| hQ hbw2 (b:=w.heap.size);(try simp [go_sem] at zz);(try clear z_wpp x_wpp f_wpp l_wpp);(try clear z_wp x_wp f_wp l_wp);(try clear z_w x_w f_w l_w);obtain ⟨z_wpp,z_wp,z_w⟩:=zz;obtain ⟨x_wpp,f_wpp,l_wpp⟩:=bO z_wpp;obtain ⟨x_wp,f_wp,l_wp⟩:=bO z_wp;obtain ⟨x_w,f_w,l_w⟩:=bO z_w;clear hbw2 bb
  try simp at oY1 oY2
  have U1:=Lib.hid oY1
  have U2:=Lib.hid oY2
  obtain ⟨ya,yc,rfl,_⟩:=OCells.seg oY1
  obtain ⟨yb,yd,rfl,_⟩:=OInts.seg oY2
  clear oY1 oY2
  simp only [cvals]
  have z2:hp w2 b3=hp w b3:=hCw2.block b3 hb3
  have lb3:b3<w2.heap.size:=by omega
  have nb3:b3≠w2.heap.size:=by omega
  have nb4:b3≠w2.heap.size+1:=by omega
  have lb4:b3<w2.heap.size+1:=by omega
  rw [hc]
  go_wp2_with fail;refine bHit w (by exact zB) fun bb=>?_;refine bHit w2 (by exact zB) fun bk=>?_;refine (l11Copy_any x a b _ e p q r s _ ((H1.out.below bb).more bb.size) Z1.out ((H2.out.below bb).more bb.size) Z2.out ((H3.out.below bb).more bb.size) Z3.out ((H4.out.below bb).more bb.size) Z4.out m1 m2 m3 m4).mono ?_;rintro _ w3 ⟨⟨v1,v2,v3,v4,rfl,o1,o2,o3x,o4⟩,hbw3⟩;have hCw3:Below w.heap.size w w3:=bT bb hbw3;have hsw3:=hbw3.size;(try simp at hsw3);have zz:=And.intro (hQ hbw3 (b:=w2.heap.size+1)) <| And.intro (hQ hbw3 (b:=w2.heap.size)) <| And.intro (hQ hbw3 (b:=w.heap.size+1+1)) <| And.intro (hQ hbw3 (b:=w.heap.size+1)) <| hQ hbw3 (b:=w.heap.size);(first|simp [go_sem,z_wpp,z_wp,z_w,l_w,l_wp,l_wpp] at zz|simp [go_sem] at zz|skip);(try clear z_w2p x_w2p f_w2p l_w2p);(try clear z_w2 x_w2 f_w2 l_w2);(try clear z_wpp x_wpp f_wpp l_wpp);(try clear z_wp x_wp f_wp l_wp);(try clear z_w x_w f_w l_w);obtain ⟨z_w2p,z_w2,z_wpp,z_wp,z_w⟩:=zz;obtain ⟨x_w2p,f_w2p,l_w2p⟩:=bO z_w2p;obtain ⟨x_w2,f_w2,l_w2⟩:=bO z_w2;obtain ⟨x_wpp,f_wpp,l_wpp⟩:=bO z_wpp;obtain ⟨x_wp,f_wp,l_wp⟩:=bO z_wp;obtain ⟨x_w,f_w,l_w⟩:=bO z_w;have hKw3:Below w2.heap.size w2 w3:=bT bk hbw3;clear hbw3 bb bk
  try simp at o1 o2 o3x o4
  have O1:=Lib.hid o1
  have O2:=Lib.hid o2
  have O3:=Lib.hid o3x
  have O4:=Lib.hid o4
  obtain ⟨va,vc,rfl,_⟩:=OCells.seg o1
  obtain ⟨vb,vd,rfl,_⟩:=OInts.seg o2
  obtain ⟨g,vg,rfl,hlo,lg,hgc,hgf⟩:=OHands.open1 o3x hi
  obtain ⟨vh,vi,rfl,_⟩:=ODeals.seg o4
  clear o1 o2 o3x o4
  have z3:hp w3 b3=hp w b3:=hCw3.block b3 hb3
  have ng0:g≠w.heap.size:=by omega
  have mg0:w.heap.size≠g:=by omega
  have ng1:g≠w.heap.size+1:=by omega
  have mg1:w.heap.size+1≠g:=by omega
  have ng2:g≠w.heap.size+1+1:=by omega
  have mg2:w.heap.size+1+1≠g:=by omega
  have ng3:g≠w2.heap.size:=by omega
  have mg3:w2.heap.size≠g:=by omega
  have ng4:g≠w2.heap.size+1:=by omega
  have mg4:w2.heap.size+1≠g:=by omega
  have ng5:g≠w3.heap.size:=by omega
  have mg5:w3.heap.size≠g:=by omega
  have gt0:w.heap.size<g:=by omega
  have gt1:w.heap.size+1<g:=by omega
  have gt2:w.heap.size+1+1<g:=by omega
  have gt3:w2.heap.size<g:=by omega
  have gt4:w2.heap.size+1<g:=by omega
  have lg1:g<w3.heap.size+1:=by omega
  have hSt:∀ (W:World) (y:Ha),hp W g=hp w3 g→(SHand (.pointer (some ⟨g,i*14,none⟩)) (.agg (hvals y))).run Tryz.prog W=.ok () (setElem W g (i*14) y):=fun W y e=>stHandE y (fun j hj=>⟨_,(World.cell?_of_block (show W.heap[g]?=w3.heap[g]? from e)).trans (hgc j hj)⟩) (fun j=>(World.frozen?_of_block (show W.heap[g]?=w3.heap[g]? from e)).trans (hgf j))
  have hf2:(1000:Int)≤(x.deals.length:Int):=by simp at hf;omega
  go_wp2_with fail
  obtain ⟨w5,hw5⟩:∃ w5,w5=setElem (w3.alloc (.cells #[.int .i64 S.1.cap,.int .i64 S.1.sent,.int .i64 S.1.got,.int .i64 S.1.fin,.slice ya S.1.cells.length yc,.slice yb S.1.words.length yd,.slice (some ⟨g,0,none⟩) x.hands.length vg,.slice vh x.deals.length vi,.int .i64 (x.now+1)] 74)) g (i*14) S.2.1:=⟨_,rfl⟩
  rw [← hw5]
  have x_w3:∀ o,w5.cell? ⟨w3.heap.size,o,none⟩=#[Value.int .i64 S.1.cap,.int .i64 S.1.sent,.int .i64 S.1.got,.int .i64 S.1.fin,.slice ya S.1.cells.length yc,.slice yb S.1.words.length yd,.slice (some ⟨g,0,none⟩) x.hands.length vg,.slice vh x.deals.length vi,.int .i64 (x.now+1)][o]?:=fun o=>by rw [hw5];simp [go_sem, *]
  have f_w3:∀ o,w5.frozen? ⟨w3.heap.size,o,none⟩=false:=fun o=>by rw [hw5];simp [go_sem, *]
  have z_w3:hp w5 w3.heap.size=some (.cells #[.int .i64 S.1.cap,.int .i64 S.1.sent,.int .i64 S.1.got,.int .i64 S.1.fin,.slice ya S.1.cells.length yc,.slice yb S.1.words.length yd,.slice (some ⟨g,0,none⟩) x.hands.length vg,.slice vh x.deals.length vi,.int .i64 (x.now+1)] 74):=by
    rw [hw5]
    exact (grHp (setElem_gr _ g (i*14) S.2.1) (by simp) (by simpa using mg5)).trans (heap_alloc_new w3 _)
  have hG5:w3.grownBy w5 (some g):=by rw [hw5];exact gT (gA (gR _ _)) (setElem_gr _ g (i*14) S.2.1)
  have l_w3:w3.heap.size<w5.heap.size:=by rw [hw5,setElem_size];simp
  have hs5:w3.heap.size+1≤w5.heap.size:=l_w3
  have sb0:some (w.heap.size)≠some g:=by simpa using mg0
  have sb1:some (w.heap.size+1)≠some g:=by simpa using mg1
  have sb2:some (w.heap.size+1+1)≠some g:=by simpa using mg2
  have sb3:some (w2.heap.size)≠some g:=by simpa using mg3
  have sb4:some (w2.heap.size+1)≠some g:=by simpa using mg4
  have o1:=own_below U1.out hKw3
  have o2:=own_below U2.out hKw3
  have o3:=O3.out
  have o4:=O4.out
  have e1:=off_some (g:=g) (own_off_ty o1 o3 (by decide)) rfl
  have e2:=off_some (g:=g) (own_off_ty o2 o3 (by decide)) rfl
  have e4:=off_some (g:=g) (own_off_ty o4 o3 (by decide)) rfl
  have r1:=o1.kept hG5 (.inr e1)
  have r2:=o2.kept hG5 (.inr e2)
  have r4:=o4.kept hG5 (.inr e4)
  have r3:OHands w5 (w2.heap.size+1+1) (.slice (some ⟨g,0,none⟩) x.hands.length vg) (x.hands.set i S.2.1):=by rw [hw5];exact OHands.set (World.ownsRow.alloc o3 _) hi _
  have R1:=Lib.hid r1
  have R2:=Lib.hid r2
  have R3:=Lib.hid r3
  have R4:=Lib.hid r4
  have B5:Below w.heap.size w w5:=bOwn hCw3 hG5 (by omega) (fun k hk=>by simp at hk;omega)
  have b4:∀ j,(Value.slice vh x.deals.length vi).ownBlock=some j→w2.heap.size+1+1≤j∧j<w3.heap.size:=fun j hj=>o4.lt j hj
  have nn1:(Value.slice ya S.1.cells.length yc).ownBlock≠some w3.heap.size:=fun e=>by have:=(o1.lt _ e).2;omega
  have nn2:(Value.slice yb S.1.words.length yd).ownBlock≠some w3.heap.size:=fun e=>by have:=(o2.lt _ e).2;omega
  have nn3:(Value.slice (some ⟨g,0,none⟩) x.hands.length vg).ownBlock≠some w3.heap.size:=fun e=>by have:=(o3.lt _ e).2;omega
  clear hw5 o1 o2 o3 o4 r1 r2 r3 r4 e1 e2 e4 O1 O2 O3 O4 U1 U2 hSt hgc hgf hCw3 hKw3
  have hsw5:=hG5.size;(try (simp at hsw5));have zz:=And.intro (grHp hG5 (b:=w2.heap.size+1) (by (try simp) <;> omega) (by assumption)) <| And.intro (grHp hG5 (b:=w2.heap.size) (by (try simp) <;> omega) (by assumption)) <| And.intro (grHp hG5 (b:=w.heap.size+1+1) (by (try simp) <;> omega) (by assumption)) <| And.intro (grHp hG5 (b:=w.heap.size+1) (by (try simp) <;> omega) (by assumption)) <| grHp hG5 (b:=w.heap.size) (by (try simp) <;> omega) (by assumption);(first|simp [go_sem,z_w2p,z_w2,z_wpp,z_wp,z_w,l_w,l_w2,l_w2p,l_wp,l_wpp] at zz|simp [go_sem] at zz|skip);(try clear z_w2p x_w2p f_w2p l_w2p);(try clear z_w2 x_w2 f_w2 l_w2);(try clear z_wpp x_wpp f_wpp l_wpp);(try clear z_wp x_wp f_wp l_wp);(try clear z_w x_w f_w l_w);obtain ⟨z_w2p,z_w2,z_wpp,z_wp,z_w⟩:=zz;obtain ⟨x_w2p,f_w2p,l_w2p⟩:=bO z_w2p;obtain ⟨x_w2,f_w2,l_w2⟩:=bO z_w2;obtain ⟨x_wpp,f_wpp,l_wpp⟩:=bO z_wpp;obtain ⟨x_wp,f_wp,l_wp⟩:=bO z_wp;obtain ⟨x_w,f_w,l_w⟩:=bO z_w
  clear hG5
  go_wp2_with fail;refine bHit w (by exact zB) fun bb=>?_;refine (l11Copy_any x a b _ e p q r s _ ((H1.out.below bb).more bb.size) Z1.out ((H2.out.below bb).more bb.size) Z2.out ((H3.out.below bb).more bb.size) Z3.out ((H4.out.below bb).more bb.size) Z4.out m1 m2 m3 m4).mono ?_;rintro _ w7 ⟨⟨v1,v2,v3,v4,rfl,u1,u2,u3x,u4⟩,hbw7⟩;have hCw7:Below w.heap.size w w7:=bT bb hbw7;have hsw7:=hbw7.size;(try simp at hsw7);have zz:=And.intro (fun o=>hbw7.cell (p:=⟨w.heap.size+1+1,o,none⟩) (by (try simp) <;> omega)) <| And.intro (fun o=>hbw7.frozen (p:=⟨w.heap.size+1+1,o,none⟩) (by (try simp) <;> omega)) <| And.intro (fun o=>hbw7.cell (p:=⟨w.heap.size+1,o,none⟩) (by (try simp) <;> omega)) <| And.intro (fun o=>hbw7.frozen (p:=⟨w.heap.size+1,o,none⟩) (by (try simp) <;> omega)) <| And.intro (fun o=>hbw7.cell (p:=⟨w.heap.size,o,none⟩) (by (try simp) <;> omega)) <| fun o=>hbw7.frozen (p:=⟨w.heap.size,o,none⟩) (by (try simp) <;> omega);(first|simp [go_sem,x_wpp,f_wpp,x_wp,f_wp,x_w,f_w,l_w,l_wp,l_wpp] at zz|simp [go_sem,x_wpp,x_wp,x_w,l_w,l_wp,l_wpp] at zz|simp [go_sem] at zz|skip);(try clear x_wpp f_wpp);(try clear x_wp f_wp);(try clear x_w f_w);obtain ⟨x_wpp,f_wpp,x_wp,f_wp,x_w,f_w⟩:=zz;(try clear l_wpp);have l_wpp:w.heap.size+1+1<w7.heap.size:=(by omega);(try clear l_wp);have l_wp:w.heap.size+1<w7.heap.size:=(by omega);(try clear l_w);have l_w:w.heap.size<w7.heap.size:=(by omega);clear hbw7 bb
  try simp at u1 u2 u3x u4
  have O1:=Lib.hid u1
  have O2:=Lib.hid u2
  have O3:=Lib.hid u3x
  have O4:=Lib.hid u4
  obtain ⟨va,vc,rfl,_⟩:=OCells.seg u1
  obtain ⟨vb,vd,rfl,_⟩:=OInts.seg u2
  obtain ⟨vf,vg,rfl,_⟩:=OHands.seg u3x
  obtain ⟨vh,vi,rfl,_⟩:=ODeals.seg u4
  clear u1 u2 u3x u4
  go_wp2
  have o1:=O1.out
  have o2:=O2.out
  have o3:=O3.out
  have o4:=O4.out
  refine bodyPost_ret (v:=.tuple #[.agg #[.int .i64 x.ch.cap,.int .i64 x.ch.sent,.int .i64 x.ch.got,.int .i64 x.ch.fin,.slice va x.ch.cells.length vc,.slice vb x.ch.words.length vd,.slice vf x.hands.length vg,.slice vh x.deals.length vi,.int .i64 (x.now)],.bool false]) (by simp [results,Tryz.results53,go_sem, *]) rfl ⟨⟨_,_,_,_,rfl,own_lo (lo:=w5.heap.size) ?_ (by omega),own_lo (lo:=w5.heap.size) ?_ (by omega),own_lo (lo:=w5.heap.size) ?_ (by omega),own_lo (lo:=w5.heap.size) ?_ (by omega)⟩,by exact zB⟩
  · exact zO o1 o1
  · exact zO o2 o2
  · exact zO o3 o3
  · exact zO o4 o4
set_option maxRecDepth 100000 in
set_option maxHeartbeats 4000000 in
theorem l11step_unfit (x:Wo) (who:Int) (S:St) (a b d e:Option Addr) (p q r s:Nat) (w:World) (h1:Seg w w.heap.size a x.ch.cells.length 3 (cellF x.ch.cells)) (z1:a=none→p=0) (h2:Seg w w.heap.size b x.ch.words.length 1 (intF x.ch.words)) (z2:b=none→q=0) (h3:Seg w w.heap.size d x.hands.length 14 (handF x.hands)) (z3:d=none→x.hands.length=0∧r=0) (h4:Seg w w.heap.size e x.deals.length 7 (dealF x.deals)) (z4:e=none→x.deals.length=0∧s=0) (m1:x.ch.cells.length≤1099511627776) (m2:x.ch.words.length≤1099511627776) (m3:x.hands.length≤1099511627776) (m4:x.deals.length≤1099511627776) (ht:taskOk x who=true) (hS:stepC x.ch (handAt x who)=S) (hc:S.2.2=true) (hn:(x.now == 20000)=false) (hnr:0≤x.now∧x.now≤20000) (hx:(S.2.1.pos != 0)=false) (hf:decide (1000≤x.deals.length)=false) (hr:replyOk (handAt x who).code (handAt x who).elem S.2.1.reply=false) :
    Calls Tryz.prog 53 #[.agg #[.int .i64 x.ch.cap,.int .i64 x.ch.sent,.int .i64 x.ch.got,.int .i64 x.ch.fin,.slice a x.ch.cells.length p,.slice b x.ch.words.length q,.slice d x.hands.length r,.slice e x.deals.length s,.int .i64 x.now],.int .i64 who] w fun r w'=>WordR w w' (stepW x who S).1 (.bool (stepW x who S).2) r:=by
  have H1:=Lib.hid h1
  have H2:=Lib.hid h2
  have H3:=Lib.hid h3
  have H4:=Lib.hid h4
  have Z1:=Lib.hid z1
  have Z2:=Lib.hid z2
  have Z3:=Lib.hid z3
  have Z4:=Lib.hid z4
  clear h1 h2 h3 h4 z1 z2 z3 z4
  obtain ⟨i,rfl⟩:∃ i:Nat,who=(i:Int):=⟨who.toNat,by simp [taskOk,taskB,inB] at ht;omega⟩
  have hi:i<x.hands.length:=by simp [taskOk,taskB,inB] at ht;omega
  obtain ⟨b3,o3,rfl,hb3,hc3⟩:∃ b o,d=some ⟨b,o,none⟩∧b<w.heap.size∧Hid (∀ i j,i<x.hands.length→j<14→w.cell? ⟨b,o+i*14+j,none⟩=some (handF x.hands i j)):=by
    rcases H3.out with h0|h0
    · omega
    · exact h0
  have hLd:∀ W:World,hp W b3=hp w b3→(LHand (.pointer (some ⟨b3,o3+i*14,none⟩))).run Tryz.prog W=.ok (.agg (hvals (handAt x i))) W:=fun W e=>ldHandE _ fun j hj=>by rw [show (hvals (handAt x i)).getD j (.int .i64 0)=handF x.hands i j by simp [handF,handAt],← hc3.out i j hi hj];exact World.cell?_of_block e
  have hi0:(0:Int)≤(i:Int):=by omega
  have hi1:(i:Int)<(x.hands.length:Int):=by omega
  have e0:stepW x i S=(x,false):=by simp at hn hx hf;simp [stepW,hc,hn,hx,hf,hr]
  rw [e0]
  clear e0
  have T:=Lib.hid fun a b p q W=>sStep_any x.ch (handAt x i) a b p q W
  rw [hS] at T
  clear hS
  have lb1:b3<w.heap.size+1:=by omega
  have lb2:b3<w.heap.size+1+1:=by omega
  have nb1:b3≠w.heap.size:=by omega
  have nb2:b3≠w.heap.size+1:=by omega
  go_enter Tryz.func53,Tryz.ntmps53
  go_wp2_with fail;refine bHit w (by exact zB) fun bb=>?_;refine (T.out a b p q _ ((H1.out.below bb).more bb.size) Z1.out ((H2.out.below bb).more bb.size) Z2.out).mono ?_;rintro _ w2 ⟨⟨y1,y2,rfl,oY1,oY2,_,_⟩,hbw2⟩;have hCw2:Below w.heap.size w w2:=bT bb hbw2;have hsw2:=hbw2.size;(try simp at hsw2);have zz:=And.intro (hQ hbw2 (b:=w.heap.size+1+1)) <| And.intro (hQ hbw2 (b:=w.heap.size+1)) <| hQ hbw2 (b:=w.heap.size);(try simp [go_sem] at zz);(try clear z_wpp x_wpp f_wpp l_wpp);(try clear z_wp x_wp f_wp l_wp);(try clear z_w x_w f_w l_w);obtain ⟨z_wpp,z_wp,z_w⟩:=zz;obtain ⟨x_wpp,f_wpp,l_wpp⟩:=bO z_wpp;obtain ⟨x_wp,f_wp,l_wp⟩:=bO z_wp;obtain ⟨x_w,f_w,l_w⟩:=bO z_w;clear hbw2 bb
  try simp at oY1 oY2
  have U1:=Lib.hid oY1
  have U2:=Lib.hid oY2
  obtain ⟨ya,yc,rfl,_⟩:=OCells.seg oY1
  obtain ⟨yb,yd,rfl,_⟩:=OInts.seg oY2
  clear oY1 oY2
  simp only [cvals]
  have z2:hp w2 b3=hp w b3:=hCw2.block b3 hb3
  have lb3:b3<w2.heap.size:=by omega
  have nb3:b3≠w2.heap.size:=by omega
  have nb4:b3≠w2.heap.size+1:=by omega
  have lb4:b3<w2.heap.size+1:=by omega
  rw [hc]
  go_wp2_with fail;refine bHit w (by exact zB) fun bb=>?_;refine bHit w2 (by exact zB) fun bk=>?_;refine (l11Copy_any x a b _ e p q r s _ ((H1.out.below bb).more bb.size) Z1.out ((H2.out.below bb).more bb.size) Z2.out ((H3.out.below bb).more bb.size) Z3.out ((H4.out.below bb).more bb.size) Z4.out m1 m2 m3 m4).mono ?_;rintro _ w3 ⟨⟨v1,v2,v3,v4,rfl,o1,o2,o3x,o4⟩,hbw3⟩;have hCw3:Below w.heap.size w w3:=bT bb hbw3;have hsw3:=hbw3.size;(try simp at hsw3);have zz:=And.intro (hQ hbw3 (b:=w2.heap.size+1)) <| And.intro (hQ hbw3 (b:=w2.heap.size)) <| And.intro (hQ hbw3 (b:=w.heap.size+1+1)) <| And.intro (hQ hbw3 (b:=w.heap.size+1)) <| hQ hbw3 (b:=w.heap.size);(first|simp [go_sem,z_wpp,z_wp,z_w,l_w,l_wp,l_wpp] at zz|simp [go_sem] at zz|skip);(try clear z_w2p x_w2p f_w2p l_w2p);(try clear z_w2 x_w2 f_w2 l_w2);(try clear z_wpp x_wpp f_wpp l_wpp);(try clear z_wp x_wp f_wp l_wp);(try clear z_w x_w f_w l_w);obtain ⟨z_w2p,z_w2,z_wpp,z_wp,z_w⟩:=zz;obtain ⟨x_w2p,f_w2p,l_w2p⟩:=bO z_w2p;obtain ⟨x_w2,f_w2,l_w2⟩:=bO z_w2;obtain ⟨x_wpp,f_wpp,l_wpp⟩:=bO z_wpp;obtain ⟨x_wp,f_wp,l_wp⟩:=bO z_wp;obtain ⟨x_w,f_w,l_w⟩:=bO z_w;have hKw3:Below w2.heap.size w2 w3:=bT bk hbw3;clear hbw3 bb bk
  try simp at o1 o2 o3x o4
  have O1:=Lib.hid o1
  have O2:=Lib.hid o2
  have O3:=Lib.hid o3x
  have O4:=Lib.hid o4
  obtain ⟨va,vc,rfl,_⟩:=OCells.seg o1
  obtain ⟨vb,vd,rfl,_⟩:=OInts.seg o2
  obtain ⟨g,vg,rfl,hlo,lg,hgc,hgf⟩:=OHands.open1 o3x hi
  obtain ⟨vh,vi,rfl,_⟩:=ODeals.seg o4
  clear o1 o2 o3x o4
  have z3:hp w3 b3=hp w b3:=hCw3.block b3 hb3
  have ng0:g≠w.heap.size:=by omega
  have mg0:w.heap.size≠g:=by omega
  have ng1:g≠w.heap.size+1:=by omega
  have mg1:w.heap.size+1≠g:=by omega
  have ng2:g≠w.heap.size+1+1:=by omega
  have mg2:w.heap.size+1+1≠g:=by omega
  have ng3:g≠w2.heap.size:=by omega
  have mg3:w2.heap.size≠g:=by omega
  have ng4:g≠w2.heap.size+1:=by omega
  have mg4:w2.heap.size+1≠g:=by omega
  have ng5:g≠w3.heap.size:=by omega
  have mg5:w3.heap.size≠g:=by omega
  have gt0:w.heap.size<g:=by omega
  have gt1:w.heap.size+1<g:=by omega
  have gt2:w.heap.size+1+1<g:=by omega
  have gt3:w2.heap.size<g:=by omega
  have gt4:w2.heap.size+1<g:=by omega
  have lg1:g<w3.heap.size+1:=by omega
  have hSt:∀ (W:World) (y:Ha),hp W g=hp w3 g→(SHand (.pointer (some ⟨g,i*14,none⟩)) (.agg (hvals y))).run Tryz.prog W=.ok () (setElem W g (i*14) y):=fun W y e=>stHandE y (fun j hj=>⟨_,(World.cell?_of_block (show W.heap[g]?=w3.heap[g]? from e)).trans (hgc j hj)⟩) (fun j=>(World.frozen?_of_block (show W.heap[g]?=w3.heap[g]? from e)).trans (hgf j))
  have hf2:¬ (1000:Int)≤(x.deals.length:Int):=by simp at hf;omega
  go_wp2_with fail
  obtain ⟨w5,hw5⟩:∃ w5,w5=setElem (w3.alloc (.cells #[.int .i64 S.1.cap,.int .i64 S.1.sent,.int .i64 S.1.got,.int .i64 S.1.fin,.slice ya S.1.cells.length yc,.slice yb S.1.words.length yd,.slice (some ⟨g,0,none⟩) x.hands.length vg,.slice vh x.deals.length vi,.int .i64 (x.now+1)] 74)) g (i*14) S.2.1:=⟨_,rfl⟩
  rw [← hw5]
  have x_w3:∀ o,w5.cell? ⟨w3.heap.size,o,none⟩=#[Value.int .i64 S.1.cap,.int .i64 S.1.sent,.int .i64 S.1.got,.int .i64 S.1.fin,.slice ya S.1.cells.length yc,.slice yb S.1.words.length yd,.slice (some ⟨g,0,none⟩) x.hands.length vg,.slice vh x.deals.length vi,.int .i64 (x.now+1)][o]?:=fun o=>by rw [hw5];simp [go_sem, *]
  have f_w3:∀ o,w5.frozen? ⟨w3.heap.size,o,none⟩=false:=fun o=>by rw [hw5];simp [go_sem, *]
  have z_w3:hp w5 w3.heap.size=some (.cells #[.int .i64 S.1.cap,.int .i64 S.1.sent,.int .i64 S.1.got,.int .i64 S.1.fin,.slice ya S.1.cells.length yc,.slice yb S.1.words.length yd,.slice (some ⟨g,0,none⟩) x.hands.length vg,.slice vh x.deals.length vi,.int .i64 (x.now+1)] 74):=by
    rw [hw5]
    exact (grHp (setElem_gr _ g (i*14) S.2.1) (by simp) (by simpa using mg5)).trans (heap_alloc_new w3 _)
  have hG5:w3.grownBy w5 (some g):=by rw [hw5];exact gT (gA (gR _ _)) (setElem_gr _ g (i*14) S.2.1)
  have l_w3:w3.heap.size<w5.heap.size:=by rw [hw5,setElem_size];simp
  have hs5:w3.heap.size+1≤w5.heap.size:=l_w3
  have sb0:some (w.heap.size)≠some g:=by simpa using mg0
  have sb1:some (w.heap.size+1)≠some g:=by simpa using mg1
  have sb2:some (w.heap.size+1+1)≠some g:=by simpa using mg2
  have sb3:some (w2.heap.size)≠some g:=by simpa using mg3
  have sb4:some (w2.heap.size+1)≠some g:=by simpa using mg4
  have o1:=own_below U1.out hKw3
  have o2:=own_below U2.out hKw3
  have o3:=O3.out
  have o4:=O4.out
  have e1:=off_some (g:=g) (own_off_ty o1 o3 (by decide)) rfl
  have e2:=off_some (g:=g) (own_off_ty o2 o3 (by decide)) rfl
  have e4:=off_some (g:=g) (own_off_ty o4 o3 (by decide)) rfl
  have r1:=o1.kept hG5 (.inr e1)
  have r2:=o2.kept hG5 (.inr e2)
  have r4:=o4.kept hG5 (.inr e4)
  have r3:OHands w5 (w2.heap.size+1+1) (.slice (some ⟨g,0,none⟩) x.hands.length vg) (x.hands.set i S.2.1):=by rw [hw5];exact OHands.set (World.ownsRow.alloc o3 _) hi _
  have R1:=Lib.hid r1
  have R2:=Lib.hid r2
  have R3:=Lib.hid r3
  have R4:=Lib.hid r4
  have B5:Below w.heap.size w w5:=bOwn hCw3 hG5 (by omega) (fun k hk=>by simp at hk;omega)
  have b4:∀ j,(Value.slice vh x.deals.length vi).ownBlock=some j→w2.heap.size+1+1≤j∧j<w3.heap.size:=fun j hj=>o4.lt j hj
  have nn1:(Value.slice ya S.1.cells.length yc).ownBlock≠some w3.heap.size:=fun e=>by have:=(o1.lt _ e).2;omega
  have nn2:(Value.slice yb S.1.words.length yd).ownBlock≠some w3.heap.size:=fun e=>by have:=(o2.lt _ e).2;omega
  have nn3:(Value.slice (some ⟨g,0,none⟩) x.hands.length vg).ownBlock≠some w3.heap.size:=fun e=>by have:=(o3.lt _ e).2;omega
  clear hw5 o1 o2 o3 o4 r1 r2 r3 r4 e1 e2 e4 O1 O2 O3 O4 U1 U2 hSt hgc hgf hCw3 hKw3
  have hsw5:=hG5.size;(try (simp at hsw5));have zz:=And.intro (grHp hG5 (b:=w2.heap.size+1) (by (try simp) <;> omega) (by assumption)) <| And.intro (grHp hG5 (b:=w2.heap.size) (by (try simp) <;> omega) (by assumption)) <| And.intro (grHp hG5 (b:=w.heap.size+1+1) (by (try simp) <;> omega) (by assumption)) <| And.intro (grHp hG5 (b:=w.heap.size+1) (by (try simp) <;> omega) (by assumption)) <| grHp hG5 (b:=w.heap.size) (by (try simp) <;> omega) (by assumption);(first|simp [go_sem,z_w2p,z_w2,z_wpp,z_wp,z_w,l_w,l_w2,l_w2p,l_wp,l_wpp] at zz|simp [go_sem] at zz|skip);(try clear z_w2p x_w2p f_w2p l_w2p);(try clear z_w2 x_w2 f_w2 l_w2);(try clear z_wpp x_wpp f_wpp l_wpp);(try clear z_wp x_wp f_wp l_wp);(try clear z_w x_w f_w l_w);obtain ⟨z_w2p,z_w2,z_wpp,z_wp,z_w⟩:=zz;obtain ⟨x_w2p,f_w2p,l_w2p⟩:=bO z_w2p;obtain ⟨x_w2,f_w2,l_w2⟩:=bO z_w2;obtain ⟨x_wpp,f_wpp,l_wpp⟩:=bO z_wpp;obtain ⟨x_wp,f_wp,l_wp⟩:=bO z_wp;obtain ⟨x_w,f_w,l_w⟩:=bO z_w
  clear hG5
  go_wp2_with fail;refine bHit w (by exact zB) fun bb=>?_;refine bHit w5 (by exact zB) fun bk=>?_;refine (sReplyOk_any (handAt x i).code (handAt x i).elem S.2.1.reply _).mono ?_;rintro _ w6 ⟨rfl,hbw6⟩;have hCw6:Below w.heap.size w w6:=bT bb hbw6;have hsw6:=hbw6.size;(try simp at hsw6);have zz:=And.intro (hQ hbw6 (b:=w3.heap.size)) <| And.intro (hQ hbw6 (b:=w2.heap.size+1)) <| And.intro (hQ hbw6 (b:=w2.heap.size)) <| And.intro (hQ hbw6 (b:=w.heap.size+1+1)) <| And.intro (hQ hbw6 (b:=w.heap.size+1)) <| hQ hbw6 (b:=w.heap.size);(first|simp [go_sem,z_w3,z_w2p,z_w2,z_wpp,z_wp,z_w,l_w,l_w2,l_w2p,l_w3,l_wp,l_wpp] at zz|simp [go_sem] at zz|skip);(try clear z_w3 x_w3 f_w3 l_w3);(try clear z_w2p x_w2p f_w2p l_w2p);(try clear z_w2 x_w2 f_w2 l_w2);(try clear z_wpp x_wpp f_wpp l_wpp);(try clear z_wp x_wp f_wp l_wp);(try clear z_w x_w f_w l_w);obtain ⟨z_w3,z_w2p,z_w2,z_wpp,z_wp,z_w⟩:=zz;obtain ⟨x_w3,f_w3,l_w3⟩:=bO z_w3;obtain ⟨x_w2p,f_w2p,l_w2p⟩:=bO z_w2p;obtain ⟨x_w2,f_w2,l_w2⟩:=bO z_w2;obtain ⟨x_wpp,f_wpp,l_wpp⟩:=bO z_wpp;obtain ⟨x_wp,f_wp,l_wp⟩:=bO z_wp;obtain ⟨x_w,f_w,l_w⟩:=bO z_w;have hKw6:Below w5.heap.size w5 w6:=bT bk hbw6;clear hbw6 bb bk
  rw [hr]
  go_wp2_with fail;refine bHit w (by exact zB) fun bb=>?_;refine (l11Copy_any x a b _ e p q r s _ ((H1.out.below bb).more bb.size) Z1.out ((H2.out.below bb).more bb.size) Z2.out ((H3.out.below bb).more bb.size) Z3.out ((H4.out.below bb).more bb.size) Z4.out m1 m2 m3 m4).mono ?_;rintro _ w7 ⟨⟨v1,v2,v3,v4,rfl,u1,u2,u3x,u4⟩,hbw7⟩;have hCw7:Below w.heap.size w w7:=bT bb hbw7;have hsw7:=hbw7.size;(try simp at hsw7);have zz:=And.intro (fun o=>hbw7.cell (p:=⟨w.heap.size+1+1,o,none⟩) (by (try simp) <;> omega)) <| And.intro (fun o=>hbw7.frozen (p:=⟨w.heap.size+1+1,o,none⟩) (by (try simp) <;> omega)) <| And.intro (fun o=>hbw7.cell (p:=⟨w.heap.size+1,o,none⟩) (by (try simp) <;> omega)) <| And.intro (fun o=>hbw7.frozen (p:=⟨w.heap.size+1,o,none⟩) (by (try simp) <;> omega)) <| And.intro (fun o=>hbw7.cell (p:=⟨w.heap.size,o,none⟩) (by (try simp) <;> omega)) <| fun o=>hbw7.frozen (p:=⟨w.heap.size,o,none⟩) (by (try simp) <;> omega);(first|simp [go_sem,x_wpp,f_wpp,x_wp,f_wp,x_w,f_w,l_w,l_wp,l_wpp] at zz|simp [go_sem,x_wpp,x_wp,x_w,l_w,l_wp,l_wpp] at zz|simp [go_sem] at zz|skip);(try clear x_wpp f_wpp);(try clear x_wp f_wp);(try clear x_w f_w);obtain ⟨x_wpp,f_wpp,x_wp,f_wp,x_w,f_w⟩:=zz;(try clear l_wpp);have l_wpp:w.heap.size+1+1<w7.heap.size:=(by omega);(try clear l_wp);have l_wp:w.heap.size+1<w7.heap.size:=(by omega);(try clear l_w);have l_w:w.heap.size<w7.heap.size:=(by omega);clear hbw7 bb
  try simp at u1 u2 u3x u4
  have O1:=Lib.hid u1
  have O2:=Lib.hid u2
  have O3:=Lib.hid u3x
  have O4:=Lib.hid u4
  obtain ⟨va,vc,rfl,_⟩:=OCells.seg u1
  obtain ⟨vb,vd,rfl,_⟩:=OInts.seg u2
  obtain ⟨vf,vg,rfl,_⟩:=OHands.seg u3x
  obtain ⟨vh,vi,rfl,_⟩:=ODeals.seg u4
  clear u1 u2 u3x u4
  go_wp2
  have o1:=O1.out
  have o2:=O2.out
  have o3:=O3.out
  have o4:=O4.out
  refine bodyPost_ret (v:=.tuple #[.agg #[.int .i64 x.ch.cap,.int .i64 x.ch.sent,.int .i64 x.ch.got,.int .i64 x.ch.fin,.slice va x.ch.cells.length vc,.slice vb x.ch.words.length vd,.slice vf x.hands.length vg,.slice vh x.deals.length vi,.int .i64 (x.now)],.bool false]) (by simp [results,Tryz.results53,go_sem, *]) rfl ⟨⟨_,_,_,_,rfl,own_lo (lo:=w6.heap.size) ?_ (by omega),own_lo (lo:=w6.heap.size) ?_ (by omega),own_lo (lo:=w6.heap.size) ?_ (by omega),own_lo (lo:=w6.heap.size) ?_ (by omega)⟩,by exact zB⟩
  · exact zO o1 o1
  · exact zO o2 o2
  · exact zO o3 o3
  · exact zO o4 o4
end Go.Proofs.YtkiingmgpobgnaaGreat
set_option linter.unusedSimpArgs false
set_option linter.unusedVariables false
namespace Go.Proofs.YtkiingmgpobgnaaGreat
open Go.RowKit
set_option linter.unusedSimpArgs false
attribute [local simp] bx_size
attribute [local go_sem ↓] zeroHand toLHand toVHand toSHand storeHandC
attribute [local go_sem] runSHand
theorem newsDeal (w:World) (d:De) (t:TypeId):∀ j u,(dvals d).toList[j]?=some u→(w.alloc (.cells (dvals d) t)).cell? ((⟨w.heap.size,0,none⟩:Addr).add j)=some u:=by
  intro j u h
  have e:(⟨w.heap.size,0,none⟩:Addr).add j=⟨w.heap.size,j,none⟩:=by
    by_cases h0:j=0 <;> simp [Addr.add,h0]
  rw [e,cell_of_row _ _ _ _ _ _ (heap_alloc_new w (.cells (dvals d) t))]
  simpa using h
theorem ODeals.snoc {w:World} {lo:Nat} {v:Value} {ds:List De} {d:De} (h:w.ownsRow lo 116 7 v (ds.length+1) (flatD ds ++ (dvals d).toList)):ODeals w lo v (ds ++ [d]):=by
  simpa [ODeals,flatD] using h
attribute [local go_sem] se_cell se_frozen setElem_size
set_option maxRecDepth 100000 in
set_option maxHeartbeats 4000000 in
theorem l11step_deal (x:Wo) (who:Int) (S:St) (a b d e:Option Addr) (p q r s:Nat) (w:World) (h1:Seg w w.heap.size a x.ch.cells.length 3 (cellF x.ch.cells)) (z1:a=none→p=0) (h2:Seg w w.heap.size b x.ch.words.length 1 (intF x.ch.words)) (z2:b=none→q=0) (h3:Seg w w.heap.size d x.hands.length 14 (handF x.hands)) (z3:d=none→x.hands.length=0∧r=0) (h4:Seg w w.heap.size e x.deals.length 7 (dealF x.deals)) (z4:e=none→x.deals.length=0∧s=0) (m1:x.ch.cells.length≤1099511627776) (m2:x.ch.words.length≤1099511627776) (m3:x.hands.length≤1099511627776) (m4:x.deals.length≤1099511627776) (ht:taskOk x who=true) (hS:stepC x.ch (handAt x who)=S) (hc:S.2.2=true) (hn:(x.now == 20000)=false) (hnr:0≤x.now∧x.now≤20000) (hx:(S.2.1.pos != 0)=false) (hf:decide (1000≤x.deals.length)=false) (hr:replyOk (handAt x who).code (handAt x who).elem S.2.1.reply=true) :
    Calls Tryz.prog 53 #[.agg #[.int .i64 x.ch.cap,.int .i64 x.ch.sent,.int .i64 x.ch.got,.int .i64 x.ch.fin,.slice a x.ch.cells.length p,.slice b x.ch.words.length q,.slice d x.hands.length r,.slice e x.deals.length s,.int .i64 x.now],.int .i64 who] w fun r w'=>WordR w w' (stepW x who S).1 (.bool (stepW x who S).2) r:=by
  have H1:=Lib.hid h1
  have H2:=Lib.hid h2
  have H3:=Lib.hid h3
  have H4:=Lib.hid h4
  have Z1:=Lib.hid z1
  have Z2:=Lib.hid z2
  have Z3:=Lib.hid z3
  have Z4:=Lib.hid z4
  clear h1 h2 h3 h4 z1 z2 z3 z4
  obtain ⟨i,rfl⟩:∃ i:Nat,who=(i:Int):=⟨who.toNat,by simp [taskOk,taskB,inB] at ht;omega⟩
  have hi:i<x.hands.length:=by simp [taskOk,taskB,inB] at ht;omega
  obtain ⟨b3,o3,rfl,hb3,hc3⟩:∃ b o,d=some ⟨b,o,none⟩∧b<w.heap.size∧Hid (∀ i j,i<x.hands.length→j<14→w.cell? ⟨b,o+i*14+j,none⟩=some (handF x.hands i j)):=by
    rcases H3.out with h0|h0
    · omega
    · exact h0
  have hLd:∀ W:World,hp W b3=hp w b3→(LHand (.pointer (some ⟨b3,o3+i*14,none⟩))).run Tryz.prog W=.ok (.agg (hvals (handAt x i))) W:=fun W e=>ldHandE _ fun j hj=>by rw [show (hvals (handAt x i)).getD j (.int .i64 0)=handF x.hands i j by simp [handF,handAt],← hc3.out i j hi hj];exact World.cell?_of_block e
  have hi0:(0:Int)≤(i:Int):=by omega
  have hi1:(i:Int)<(x.hands.length:Int):=by omega
  have e0:stepW x i S=({ setHand x i S.2.1 with now:=x.now+1,ch:=S.1,deals:=x.deals ++ [⟨i,(handAt x i).code,(handAt x i).elem,(handAt x i).beg,x.now+1,S.2.1.reply,S.2.1.out⟩] },true):=by simp at hn hx hf;simp [stepW,hc,hn,hx,hf,hr]
  rw [e0]
  clear e0
  have T:=Lib.hid fun a b p q W=>sStep_any x.ch (handAt x i) a b p q W
  rw [hS] at T
  clear hS
  have lb1:b3<w.heap.size+1:=by omega
  have lb2:b3<w.heap.size+1+1:=by omega
  have nb1:b3≠w.heap.size:=by omega
  have nb2:b3≠w.heap.size+1:=by omega
  go_enter Tryz.func53,Tryz.ntmps53
  go_wp2_with fail;refine bHit w (by exact zB) fun bb=>?_;refine (T.out a b p q _ ((H1.out.below bb).more bb.size) Z1.out ((H2.out.below bb).more bb.size) Z2.out).mono ?_;rintro _ w2 ⟨⟨y1,y2,rfl,oY1,oY2,_,_⟩,hbw2⟩;have hCw2:Below w.heap.size w w2:=bT bb hbw2;have hsw2:=hbw2.size;(try simp at hsw2);have zz:=And.intro (hQ hbw2 (b:=w.heap.size+1+1)) <| And.intro (hQ hbw2 (b:=w.heap.size+1)) <| hQ hbw2 (b:=w.heap.size);(try simp [go_sem] at zz);(try clear z_wpp x_wpp f_wpp l_wpp);(try clear z_wp x_wp f_wp l_wp);(try clear z_w x_w f_w l_w);obtain ⟨z_wpp,z_wp,z_w⟩:=zz;obtain ⟨x_wpp,f_wpp,l_wpp⟩:=bO z_wpp;obtain ⟨x_wp,f_wp,l_wp⟩:=bO z_wp;obtain ⟨x_w,f_w,l_w⟩:=bO z_w;clear hbw2 bb
  try simp at oY1 oY2
  have U1:=Lib.hid oY1
  have U2:=Lib.hid oY2
  obtain ⟨ya,yc,rfl,_⟩:=OCells.seg oY1
  obtain ⟨yb,yd,rfl,_⟩:=OInts.seg oY2
  clear oY1 oY2
  simp only [cvals]
  have z2:hp w2 b3=hp w b3:=hCw2.block b3 hb3
  have lb3:b3<w2.heap.size:=by omega
  have nb3:b3≠w2.heap.size:=by omega
  have nb4:b3≠w2.heap.size+1:=by omega
  have lb4:b3<w2.heap.size+1:=by omega
  rw [hc]
  go_wp2_with fail;refine bHit w (by exact zB) fun bb=>?_;refine bHit w2 (by exact zB) fun bk=>?_;refine (l11Copy_any x a b _ e p q r s _ ((H1.out.below bb).more bb.size) Z1.out ((H2.out.below bb).more bb.size) Z2.out ((H3.out.below bb).more bb.size) Z3.out ((H4.out.below bb).more bb.size) Z4.out m1 m2 m3 m4).mono ?_;rintro _ w3 ⟨⟨v1,v2,v3,v4,rfl,o1,o2,o3x,o4⟩,hbw3⟩;have hCw3:Below w.heap.size w w3:=bT bb hbw3;have hsw3:=hbw3.size;(try simp at hsw3);have zz:=And.intro (hQ hbw3 (b:=w2.heap.size+1)) <| And.intro (hQ hbw3 (b:=w2.heap.size)) <| And.intro (hQ hbw3 (b:=w.heap.size+1+1)) <| And.intro (hQ hbw3 (b:=w.heap.size+1)) <| hQ hbw3 (b:=w.heap.size);(first|simp [go_sem,z_wpp,z_wp,z_w,l_w,l_wp,l_wpp] at zz|simp [go_sem] at zz|skip);(try clear z_w2p x_w2p f_w2p l_w2p);(try clear z_w2 x_w2 f_w2 l_w2);(try clear z_wpp x_wpp f_wpp l_wpp);(try clear z_wp x_wp f_wp l_wp);(try clear z_w x_w f_w l_w);obtain ⟨z_w2p,z_w2,z_wpp,z_wp,z_w⟩:=zz;obtain ⟨x_w2p,f_w2p,l_w2p⟩:=bO z_w2p;obtain ⟨x_w2,f_w2,l_w2⟩:=bO z_w2;obtain ⟨x_wpp,f_wpp,l_wpp⟩:=bO z_wpp;obtain ⟨x_wp,f_wp,l_wp⟩:=bO z_wp;obtain ⟨x_w,f_w,l_w⟩:=bO z_w;have hKw3:Below w2.heap.size w2 w3:=bT bk hbw3;clear hbw3 bb bk
  try simp at o1 o2 o3x o4
  have O1:=Lib.hid o1
  have O2:=Lib.hid o2
  have O3:=Lib.hid o3x
  have O4:=Lib.hid o4
  obtain ⟨va,vc,rfl,_⟩:=OCells.seg o1
  obtain ⟨vb,vd,rfl,_⟩:=OInts.seg o2
  obtain ⟨g,vg,rfl,hlo,lg,hgc,hgf⟩:=OHands.open1 o3x hi
  obtain ⟨vh,vi,rfl,_⟩:=ODeals.seg o4
  clear o1 o2 o3x o4
  have z3:hp w3 b3=hp w b3:=hCw3.block b3 hb3
  have ng0:g≠w.heap.size:=by omega
  have mg0:w.heap.size≠g:=by omega
  have ng1:g≠w.heap.size+1:=by omega
  have mg1:w.heap.size+1≠g:=by omega
  have ng2:g≠w.heap.size+1+1:=by omega
  have mg2:w.heap.size+1+1≠g:=by omega
  have ng3:g≠w2.heap.size:=by omega
  have mg3:w2.heap.size≠g:=by omega
  have ng4:g≠w2.heap.size+1:=by omega
  have mg4:w2.heap.size+1≠g:=by omega
  have ng5:g≠w3.heap.size:=by omega
  have mg5:w3.heap.size≠g:=by omega
  have gt0:w.heap.size<g:=by omega
  have gt1:w.heap.size+1<g:=by omega
  have gt2:w.heap.size+1+1<g:=by omega
  have gt3:w2.heap.size<g:=by omega
  have gt4:w2.heap.size+1<g:=by omega
  have lg1:g<w3.heap.size+1:=by omega
  have hSt:∀ (W:World) (y:Ha),hp W g=hp w3 g→(SHand (.pointer (some ⟨g,i*14,none⟩)) (.agg (hvals y))).run Tryz.prog W=.ok () (setElem W g (i*14) y):=fun W y e=>stHandE y (fun j hj=>⟨_,(World.cell?_of_block (show W.heap[g]?=w3.heap[g]? from e)).trans (hgc j hj)⟩) (fun j=>(World.frozen?_of_block (show W.heap[g]?=w3.heap[g]? from e)).trans (hgf j))
  have hf2:¬ (1000:Int)≤(x.deals.length:Int):=by simp at hf;omega
  obtain ⟨i6,hi6,hz6,hsz6,hby6⟩:=info_parts infoDealE
  go_wp2_with fail
  obtain ⟨w5,hw5⟩:∃ w5,w5=setElem (w3.alloc (.cells #[.int .i64 S.1.cap,.int .i64 S.1.sent,.int .i64 S.1.got,.int .i64 S.1.fin,.slice ya S.1.cells.length yc,.slice yb S.1.words.length yd,.slice (some ⟨g,0,none⟩) x.hands.length vg,.slice vh x.deals.length vi,.int .i64 (x.now+1)] 74)) g (i*14) S.2.1:=⟨_,rfl⟩
  rw [← hw5]
  have x_w3:∀ o,w5.cell? ⟨w3.heap.size,o,none⟩=#[Value.int .i64 S.1.cap,.int .i64 S.1.sent,.int .i64 S.1.got,.int .i64 S.1.fin,.slice ya S.1.cells.length yc,.slice yb S.1.words.length yd,.slice (some ⟨g,0,none⟩) x.hands.length vg,.slice vh x.deals.length vi,.int .i64 (x.now+1)][o]?:=fun o=>by rw [hw5];simp [go_sem, *]
  have f_w3:∀ o,w5.frozen? ⟨w3.heap.size,o,none⟩=false:=fun o=>by rw [hw5];simp [go_sem, *]
  have z_w3:hp w5 w3.heap.size=some (.cells #[.int .i64 S.1.cap,.int .i64 S.1.sent,.int .i64 S.1.got,.int .i64 S.1.fin,.slice ya S.1.cells.length yc,.slice yb S.1.words.length yd,.slice (some ⟨g,0,none⟩) x.hands.length vg,.slice vh x.deals.length vi,.int .i64 (x.now+1)] 74):=by
    rw [hw5]
    exact (grHp (setElem_gr _ g (i*14) S.2.1) (by simp) (by simpa using mg5)).trans (heap_alloc_new w3 _)
  have hG5:w3.grownBy w5 (some g):=by rw [hw5];exact gT (gA (gR _ _)) (setElem_gr _ g (i*14) S.2.1)
  have l_w3:w3.heap.size<w5.heap.size:=by rw [hw5,setElem_size];simp
  have hs5:w3.heap.size+1≤w5.heap.size:=l_w3
  have sb0:some (w.heap.size)≠some g:=by simpa using mg0
  have sb1:some (w.heap.size+1)≠some g:=by simpa using mg1
  have sb2:some (w.heap.size+1+1)≠some g:=by simpa using mg2
  have sb3:some (w2.heap.size)≠some g:=by simpa using mg3
  have sb4:some (w2.heap.size+1)≠some g:=by simpa using mg4
  have o1:=own_below U1.out hKw3
  have o2:=own_below U2.out hKw3
  have o3:=O3.out
  have o4:=O4.out
  have e1:=off_some (g:=g) (own_off_ty o1 o3 (by decide)) rfl
  have e2:=off_some (g:=g) (own_off_ty o2 o3 (by decide)) rfl
  have e4:=off_some (g:=g) (own_off_ty o4 o3 (by decide)) rfl
  have r1:=o1.kept hG5 (.inr e1)
  have r2:=o2.kept hG5 (.inr e2)
  have r4:=o4.kept hG5 (.inr e4)
  have r3:OHands w5 (w2.heap.size+1+1) (.slice (some ⟨g,0,none⟩) x.hands.length vg) (x.hands.set i S.2.1):=by rw [hw5];exact OHands.set (World.ownsRow.alloc o3 _) hi _
  have R1:=Lib.hid r1
  have R2:=Lib.hid r2
  have R3:=Lib.hid r3
  have R4:=Lib.hid r4
  have B5:Below w.heap.size w w5:=bOwn hCw3 hG5 (by omega) (fun k hk=>by simp at hk;omega)
  have b4:∀ j,(Value.slice vh x.deals.length vi).ownBlock=some j→w2.heap.size+1+1≤j∧j<w3.heap.size:=fun j hj=>o4.lt j hj
  have nn1:(Value.slice ya S.1.cells.length yc).ownBlock≠some w3.heap.size:=fun e=>by have:=(o1.lt _ e).2;omega
  have nn2:(Value.slice yb S.1.words.length yd).ownBlock≠some w3.heap.size:=fun e=>by have:=(o2.lt _ e).2;omega
  have nn3:(Value.slice (some ⟨g,0,none⟩) x.hands.length vg).ownBlock≠some w3.heap.size:=fun e=>by have:=(o3.lt _ e).2;omega
  clear hw5 o1 o2 o3 o4 r1 r2 r3 r4 e1 e2 e4 O1 O2 O3 O4 U1 U2 hSt hgc hgf hCw3 hKw3
  have hsw5:=hG5.size;(try (simp at hsw5));have zz:=And.intro (grHp hG5 (b:=w2.heap.size+1) (by (try simp) <;> omega) (by assumption)) <| And.intro (grHp hG5 (b:=w2.heap.size) (by (try simp) <;> omega) (by assumption)) <| And.intro (grHp hG5 (b:=w.heap.size+1+1) (by (try simp) <;> omega) (by assumption)) <| And.intro (grHp hG5 (b:=w.heap.size+1) (by (try simp) <;> omega) (by assumption)) <| grHp hG5 (b:=w.heap.size) (by (try simp) <;> omega) (by assumption);(first|simp [go_sem,z_w2p,z_w2,z_wpp,z_wp,z_w,l_w,l_w2,l_w2p,l_wp,l_wpp] at zz|simp [go_sem] at zz|skip);(try clear z_w2p x_w2p f_w2p l_w2p);(try clear z_w2 x_w2 f_w2 l_w2);(try clear z_wpp x_wpp f_wpp l_wpp);(try clear z_wp x_wp f_wp l_wp);(try clear z_w x_w f_w l_w);obtain ⟨z_w2p,z_w2,z_wpp,z_wp,z_w⟩:=zz;obtain ⟨x_w2p,f_w2p,l_w2p⟩:=bO z_w2p;obtain ⟨x_w2,f_w2,l_w2⟩:=bO z_w2;obtain ⟨x_wpp,f_wpp,l_wpp⟩:=bO z_wpp;obtain ⟨x_wp,f_wp,l_wp⟩:=bO z_wp;obtain ⟨x_w,f_w,l_w⟩:=bO z_w
  clear hG5
  go_wp2_with fail;refine bHit w (by exact zB) fun bb=>?_;refine bHit w5 (by exact zB) fun bk=>?_;refine (sReplyOk_any (handAt x i).code (handAt x i).elem S.2.1.reply _).mono ?_;rintro _ w6 ⟨rfl,hbw6⟩;have hCw6:Below w.heap.size w w6:=bT bb hbw6;have hsw6:=hbw6.size;(try simp at hsw6);have zz:=And.intro (hQ hbw6 (b:=w3.heap.size)) <| And.intro (hQ hbw6 (b:=w2.heap.size+1)) <| And.intro (hQ hbw6 (b:=w2.heap.size)) <| And.intro (hQ hbw6 (b:=w.heap.size+1+1)) <| And.intro (hQ hbw6 (b:=w.heap.size+1)) <| hQ hbw6 (b:=w.heap.size);(first|simp [go_sem,z_w3,z_w2p,z_w2,z_wpp,z_wp,z_w,l_w,l_w2,l_w2p,l_w3,l_wp,l_wpp] at zz|simp [go_sem] at zz|skip);(try clear z_w3 x_w3 f_w3 l_w3);(try clear z_w2p x_w2p f_w2p l_w2p);(try clear z_w2 x_w2 f_w2 l_w2);(try clear z_wpp x_wpp f_wpp l_wpp);(try clear z_wp x_wp f_wp l_wp);(try clear z_w x_w f_w l_w);obtain ⟨z_w3,z_w2p,z_w2,z_wpp,z_wp,z_w⟩:=zz;obtain ⟨x_w3,f_w3,l_w3⟩:=bO z_w3;obtain ⟨x_w2p,f_w2p,l_w2p⟩:=bO z_w2p;obtain ⟨x_w2,f_w2,l_w2⟩:=bO z_w2;obtain ⟨x_wpp,f_wpp,l_wpp⟩:=bO z_wpp;obtain ⟨x_wp,f_wp,l_wp⟩:=bO z_wp;obtain ⟨x_w,f_w,l_w⟩:=bO z_w;have hKw6:Below w5.heap.size w5 w6:=bT bk hbw6;clear hbw6 bb bk
  rw [hr]
  have q1:=own_below R1.out hKw6
  have q2:=own_below R2.out hKw6
  have q3:=own_below R3.out hKw6
  have q4:=own_below R4.out hKw6
  go_wp2_with (at_builtin;refine wpList_append_lies _ rfl _ _ 72 rfl (w2.heap.size+1+1) 116 i6 _ 7 56 Tryz.underlying72 hi6 hz6 hsz6 hby6 rfl (by decide) (.slice vh x.deals.length vi) x.deals.length (flatD x.deals) rfl (World.ownsRow.alloc q4 _) ⟨w6.heap.size,0,none⟩ 1 1 (dvals (⟨i,(handAt x i).code,(handAt x i).elem,(handAt x i).beg,x.now+1,S.2.1.reply,S.2.1.out⟩:De)).toList rfl rfl ?c2 (by simp [dvals,Value.oneCell']) (by omega) ?c3 ?c4 ?c5 (w6.heap.size+1) (by simp) ?_)
  case c2=>exact newsDeal w6 _ _
  case c3=>unfold maxLen;omega
  case c4=>omega
  case c5=>simp;omega
  intro g8 q8 w8 o8 g4 hat hlt8
  have md0:some (w.heap.size)≠(Value.slice vh x.deals.length vi).ownBlock:=fun e=>by have:=b4 _ e.symm;omega
  have md1:some (w.heap.size+1)≠(Value.slice vh x.deals.length vi).ownBlock:=fun e=>by have:=b4 _ e.symm;omega
  have md2:some (w.heap.size+1+1)≠(Value.slice vh x.deals.length vi).ownBlock:=fun e=>by have:=b4 _ e.symm;omega
  have md3:some (w2.heap.size)≠(Value.slice vh x.deals.length vi).ownBlock:=fun e=>by have:=b4 _ e.symm;omega
  have md4:some (w2.heap.size+1)≠(Value.slice vh x.deals.length vi).ownBlock:=fun e=>by have:=b4 _ e.symm;omega
  have md5:some (w3.heap.size)≠(Value.slice vh x.deals.length vi).ownBlock:=fun e=>by have:=b4 _ e.symm;omega
  have hsw8:=g4.size;(try (simp at hsw8));have zz:=And.intro (grHp g4 (b:=w3.heap.size) (by (try simp) <;> omega) (by assumption)) <| And.intro (grHp g4 (b:=w2.heap.size+1) (by (try simp) <;> omega) (by assumption)) <| And.intro (grHp g4 (b:=w2.heap.size) (by (try simp) <;> omega) (by assumption)) <| And.intro (grHp g4 (b:=w.heap.size+1+1) (by (try simp) <;> omega) (by assumption)) <| And.intro (grHp g4 (b:=w.heap.size+1) (by (try simp) <;> omega) (by assumption)) <| grHp g4 (b:=w.heap.size) (by (try simp) <;> omega) (by assumption);(first|simp [go_sem,z_w3,z_w2p,z_w2,z_wpp,z_wp,z_w,l_w,l_w2,l_w2p,l_w3,l_wp,l_wpp] at zz|simp [go_sem] at zz|skip);(try clear z_w3 x_w3 f_w3 l_w3);(try clear z_w2p x_w2p f_w2p l_w2p);(try clear z_w2 x_w2 f_w2 l_w2);(try clear z_wpp x_wpp f_wpp l_wpp);(try clear z_wp x_wp f_wp l_wp);(try clear z_w x_w f_w l_w);obtain ⟨z_w3,z_w2p,z_w2,z_wpp,z_wp,z_w⟩:=zz;obtain ⟨x_w3,f_w3,l_w3⟩:=bO z_w3;obtain ⟨x_w2p,f_w2p,l_w2p⟩:=bO z_w2p;obtain ⟨x_w2,f_w2,l_w2⟩:=bO z_w2;obtain ⟨x_wpp,f_wpp,l_wpp⟩:=bO z_wpp;obtain ⟨x_wp,f_wp,l_wp⟩:=bO z_wp;obtain ⟨x_w,f_w,l_w⟩:=bO z_w
  have r1:=(World.ownsRow.alloc q1 (.cells (dvals (⟨i,(handAt x i).code,(handAt x i).elem,(handAt x i).beg,x.now+1,S.2.1.reply,S.2.1.out⟩:De)) 116)).kept g4 (own_off_ty (World.ownsRow.alloc q1 (.cells (dvals (⟨i,(handAt x i).code,(handAt x i).elem,(handAt x i).beg,x.now+1,S.2.1.reply,S.2.1.out⟩:De)) 116)) (World.ownsRow.alloc q4 (.cells (dvals (⟨i,(handAt x i).code,(handAt x i).elem,(handAt x i).beg,x.now+1,S.2.1.reply,S.2.1.out⟩:De)) 116)) (by decide))
  have r2:=(World.ownsRow.alloc q2 (.cells (dvals (⟨i,(handAt x i).code,(handAt x i).elem,(handAt x i).beg,x.now+1,S.2.1.reply,S.2.1.out⟩:De)) 116)).kept g4 (own_off_ty (World.ownsRow.alloc q2 (.cells (dvals (⟨i,(handAt x i).code,(handAt x i).elem,(handAt x i).beg,x.now+1,S.2.1.reply,S.2.1.out⟩:De)) 116)) (World.ownsRow.alloc q4 (.cells (dvals (⟨i,(handAt x i).code,(handAt x i).elem,(handAt x i).beg,x.now+1,S.2.1.reply,S.2.1.out⟩:De)) 116)) (by decide))
  have r3:=(World.ownsRow.alloc q3 (.cells (dvals (⟨i,(handAt x i).code,(handAt x i).elem,(handAt x i).beg,x.now+1,S.2.1.reply,S.2.1.out⟩:De)) 116)).kept g4 (own_off_ty (World.ownsRow.alloc q3 (.cells (dvals (⟨i,(handAt x i).code,(handAt x i).elem,(handAt x i).beg,x.now+1,S.2.1.reply,S.2.1.out⟩:De)) 116)) (World.ownsRow.alloc q4 (.cells (dvals (⟨i,(handAt x i).code,(handAt x i).elem,(handAt x i).beg,x.now+1,S.2.1.reply,S.2.1.out⟩:De)) 116)) (by decide))
  have r4:ODeals w8 (w2.heap.size+1+1) (.slice (some ⟨g8,0,none⟩) (x.deals ++ [(⟨i,(handAt x i).code,(handAt x i).elem,(handAt x i).beg,x.now+1,S.2.1.reply,S.2.1.out⟩:De)]).length q8) (x.deals ++ [(⟨i,(handAt x i).code,(handAt x i).elem,(handAt x i).beg,x.now+1,S.2.1.reply,S.2.1.out⟩:De)]):=ODeals.snoc (by simpa using o8)
  have hgb:∀ j,j<w2.heap.size+1+1∨j=w3.heap.size→(Value.slice (some ⟨g8,0,none⟩) (x.deals.length+1) q8).ownBlock≠some j:=fun j h1 e=>by
    have e2:g8=j:=by simpa [Value.ownBlock] using e
    rcases hat with hat|hat
    · have:=b4 _ hat;omega
    · omega
  have B8:Below w.heap.size w w8:=bOwn (by exact zB) g4 (by (try simp) <;> omega) (fun k hk=>by have:=(b4 k hk).1;omega)
  clear o8 g4 q1 q2 q3 q4
  go_wp2
  have p1:=own_lo (lo':=w.heap.size) r1 (by omega)
  have p2:=own_lo (lo':=w.heap.size) r2 (by omega)
  have p3:=own_lo (lo':=w.heap.size) r3 (by omega)
  have p4:=own_lo (lo':=w.heap.size) r4 (by omega)
  refine bodyPost_ret (v:=.tuple #[.agg #[.int .i64 S.1.cap,.int .i64 S.1.sent,.int .i64 S.1.got,.int .i64 S.1.fin,.slice ya S.1.cells.length yc,.slice yb S.1.words.length yd,.slice (some ⟨g,0,none⟩) x.hands.length vg,.slice (some ⟨g8,0,none⟩) (x.deals.length+1) q8,.int .i64 (x.now+1)],.bool true]) (by simp [results,Tryz.results53,go_sem, *]) rfl ⟨⟨_,_,_,_,rfl,?_,?_,?_,?_⟩,by exact zB⟩
  · show OCells _ _ _ S.1.cells
    (repeat first|with_reducible exact p1|with_reducible refine oAl ?_ _|with_reducible refine oDr ?_|((with_reducible first|refine own_store ?_ ?_ _|refine own_box ?_ ?_);rotate_left;focus first|(refine own_ne r1 ?_;(try dsimp only);omega)|(refine own_ne' r1 ?_;(try dsimp only);omega)|exact nn1))
  · show OInts _ _ _ S.1.words
    (repeat first|with_reducible exact p2|with_reducible refine oAl ?_ _|with_reducible refine oDr ?_|((with_reducible first|refine own_store ?_ ?_ _|refine own_box ?_ ?_);rotate_left;focus first|(refine own_ne r2 ?_;(try dsimp only);omega)|(refine own_ne' r2 ?_;(try dsimp only);omega)|exact nn2))
  · show OHands _ _ _ (x.hands.set i _)
    (repeat first|with_reducible exact p3|with_reducible refine oAl ?_ _|with_reducible refine oDr ?_|((with_reducible first|refine own_store ?_ ?_ _|refine own_box ?_ ?_);rotate_left;focus first|(refine own_ne r3 ?_;(try dsimp only);omega)|(refine own_ne' r3 ?_;(try dsimp only);omega)|exact nn3))
  · have e0:x.deals.length+1=(x.deals ++ [(⟨i,(handAt x i).code,(handAt x i).elem,(handAt x i).beg,x.now+1,S.2.1.reply,S.2.1.out⟩:De)]).length:=by simp
    rw [e0]
    (repeat first|with_reducible exact p4|with_reducible refine oAl ?_ _|with_reducible refine oDr ?_|((with_reducible first|refine own_store ?_ ?_ _|refine own_box ?_ ?_);rotate_left;focus first|(refine own_ne r4 ?_;(try dsimp only);omega)|(refine own_ne' r4 ?_;(try dsimp only);omega)|exact (by rw [← e0];exact hgb _ (by (try dsimp only) <;> omega))))
end Go.Proofs.YtkiingmgpobgnaaGreat
set_option linter.unusedSimpArgs false
set_option linter.unusedVariables false
namespace Go.Proofs.YtkiingmgpobgnaaGreat
open Go.RowKit
set_option linter.unusedSimpArgs false

theorem l11Step_any (x:Wo) (who:Int) (a b d e:Option Addr) (p q r s:Nat) (w:World) (h1:Seg w w.heap.size a x.ch.cells.length 3 (cellF x.ch.cells)) (z1:a=none→p=0) (h2:Seg w w.heap.size b x.ch.words.length 1 (intF x.ch.words)) (z2:b=none→q=0) (h3:Seg w w.heap.size d x.hands.length 14 (handF x.hands)) (z3:d=none→x.hands.length=0∧r=0) (h4:Seg w w.heap.size e x.deals.length 7 (dealF x.deals)) (z4:e=none→x.deals.length=0∧s=0) (m1:x.ch.cells.length≤1099511627776) (m2:x.ch.words.length≤1099511627776) (m3:x.hands.length≤1099511627776) (m4:x.deals.length≤1099511627776) (ht:taskOk x who=true) (hnr:0≤x.now∧x.now≤20000) :
    Calls Tryz.prog 53 #[.agg #[.int .i64 x.ch.cap,.int .i64 x.ch.sent,.int .i64 x.ch.got,.int .i64 x.ch.fin,.slice a x.ch.cells.length p,.slice b x.ch.words.length q,.slice d x.hands.length r,.slice e x.deals.length s,.int .i64 x.now],.int .i64 who] w fun r w'=>WordR w w' (step11 x who).1 (.bool (step11 x who).2) r:=by
  cases hc:(stepC x.ch (handAt x who)).2.2 with
  | false=>exact l11step_no x who _ a b d e p q r s w h1 z1 h2 z2 h3 z3 h4 z4 m1 m2 m3 m4 ht rfl hc
  | true =>
    cases hn:x.now == 20000 with
    | true=>exact l11step_late x who _ a b d e p q r s w h1 z1 h2 z2 h3 z3 h4 z4 m1 m2 m3 m4 ht rfl hc hn
    | false =>
      cases hx:(stepC x.ch (handAt x who)).2.1.pos != 0 with
      | true=>exact l11step_on x who _ a b d e p q r s w h1 z1 h2 z2 h3 z3 h4 z4 m1 m2 m3 m4 ht rfl hc hn hnr hx
      | false =>
        cases hf:decide (1000≤x.deals.length) with
        | true=>exact l11step_full x who _ a b d e p q r s w h1 z1 h2 z2 h3 z3 h4 z4 m1 m2 m3 m4 ht rfl hc hn hnr hx hf
        | false =>
          cases hr:replyOk (handAt x who).code (handAt x who).elem (stepC x.ch (handAt x who)).2.1.reply with
          | true=>exact l11step_deal x who _ a b d e p q r s w h1 z1 h2 z2 h3 z3 h4 z4 m1 m2 m3 m4 ht rfl hc hn hnr hx hf hr
          | false=>exact l11step_unfit x who _ a b d e p q r s w h1 z1 h2 z2 h3 z3 h4 z4 m1 m2 m3 m4 ht rfl hc hn hnr hx hf hr
end Go.Proofs.YtkiingmgpobgnaaGreat
set_option linter.unusedSimpArgs false
set_option linter.unusedVariables false
namespace Go.Proofs.YtkiingmgpobgnaaGreat
/-- One who has waited, and goes on to be parked or to end. -/
def Ph (h:Ha):Prop:=(16≤h.pos∧h.pos≤22∧h.nxt=1)∨23≤h.pos
/-- What a step leaves. -/
def Good (c:Ch) (h:Ha) (s:St):Prop:=s.2.2=true→chanOk s.1=true∧handOk s.2.1=true∧(s.2.1.beg=h.beg∨s.2.1.beg=0) ∧
  ((s.1.words.length=c.words.length∧(Ph h→Ph s.2.1∨s.2.1.pos=0))∨(s.1.words.length=c.words.length+1∧¬ Ph h∧Ph s.2.1))
theorem good_no (c:Ch) (h:Ha) (a:Ch) (b:Ha):Good c h (a,b,false):=fun e=>by cases e
theorem good_nothing (c:Ch) (h:Ha):Good c h nothing:=fun e=>by cases e
theorem good_done {c:Ch} {h:Ha} {c':Ch} {h':Ha} (hb:h'.beg=h.beg∨h'.beg=0) (hw:(c'.words.length=c.words.length∧(Ph h→Ph h'∨h'.pos=0))∨(c'.words.length=c.words.length+1∧¬ Ph h∧Ph h')):Good c h (done c' h'):=by
  unfold done
  split
  · rename_i e
    simp at e
    exact fun _=>⟨e.1,e.2,hb,hw⟩
  · exact good_nothing c h
theorem tell_len (c:Ch) (v x:Int):(tellC c v x).words.length=c.words.length:=by unfold tellC;split <;> simp
theorem anew_beg (h:Ha):(anew h).beg=h.beg:=rfl
theorem grown_beg (h:Ha):(grown8 h).beg=h.beg∨(grown8 h).beg=0:=by unfold grown8;split <;> (try split) <;> simp [resting,anew_beg]
theorem grown_ph {h h':Ha} (e:h'.nxt=h.nxt) (hp:h.pos≤22) (H:Ph h):Ph (grown8 h')∨(grown8 h').pos=0:=by
  have hn:h.nxt=1:=by
    rcases H with H|H
    · exact H.2.2
    · omega
  left
  unfold grown8
  rw [e,hn]
  right
  simp
theorem good_send {c:Ch} {h:Ha} (hl:¬ Ph h):Good c h (sendStep c h):=by
  have K:∀ {c':Ch} {h':Ha},(h'.beg=h.beg∨h'.beg=0)→c'.words.length=c.words.length→Good c h (done c' h'):=fun hb hw=>good_done hb (.inl ⟨hw,fun H=>absurd H hl⟩)
  unfold sendStep
  repeat' split
  all_goals try exact good_nothing c h
  · unfold send1;split
    · exact K (.inr rfl) rfl
    · exact K (.inl rfl) rfl
  · exact K (.inl rfl) rfl
  · unfold send3 look6
    simp only
    repeat' split
    all_goals first|exact good_nothing c h|exact K (.inl rfl) rfl
  · exact K (.inl rfl) rfl
  · exact K (.inl rfl) rfl
  · unfold put6 wait6
    repeat' split
    all_goals first|exact good_nothing c h|exact K (.inr rfl) rfl|exact K (.inl rfl) rfl|skip
    exact good_done (.inl rfl) (.inr ⟨by simp,hl,.inr (by show (23:Int)≤23;omega)⟩)
  · unfold call6
    refine K ?_ (tell_len _ _ _)
    simp only
    split <;> exact .inl rfl
  · exact K (.inr rfl) rfl
theorem good_recv {c:Ch} {h:Ha} (hl:¬ Ph h):Good c h (recvStep c h):=by
  have K:∀ {c':Ch} {h':Ha},(h'.beg=h.beg∨h'.beg=0)→c'.words.length=c.words.length→Good c h (done c' h'):=fun hb hw=>good_done hb (.inl ⟨hw,fun H=>absurd H hl⟩)
  unfold recvStep
  repeat' split
  all_goals try exact good_nothing c h
  · unfold recv1;split
    · exact K (.inr rfl) rfl
    · exact K (.inl rfl) rfl
  · unfold recv2 view7
    simp only
    repeat' split
    all_goals first|exact good_nothing c h|exact good_no c h _ _|exact K (.inl rfl) rfl
  · exact K (.inl rfl) rfl
  · unfold take7 turn7 wait6 then7
    repeat' split
    all_goals first|exact good_nothing c h|exact K (.inr rfl) rfl|exact K (.inl rfl) rfl|skip
    all_goals first|exact good_done (.inl rfl) (.inr ⟨by simp,hl,.inl ⟨by simp,by simp,rfl⟩⟩)|skip
    all_goals simp_all
  · unfold wake7
    exact K (.inl rfl) (tell_len _ _ _)
  · exact K (.inl rfl) rfl
  · exact K (.inl rfl) rfl
theorem good_grow {c:Ch} {h:Ha} (hp0:16≤h.pos) (hp:h.pos≤22):Good c h (growStep c h):=by
  have N:Ph h→h.nxt=1:=fun H=>by
    rcases H with H|H
    · exact H.2.2
    · omega
  have K:∀ {c':Ch} {h':Ha},(h'.beg=h.beg∨h'.beg=0)→c'.words.length=c.words.length→h'.nxt=h.nxt→(16≤h'.pos∧h'.pos≤22)→Good c h (done c' h'):=fun hb hw e q=>good_done hb (.inl ⟨hw,fun H=>.inl (.inl ⟨q.1,q.2,e.trans (N H)⟩)⟩)
  have G:∀ {c':Ch} {h':Ha},h'.beg=h.beg→c'.words.length=c.words.length→h'.nxt=h.nxt→Good c h (done c' (grown8 h')):=fun {c' h'} hb hw e=>good_done (by rw [← hb];exact grown_beg h') (.inl ⟨hw,fun H=>grown_ph e hp H⟩)
  unfold growStep
  repeat' split
  all_goals try exact good_nothing c h
  · unfold begin8
    split
    · exact G rfl rfl rfl
    · exact K (.inl rfl) rfl rfl ⟨by simp,by simp⟩
  · exact G rfl rfl rfl
  · exact K (.inl rfl) rfl rfl ⟨by simp,by simp⟩
  · unfold meetStep meet8
    simp only
    repeat' split
    all_goals first|exact good_no c h _ _|exact K (.inl rfl) rfl rfl ⟨by simp [seenAs],by simp [seenAs]⟩|exact G rfl rfl rfl
  · unfold pull8 turn8
    repeat' split
    all_goals first|exact good_nothing c h|exact K (.inl rfl) rfl rfl ⟨by simp,by simp⟩|exact G rfl rfl rfl
  · unfold raise8
    exact K (.inl rfl) (tell_len _ _ _) rfl ⟨by simp only;split <;> omega,by simp only;split <;> omega⟩
  · exact G rfl rfl rfl
  · exact K (.inl rfl) rfl rfl ⟨by simp,by simp⟩
theorem good_park (c:Ch) (h:Ha):Good c h (parkStep c h):=by
  have K:∀ {c':Ch} {h':Ha},(h'.beg=h.beg∨h'.beg=0)→c'.words.length=c.words.length→(23≤h'.pos∨h'.pos=0)→Good c h (done c' h'):=fun hb hw q=>good_done hb (.inl ⟨hw,fun _=>q.imp (fun q=>.inr q) id⟩)
  unfold parkStep
  repeat' split
  all_goals try exact good_nothing c h
  · unfold park9
    repeat' split
    all_goals first|exact good_no c h _ _|exact K (.inr rfl) rfl (.inr rfl)|exact K (.inl rfl) rfl (.inl (by simp))
  · exact K (.inr rfl) rfl (.inr rfl)
  · exact K (.inr rfl) rfl (.inr rfl)
theorem good_step (c:Ch) (h:Ha):Good c h (stepC c h):=by
  unfold stepC
  split
  · rename_i e
    simp [inB] at e
    exact good_send (by unfold Ph;omega)
  · split
    · rename_i e
      simp [inB] at e
      exact good_recv (by unfold Ph;omega)
    · split
      · rename_i e
        simp [inB] at e
        exact good_grow e.1 e.2
      · exact good_park c h
end Go.Proofs.YtkiingmgpobgnaaGreat
set_option linter.unusedSimpArgs false
set_option linter.unusedVariables false
namespace Go.Proofs.YtkiingmgpobgnaaGreat
/-- A right world, said at length. -/
structure RightW (x:Wo):Prop where
  ch:chanOk x.ch=true
  h1:1≤x.hands.length
  h6:x.hands.length≤6
  d:x.deals.length≤1000
  n0:0≤x.now
  n1:x.now≤20000
  hs:∀ h ∈ x.hands,handOk h=true∧h.beg≤x.now
  ds:∀ d ∈ x.deals,dealB x.hands.length x.now d=true
theorem rightW_iff (x:Wo):worldOk x=true↔RightW x:=by
  constructor
  · intro h
    simp only [worldOk,worldHead,inB,Bool.and_eq_true,decide_eq_true_eq,List.all_eq_true,handB11] at h
    obtain ⟨⟨a,b,c,d,e,f⟩,g,i⟩:=h
    exact ⟨a,b,c,d,e,f,g,i⟩
  · intro h
    simp only [worldOk,worldHead,inB,Bool.and_eq_true,decide_eq_true_eq,List.all_eq_true,handB11]
    exact ⟨⟨h.ch,h.h1,h.h6,h.d,h.n0,h.n1⟩,h.hs,h.ds⟩
theorem hand_parts {h:Ha} (e:handOk h=true):0≤h.beg∧h.beg≤20000∧inB h.out 0 999=true:=by
  simp only [handOk,handC,Bool.and_eq_true,inB_iff] at e
  obtain ⟨_,_,_,_,_,⟨b0,b1⟩,_,o⟩:=e
  exact ⟨b0,b1,by simpa [inB] using o⟩
theorem chan_parts {c:Ch} (e:chanOk c=true):c.cells.length=40∧c.words.length≤80:=by
  simp only [chanOk,chanHead,Bool.and_eq_true,decide_eq_true_eq] at e
  exact ⟨e.1.2.2.2.2.1,e.1.2.2.2.2.2⟩
theorem deal_later {n:Nat} {a b:Int} {d:De} (h:dealB n a d=true) (hab:a≤b):dealB n b d=true:=by
  simp only [dealB,Bool.and_eq_true,inB_iff] at h ⊢
  obtain ⟨h1,h2,h3,h4,h5⟩:=h
  exact ⟨h1,h2,⟨h3.1,by omega⟩,⟨h4.1,by omega⟩,h5⟩
theorem task_lt {x:Wo} {who:Int} (h:taskOk x who=true):0≤who∧who.toNat<x.hands.length:=by
  simp [taskOk,taskB,inB] at h
  omega
theorem hand_mem {x:Wo} {who:Int} (h:taskOk x who=true):handAt x who ∈ x.hands:=by
  have:=(task_lt h).2
  unfold handAt
  rw [List.getD_eq_getElem?_getD,List.getElem?_eq_getElem this]
  exact List.getElem_mem this
theorem set_mem {l:List Ha} {i:Nat} {h y:Ha} (m:y ∈ l.set i h):y ∈ l∨y=h:=List.mem_or_eq_of_mem_set m
theorem hand_set {x:Wo} {who:Int} (h:taskOk x who=true) (y:Ha):(x.hands.set who.toNat y).getD who.toNat Ha.zero=y:=by
  have:=(task_lt h).2
  simp [List.getD,this]
/-- A hand and the channel are turned, and it is one later. -/
theorem right_next {x:Wo} {who:Int} {c:Ch} {h:Ha} {ds:List De} (hx:RightW x) (hc:chanOk c=true) (hh:handOk h=true) (hb:h.beg≤x.now+1) (hn:x.now≠20000) (hl:ds.length≤1000) (hd:∀ d ∈ ds,dealB x.hands.length (x.now+1) d=true) :
    RightW ⟨c,x.hands.set who.toNat h,ds,x.now+1⟩:=by
  have:=hx.n0;have:=hx.n1
  refine ⟨hc,by simpa using hx.h1,by simpa using hx.h6,hl,by simp only;omega,by simp only;omega,?_,by simpa using hd⟩
  intro y m
  rcases set_mem m with m|rfl
  · have:=hx.hs y m
    exact ⟨this.1,by simp only;omega⟩
  · exact ⟨hh,hb⟩
theorem deals_later {x:Wo} (hx:RightW x):∀ d ∈ x.deals,dealB x.hands.length (x.now+1) d=true:=fun d m=>deal_later (hx.ds d m) (by omega)
/-- What a step of one who has a task makes. -/
theorem step_right {x:Wo} {who:Int} (hx:RightW x) (ht:taskOk x who=true) (hs:(step11 x who).2=true) :
    RightW (step11 x who).1∧(step11 x who).1.hands.length=x.hands.length∧handAt (step11 x who).1 who=(stepC x.ch (handAt x who)).2.1∧(step11 x who).1.ch=(stepC x.ch (handAt x who)).1∧(stepC x.ch (handAt x who)).2.2=true:=by
  have G:=good_step x.ch (handAt x who)
  have hm:=hx.hs _ (hand_mem ht)
  have hp:=hand_parts hm.1
  generalize hS:stepC x.ch (handAt x who)=S at G ⊢
  have e:step11 x who=stepW x who S:=by rw [step11,hS]
  rw [e] at hs ⊢
  unfold stepW at hs ⊢
  split at hs
  · cases hs
  · rename_i h0
    rw [if_neg h0]
    simp at h0
    obtain ⟨h2,hn⟩:=h0
    obtain ⟨g1,g2,g3,_⟩:=G h2
    have hb:S.2.1.beg≤x.now+1:=by rcases g3 with g3|g3 <;> omega
    split at hs
    · rename_i h3
      rw [if_pos h3]
      exact ⟨right_next hx g1 g2 hb hn hx.d (deals_later hx),by simp [setHand],hand_set ht _,rfl,h2⟩
    · rename_i h3
      rw [if_neg h3]
      split at hs
      · cases hs
      · rename_i h4
        rw [if_neg h4]
        simp at h4
        refine ⟨right_next hx g1 g2 hb hn (by simp;omega) ?_,by simp [setHand],hand_set ht _,rfl,h2⟩
        intro d m
        rcases List.mem_append.1 m with m|m
        · exact deals_later hx d m
        · simp at m
          subst m
          have hq:=hand_parts g2
          have:=hx.n0
          simp only [dealB,Bool.and_eq_true,inB_iff]
          refine ⟨ht,h4.2,⟨hp.1,by omega⟩,⟨by omega,by omega⟩,by simpa [inB] using hq.2.2⟩
theorem alone_rest {x:Wo} {who:Int} (h:(handAt x who).pos=0) (n:Nat):aloneN n x who=(x,0):=by
  cases n with
  | zero=>rfl
  | succ n=>simp [aloneN,h]
theorem alone_right (n:Nat):∀ (x:Wo) (who:Int),RightW x→taskOk x who=true →
    RightW (aloneN n x who).1∧(aloneN n x who).1.hands.length=x.hands.length∧(aloneN n x who).1.ch.words.length≤x.ch.words.length+1∧(Ph (handAt x who)→(aloneN n x who).1.ch.words.length=x.ch.words.length):=by
  induction n with
  | zero=>exact fun x who hx ht=>⟨hx,rfl,by simp [aloneN],fun _=>rfl⟩
  | succ n ih =>
    intro x who hx ht
    unfold aloneN
    split
    · exact ⟨hx,rfl,by simp,fun _=>rfl⟩
    · split
      · rename_i h1
        obtain ⟨r1,r2,r3,r4,r5⟩:=step_right hx ht h1
        have ht2:taskOk (step11 x who).1 who=true:=by unfold taskOk at ht ⊢;rw [r2];exact ht
        obtain ⟨i1,i2,i3,i4⟩:=ih _ who r1 ht2
        obtain ⟨_,_,_,g⟩:=good_step x.ch (handAt x who) r5
        rw [← r4,← r3] at g
        refine ⟨i1,i2.trans r2,?_,fun H=>?_⟩
        · rcases g with ⟨g1,_⟩|⟨g1,_,g3⟩
          · simp only;omega
          · have:=i4 g3
            simp only;omega
        · rcases g with ⟨g1,g2⟩|⟨_,g2,_⟩
          · rcases g2 H with g2|g2
            · have:=i4 g2
              simp only;omega
            · simp only
              rw [alone_rest g2]
              exact g1
          · exact absurd H g2
      · exact ⟨hx,rfl,by simp,fun _=>rfl⟩
theorem called_right {h:Ha} {k e b:Int} (hh:handOk h=true) (h0:(called h k e).2=0):handOk { (called h k e).1 with beg:=b }=true↔(0≤b∧b≤20000):=by
  unfold called at h0 ⊢
  rw [if_pos hh] at h0 ⊢
  split at h0
  · rename_i hp
    rw [if_pos hp]
    split at h0
    · rename_i hk
      rw [if_pos hk]
      have hk2:k=1∨k=2:=by simp [callOk] at hk;omega
      rcases hk2 with rfl|rfl <;> simp [begun,handOk,handA,handB,handC,hk,inB] <;> omega
    · simp at h0
  · simp at h0
theorem asked_right {x:Wo} {who k e:Int} (hx:RightW x) (ht:taskOk x who=true):RightW (asked x who k e).1∧(asked x who k e).1.hands.length=x.hands.length∧(asked x who k e).1.ch=x.ch:=by
  have hm:=hx.hs _ (hand_mem ht)
  have:=hx.n0;have:=hx.n1
  unfold asked
  rw [if_pos (by simp [(rightW_iff x).2 hx,ht])]
  split
  · exact ⟨hx,rfl,rfl⟩
  · rename_i h0
    simp at h0
    split
    · exact ⟨hx,rfl,rfl⟩
    · rename_i hn
      simp at hn
      exact ⟨right_next hx hx.ch ((called_right hm.1 h0).2 ⟨by omega,by omega⟩) (by simp) hn hx.d (deals_later hx),by simp [setHand],rfl⟩
theorem tell_ok {c:Ch} (v:Int) (h:chanOk c=true):chanOk (tellC c v 2)=true:=by
  unfold tellC
  split
  · simp only [chanOk,chanHead,Bool.and_eq_true,List.all_eq_true,List.length_set] at h ⊢
    refine ⟨h.1,h.2.1,fun y m=>?_⟩
    rcases List.mem_or_eq_of_mem_set m with m|rfl
    · exact h.2.2 y m
    · rfl
  · exact h
theorem stopped_right {x:Wo} {who:Int} (hx:RightW x) (ht:taskOk x who=true):RightW (stopped x who).1∧(stopped x who).1.hands.length=x.hands.length∧(stopped x who).1.ch.words.length=x.ch.words.length:=by
  unfold stopped
  rw [if_pos (by simp [(rightW_iff x).2 hx,ht])]
  split
  · exact ⟨hx,rfl,rfl⟩
  · exact ⟨⟨tell_ok _ hx.ch,hx.h1,hx.h6,hx.d,hx.n0,hx.n1,hx.hs,hx.ds⟩,rfl,tell_len _ _ _⟩
theorem new_right {cap tasks:Int} (h0:0≤cap) (h1:cap≤4) (h2:1≤tasks) (h3:tasks≤6):(newWorld cap tasks).2=true∧RightW (newWorld cap tasks).1∧(newWorld cap tasks).1.hands.length=tasks.toNat∧(newWorld cap tasks).1.ch.words.length=0:=by
  have e1:inB cap 0 4=true:=inB_yes h0 h1
  have e:newWorld cap tasks=(⟨newChan cap,List.replicate tasks.toNat (resting 0 0),[],0⟩,true):=by simp [newWorld,e1,inB_yes h2 h3]
  have ec:newChan cap=⟨cap,0,0,cap,List.replicate 40 C3.zero,[]⟩:=by simp [newChan,e1]
  rw [e,ec]
  refine ⟨rfl,⟨?_,by simp;omega,by simp;omega,by simp,by simp,by simp,?_,by simp⟩,by simp,rfl⟩
  · simp [chanOk,chanHead,inB,cellFits,okC,cellB,C3.zero]
    omega
  · intro h m
    obtain ⟨_,rfl⟩:=List.mem_replicate.1 m
    exact ⟨by decide,Int.le_refl 0⟩
end Go.Proofs.YtkiingmgpobgnaaGreat
set_option linter.unusedSimpArgs false
set_option linter.unusedVariables false
namespace Go.Proofs.YtkiingmgpobgnaaGreat
open Go.RowKit
theorem infoCell:(Tryz.prog.info? 52).map (fun i=>(i.zero,i.size,i.bytes))=some (some (.agg #[.int .i64 0,.int .i64 0,.int .i64 0]),3,24):=by kernel_rfl
theorem mkCells (n:Nat) (h:n≤1048576) (W:World):(Instr.makeSlice 24 (.int .i64 n) (.int .i64 n)).run Tryz.prog W=.ok (.slice (some ⟨W.heap.size,0,none⟩) n n) (W.alloc (.cells (madeCells #[.int .i64 0,.int .i64 0,.int .i64 0] (n*3)) 52)):=by
  obtain ⟨i,hi,hz,hs,hb⟩:=info_parts infoCell
  have:=run_make (P:=Tryz.prog) W 24 52 i _ Tryz.underlying24 hi hz .i64 .i64 n n (by omega) (by omega) (by rw [hb];omega) (by omega)
  rw [this,hs]
  simp [Value.cells]
end Go.Proofs.YtkiingmgpobgnaaGreat
set_option linter.unusedSimpArgs false
set_option linter.unusedVariables false
namespace Go.Proofs.YtkiingmgpobgnaaGreat
open Go.RowKit
theorem own_zeros (w:World) (lo:Nat) (h:lo≤w.heap.size):OCells (w.alloc (.cells (madeCells #[.int .i64 0,.int .i64 0,.int .i64 0] (40*3)) 52)) lo (.slice (some ⟨w.heap.size,0,none⟩) 40 40) (List.replicate 40 C3.zero):=by
  refine ⟨by rw [flatC_len],.inr ⟨w.heap.size,40,_,rfl,h,heap_alloc_new w _,Nat.le_refl _,by decide,size_madeCells _ _,?_⟩⟩
  kernel_rfl
set_option maxRecDepth 100000 in
set_option maxHeartbeats 1000000 in
theorem sNewChan_any (cap:Int) (w:World):Calls Tryz.prog 106 #[.int .i64 cap] w fun r w' =>
    (∃ v1 v2,r=.returned (.agg #[.int .i64 (newChan cap).cap,.int .i64 (newChan cap).sent,.int .i64 (newChan cap).got,.int .i64 (newChan cap).fin,v1,v2])∧OCells w' w.heap.size v1 (newChan cap).cells∧OInts w' w.heap.size v2 (newChan cap).words)∧Below w.heap.size w w':=by
  by_cases h:inB cap 0 4=true
  · have e:newChan cap=⟨cap,0,0,cap,List.replicate 40 C3.zero,[]⟩:=by simp [newChan,h]
    rw [e]
    have hmk:∀ W:World,(Instr.makeSlice 24 (.int .i64 40) (.int .i64 40)).run Tryz.prog W=.ok (.slice (some ⟨W.heap.size,0,none⟩) 40 40) (W.alloc (.cells (madeCells #[.int .i64 0,.int .i64 0,.int .i64 0] (40*3)) 52)):=mkCells 40 (by omega)
    have HZ:Hid (∀ (W:World) (lo n:Nat),n=W.heap.size→lo≤W.heap.size→OCells (W.alloc (.cells (madeCells #[.int .i64 0,.int .i64 0,.int .i64 0] (40*3)) 52)) lo (.slice (some ⟨n,0,none⟩) 40 40) (List.replicate 40 C3.zero)):=fun W lo n hn h=>hn ▸ own_zeros W lo h
    generalize madeCells #[.int .i64 0,.int .i64 0,.int .i64 0] (40*3)=mz at hmk HZ
    go_enter Tryz.func106,Tryz.ntmps106
    go_wp2_with (go_at_call 60;refine (l1In_any _ _ _ _).mono ?_;rintro _ _ ⟨rfl,rfl⟩)
    refine bodyPost_ret (v:=.agg #[.int .i64 cap,.int .i64 0,.int .i64 0,.int .i64 cap,.slice (some ⟨w.heap.size+1,0,none⟩) 40 40,.slice none 0 0]) (by simp [results,Tryz.results106,go_sem, *]) rfl ⟨⟨_,_,rfl,HZ.out _ _ _ (by simp) (by simp),World.ownsRow_nil _ _ _ _⟩,?_⟩
    exact zB
  · have e:newChan cap=Ch.zero:=by simp [newChan,h]
    rw [e]
    go_enter Tryz.func106,Tryz.ntmps106
    go_wp2_with (go_at_call 60;refine (l1In_any _ _ _ _).mono ?_;rintro _ _ ⟨rfl,rfl⟩)
    refine bodyPost_ret (v:=.agg #[.int .i64 0,.int .i64 0,.int .i64 0,.int .i64 0,.slice none 0 0,.slice none 0 0]) (by simp [results,Tryz.results106,go_sem, *]) rfl ⟨⟨_,_,rfl,World.ownsRow_nil _ _ _ _,World.ownsRow_nil _ _ _ _⟩,?_⟩
    exact zB
end Go.Proofs.YtkiingmgpobgnaaGreat
set_option linter.unusedSimpArgs false
set_option linter.unusedVariables false
namespace Go.Proofs.YtkiingmgpobgnaaGreat
open Go.RowKit
theorem heapDN {w:World} {g n:Nat} {x:Option Obj} (h:w.heap[g]?=x):(w.drewN n).heap[g]?=x:=h
theorem bits_and_bd (X m:Int) (h0:0≤m) (h1:m<2147483648):0≤bits .and .i64 X m∧bits .and .i64 X m≤m:=by
  obtain ⟨k,rfl⟩:=Int.eq_ofNat_of_zero_le h0
  have hk:(BitVec.ofInt 64 (k:Int)).toNat=k:=by
    rw [BitVec.toNat_ofInt];simp;omega
  have hle:(BitVec.ofInt 64 X &&& BitVec.ofInt 64 (k:Int)).toNat≤k:=by
    rw [BitVec.toNat_and,hk];exact Nat.and_le_right
  have e:bits .and .i64 X (k:Int)=((BitVec.ofInt 64 X &&& BitVec.ofInt 64 (k:Int)).toNat:Int):=by
    show IntKind.i64.wrap ((BitVec.ofInt 64 X &&& BitVec.ofInt 64 (k:Int)).toNat:Int)=_
    refine IntWalk.i64_in _ ?_
    omega
  rw [e];omega
/-- The cursor in block g: bytes that lie below block B, and how far it is. -/
def DS (w:World) (B g:Nat):Prop:=∃ (a:Option Addr) (n cap i:Nat) (h:Int) (bs:Nat→Int),
  w.heap[g]?=some (.cells #[.slice a n cap,.int .i64 i,.int .i64 h] 70 (0,0))∧i≤n∧n≤4096∧B≤g∧(∀ j,0≤bs j∧bs j≤255)∧Seg w B a n 1 (fun j _=>.int .u8 (bs j))
/-- The same, of these bytes. -/
def DSx (w:World) (B g:Nat) (a:Option Addr) (n cap:Nat):Prop:=∃ (i:Nat) (h:Int) (bs:Nat→Int),
  w.heap[g]?=some (.cells #[.slice a n cap,.int .i64 i,.int .i64 h] 70 (0,0))∧i≤n∧n≤4096∧B≤g∧(∀ j,0≤bs j∧bs j≤255)∧Seg w B a n 1 (fun j _=>.int .u8 (bs j))
theorem DSx.ds {w:World} {B g n cap:Nat} {a:Option Addr} (h:DSx w B g a n cap):DS w B g:=⟨a,n,cap,h⟩
theorem DS.dsx {w:World} {B g:Nat} (h:DS w B g):∃ a n cap,DSx w B g a n cap:=h
theorem DSx.cell0 {w:World} {B g n cap:Nat} {a:Option Addr} (h:DSx w B g a n cap):w.cell? ⟨g,0,none⟩=some (.slice a n cap)∧n≤4096:=by
  obtain ⟨i,h,bs,hg,_,h2,_⟩:=h
  exact ⟨cell_of_row w g 0 _ _ _ hg,h2⟩
theorem DS.lt {w:World} {B g:Nat} (h:DS w B g):g<w.heap.size:=by
  obtain ⟨a,n,cap,i,h,bs,hg,_⟩:=h
  exact (Array.getElem?_eq_some_iff.1 hg).1
theorem DS.le {w:World} {B g:Nat} (h:DS w B g):B≤g:=by
  obtain ⟨a,n,cap,i,h,bs,hg,_,_,hB,_⟩:=h
  exact hB
theorem DS.keep {w w':World} {B g:Nat} (h:DS w B g) (e:w'.heap[g]?=w.heap[g]?) (k:Below B w w'):DS w' B g:=by
  obtain ⟨a,n,cap,i,h,bs,hg,h1,h2,h3,h4,h5⟩:=h
  exact ⟨a,n,cap,i,h,bs,e.trans hg,h1,h2,h3,h4,h5.below k⟩
theorem DS.alloc {w:World} {B g:Nat} {o:Obj} (h:DS w B g):DS (w.alloc o) B g:=h.keep (Below.heap_alloc w o g h.lt) ((Below.refl _ _).alloc (by have:=h.lt;have:=h.le;omega) o)
theorem DS.drew {w:World} {B g:Nat} (h:DS w B g):DS w.drew B g:=h
theorem DS.setCell {w:World} {B g:Nat} {p:Addr} {u:Value} (h:DS w B g) (hp:B≤p.block) (hn:g≠p.block):DS (w.setCell p u) B g:=h.keep (Below.heap_setCell w p u g hn) ((Below.refl _ _).setCell hp u)
/-- A callee that only makes memory leaves the cursor. -/
theorem DS.below {w w':World} {B g:Nat} (h:DS w B g) (k:Below w.heap.size w w'):DS w' B g:=h.keep (k.block g h.lt) (k.mono (by have:=h.lt;have:=h.le;omega))
theorem heap_setCell_at {w:World} {g:Nat} {cs:Array Value} {t:TypeId} (h:w.heap[g]?=some (.cells cs t (0,0))) (j:Nat) (u:Value):(w.setCell ⟨g,j,none⟩ u).heap[g]?=some (.cells (cs.setIfInBounds j u) t (0,0)):=by
  simp [World.setCell,Array.getElem?_modify,h]
theorem heap_frozen {w:World} {g:Nat} {cs:Array Value} {t:TypeId} (h:w.heap[g]?=some (.cells cs t (0,0))) (o:Nat):w.frozen? ⟨g,o,none⟩=false:=by
  simp [World.frozen?,h]
/-- A number of the range 0 .. m. -/
def RangeI (m:Int) (r:Ending):Prop:=∃ x:Int,r=.returned (.int .i64 x)∧0≤x∧x≤m
set_option maxHeartbeats 400000 in
theorem l1Byte_core (B g n cap i:Nat) (a:Option Addr) (h:Int) (bs:Nat→Int) (w:World)
    (hg:w.heap[g]?=some (.cells #[.slice a n cap,.int .i64 i,.int .i64 h] 70 (0,0))) (hi:i≤n) (hn:n≤4096) (hB:B≤g) (hbs:∀ j,0≤bs j∧bs j≤255) (HS:Hid (Seg w B a n 1 (fun j _=>.int .u8 (bs j)))) :
    Calls Tryz.prog 80 #[.pointer (some ⟨g,0,none⟩)] w fun r w'=>RangeI 255 r∧DSx w' B g a n cap∧Gr g w w':=by
  have c0:=cell_of_row w g 0 _ _ _ hg
  have c1:=cell_of_row w g 1 _ _ _ hg
  have c2:=cell_of_row w g 2 _ _ _ hg
  have f0:=heap_frozen hg
  have hlt:g<w.heap.size:=(Array.getElem?_eq_some_iff.1 hg).1
  simp at c0 c1 c2
  have HG:=Lib.hid hg
  have HB:=Lib.hid hbs
  clear hg hbs
  by_cases hin:i<n
  · obtain h0|⟨b,o,rfl,hb,hc⟩:=HS.out
    · omega
    have cb:=hc i 0 hin (by omega)
    have hbb:=HB.out i
    simp only [Nat.add_zero,Nat.mul_one] at cb
    clear hc
    generalize bs i=y at cb hbb
    obtain ⟨hy0,hy1⟩:=hbb
    have hbg:b≠g:=by omega
    have hgb:¬ g=b:=by omega
    have hi0:(0:Int)≤(i:Int):=by omega
    have hi1:(i:Int)<(n:Int):=by omega
    go_enter Tryz.func80,Tryz.ntmps80
    go_wp2
    generalize wrap64 (wrap64 (h*6364136223846793005)+1442695040888963407)=H
    go_quiet (fail)
    go_wp2
    have hx:=bits_and_bd (bits BinOp.xor IntKind.i64 (H / 8589934592) (H / 35184372088832)) 255 (by omega) (by omega)
    generalize bits BinOp.and IntKind.i64 (bits BinOp.xor IntKind.i64 (H / 8589934592) (H / 35184372088832)) 255=x at hx
    obtain ⟨hx0,hx1⟩:=hx
    go_quiet (fail)
    go_wp2
    go_quiet (fail)
    have hz:=bits_and_bd (IntKind.i64.wrap (x+y)) 255 (by omega) (by omega)
    have hz':=bits_and_bd (x+y) 255 (by omega) (by omega)
    go_wp2
    go_ret
    exact ⟨⟨_,rfl,hz'.1,hz'.2⟩,⟨i+1,H,bs,by simpa using heap_setCell_at (heapDN (heap_setCell_at HG.out 2 _)) 1 _,by omega,hn,hB,HB.out,HS.out.below (by repeat (first|exact Below.refl _ _|refine Below.setCell ?_ hB _|refine bDN ?_ _))⟩,by repeat (first|exact gR _ _|refine gS ?_ (.inl rfl)|refine gDN ?_ _)⟩
  · have hin2:¬ (i:Int)<(n:Int):=by omega
    go_enter Tryz.func80,Tryz.ntmps80
    go_wp2
    generalize wrap64 (wrap64 (h*6364136223846793005)+1442695040888963407)=H
    go_quiet (fail)
    go_wp2
    have hx:=bits_and_bd (bits BinOp.xor IntKind.i64 (H / 8589934592) (H / 35184372088832)) 255 (by omega) (by omega)
    generalize bits BinOp.and IntKind.i64 (bits BinOp.xor IntKind.i64 (H / 8589934592) (H / 35184372088832)) 255=x at hx
    obtain ⟨hx0,hx1⟩:=hx
    go_quiet (fail)
    go_wp2
    go_ret
    exact ⟨⟨x,rfl,hx0,hx1⟩,⟨i,H,bs,by simpa using heap_setCell_at HG.out 2 _,hi,hn,hB,HB.out,HS.out.below (bDN (bDN ((Below.refl _ _).setCell hB _) _) _)⟩,gDN (gDN (gS (gR _ _) (.inl rfl)) _) _⟩
theorem l1Byte_x (B g n cap:Nat) (a:Option Addr) (w:World) (h:DSx w B g a n cap):Calls Tryz.prog 80 #[.pointer (some ⟨g,0,none⟩)] w fun r w'=>RangeI 255 r∧DSx w' B g a n cap∧Gr g w w':=by
  obtain ⟨i,h,bs,hg,h1,h2,h3,h4,h5⟩:=h
  exact l1Byte_core B g n cap i a h bs w hg h1 h2 h3 h4 (Lib.hid h5)
theorem emod_bd (x:Int) {n:Int} (hn:0<n):0≤x % n∧x % n≤n - 1:=by
  have:=Int.emod_nonneg x (show n≠0 by omega)
  have:=Int.emod_lt_of_pos x hn
  omega
set_option maxHeartbeats 400000 in
/-- A number below n, of one byte or of four. -/
theorem l1Below_x (B g nn cap:Nat) (a:Option Addr) (n:Int) (w:World) (h:DSx w B g a nn cap) (hn:0<n) (hn2:n≤1000000):Calls Tryz.prog 49 #[.pointer (some ⟨g,0,none⟩),.int .i64 n] w fun r w'=>RangeI (n - 1) r∧DSx w' B g a nn cap∧Gr g w w':=by
  by_cases hs:n≤256
  · go_enter Tryz.func49,Tryz.ntmps49
    go_wp2_with fail
    refine (l1Byte_x B g nn cap a _ h).mono ?_
    rintro r w1 ⟨⟨x,rfl,hx0,hx1⟩,hd1,hg1⟩
    go_wp2
    go_ret
    exact ⟨⟨_,rfl,(emod_bd _ hn).1,(emod_bd _ hn).2⟩,hd1,hg1⟩
  · go_enter Tryz.func49,Tryz.ntmps49
    go_wp2_with fail
    refine (l1Byte_x B g nn cap a _ h).mono ?_
    rintro r w1 ⟨⟨x,rfl,hx0,hx1⟩,hd1,hg1⟩
    go_wp2_with fail
    refine (l1Byte_x B g nn cap a _ hd1).mono ?_
    rintro r w2 ⟨⟨y,rfl,hy0,hy1⟩,hd2,hg2⟩
    go_wp2_with fail
    refine (l1Byte_x B g nn cap a _ hd2).mono ?_
    rintro r w3 ⟨⟨z,rfl,hz0,hz1⟩,hd3,hg3⟩
    go_wp2_with fail
    refine (l1Byte_x B g nn cap a _ hd3).mono ?_
    rintro r w4 ⟨⟨u,rfl,hu0,hu1⟩,hd4,hg4⟩
    go_wp2
    go_ret
    exact ⟨⟨_,rfl,(emod_bd _ hn).1,(emod_bd _ hn).2⟩,hd4,gT (gT (gT hg1 hg2) hg3) hg4⟩
theorem l1Below_any (B g:Nat) (n:Int) (w:World) (h:DS w B g) (hn:0<n) (hn2:n≤1000000):Calls Tryz.prog 49 #[.pointer (some ⟨g,0,none⟩),.int .i64 n] w fun r w'=>RangeI (n - 1) r∧DS w' B g∧Gr g w w':=by
  obtain ⟨a,nn,cap,h⟩:=h.dsx
  exact (l1Below_x B g nn cap a n w h hn hn2).mono fun _ _ ⟨h1,h2,h3⟩=>⟨h1,h2.ds,h3⟩
def SomeB (r:Ending):Prop:=∃ b:Bool,r=.returned (.bool b)
def FromI (lo hi:Int) (r:Ending):Prop:=∃ x:Int,r=.returned (.int .i64 x)∧lo≤x∧x≤hi
set_option maxHeartbeats 400000 in
theorem l1Once_any (B g:Nat) (n:Int) (w:World) (h:DS w B g) (hn:0<n) (hn2:n≤1000000):Calls Tryz.prog 54 #[.pointer (some ⟨g,0,none⟩),.int .i64 n] w fun r w'=>SomeB r∧DS w' B g∧Gr g w w':=by
  go_enter Tryz.func54,Tryz.ntmps54
  go_wp2_with fail
  refine (l1Below_any B g n _ h hn hn2).mono ?_
  rintro r w1 ⟨⟨x,rfl,hx0,hx1⟩,hd1,hg1⟩
  go_wp2
  go_ret
  exact ⟨⟨_,rfl⟩,hd1,hg1⟩
set_option maxHeartbeats 400000 in
theorem l1From_any (B g:Nat) (lo hi:Int) (w:World) (h:DS w B g) (h1:-1000000≤lo) (h2:lo≤hi) (h3:hi - lo<1000000) (h4:hi≤1000000):Calls Tryz.prog 50 #[.pointer (some ⟨g,0,none⟩),.int .i64 lo,.int .i64 hi] w fun r w'=>FromI lo hi r∧DS w' B g∧Gr g w w':=by
  go_enter Tryz.func50,Tryz.ntmps50
  go_wp2_with fail
  refine (l1Below_any B g (hi - lo+1) _ h (by omega) (by omega)).mono ?_
  rintro r w1 ⟨⟨x,rfl,hx0,hx1⟩,hd1,hg1⟩
  go_wp2
  go_ret
  exact ⟨⟨lo+x,rfl,by omega,by omega⟩,hd1,hg1⟩
set_option maxHeartbeats 400000 in
theorem l1Min_any (a b:Int) (w:World):Calls Tryz.prog 78 #[.int .i64 a,.int .i64 b] w fun r w'=>r=.returned (.int .i64 (if a<b then a else b))∧w=w':=by
  by_cases h:a<b
  · rw [if_pos h]
    go_enter Tryz.func78,Tryz.ntmps78
    go_wp2
    go_ret
    exact ⟨rfl,rfl⟩
  · rw [if_neg h]
    go_enter Tryz.func78,Tryz.ntmps78
    go_wp2
    go_ret
    exact ⟨rfl,rfl⟩
end Go.Proofs.YtkiingmgpobgnaaGreat
set_option linter.unusedSimpArgs false
set_option linter.unusedVariables false
namespace Go.Proofs.YtkiingmgpobgnaaGreat
open Go.RowKit
set_option linter.unusedSimpArgs false
attribute [local simp] bx_size
attribute [local go_sem ↓] zeroHand toLHand toVHand toSHand storeHandC
attribute [local go_sem] runSHand
theorem OHands.rep {w:World} {lo g q k:Nat} {h:Ha} (o:w.ownsRow lo 31 14 (.slice (some ⟨g,0,none⟩) ((List.replicate k h).length+1) q) ((List.replicate k h).length+1) (flatH (List.replicate k h) ++ (hvals h).toList)):OHands w lo (.slice (some ⟨g,0,none⟩) (k+1) q) (List.replicate (k+1) h):=by
  have e:flatH (List.replicate (k+1) h)=flatH (List.replicate k h) ++ (hvals h).toList:=by rw [List.replicate_succ'];simp [flatH]
  unfold OHands
  rw [e]
  simpa using o
set_option maxRecDepth 100000 in
set_option maxHeartbeats 4000000 in
theorem sNewWorld_yes (cap tasks:Int) (w:World) (h0:0≤cap) (h1:cap≤4) (h2:1≤tasks) (h3:tasks≤6) :
    Calls Tryz.prog 77 #[.int .i64 cap,.int .i64 tasks] w fun r w'=>WordR w w' (newWorld cap tasks).1 (.bool (newWorld cap tasks).2) r:=by
  have e1:inB cap 0 4=true:=inB_yes h0 h1
  have e2:inB tasks 1 6=true:=inB_yes h2 h3
  have e:newWorld cap tasks=(⟨newChan cap,List.replicate tasks.toNat (resting 0 0),[],0⟩,true):=by simp [newWorld,e1,e2]
  rw [e]
  have el:(newChan cap).cells.length=40:=by simp [newChan,e1]
  go_enter Tryz.func77,Tryz.ntmps77
  go_wp2_with fail;refine bHit w (by exact zB) fun bb=>?_;refine (sNewChan_any cap _).mono ?_;rintro _ w1 ⟨⟨v1,v2,rfl,o1,o2⟩,hbw1⟩;have hCw1:Below w.heap.size w w1:=bT bb hbw1;have hsw1:=hbw1.size;(try simp at hsw1);have zz:=hQ hbw1 (b:=w.heap.size);(try simp [go_sem] at zz);(try clear z_w x_w f_w l_w);have z_w:=zz;clear zz;obtain ⟨x_w,f_w,l_w⟩:=bO z_w;clear hbw1 bb
  try simp at o1 o2
  have O1:=Lib.hid o1
  have O2:=Lib.hid o2
  obtain ⟨va,vc,rfl,_⟩:=OCells.seg o1
  obtain ⟨vb,vd,rfl,_⟩:=OInts.seg o2
  clear o1 o2
  rw [el]
  replace O1:Hid (OCells w1 (w.heap.size+1) (.slice va 40 vc) (newChan cap).cells):=by have:=O1.out;rw [el] at this;exact this
  go_wp2_with (first|(go_at_call 60;refine (l1In_any _ _ _ _).mono ?_;rintro _ _ ⟨rfl,rfl⟩))
  obtain ⟨i5,hi5,hz5,hsz5,hby5⟩:=info_parts infoHandE
  have n1:∀ j,(Value.slice va 40 vc).ownBlock=some j→j<w1.heap.size:=fun j hj=>(O1.out.lt j hj).2
  have n2:∀ j,(Value.slice vb (newChan cap).words.length vd).ownBlock=some j→j<w1.heap.size:=fun j hj=>(O2.out.lt j hj).2
  go_loopw [8] (fun i wr=>∃ (k:Nat) (v3:Value),k≤tasks.toNat∧i=.int .i64 k∧OCells wr (w.heap.size+1) (.slice va 40 vc) (newChan cap).cells∧OInts wr (w.heap.size+1) (.slice vb (newChan cap).words.length vd) (newChan cap).words∧OHands wr (w1.heap.size+1+1) v3 (List.replicate k (resting 0 0))∧hp wr (w1.heap.size+1)=some (.cells #[.int .i64 (newChan cap).cap,.int .i64 (newChan cap).sent,.int .i64 (newChan cap).got,.int .i64 (newChan cap).fin,.slice va 40 vc,.slice vb (newChan cap).words.length vd,v3,.slice none 0 0,.int .i64 0] 74)∧hp wr w.heap.size=some (.cells #[.int .i64 0,.int .i64 0,.int .i64 0,.int .i64 0,.slice none 0 0,.slice none 0 0,.slice none 0 0,.slice none 0 0,.int .i64 0] 74)∧w1.heap.size+1+1≤wr.heap.size∧Below w.heap.size w wr) (fun i _=>tasks.toNat - (intOf i).toNat)
  case atStart =>
    refine ⟨0,.slice none 0 0,Nat.zero_le _,rfl,World.ownsRow.alloc (World.ownsRow.alloc O1.out _) _,World.ownsRow.alloc (World.ownsRow.alloc O2.out _) _,World.ownsRow_nil _ _ _ _,?_,?_,by simp,by exact zB⟩
    all_goals (simp [go_sem, *])
  case round =>
    obtain ⟨k,v3,hk,rfl,q1,q2,q3,z_w1p,z_w,hsz,hB⟩:=hrel
    have l_w:w.heap.size<wr.heap.size:=by omega
    have l_w1:w1.heap.size<wr.heap.size:=by omega
    have l_w1p:w1.heap.size+1<wr.heap.size:=by omega
    have x_w:∀ o,wr.cell? ⟨w.heap.size,o,none⟩=_:=fun o=>cell_of_row wr w.heap.size o _ _ _ z_w
    have f_w:∀ o,wr.frozen? ⟨w.heap.size,o,none⟩=false:=heap_frozen z_w
    have x_w1p:∀ o,wr.cell? ⟨w1.heap.size+1,o,none⟩=_:=fun o=>cell_of_row wr (w1.heap.size+1) o _ _ _ z_w1p
    have f_w1p:∀ o,wr.frozen? ⟨w1.heap.size+1,o,none⟩=false:=heap_frozen z_w1p
    have Q1:=Lib.hid q1
    have Q2:=Lib.hid q2
    have Q3:=Lib.hid q3
    clear q1 q2 q3
    by_cases hlt:k<tasks.toNat
    · have hk1:(k:Int)<tasks:=by omega
      have hn0:some w.heap.size≠v3.ownBlock:=fun e=>own_ne Q3.out (by omega) e.symm
      have hn1:some w1.heap.size≠v3.ownBlock:=fun e=>own_ne Q3.out (by omega) e.symm
      have hn2:some (w1.heap.size+1)≠v3.ownBlock:=fun e=>own_ne Q3.out (by omega) e.symm
      have off1:=own_off_ty Q1.out Q3.out (by decide)
      have off2:=own_off_ty Q2.out Q3.out (by decide)
      go_wp2_with fail
      go_region_law (first|(go_simp;(go_at_call 27;refine bHit w (by exact zB) fun bb=>?_;refine bHit wr (by exact zB) fun bk=>?_;refine (sResting_any 0 0 _).mono ?_;rintro _ w4 ⟨rfl,hbw4⟩;have hCw4:Below w.heap.size w w4:=bT bb hbw4;have hsw4:=hbw4.size;(try simp at hsw4);have zz:=And.intro (hQ hbw4 (b:=w1.heap.size+1)) <| hQ hbw4 (b:=w.heap.size);(first|simp [go_sem,z_w1p,z_w,l_w,l_w1,l_w1p] at zz|simp [go_sem] at zz|skip);(try clear z_w1p x_w1p f_w1p l_w1p);(try clear z_w x_w f_w l_w);obtain ⟨z_w1p,z_w⟩:=zz;obtain ⟨x_w1p,f_w1p,l_w1p⟩:=bO z_w1p;obtain ⟨x_w,f_w,l_w⟩:=bO z_w;have hKw4:Below wr.heap.size wr w4:=bT bk hbw4;clear hbw4 bb bk))|(refine step_append_lies _ (by rfl) _ _ _ (by rfl) (w1.heap.size+1+1) 31 i5 _ 14 112 Tryz.underlying71 hi5 hz5 hsz5 hby5 rfl (by omega) v3 _ _ (by rfl) (World.ownsRow.drew (World.ownsRow.alloc (own_below Q3.out hKw4) _)) ⟨w4.heap.size,0,none⟩ 1 1 (hvals (resting 0 0)).toList (by rfl) (by rfl) (World.news_of_block (cs:=hvals (resting 0 0)) (t:=31) (fr:=(0,0)) (heap_alloc_new w4 _)) (by simp [hvals,Value.oneCell']) (by omega) (by unfold maxLen;simp;omega) (by simp;omega) (by simp;omega) (w4.heap.size+1) (by simp) ?_;intro g8 q8 w8 o8 g4 hat hlt8;have hsw8:=g4.size;(try (simp at hsw8));have zz:=And.intro (grHp g4 (b:=w1.heap.size+1) (by (try simp) <;> omega) (by assumption)) <| grHp g4 (b:=w.heap.size) (by (try simp) <;> omega) (by assumption);(first|simp [go_sem,z_w1p,z_w,l_w,l_w1,l_w1p] at zz|simp [go_sem] at zz|skip);(try clear z_w1p x_w1p f_w1p l_w1p);(try clear z_w x_w f_w l_w);obtain ⟨z_w1p,z_w⟩:=zz;obtain ⟨x_w1p,f_w1p,l_w1p⟩:=bO z_w1p;obtain ⟨x_w,f_w,l_w⟩:=bO z_w;have B8:Below w.heap.size w w8:=bOwn (by exact zB) g4 (by ((try simp) <;> (try omega))) (fun k hk=>by have:=(Q3.out.lt k hk).1;omega)))
      all_goals (have r1:=(World.ownsRow.alloc (own_below Q1.out hKw4) _).kept g4 off1;have r2:=(World.ownsRow.alloc (own_below Q2.out hKw4) _).kept g4 off2;have r3:OHands w8 (w1.heap.size+1+1) (.slice (some ⟨g8,0,none⟩) (k+1) q8) (List.replicate (k+1) (resting 0 0)):=OHands.rep o8;clear o8 g4)
      all_goals go_wp2
      all_goals go_roundw
      case rel=>exact ⟨k+1,_,by omega,by go_num,own_store r1 (fun e=>by have:=n1 _ e;simp at this;omega) _,own_store r2 (fun e=>by have:=n2 _ e;simp at this;omega) _,own_store r3 (own_ne r3 (by simp)) _,by simp [go_sem, *],by simp [go_sem, *],by simp;omega,by exact zB⟩
      case measure=>simp [intOf];omega
      all_goals (first|exact ⟨k+1,_,by omega,by go_num,own_store r1 (fun e=>by have:=n1 _ e;simp at this;omega) _,own_store r2 (fun e=>by have:=n2 _ e;simp at this;omega) _,own_store r3 (own_ne r3 (by simp)) _,by simp [go_sem, *],by simp [go_sem, *],by simp;omega,by exact zB⟩|(simp [intOf];omega))
    · have hk2:k=tasks.toNat:=by omega
      have hk1:¬ (k:Int)<tasks:=by omega
      have K:=Lib.hid hk2
      have L:=Lib.hid el
      obtain ⟨vf,vg,rfl,_⟩:=OHands.seg Q3.out
      have el2:(List.replicate k (resting 0 0)).length=k:=by simp
      clear hk2 el
      go_wp2
      have o1:=Q1.out
      have o2:=Q2.out
      have o3:=Q3.out
      have p1:=own_lo (lo':=w.heap.size) o1 (by omega)
      have p2:=own_lo (lo':=w.heap.size) o2 (by omega)
      have p3:=own_lo (lo':=w.heap.size) o3 (by omega)
      rw [← K.out]
      refine bodyPost_ret (v:=.tuple #[.agg #[.int .i64 (newChan cap).cap,.int .i64 (newChan cap).sent,.int .i64 (newChan cap).got,.int .i64 (newChan cap).fin,.slice va 40 vc,.slice vb (newChan cap).words.length vd,.slice vf (List.replicate k (resting 0 0)).length vg,.slice none 0 0,.int .i64 0],.bool true]) (by simp [results,Tryz.results77,go_sem, *]) rfl ⟨⟨_,_,_,_,rfl,?_,?_,?_,World.ownsRow_nil _ _ _ _⟩,by exact zB⟩
      · exact zO p1 o1
      · exact zO p2 o2
      · exact zO p3 o3
end Go.Proofs.YtkiingmgpobgnaaGreat
