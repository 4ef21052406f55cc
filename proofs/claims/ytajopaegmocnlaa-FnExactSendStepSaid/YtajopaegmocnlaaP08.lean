/-
  Turning a cell in chapter 7 of the reference model, on hands and channels that are kept whole; lists lie in memory and hold at most 2 ^ 40 elements.
  Taking from a cell in chapter 7 of the reference model, on hands and channels that are kept whole; lists lie in memory and hold at most 2 ^ 40 elements.
  Taking from a cell in chapter 7 of the reference model, all cases, on hands and channels that are kept whole; lists lie in memory and hold at most 2 ^ 40 elements.
  More of the reference model's steps of sending, on hands and channels that are kept whole; lists lie in memory and hold at most 2 ^ 40 elements.
  Putting, among the reference model's steps of sending, on hands and channels that are kept whole; lists lie in memory and hold at most 2 ^ 40 elements.
  Looking, among the reference model's steps of sending, on hands and channels that are kept whole; lists lie in memory and hold at most 2 ^ 40 elements.
-/
import Derived.Test.YtajopaegmocnlaaP07
import Derived.Test.YtajopaegmocnlaaP06
set_option linter.unusedSimpArgs false
set_option linter.unusedVariables false
namespace Go.Proofs.Ytajopaegmocnlaa
open Go.RowKit
set_option linter.unusedSimpArgs false
attribute [local simp] bx_size
attribute [local go_sem ↓] zeroHand zeroChan toLHand toLChan toVHand toVChan storeHand storeChan storeHandC storeChanC
end Go.Proofs.Ytajopaegmocnlaa
set_option linter.unusedSimpArgs false
set_option linter.unusedVariables false
namespace Go.Proofs.Ytajopaegmocnlaa
open Go.RowKit
set_option linter.unusedSimpArgs false
attribute [local simp] bx_size
attribute [local go_sem ↓] zeroHand zeroChan toLHand toLChan toVHand toVChan storeHand storeChan storeHandC storeChanC
end Go.Proofs.Ytajopaegmocnlaa
set_option linter.unusedSimpArgs false
set_option linter.unusedVariables false
namespace Go.Proofs.Ytajopaegmocnlaa
open Go.RowKit
set_option linter.unusedSimpArgs false
attribute [local simp] bx_size
attribute [local go_sem ↓] zeroHand zeroChan toLHand toLChan toVHand toVChan storeHand storeChan storeHandC storeChanC
end Go.Proofs.Ytajopaegmocnlaa
set_option linter.unusedSimpArgs false
set_option linter.unusedVariables false
namespace Go.Proofs.Ytajopaegmocnlaa
open Go.RowKit
set_option linter.unusedSimpArgs false
attribute [local simp] bx_size
attribute [local go_sem ↓] zeroHand zeroChan toLHand toLChan toVHand toVChan storeHand storeChan storeHandC storeChanC
set_option maxRecDepth 100000 in
set_option maxHeartbeats 2000000 in
theorem sSend_1a (c:Ch) (h:Ha) (a b:Option Addr) (p q:Nat) (w:World) (h1:Seg w w.heap.size a c.cells.length 3 (cellF c.cells)) (z1:a=none→p=0) (h2:Seg w w.heap.size b c.words.length 1 (intF c.words)) (z2:b=none→q=0) (hk:stepOk c h 1 8 1=true) (hp0:h.pos=1) (hs:c.sent=40) :
    Calls Try.prog 6 #[.agg (cvals c (.slice a c.cells.length p) (.slice b c.words.length q)),.agg (hvals h)] w fun r w'=>StepN w w' (sendStep c h) r:=by
  have e:sendStep c h=done c (resting 4 0):=by simp [sendStep,hk,hp0,send1,hs]
  rw [e]
  obtain ⟨k1,k2,_,_⟩:=stepOk_yes hk
  obtain ⟨n1,n2⟩:=chan_40 k1
  have m1:c.cells.length≤1099511627776:=by omega
  have m2:c.words.length≤1099511627776:=by omega
  have H1:=Lib.hid h1
  have H2:=Lib.hid h2
  have Z1:=Lib.hid z1
  have Z2:=Lib.hid z2
  have D:=Lib.hid fun v1 v2 W=>l6Done_any c (resting 4 0) v1 v2 w.heap.size W
  generalize done c (resting 4 0)=x at *
  clear h1 h2 z1 z2 e k1 k2 n1 n2
  go_enter Try.func6,Try.ntmps6
  go_wp2_with fail;refine bHit w (by exact zB) fun bb=>?_;refine (l6Ok_any c h 1 8 1 a b p q _ ((H1.out.below bb).more bb.size) ((H2.out.below bb).more bb.size)).mono ?_;rintro _ w1 ⟨rfl,hbw1⟩;have hCw1:Below w.heap.size w w1:=bT bb hbw1;have hsw1:=hbw1.size;(try simp at hsw1);have zz:=q4 hbw1 (b:=w.heap.size);(try simp [go_sem] at zz);(try clear z_wppp x_wppp f_wppp l_wppp);(try clear z_wpp x_wpp f_wpp l_wpp);(try clear z_wp x_wp f_wp l_wp);(try clear z_w x_w f_w l_w);obtain ⟨z_wppp,z_wpp,z_wp,z_w⟩:=zz;obtain ⟨x_wppp,f_wppp,l_wppp⟩:=bO z_wppp;obtain ⟨x_wpp,f_wpp,l_wpp⟩:=bO z_wpp;obtain ⟨x_wp,f_wp,l_wp⟩:=bO z_wp;obtain ⟨x_w,f_w,l_w⟩:=bO z_w;clear hbw1 bb
  rw [hk]
  go_wp2_with fail;refine bHit w (by exact zB) fun bb=>?_;refine (wCopy_any c a b p q _ ((H1.out.below bb).more bb.size) Z1.out ((H2.out.below bb).more bb.size) Z2.out m1 m2).mono ?_;rintro _ w2 ⟨⟨v1,v2,rfl,o1,o2⟩,hbw2⟩;have hCw2:Below w.heap.size w w2:=bT bb hbw2;have hsw2:=hbw2.size;(try simp at hsw2);have zz:=q4 hbw2 (b:=w.heap.size);(first|simp [go_sem,z_wppp,z_wpp,z_wp,z_w,l_w,l_wp,l_wpp,l_wppp] at zz|simp [go_sem] at zz|skip);(try clear z_wppp x_wppp f_wppp l_wppp);(try clear z_wpp x_wpp f_wpp l_wpp);(try clear z_wp x_wp f_wp l_wp);(try clear z_w x_w f_w l_w);obtain ⟨z_wppp,z_wpp,z_wp,z_w⟩:=zz;obtain ⟨x_wppp,f_wppp,l_wppp⟩:=bO z_wppp;obtain ⟨x_wpp,f_wpp,l_wpp⟩:=bO z_wpp;obtain ⟨x_wp,f_wp,l_wp⟩:=bO z_wp;obtain ⟨x_w,f_w,l_w⟩:=bO z_w;clear hbw2 bb
  have d1:∀ j,v1.ownBlock=some j→w.heap.size+1+1+1+1≤j:=fun j hj=>by have:=(o1.lt j hj).1;omega
  have d2:∀ j,v2.ownBlock=some j→w.heap.size+1+1+1+1≤j:=fun j hj=>by have:=(o2.lt j hj).1;omega
  have p1:=own_lo (lo':=w.heap.size) o1 (by omega)
  have p2:=own_lo (lo':=w.heap.size) o2 (by omega)
  obtain ⟨a1,q1,rfl,_⟩:=o1.seg
  obtain ⟨a2,q2,rfl,_⟩:=o2.seg
  go_wp2_with fail
  go_region_with (first|((go_at_call 22;refine bHit w (by exact zB) fun bb=>?_;refine bHit w2 (by exact zB) fun bk=>?_;refine (sResting_any _ _ _).mono ?_;rintro _ w5 ⟨rfl,hbw5⟩;have hCw5:Below w.heap.size w w5:=bT bb hbw5;have hsw5:=hbw5.size;(try simp at hsw5);have zz:=And.intro (hQ hbw5 (b:=w2.heap.size)) <| And.intro (hQ hbw5 (b:=w.heap.size+1+1+1)) <| And.intro (hQ hbw5 (b:=w.heap.size+1+1)) <| And.intro (hQ hbw5 (b:=w.heap.size+1)) <| hQ hbw5 (b:=w.heap.size);(first|simp [go_sem,z_wppp,z_wpp,z_wp,z_w,l_w,l_wp,l_wpp,l_wppp] at zz|simp [go_sem] at zz|skip);(try clear z_w2 x_w2 f_w2 l_w2);(try clear z_wppp x_wppp f_wppp l_wppp);(try clear z_wpp x_wpp f_wpp l_wpp);(try clear z_wp x_wp f_wp l_wp);(try clear z_w x_w f_w l_w);obtain ⟨z_w2,z_wppp,z_wpp,z_wp,z_w⟩:=zz;obtain ⟨x_w2,f_w2,l_w2⟩:=bO z_w2;obtain ⟨x_wppp,f_wppp,l_wppp⟩:=bO z_wppp;obtain ⟨x_wpp,f_wpp,l_wpp⟩:=bO z_wpp;obtain ⟨x_wp,f_wp,l_wp⟩:=bO z_wp;obtain ⟨x_w,f_w,l_w⟩:=bO z_w;have hKw5:Below w2.heap.size w2 w5:=bT bk hbw5;clear hbw5 bb bk);have r1:=own_below p1 hKw5;have r2:=own_below p2 hKw5)|((go_at_call 21;refine bHit w (by exact zB) fun bb=>?_;refine (D.out _ _ _ (by exact zO r1 o1) (by exact zO r2 o2)).mono ?_;rintro _ w3 ⟨⟨y1,y2,rfl,oY1,oY2,fY1,fY2⟩,hbw3⟩;have hCw3:Below w.heap.size w w3:=bT bb hbw3;have hsw3:=hbw3.size;(try simp at hsw3);have zz:=q4 hbw3 (b:=w.heap.size);(first|simp [go_sem,z_wppp,z_wpp,z_wp,z_w,l_w,l_wp,l_wpp,l_wppp] at zz|simp [go_sem] at zz|skip);(try clear z_wppp x_wppp f_wppp l_wppp);(try clear z_wpp x_wpp f_wpp l_wpp);(try clear z_wp x_wp f_wp l_wp);(try clear z_w x_w f_w l_w);obtain ⟨z_wppp,z_wpp,z_wp,z_w⟩:=zz;obtain ⟨x_wppp,f_wppp,l_wppp⟩:=bO z_wppp;obtain ⟨x_wpp,f_wpp,l_wpp⟩:=bO z_wpp;obtain ⟨x_wp,f_wp,l_wp⟩:=bO z_wp;obtain ⟨x_w,f_w,l_w⟩:=bO z_w;clear hbw3 bb);have hoff1:∀ j,w.heap.size≤j→j<w.heap.size+1+1+1+1→y1.ownBlock≠some j:=fun j _ h2=>fY1.off2 d1 h2 (by (try simp) <;> omega);have hoff2:∀ j,w.heap.size≤j→j<w.heap.size+1+1+1+1→y2.ownBlock≠some j:=fun j _ h2=>fY2.off2 d2 h2 (by (try simp) <;> omega);have fr1:Fresh w (.slice none 0 0) y1:=fun j hj=>.inr (fY1.up d1 (by (try simp) <;> omega) (by (try simp) <;> omega) j hj);have fr2:Fresh w (.slice none 0 0) y2:=fun j hj=>.inr (fY2.up d2 (by (try simp) <;> omega) (by (try simp) <;> omega) j hj);obtain ⟨ya,yp,rfl,_⟩:=oY1.seg;obtain ⟨yb,yq,rfl,_⟩:=oY2.seg))
  all_goals go_wp2
  all_goals (refine bodyPost_ret (res_cct Try.results6 rfl (ldChan x.1 (.slice ya x.1.cells.length yp) (.slice yb x.1.words.length yq) (by simp [go_sem, *])) rfl (ldHand x.2.1 (by simp [go_sem, *]))) rfl ⟨⟨_,_,rfl,?_,?_,fr1,fr2⟩,by exact zB⟩)
  all_goals (first|exact zP oY1 oY1 hoff1|skip)
  all_goals (first|exact zP oY2 oY2 hoff2|skip)
end Go.Proofs.Ytajopaegmocnlaa
set_option linter.unusedSimpArgs false
set_option linter.unusedVariables false
namespace Go.Proofs.Ytajopaegmocnlaa
open Go.RowKit
set_option linter.unusedSimpArgs false
attribute [local simp] bx_size
attribute [local go_sem ↓] zeroHand zeroChan toLHand toLChan toVHand toVChan storeHand storeChan storeHandC storeChanC
set_option maxRecDepth 100000 in
set_option maxHeartbeats 2000000 in
theorem sSend_6 (c:Ch) (h:Ha) (a b:Option Addr) (p q:Nat) (w:World) (h1:Seg w w.heap.size a c.cells.length 3 (cellF c.cells)) (z1:a=none→p=0) (h2:Seg w w.heap.size b c.words.length 1 (intF c.words)) (z2:b=none→q=0) (hk:stepOk c h 1 8 1=true) (hp0:h.pos=6) :
    Calls Try.prog 6 #[.agg (cvals c (.slice a c.cells.length p) (.slice b c.words.length q)),.agg (hvals h)] w fun r w'=>StepN w w' (sendStep c h) r:=by
  have e:sendStep c h=put6 c h:=by simp [sendStep,hk,hp0]
  rw [e]
  obtain ⟨k1,k2,_,_⟩:=stepOk_yes hk
  obtain ⟨n1,n2⟩:=chan_40 k1
  have m1:c.cells.length≤1099511627776:=by omega
  have m2:c.words.length≤1099511627776:=by omega
  have H1:=Lib.hid h1
  have H2:=Lib.hid h2
  have Z1:=Lib.hid z1
  have Z2:=Lib.hid z2
  obtain ⟨c1,c2⟩:=hand_cell k2
  have D:=Lib.hid fun v1 v2 W x1 x2 x3=>l6Put_any c h v1 v2 w.heap.size W x1 x2 x3 c1 (by omega)
  generalize put6 c h=x at *
  clear h1 h2 z1 z2 e k1 k2 n1 n2
  go_enter Try.func6,Try.ntmps6
  go_wp2_with fail;refine bHit w (by exact zB) fun bb=>?_;refine (l6Ok_any c h 1 8 1 a b p q _ ((H1.out.below bb).more bb.size) ((H2.out.below bb).more bb.size)).mono ?_;rintro _ w1 ⟨rfl,hbw1⟩;have hCw1:Below w.heap.size w w1:=bT bb hbw1;have hsw1:=hbw1.size;(try simp at hsw1);have zz:=q4 hbw1 (b:=w.heap.size);(try simp [go_sem] at zz);(try clear z_wppp x_wppp f_wppp l_wppp);(try clear z_wpp x_wpp f_wpp l_wpp);(try clear z_wp x_wp f_wp l_wp);(try clear z_w x_w f_w l_w);obtain ⟨z_wppp,z_wpp,z_wp,z_w⟩:=zz;obtain ⟨x_wppp,f_wppp,l_wppp⟩:=bO z_wppp;obtain ⟨x_wpp,f_wpp,l_wpp⟩:=bO z_wpp;obtain ⟨x_wp,f_wp,l_wp⟩:=bO z_wp;obtain ⟨x_w,f_w,l_w⟩:=bO z_w;clear hbw1 bb
  rw [hk]
  go_wp2_with fail;refine bHit w (by exact zB) fun bb=>?_;refine (wCopy_any c a b p q _ ((H1.out.below bb).more bb.size) Z1.out ((H2.out.below bb).more bb.size) Z2.out m1 m2).mono ?_;rintro _ w2 ⟨⟨v1,v2,rfl,o1,o2⟩,hbw2⟩;have hCw2:Below w.heap.size w w2:=bT bb hbw2;have hsw2:=hbw2.size;(try simp at hsw2);have zz:=q4 hbw2 (b:=w.heap.size);(first|simp [go_sem,z_wppp,z_wpp,z_wp,z_w,l_w,l_wp,l_wpp,l_wppp] at zz|simp [go_sem] at zz|skip);(try clear z_wppp x_wppp f_wppp l_wppp);(try clear z_wpp x_wpp f_wpp l_wpp);(try clear z_wp x_wp f_wp l_wp);(try clear z_w x_w f_w l_w);obtain ⟨z_wppp,z_wpp,z_wp,z_w⟩:=zz;obtain ⟨x_wppp,f_wppp,l_wppp⟩:=bO z_wppp;obtain ⟨x_wpp,f_wpp,l_wpp⟩:=bO z_wpp;obtain ⟨x_wp,f_wp,l_wp⟩:=bO z_wp;obtain ⟨x_w,f_w,l_w⟩:=bO z_w;clear hbw2 bb
  have d1:∀ j,v1.ownBlock=some j→w.heap.size+1+1+1+1≤j:=fun j hj=>by have:=(o1.lt j hj).1;omega
  have d2:∀ j,v2.ownBlock=some j→w.heap.size+1+1+1+1≤j:=fun j hj=>by have:=(o2.lt j hj).1;omega
  have p1:=own_lo (lo':=w.heap.size) o1 (by omega)
  have p2:=own_lo (lo':=w.heap.size) o2 (by omega)
  obtain ⟨a1,q1,rfl,_⟩:=o1.seg
  obtain ⟨a2,q2,rfl,_⟩:=o2.seg
  have m1:∀ j,j<w.heap.size+1+1+1+1→some j≠(Value.slice a1 c.cells.length q1).ownBlock:=fun j hj e=>by have:=d1 _ e.symm;omega
  have m2:∀ j,j<w.heap.size+1+1+1+1→some j≠(Value.slice a2 c.words.length q2).ownBlock:=fun j hj e=>by have:=d2 _ e.symm;omega
  have m10:=m1 w.heap.size (by omega)
  have m11:=m1 (w.heap.size+1) (by omega)
  have m12:=m1 (w.heap.size+1+1) (by omega)
  have m13:=m1 (w.heap.size+1+1+1) (by omega)
  have m20:=m2 w.heap.size (by omega)
  have m21:=m2 (w.heap.size+1) (by omega)
  have m22:=m2 (w.heap.size+1+1) (by omega)
  have m23:=m2 (w.heap.size+1+1+1) (by omega)
  go_wp2_with fail
  refine (D.out _ _ _ (by exact zO p1 o1) (by exact zO p2 o2) (by simp;omega)).mono ?_
  rintro _ w3 ⟨⟨y1,y2,rfl,oY1,oY2,fY1,fY2⟩,hO⟩
  have hB3:Below w.heap.size w w3:=bOnl (by exact zB) hO (fun j hj=>by have:=d1 j hj;omega) (fun j hj=>by have:=d2 j hj;omega)
  have hsw3:=hO.2.2.2.1;(try (simp at hsw3));have zz:=And.intro (onlHp hO (i:=w.heap.size+1+1+1) (by (try simp) <;> omega) (by assumption) (by assumption)) <| And.intro (onlHp hO (i:=w.heap.size+1+1) (by (try simp) <;> omega) (by assumption) (by assumption)) <| And.intro (onlHp hO (i:=w.heap.size+1) (by (try simp) <;> omega) (by assumption) (by assumption)) <| onlHp hO (i:=w.heap.size) (by (try simp) <;> omega) (by assumption) (by assumption);(first|simp [go_sem,z_wppp,z_wpp,z_wp,z_w,l_w,l_wp,l_wpp,l_wppp] at zz|simp [go_sem] at zz|skip);(try clear z_wppp x_wppp f_wppp l_wppp);(try clear z_wpp x_wpp f_wpp l_wpp);(try clear z_wp x_wp f_wp l_wp);(try clear z_w x_w f_w l_w);obtain ⟨z_wppp,z_wpp,z_wp,z_w⟩:=zz;obtain ⟨x_wppp,f_wppp,l_wppp⟩:=bO z_wppp;obtain ⟨x_wpp,f_wpp,l_wpp⟩:=bO z_wpp;obtain ⟨x_wp,f_wp,l_wp⟩:=bO z_wp;obtain ⟨x_w,f_w,l_w⟩:=bO z_w
  clear hO
  have hoff1:∀ j,w.heap.size≤j→j<w.heap.size+1+1+1+1→y1.ownBlock≠some j:=fun j _ h2=>fY1.off2 d1 h2 (by (try simp) <;> omega);have hoff2:∀ j,w.heap.size≤j→j<w.heap.size+1+1+1+1→y2.ownBlock≠some j:=fun j _ h2=>fY2.off2 d2 h2 (by (try simp) <;> omega);have fr1:Fresh w (.slice none 0 0) y1:=fun j hj=>.inr (fY1.up d1 (by (try simp) <;> omega) (by (try simp) <;> omega) j hj);have fr2:Fresh w (.slice none 0 0) y2:=fun j hj=>.inr (fY2.up d2 (by (try simp) <;> omega) (by (try simp) <;> omega) j hj);obtain ⟨ya,yp,rfl,_⟩:=oY1.seg;obtain ⟨yb,yq,rfl,_⟩:=oY2.seg
  go_wp2
  refine bodyPost_ret (res_cct Try.results6 rfl (ldChan x.1 (.slice ya x.1.cells.length yp) (.slice yb x.1.words.length yq) (by simp [go_sem, *])) rfl (ldHand x.2.1 (by simp [go_sem, *]))) rfl ⟨⟨_,_,rfl,?_,?_,fr1,fr2⟩,by exact zB⟩
  · exact zP oY1 oY1 hoff1
  · exact zP oY2 oY2 hoff2
end Go.Proofs.Ytajopaegmocnlaa
set_option linter.unusedSimpArgs false
set_option linter.unusedVariables false
namespace Go.Proofs.Ytajopaegmocnlaa
open Go.RowKit
set_option linter.unusedSimpArgs false
attribute [local simp] bx_size
attribute [local go_sem ↓] zeroHand zeroChan toLHand toLChan toVHand toVChan storeHand storeChan storeHandC storeChanC
set_option maxRecDepth 100000 in
set_option maxHeartbeats 2000000 in
theorem sSend_3a (c:Ch) (h:Ha) (a b:Option Addr) (p q:Nat) (w:World) (h1:Seg w w.heap.size a c.cells.length 3 (cellF c.cells)) (z1:a=none→p=0) (h2:Seg w w.heap.size b c.words.length 1 (intF c.words)) (z2:b=none→q=0) (hk:stepOk c h 1 8 1=true) (hp0:h.pos=3) (ht:(look6 c h).2=true) :
    Calls Try.prog 6 #[.agg (cvals c (.slice a c.cells.length p) (.slice b c.words.length q)),.agg (hvals h)] w fun r w'=>StepN w w' (sendStep c h) r:=by
  have e:sendStep c h=done c (look6 c h).1:=by simp [sendStep,hk,hp0,send3,ht]
  rw [e]
  obtain ⟨k1,k2,_,_⟩:=stepOk_yes hk
  obtain ⟨n1,n2⟩:=chan_40 k1
  have m1:c.cells.length≤1099511627776:=by omega
  have m2:c.words.length≤1099511627776:=by omega
  have H1:=Lib.hid h1
  have H2:=Lib.hid h2
  have Z1:=Lib.hid z1
  have Z2:=Lib.hid z2
  obtain ⟨c1,c2⟩:=hand_cell k2
  have K:=fun W x1=>l6Look_any c h a b p q W x1 c1 (by omega)
  rw [ht] at K
  have D:=Lib.hid fun v1 v2 W=>l6Done_any c (look6 c h).1 v1 v2 w.heap.size W
  generalize done c (look6 c h).1=x at *
  generalize (look6 c h).1=y at *
  replace K:=Lib.hid K
  clear h1 h2 z1 z2 e k1 k2 n1 n2
  go_enter Try.func6,Try.ntmps6
  go_wp2_with fail;refine bHit w (by exact zB) fun bb=>?_;refine (l6Ok_any c h 1 8 1 a b p q _ ((H1.out.below bb).more bb.size) ((H2.out.below bb).more bb.size)).mono ?_;rintro _ w1 ⟨rfl,hbw1⟩;have hCw1:Below w.heap.size w w1:=bT bb hbw1;have hsw1:=hbw1.size;(try simp at hsw1);have zz:=q4 hbw1 (b:=w.heap.size);(try simp [go_sem] at zz);(try clear z_wppp x_wppp f_wppp l_wppp);(try clear z_wpp x_wpp f_wpp l_wpp);(try clear z_wp x_wp f_wp l_wp);(try clear z_w x_w f_w l_w);obtain ⟨z_wppp,z_wpp,z_wp,z_w⟩:=zz;obtain ⟨x_wppp,f_wppp,l_wppp⟩:=bO z_wppp;obtain ⟨x_wpp,f_wpp,l_wpp⟩:=bO z_wpp;obtain ⟨x_wp,f_wp,l_wp⟩:=bO z_wp;obtain ⟨x_w,f_w,l_w⟩:=bO z_w;clear hbw1 bb
  rw [hk]
  go_wp2_with fail;refine bHit w (by exact zB) fun bb=>?_;refine (wCopy_any c a b p q _ ((H1.out.below bb).more bb.size) Z1.out ((H2.out.below bb).more bb.size) Z2.out m1 m2).mono ?_;rintro _ w2 ⟨⟨v1,v2,rfl,o1,o2⟩,hbw2⟩;have hCw2:Below w.heap.size w w2:=bT bb hbw2;have hsw2:=hbw2.size;(try simp at hsw2);have zz:=q4 hbw2 (b:=w.heap.size);(first|simp [go_sem,z_wppp,z_wpp,z_wp,z_w,l_w,l_wp,l_wpp,l_wppp] at zz|simp [go_sem] at zz|skip);(try clear z_wppp x_wppp f_wppp l_wppp);(try clear z_wpp x_wpp f_wpp l_wpp);(try clear z_wp x_wp f_wp l_wp);(try clear z_w x_w f_w l_w);obtain ⟨z_wppp,z_wpp,z_wp,z_w⟩:=zz;obtain ⟨x_wppp,f_wppp,l_wppp⟩:=bO z_wppp;obtain ⟨x_wpp,f_wpp,l_wpp⟩:=bO z_wpp;obtain ⟨x_wp,f_wp,l_wp⟩:=bO z_wp;obtain ⟨x_w,f_w,l_w⟩:=bO z_w;clear hbw2 bb
  have k0:w.heap.size<w2.heap.size:=by omega
  have k1:w.heap.size+1<w2.heap.size:=by omega
  have k2:w.heap.size+1+1<w2.heap.size:=by omega
  have k3:w.heap.size+1+1+1<w2.heap.size:=by omega
  have d1:∀ j,v1.ownBlock=some j→w.heap.size+1+1+1+1≤j:=fun j hj=>by have:=(o1.lt j hj).1;omega
  have d2:∀ j,v2.ownBlock=some j→w.heap.size+1+1+1+1≤j:=fun j hj=>by have:=(o2.lt j hj).1;omega
  have p1:=own_lo (lo':=w.heap.size) o1 (by omega)
  have p2:=own_lo (lo':=w.heap.size) o2 (by omega)
  obtain ⟨a1,q1,rfl,_⟩:=o1.seg
  obtain ⟨a2,q2,rfl,_⟩:=o2.seg
  go_wp2_with fail;refine bHit w (by exact zB) fun bb=>?_;refine bHit w2 (by exact zB) fun bk=>?_;refine (K.out _ ((H1.out.below bb).more bb.size)).mono ?_;rintro _ w3 ⟨rfl,hbw3⟩;have hCw3:Below w.heap.size w w3:=bT bb hbw3;have hsw3:=hbw3.size;(try simp at hsw3);have zz:=And.intro (hQ hbw3 (b:=w2.heap.size)) <| And.intro (hQ hbw3 (b:=w.heap.size+1+1+1)) <| And.intro (hQ hbw3 (b:=w.heap.size+1+1)) <| And.intro (hQ hbw3 (b:=w.heap.size+1)) <| hQ hbw3 (b:=w.heap.size);(first|simp [go_sem,z_wppp,z_wpp,z_wp,z_w,l_w,l_wp,l_wpp,l_wppp,k0,k1,k2,k3] at zz|simp [go_sem] at zz|skip);(try clear z_w2 x_w2 f_w2 l_w2);(try clear z_wppp x_wppp f_wppp l_wppp);(try clear z_wpp x_wpp f_wpp l_wpp);(try clear z_wp x_wp f_wp l_wp);(try clear z_w x_w f_w l_w);obtain ⟨z_w2,z_wppp,z_wpp,z_wp,z_w⟩:=zz;obtain ⟨x_w2,f_w2,l_w2⟩:=bO z_w2;obtain ⟨x_wppp,f_wppp,l_wppp⟩:=bO z_wppp;obtain ⟨x_wpp,f_wpp,l_wpp⟩:=bO z_wpp;obtain ⟨x_wp,f_wp,l_wp⟩:=bO z_wp;obtain ⟨x_w,f_w,l_w⟩:=bO z_w;have hKw3:Below w2.heap.size w2 w3:=bT bk hbw3;clear hbw3 bb bk
  have s1:=own_below p1 hKw3
  have s2:=own_below p2 hKw3
  go_wp2_with fail;refine bHit w (by exact zB) fun bb=>?_;refine (D.out _ _ _ (by exact zO s1 o1) (by exact zO s2 o2)).mono ?_;rintro _ w5 ⟨⟨y1,y2,rfl,oY1,oY2,fY1,fY2⟩,hbw5⟩;have hCw5:Below w.heap.size w w5:=bT bb hbw5;have hsw5:=hbw5.size;(try simp at hsw5);have zz:=q4 hbw5 (b:=w.heap.size);(first|simp [go_sem,z_wppp,z_wpp,z_wp,z_w,l_w,l_wp,l_wpp,l_wppp,k0,k1,k2,k3] at zz|simp [go_sem] at zz|skip);(try clear z_wppp x_wppp f_wppp l_wppp);(try clear z_wpp x_wpp f_wpp l_wpp);(try clear z_wp x_wp f_wp l_wp);(try clear z_w x_w f_w l_w);obtain ⟨z_wppp,z_wpp,z_wp,z_w⟩:=zz;obtain ⟨x_wppp,f_wppp,l_wppp⟩:=bO z_wppp;obtain ⟨x_wpp,f_wpp,l_wpp⟩:=bO z_wpp;obtain ⟨x_wp,f_wp,l_wp⟩:=bO z_wp;obtain ⟨x_w,f_w,l_w⟩:=bO z_w;clear hbw5 bb
  have hoff1:∀ j,w.heap.size≤j→j<w.heap.size+1+1+1+1→y1.ownBlock≠some j:=fun j _ h2=>fY1.off2 d1 h2 (by (try simp) <;> omega);have hoff2:∀ j,w.heap.size≤j→j<w.heap.size+1+1+1+1→y2.ownBlock≠some j:=fun j _ h2=>fY2.off2 d2 h2 (by (try simp) <;> omega);have fr1:Fresh w (.slice none 0 0) y1:=fun j hj=>.inr (fY1.up d1 (by (try simp) <;> omega) (by (try simp) <;> omega) j hj);have fr2:Fresh w (.slice none 0 0) y2:=fun j hj=>.inr (fY2.up d2 (by (try simp) <;> omega) (by (try simp) <;> omega) j hj);obtain ⟨ya,yp,rfl,_⟩:=oY1.seg;obtain ⟨yb,yq,rfl,_⟩:=oY2.seg
  go_wp2
  refine bodyPost_ret (res_cct Try.results6 rfl (ldChan x.1 (.slice ya x.1.cells.length yp) (.slice yb x.1.words.length yq) (by simp [go_sem, *])) rfl (ldHand x.2.1 (by simp [go_sem, *]))) rfl ⟨⟨_,_,rfl,?_,?_,fr1,fr2⟩,by exact zB⟩
  · exact zP oY1 oY1 hoff1
  · exact zP oY2 oY2 hoff2
set_option maxRecDepth 100000 in
set_option maxHeartbeats 2000000 in
theorem sSend_3b (c:Ch) (h:Ha) (a b:Option Addr) (p q:Nat) (w:World) (h1:Seg w w.heap.size a c.cells.length 3 (cellF c.cells)) (z1:a=none→p=0) (h2:Seg w w.heap.size b c.words.length 1 (intF c.words)) (z2:b=none→q=0) (hk:stepOk c h 1 8 1=true) (hp0:h.pos=3) (ht:(look6 c h).2=false) :
    Calls Try.prog 6 #[.agg (cvals c (.slice a c.cells.length p) (.slice b c.words.length q)),.agg (hvals h)] w fun r w'=>StepN w w' (sendStep c h) r:=by
  have e:sendStep c h=nothing:=by simp [sendStep,hk,hp0,send3,ht]
  rw [e]
  obtain ⟨k1,k2,_,_⟩:=stepOk_yes hk
  obtain ⟨n1,n2⟩:=chan_40 k1
  have m1:c.cells.length≤1099511627776:=by omega
  have m2:c.words.length≤1099511627776:=by omega
  have H1:=Lib.hid h1
  have H2:=Lib.hid h2
  have Z1:=Lib.hid z1
  have Z2:=Lib.hid z2
  obtain ⟨c1,c2⟩:=hand_cell k2
  have K:=fun W x1=>l6Look_any c h a b p q W x1 c1 (by omega)
  rw [ht] at K
  have D:=Lib.hid fun W=>l6None_any W w.heap.size (.slice none 0 0) (.slice none 0 0)
  generalize nothing=x at *
  replace K:=Lib.hid K
  clear h1 h2 z1 z2 e k1 k2 n1 n2
  go_enter Try.func6,Try.ntmps6
  go_wp2_with fail;refine bHit w (by exact zB) fun bb=>?_;refine (l6Ok_any c h 1 8 1 a b p q _ ((H1.out.below bb).more bb.size) ((H2.out.below bb).more bb.size)).mono ?_;rintro _ w1 ⟨rfl,hbw1⟩;have hCw1:Below w.heap.size w w1:=bT bb hbw1;have hsw1:=hbw1.size;(try simp at hsw1);have zz:=q4 hbw1 (b:=w.heap.size);(try simp [go_sem] at zz);(try clear z_wppp x_wppp f_wppp l_wppp);(try clear z_wpp x_wpp f_wpp l_wpp);(try clear z_wp x_wp f_wp l_wp);(try clear z_w x_w f_w l_w);obtain ⟨z_wppp,z_wpp,z_wp,z_w⟩:=zz;obtain ⟨x_wppp,f_wppp,l_wppp⟩:=bO z_wppp;obtain ⟨x_wpp,f_wpp,l_wpp⟩:=bO z_wpp;obtain ⟨x_wp,f_wp,l_wp⟩:=bO z_wp;obtain ⟨x_w,f_w,l_w⟩:=bO z_w;clear hbw1 bb
  rw [hk]
  go_wp2_with fail;refine bHit w (by exact zB) fun bb=>?_;refine (wCopy_any c a b p q _ ((H1.out.below bb).more bb.size) Z1.out ((H2.out.below bb).more bb.size) Z2.out m1 m2).mono ?_;rintro _ w2 ⟨⟨v1,v2,rfl,o1,o2⟩,hbw2⟩;have hCw2:Below w.heap.size w w2:=bT bb hbw2;have hsw2:=hbw2.size;(try simp at hsw2);have zz:=q4 hbw2 (b:=w.heap.size);(first|simp [go_sem,z_wppp,z_wpp,z_wp,z_w,l_w,l_wp,l_wpp,l_wppp] at zz|simp [go_sem] at zz|skip);(try clear z_wppp x_wppp f_wppp l_wppp);(try clear z_wpp x_wpp f_wpp l_wpp);(try clear z_wp x_wp f_wp l_wp);(try clear z_w x_w f_w l_w);obtain ⟨z_wppp,z_wpp,z_wp,z_w⟩:=zz;obtain ⟨x_wppp,f_wppp,l_wppp⟩:=bO z_wppp;obtain ⟨x_wpp,f_wpp,l_wpp⟩:=bO z_wpp;obtain ⟨x_wp,f_wp,l_wp⟩:=bO z_wp;obtain ⟨x_w,f_w,l_w⟩:=bO z_w;clear hbw2 bb
  have k0:w.heap.size<w2.heap.size:=by omega
  have k1:w.heap.size+1<w2.heap.size:=by omega
  have k2:w.heap.size+1+1<w2.heap.size:=by omega
  have k3:w.heap.size+1+1+1<w2.heap.size:=by omega
  have d1:∀ j,v1.ownBlock=some j→w.heap.size+1+1+1+1≤j:=fun j hj=>by have:=(o1.lt j hj).1;omega
  have d2:∀ j,v2.ownBlock=some j→w.heap.size+1+1+1+1≤j:=fun j hj=>by have:=(o2.lt j hj).1;omega
  have p1:=own_lo (lo':=w.heap.size) o1 (by omega)
  have p2:=own_lo (lo':=w.heap.size) o2 (by omega)
  obtain ⟨a1,q1,rfl,_⟩:=o1.seg
  obtain ⟨a2,q2,rfl,_⟩:=o2.seg
  go_wp2_with fail;refine bHit w (by exact zB) fun bb=>?_;refine bHit w2 (by exact zB) fun bk=>?_;refine (K.out _ ((H1.out.below bb).more bb.size)).mono ?_;rintro _ w3 ⟨rfl,hbw3⟩;have hCw3:Below w.heap.size w w3:=bT bb hbw3;have hsw3:=hbw3.size;(try simp at hsw3);have zz:=And.intro (hQ hbw3 (b:=w2.heap.size)) <| And.intro (hQ hbw3 (b:=w.heap.size+1+1+1)) <| And.intro (hQ hbw3 (b:=w.heap.size+1+1)) <| And.intro (hQ hbw3 (b:=w.heap.size+1)) <| hQ hbw3 (b:=w.heap.size);(first|simp [go_sem,z_wppp,z_wpp,z_wp,z_w,l_w,l_wp,l_wpp,l_wppp,k0,k1,k2,k3] at zz|simp [go_sem] at zz|skip);(try clear z_w2 x_w2 f_w2 l_w2);(try clear z_wppp x_wppp f_wppp l_wppp);(try clear z_wpp x_wpp f_wpp l_wpp);(try clear z_wp x_wp f_wp l_wp);(try clear z_w x_w f_w l_w);obtain ⟨z_w2,z_wppp,z_wpp,z_wp,z_w⟩:=zz;obtain ⟨x_w2,f_w2,l_w2⟩:=bO z_w2;obtain ⟨x_wppp,f_wppp,l_wppp⟩:=bO z_wppp;obtain ⟨x_wpp,f_wpp,l_wpp⟩:=bO z_wpp;obtain ⟨x_wp,f_wp,l_wp⟩:=bO z_wp;obtain ⟨x_w,f_w,l_w⟩:=bO z_w;have hKw3:Below w2.heap.size w2 w3:=bT bk hbw3;clear hbw3 bb bk
  clear d1 d2
  have d1:∀ j,(Value.slice none 0 0).ownBlock=some j→w.heap.size+1+1+1+1≤j:=fun j hj=>by cases hj
  have d2:=d1
  go_wp2_with fail;refine bHit w (by exact zB) fun bb=>?_;refine (D.out _).mono ?_;rintro _ w5 ⟨⟨y1,y2,rfl,oY1,oY2,fY1,fY2⟩,hbw5⟩;have hCw5:Below w.heap.size w w5:=bT bb hbw5;have hsw5:=hbw5.size;(try simp at hsw5);have zz:=q4 hbw5 (b:=w.heap.size);(first|simp [go_sem,z_wppp,z_wpp,z_wp,z_w,l_w,l_wp,l_wpp,l_wppp,k0,k1,k2,k3] at zz|simp [go_sem] at zz|skip);(try clear z_wppp x_wppp f_wppp l_wppp);(try clear z_wpp x_wpp f_wpp l_wpp);(try clear z_wp x_wp f_wp l_wp);(try clear z_w x_w f_w l_w);obtain ⟨z_wppp,z_wpp,z_wp,z_w⟩:=zz;obtain ⟨x_wppp,f_wppp,l_wppp⟩:=bO z_wppp;obtain ⟨x_wpp,f_wpp,l_wpp⟩:=bO z_wpp;obtain ⟨x_wp,f_wp,l_wp⟩:=bO z_wp;obtain ⟨x_w,f_w,l_w⟩:=bO z_w;clear hbw5 bb
  have hoff1:∀ j,w.heap.size≤j→j<w.heap.size+1+1+1+1→y1.ownBlock≠some j:=fun j _ h2=>fY1.off2 d1 h2 (by (try simp) <;> omega);have hoff2:∀ j,w.heap.size≤j→j<w.heap.size+1+1+1+1→y2.ownBlock≠some j:=fun j _ h2=>fY2.off2 d2 h2 (by (try simp) <;> omega);have fr1:Fresh w (.slice none 0 0) y1:=fun j hj=>.inr (fY1.up d1 (by (try simp) <;> omega) (by (try simp) <;> omega) j hj);have fr2:Fresh w (.slice none 0 0) y2:=fun j hj=>.inr (fY2.up d2 (by (try simp) <;> omega) (by (try simp) <;> omega) j hj);obtain ⟨ya,yp,rfl,_⟩:=oY1.seg;obtain ⟨yb,yq,rfl,_⟩:=oY2.seg
  go_wp2
  refine bodyPost_ret (res_cct Try.results6 rfl (ldChan x.1 (.slice ya x.1.cells.length yp) (.slice yb x.1.words.length yq) (by simp [go_sem, *])) rfl (ldHand x.2.1 (by simp [go_sem, *]))) rfl ⟨⟨_,_,rfl,?_,?_,fr1,fr2⟩,by exact zB⟩
  · exact zP oY1 oY1 hoff1
  · exact zP oY2 oY2 hoff2
end Go.Proofs.Ytajopaegmocnlaa
