/-
  More of the reference model's steps of sending, on hands and channels that are kept whole; lists lie in memory and hold at most 2 ^ 40 elements.
  Putting, among the reference model's steps of sending, on hands and channels that are kept whole; lists lie in memory and hold at most 2 ^ 40 elements.
  Looking, among the reference model's steps of sending, on hands and channels that are kept whole; lists lie in memory and hold at most 2 ^ 40 elements.
  Steps of sending and receiving of the reference model, all cases, on hands and channels that are kept whole; lists lie in memory and hold at most 2 ^ 40 elements.
  The program's asking ahead of and behind a touch, whatever the touch, on hands and channels that are kept whole; lists lie in memory.
  The program's taking of what is in a cell, on hands and channels that are kept whole; the lists are the call's own.
-/
import Derived.Test.YtmnpgkcdfielbaaGreatP05
import Derived.Test.YtmnpgkcdfielbaaGreatP11
import Derived.Test.YtmnpgkcdfielbaaGreatP10
import Derived.Test.YtmnpgkcdfielbaaGreatP06
import Derived.Laws.EntriesVeiled
import Derived.BigRegion
import Derived.Test.YtmnpgkcdfielbaaGreatP09
import Derived.Deep.DeepCutAuto
set_option linter.unusedSimpArgs false
set_option linter.unusedVariables false
namespace Go.Proofs.YtmnpgkcdfielbaaGreat
open Go.RowKit
set_option linter.unusedSimpArgs false
attribute [local simp] bx_size
attribute [local go_sem ↓] zeroHand zeroChan toLHand toLChan toVHand toVChan storeHand storeChan storeHandC storeChanC
set_option maxRecDepth 100000 in
set_option maxHeartbeats 2000000 in
theorem sSend_1a (c:Ch) (h:Ha) (a b:Option Addr) (p q:Nat) (w:World) (h1:Seg w w.heap.size a c.cells.length 3 (cellF c.cells)) (z1:a=none→p=0) (h2:Seg w w.heap.size b c.words.length 1 (intF c.words)) (z2:b=none→q=0) (hk:stepOk c h 1 8 1=true) (hp0:h.pos=1) (hs:c.sent=40) :
    Calls Tryz.prog 70 #[.agg (cvals c (.slice a c.cells.length p) (.slice b c.words.length q)),.agg (hvals h)] w fun r w'=>StepN w w' (sendStep c h) r:=by
  have e:sendStep c h=done c (resting 4 0):=by simp [sendStep,hk,hp0,send1,hs]
  rw [e]
  obtain ⟨k1,k2,_,_⟩:=stepOk_yes hk
  obtain ⟨n1,n2⟩:=chan_40 k1
  have m1:c.cells.length≤1099511627776:=by omega
  have m2:c.words.length≤1099511627776:=by omega
  have H1:=Lib.hid h1
  have H2:=Lib.hid h2
  have Z1:=Lib.hid z1
  have Z2:=Lib.hid z2
  have D:=Lib.hid fun v1 v2 W=>l6Done_any c (resting 4 0) v1 v2 w.heap.size W
  generalize done c (resting 4 0)=x at *
  clear h1 h2 z1 z2 e k1 k2 n1 n2
  go_enter Tryz.func70,Tryz.ntmps70
  go_wp2_with fail;refine bHit w (by exact zB) fun bb=>?_;refine (l6Ok_any c h 1 8 1 a b p q _ ((H1.out.below bb).more bb.size) ((H2.out.below bb).more bb.size)).mono ?_;rintro _ w1 ⟨rfl,hbw1⟩;have hCw1:Below w.heap.size w w1:=bT bb hbw1;have hsw1:=hbw1.size;(try simp at hsw1);have zz:=q4 hbw1 (b:=w.heap.size);(try simp [go_sem] at zz);(try clear z_wppp x_wppp f_wppp l_wppp);(try clear z_wpp x_wpp f_wpp l_wpp);(try clear z_wp x_wp f_wp l_wp);(try clear z_w x_w f_w l_w);obtain ⟨z_wppp,z_wpp,z_wp,z_w⟩:=zz;obtain ⟨x_wppp,f_wppp,l_wppp⟩:=bO z_wppp;obtain ⟨x_wpp,f_wpp,l_wpp⟩:=bO z_wpp;obtain ⟨x_wp,f_wp,l_wp⟩:=bO z_wp;obtain ⟨x_w,f_w,l_w⟩:=bO z_w;clear hbw1 bb
  rw [hk]
  go_wp2_with fail;refine bHit w (by exact zB) fun bb=>?_;refine (wCopy_any c a b p q _ ((H1.out.below bb).more bb.size) Z1.out ((H2.out.below bb).more bb.size) Z2.out m1 m2).mono ?_;rintro _ w2 ⟨⟨v1,v2,rfl,o1,o2⟩,hbw2⟩;have hCw2:Below w.heap.size w w2:=bT bb hbw2;have hsw2:=hbw2.size;(try simp at hsw2);have zz:=q4 hbw2 (b:=w.heap.size);(first|simp [go_sem,z_wppp,z_wpp,z_wp,z_w,l_w,l_wp,l_wpp,l_wppp] at zz|simp [go_sem] at zz|skip);(try clear z_wppp x_wppp f_wppp l_wppp);(try clear z_wpp x_wpp f_wpp l_wpp);(try clear z_wp x_wp f_wp l_wp);(try clear z_w x_w f_w l_w);obtain ⟨z_wppp,z_wpp,z_wp,z_w⟩:=zz;obtain ⟨x_wppp,f_wppp,l_wppp⟩:=bO z_wppp;obtain ⟨x_wpp,f_wpp,l_wpp⟩:=bO z_wpp;obtain ⟨x_wp,f_wp,l_wp⟩:=bO z_wp;obtain ⟨x_w,f_w,l_w⟩:=bO z_w;clear hbw2 bb
  have d1:∀ j,v1.ownBlock=some j→w.heap.size+1+1+1+1≤j:=fun j hj=>by have:=(o1.lt j hj).1;omega
  have d2:∀ j,v2.ownBlock=some j→w.heap.size+1+1+1+1≤j:=fun j hj=>by have:=(o2.lt j hj).1;omega
  have p1:=own_lo (lo':=w.heap.size) o1 (by omega)
  have p2:=own_lo (lo':=w.heap.size) o2 (by omega)
  obtain ⟨a1,q1,rfl,_⟩:=o1.seg
  obtain ⟨a2,q2,rfl,_⟩:=o2.seg
  go_wp2_with fail
  go_region_with (first|((go_at_call 84;refine bHit w (by exact zB) fun bb=>?_;refine bHit w2 (by exact zB) fun bk=>?_;refine (sResting_any _ _ _).mono ?_;rintro _ w5 ⟨rfl,hbw5⟩;have hCw5:Below w.heap.size w w5:=bT bb hbw5;have hsw5:=hbw5.size;(try simp at hsw5);have zz:=And.intro (hQ hbw5 (b:=w2.heap.size)) <| And.intro (hQ hbw5 (b:=w.heap.size+1+1+1)) <| And.intro (hQ hbw5 (b:=w.heap.size+1+1)) <| And.intro (hQ hbw5 (b:=w.heap.size+1)) <| hQ hbw5 (b:=w.heap.size);(first|simp [go_sem,z_wppp,z_wpp,z_wp,z_w,l_w,l_wp,l_wpp,l_wppp] at zz|simp [go_sem] at zz|skip);(try clear z_w2 x_w2 f_w2 l_w2);(try clear z_wppp x_wppp f_wppp l_wppp);(try clear z_wpp x_wpp f_wpp l_wpp);(try clear z_wp x_wp f_wp l_wp);(try clear z_w x_w f_w l_w);obtain ⟨z_w2,z_wppp,z_wpp,z_wp,z_w⟩:=zz;obtain ⟨x_w2,f_w2,l_w2⟩:=bO z_w2;obtain ⟨x_wppp,f_wppp,l_wppp⟩:=bO z_wppp;obtain ⟨x_wpp,f_wpp,l_wpp⟩:=bO z_wpp;obtain ⟨x_wp,f_wp,l_wp⟩:=bO z_wp;obtain ⟨x_w,f_w,l_w⟩:=bO z_w;have hKw5:Below w2.heap.size w2 w5:=bT bk hbw5;clear hbw5 bb bk);have r1:=own_below p1 hKw5;have r2:=own_below p2 hKw5)|((go_at_call 83;refine bHit w (by exact zB) fun bb=>?_;refine (D.out _ _ _ (by exact zO r1 o1) (by exact zO r2 o2)).mono ?_;rintro _ w3 ⟨⟨y1,y2,rfl,oY1,oY2,fY1,fY2⟩,hbw3⟩;have hCw3:Below w.heap.size w w3:=bT bb hbw3;have hsw3:=hbw3.size;(try simp at hsw3);have zz:=q4 hbw3 (b:=w.heap.size);(first|simp [go_sem,z_wppp,z_wpp,z_wp,z_w,l_w,l_wp,l_wpp,l_wppp] at zz|simp [go_sem] at zz|skip);(try clear z_wppp x_wppp f_wppp l_wppp);(try clear z_wpp x_wpp f_wpp l_wpp);(try clear z_wp x_wp f_wp l_wp);(try clear z_w x_w f_w l_w);obtain ⟨z_wppp,z_wpp,z_wp,z_w⟩:=zz;obtain ⟨x_wppp,f_wppp,l_wppp⟩:=bO z_wppp;obtain ⟨x_wpp,f_wpp,l_wpp⟩:=bO z_wpp;obtain ⟨x_wp,f_wp,l_wp⟩:=bO z_wp;obtain ⟨x_w,f_w,l_w⟩:=bO z_w;clear hbw3 bb);have hoff1:∀ j,w.heap.size≤j→j<w.heap.size+1+1+1+1→y1.ownBlock≠some j:=fun j _ h2=>fY1.off2 d1 h2 (by (try simp) <;> omega);have hoff2:∀ j,w.heap.size≤j→j<w.heap.size+1+1+1+1→y2.ownBlock≠some j:=fun j _ h2=>fY2.off2 d2 h2 (by (try simp) <;> omega);have fr1:Fresh w (.slice none 0 0) y1:=fun j hj=>.inr (fY1.up d1 (by (try simp) <;> omega) (by (try simp) <;> omega) j hj);have fr2:Fresh w (.slice none 0 0) y2:=fun j hj=>.inr (fY2.up d2 (by (try simp) <;> omega) (by (try simp) <;> omega) j hj);obtain ⟨ya,yp,rfl,_⟩:=oY1.seg;obtain ⟨yb,yq,rfl,_⟩:=oY2.seg))
  all_goals go_wp2
  all_goals (refine bodyPost_ret (res_cct Tryz.results70 rfl (ldChan x.1 (.slice ya x.1.cells.length yp) (.slice yb x.1.words.length yq) (by simp [go_sem, *])) rfl (ldHand x.2.1 (by simp [go_sem, *]))) rfl ⟨⟨_,_,rfl,?_,?_,fr1,fr2⟩,by exact zB⟩)
  all_goals (first|exact zP oY1 oY1 hoff1|skip)
  all_goals (first|exact zP oY2 oY2 hoff2|skip)
end Go.Proofs.YtmnpgkcdfielbaaGreat
set_option linter.unusedSimpArgs false
set_option linter.unusedVariables false
namespace Go.Proofs.YtmnpgkcdfielbaaGreat
open Go.RowKit
set_option linter.unusedSimpArgs false
attribute [local simp] bx_size
attribute [local go_sem ↓] zeroHand zeroChan toLHand toLChan toVHand toVChan storeHand storeChan storeHandC storeChanC
set_option maxRecDepth 100000 in
set_option maxHeartbeats 2000000 in
theorem sSend_6 (c:Ch) (h:Ha) (a b:Option Addr) (p q:Nat) (w:World) (h1:Seg w w.heap.size a c.cells.length 3 (cellF c.cells)) (z1:a=none→p=0) (h2:Seg w w.heap.size b c.words.length 1 (intF c.words)) (z2:b=none→q=0) (hk:stepOk c h 1 8 1=true) (hp0:h.pos=6) :
    Calls Tryz.prog 70 #[.agg (cvals c (.slice a c.cells.length p) (.slice b c.words.length q)),.agg (hvals h)] w fun r w'=>StepN w w' (sendStep c h) r:=by
  have e:sendStep c h=put6 c h:=by simp [sendStep,hk,hp0]
  rw [e]
  obtain ⟨k1,k2,_,_⟩:=stepOk_yes hk
  obtain ⟨n1,n2⟩:=chan_40 k1
  have m1:c.cells.length≤1099511627776:=by omega
  have m2:c.words.length≤1099511627776:=by omega
  have H1:=Lib.hid h1
  have H2:=Lib.hid h2
  have Z1:=Lib.hid z1
  have Z2:=Lib.hid z2
  obtain ⟨c1,c2⟩:=hand_cell k2
  have D:=Lib.hid fun v1 v2 W x1 x2 x3=>l6Put_any c h v1 v2 w.heap.size W x1 x2 x3 c1 (by omega)
  generalize put6 c h=x at *
  clear h1 h2 z1 z2 e k1 k2 n1 n2
  go_enter Tryz.func70,Tryz.ntmps70
  go_wp2_with fail;refine bHit w (by exact zB) fun bb=>?_;refine (l6Ok_any c h 1 8 1 a b p q _ ((H1.out.below bb).more bb.size) ((H2.out.below bb).more bb.size)).mono ?_;rintro _ w1 ⟨rfl,hbw1⟩;have hCw1:Below w.heap.size w w1:=bT bb hbw1;have hsw1:=hbw1.size;(try simp at hsw1);have zz:=q4 hbw1 (b:=w.heap.size);(try simp [go_sem] at zz);(try clear z_wppp x_wppp f_wppp l_wppp);(try clear z_wpp x_wpp f_wpp l_wpp);(try clear z_wp x_wp f_wp l_wp);(try clear z_w x_w f_w l_w);obtain ⟨z_wppp,z_wpp,z_wp,z_w⟩:=zz;obtain ⟨x_wppp,f_wppp,l_wppp⟩:=bO z_wppp;obtain ⟨x_wpp,f_wpp,l_wpp⟩:=bO z_wpp;obtain ⟨x_wp,f_wp,l_wp⟩:=bO z_wp;obtain ⟨x_w,f_w,l_w⟩:=bO z_w;clear hbw1 bb
  rw [hk]
  go_wp2_with fail;refine bHit w (by exact zB) fun bb=>?_;refine (wCopy_any c a b p q _ ((H1.out.below bb).more bb.size) Z1.out ((H2.out.below bb).more bb.size) Z2.out m1 m2).mono ?_;rintro _ w2 ⟨⟨v1,v2,rfl,o1,o2⟩,hbw2⟩;have hCw2:Below w.heap.size w w2:=bT bb hbw2;have hsw2:=hbw2.size;(try simp at hsw2);have zz:=q4 hbw2 (b:=w.heap.size);(first|simp [go_sem,z_wppp,z_wpp,z_wp,z_w,l_w,l_wp,l_wpp,l_wppp] at zz|simp [go_sem] at zz|skip);(try clear z_wppp x_wppp f_wppp l_wppp);(try clear z_wpp x_wpp f_wpp l_wpp);(try clear z_wp x_wp f_wp l_wp);(try clear z_w x_w f_w l_w);obtain ⟨z_wppp,z_wpp,z_wp,z_w⟩:=zz;obtain ⟨x_wppp,f_wppp,l_wppp⟩:=bO z_wppp;obtain ⟨x_wpp,f_wpp,l_wpp⟩:=bO z_wpp;obtain ⟨x_wp,f_wp,l_wp⟩:=bO z_wp;obtain ⟨x_w,f_w,l_w⟩:=bO z_w;clear hbw2 bb
  have d1:∀ j,v1.ownBlock=some j→w.heap.size+1+1+1+1≤j:=fun j hj=>by have:=(o1.lt j hj).1;omega
  have d2:∀ j,v2.ownBlock=some j→w.heap.size+1+1+1+1≤j:=fun j hj=>by have:=(o2.lt j hj).1;omega
  have p1:=own_lo (lo':=w.heap.size) o1 (by omega)
  have p2:=own_lo (lo':=w.heap.size) o2 (by omega)
  obtain ⟨a1,q1,rfl,_⟩:=o1.seg
  obtain ⟨a2,q2,rfl,_⟩:=o2.seg
  have m1:∀ j,j<w.heap.size+1+1+1+1→some j≠(Value.slice a1 c.cells.length q1).ownBlock:=fun j hj e=>by have:=d1 _ e.symm;omega
  have m2:∀ j,j<w.heap.size+1+1+1+1→some j≠(Value.slice a2 c.words.length q2).ownBlock:=fun j hj e=>by have:=d2 _ e.symm;omega
  have m10:=m1 w.heap.size (by omega)
  have m11:=m1 (w.heap.size+1) (by omega)
  have m12:=m1 (w.heap.size+1+1) (by omega)
  have m13:=m1 (w.heap.size+1+1+1) (by omega)
  have m20:=m2 w.heap.size (by omega)
  have m21:=m2 (w.heap.size+1) (by omega)
  have m22:=m2 (w.heap.size+1+1) (by omega)
  have m23:=m2 (w.heap.size+1+1+1) (by omega)
  go_wp2_with fail
  refine (D.out _ _ _ (by exact zO p1 o1) (by exact zO p2 o2) (by simp;omega)).mono ?_
  rintro _ w3 ⟨⟨y1,y2,rfl,oY1,oY2,fY1,fY2⟩,hO⟩
  have hB3:Below w.heap.size w w3:=bOnl (by exact zB) hO (fun j hj=>by have:=d1 j hj;omega) (fun j hj=>by have:=d2 j hj;omega)
  have hsw3:=hO.2.2.2.1;(try (simp at hsw3));have zz:=And.intro (onlHp hO (i:=w.heap.size+1+1+1) (by (try simp) <;> omega) (by assumption) (by assumption)) <| And.intro (onlHp hO (i:=w.heap.size+1+1) (by (try simp) <;> omega) (by assumption) (by assumption)) <| And.intro (onlHp hO (i:=w.heap.size+1) (by (try simp) <;> omega) (by assumption) (by assumption)) <| onlHp hO (i:=w.heap.size) (by (try simp) <;> omega) (by assumption) (by assumption);(first|simp [go_sem,z_wppp,z_wpp,z_wp,z_w,l_w,l_wp,l_wpp,l_wppp] at zz|simp [go_sem] at zz|skip);(try clear z_wppp x_wppp f_wppp l_wppp);(try clear z_wpp x_wpp f_wpp l_wpp);(try clear z_wp x_wp f_wp l_wp);(try clear z_w x_w f_w l_w);obtain ⟨z_wppp,z_wpp,z_wp,z_w⟩:=zz;obtain ⟨x_wppp,f_wppp,l_wppp⟩:=bO z_wppp;obtain ⟨x_wpp,f_wpp,l_wpp⟩:=bO z_wpp;obtain ⟨x_wp,f_wp,l_wp⟩:=bO z_wp;obtain ⟨x_w,f_w,l_w⟩:=bO z_w
  clear hO
  have hoff1:∀ j,w.heap.size≤j→j<w.heap.size+1+1+1+1→y1.ownBlock≠some j:=fun j _ h2=>fY1.off2 d1 h2 (by (try simp) <;> omega);have hoff2:∀ j,w.heap.size≤j→j<w.heap.size+1+1+1+1→y2.ownBlock≠some j:=fun j _ h2=>fY2.off2 d2 h2 (by (try simp) <;> omega);have fr1:Fresh w (.slice none 0 0) y1:=fun j hj=>.inr (fY1.up d1 (by (try simp) <;> omega) (by (try simp) <;> omega) j hj);have fr2:Fresh w (.slice none 0 0) y2:=fun j hj=>.inr (fY2.up d2 (by (try simp) <;> omega) (by (try simp) <;> omega) j hj);obtain ⟨ya,yp,rfl,_⟩:=oY1.seg;obtain ⟨yb,yq,rfl,_⟩:=oY2.seg
  go_wp2
  refine bodyPost_ret (res_cct Tryz.results70 rfl (ldChan x.1 (.slice ya x.1.cells.length yp) (.slice yb x.1.words.length yq) (by simp [go_sem, *])) rfl (ldHand x.2.1 (by simp [go_sem, *]))) rfl ⟨⟨_,_,rfl,?_,?_,fr1,fr2⟩,by exact zB⟩
  · exact zP oY1 oY1 hoff1
  · exact zP oY2 oY2 hoff2
end Go.Proofs.YtmnpgkcdfielbaaGreat
set_option linter.unusedSimpArgs false
set_option linter.unusedVariables false
namespace Go.Proofs.YtmnpgkcdfielbaaGreat
open Go.RowKit
set_option linter.unusedSimpArgs false
attribute [local simp] bx_size
attribute [local go_sem ↓] zeroHand zeroChan toLHand toLChan toVHand toVChan storeHand storeChan storeHandC storeChanC
set_option maxRecDepth 100000 in
set_option maxHeartbeats 2000000 in
theorem sSend_3a (c:Ch) (h:Ha) (a b:Option Addr) (p q:Nat) (w:World) (h1:Seg w w.heap.size a c.cells.length 3 (cellF c.cells)) (z1:a=none→p=0) (h2:Seg w w.heap.size b c.words.length 1 (intF c.words)) (z2:b=none→q=0) (hk:stepOk c h 1 8 1=true) (hp0:h.pos=3) (ht:(look6 c h).2=true) :
    Calls Tryz.prog 70 #[.agg (cvals c (.slice a c.cells.length p) (.slice b c.words.length q)),.agg (hvals h)] w fun r w'=>StepN w w' (sendStep c h) r:=by
  have e:sendStep c h=done c (look6 c h).1:=by simp [sendStep,hk,hp0,send3,ht]
  rw [e]
  obtain ⟨k1,k2,_,_⟩:=stepOk_yes hk
  obtain ⟨n1,n2⟩:=chan_40 k1
  have m1:c.cells.length≤1099511627776:=by omega
  have m2:c.words.length≤1099511627776:=by omega
  have H1:=Lib.hid h1
  have H2:=Lib.hid h2
  have Z1:=Lib.hid z1
  have Z2:=Lib.hid z2
  obtain ⟨c1,c2⟩:=hand_cell k2
  have K:=fun W x1=>l6Look_any c h a b p q W x1 c1 (by omega)
  rw [ht] at K
  have D:=Lib.hid fun v1 v2 W=>l6Done_any c (look6 c h).1 v1 v2 w.heap.size W
  generalize done c (look6 c h).1=x at *
  generalize (look6 c h).1=y at *
  replace K:=Lib.hid K
  clear h1 h2 z1 z2 e k1 k2 n1 n2
  go_enter Tryz.func70,Tryz.ntmps70
  go_wp2_with fail;refine bHit w (by exact zB) fun bb=>?_;refine (l6Ok_any c h 1 8 1 a b p q _ ((H1.out.below bb).more bb.size) ((H2.out.below bb).more bb.size)).mono ?_;rintro _ w1 ⟨rfl,hbw1⟩;have hCw1:Below w.heap.size w w1:=bT bb hbw1;have hsw1:=hbw1.size;(try simp at hsw1);have zz:=q4 hbw1 (b:=w.heap.size);(try simp [go_sem] at zz);(try clear z_wppp x_wppp f_wppp l_wppp);(try clear z_wpp x_wpp f_wpp l_wpp);(try clear z_wp x_wp f_wp l_wp);(try clear z_w x_w f_w l_w);obtain ⟨z_wppp,z_wpp,z_wp,z_w⟩:=zz;obtain ⟨x_wppp,f_wppp,l_wppp⟩:=bO z_wppp;obtain ⟨x_wpp,f_wpp,l_wpp⟩:=bO z_wpp;obtain ⟨x_wp,f_wp,l_wp⟩:=bO z_wp;obtain ⟨x_w,f_w,l_w⟩:=bO z_w;clear hbw1 bb
  rw [hk]
  go_wp2_with fail;refine bHit w (by exact zB) fun bb=>?_;refine (wCopy_any c a b p q _ ((H1.out.below bb).more bb.size) Z1.out ((H2.out.below bb).more bb.size) Z2.out m1 m2).mono ?_;rintro _ w2 ⟨⟨v1,v2,rfl,o1,o2⟩,hbw2⟩;have hCw2:Below w.heap.size w w2:=bT bb hbw2;have hsw2:=hbw2.size;(try simp at hsw2);have zz:=q4 hbw2 (b:=w.heap.size);(first|simp [go_sem,z_wppp,z_wpp,z_wp,z_w,l_w,l_wp,l_wpp,l_wppp] at zz|simp [go_sem] at zz|skip);(try clear z_wppp x_wppp f_wppp l_wppp);(try clear z_wpp x_wpp f_wpp l_wpp);(try clear z_wp x_wp f_wp l_wp);(try clear z_w x_w f_w l_w);obtain ⟨z_wppp,z_wpp,z_wp,z_w⟩:=zz;obtain ⟨x_wppp,f_wppp,l_wppp⟩:=bO z_wppp;obtain ⟨x_wpp,f_wpp,l_wpp⟩:=bO z_wpp;obtain ⟨x_wp,f_wp,l_wp⟩:=bO z_wp;obtain ⟨x_w,f_w,l_w⟩:=bO z_w;clear hbw2 bb
  have k0:w.heap.size<w2.heap.size:=by omega
  have k1:w.heap.size+1<w2.heap.size:=by omega
  have k2:w.heap.size+1+1<w2.heap.size:=by omega
  have k3:w.heap.size+1+1+1<w2.heap.size:=by omega
  have d1:∀ j,v1.ownBlock=some j→w.heap.size+1+1+1+1≤j:=fun j hj=>by have:=(o1.lt j hj).1;omega
  have d2:∀ j,v2.ownBlock=some j→w.heap.size+1+1+1+1≤j:=fun j hj=>by have:=(o2.lt j hj).1;omega
  have p1:=own_lo (lo':=w.heap.size) o1 (by omega)
  have p2:=own_lo (lo':=w.heap.size) o2 (by omega)
  obtain ⟨a1,q1,rfl,_⟩:=o1.seg
  obtain ⟨a2,q2,rfl,_⟩:=o2.seg
  go_wp2_with fail;refine bHit w (by exact zB) fun bb=>?_;refine bHit w2 (by exact zB) fun bk=>?_;refine (K.out _ ((H1.out.below bb).more bb.size)).mono ?_;rintro _ w3 ⟨rfl,hbw3⟩;have hCw3:Below w.heap.size w w3:=bT bb hbw3;have hsw3:=hbw3.size;(try simp at hsw3);have zz:=And.intro (hQ hbw3 (b:=w2.heap.size)) <| And.intro (hQ hbw3 (b:=w.heap.size+1+1+1)) <| And.intro (hQ hbw3 (b:=w.heap.size+1+1)) <| And.intro (hQ hbw3 (b:=w.heap.size+1)) <| hQ hbw3 (b:=w.heap.size);(first|simp [go_sem,z_wppp,z_wpp,z_wp,z_w,l_w,l_wp,l_wpp,l_wppp,k0,k1,k2,k3] at zz|simp [go_sem] at zz|skip);(try clear z_w2 x_w2 f_w2 l_w2);(try clear z_wppp x_wppp f_wppp l_wppp);(try clear z_wpp x_wpp f_wpp l_wpp);(try clear z_wp x_wp f_wp l_wp);(try clear z_w x_w f_w l_w);obtain ⟨z_w2,z_wppp,z_wpp,z_wp,z_w⟩:=zz;obtain ⟨x_w2,f_w2,l_w2⟩:=bO z_w2;obtain ⟨x_wppp,f_wppp,l_wppp⟩:=bO z_wppp;obtain ⟨x_wpp,f_wpp,l_wpp⟩:=bO z_wpp;obtain ⟨x_wp,f_wp,l_wp⟩:=bO z_wp;obtain ⟨x_w,f_w,l_w⟩:=bO z_w;have hKw3:Below w2.heap.size w2 w3:=bT bk hbw3;clear hbw3 bb bk
  have s1:=own_below p1 hKw3
  have s2:=own_below p2 hKw3
  go_wp2_with fail;refine bHit w (by exact zB) fun bb=>?_;refine (D.out _ _ _ (by exact zO s1 o1) (by exact zO s2 o2)).mono ?_;rintro _ w5 ⟨⟨y1,y2,rfl,oY1,oY2,fY1,fY2⟩,hbw5⟩;have hCw5:Below w.heap.size w w5:=bT bb hbw5;have hsw5:=hbw5.size;(try simp at hsw5);have zz:=q4 hbw5 (b:=w.heap.size);(first|simp [go_sem,z_wppp,z_wpp,z_wp,z_w,l_w,l_wp,l_wpp,l_wppp,k0,k1,k2,k3] at zz|simp [go_sem] at zz|skip);(try clear z_wppp x_wppp f_wppp l_wppp);(try clear z_wpp x_wpp f_wpp l_wpp);(try clear z_wp x_wp f_wp l_wp);(try clear z_w x_w f_w l_w);obtain ⟨z_wppp,z_wpp,z_wp,z_w⟩:=zz;obtain ⟨x_wppp,f_wppp,l_wppp⟩:=bO z_wppp;obtain ⟨x_wpp,f_wpp,l_wpp⟩:=bO z_wpp;obtain ⟨x_wp,f_wp,l_wp⟩:=bO z_wp;obtain ⟨x_w,f_w,l_w⟩:=bO z_w;clear hbw5 bb
  have hoff1:∀ j,w.heap.size≤j→j<w.heap.size+1+1+1+1→y1.ownBlock≠some j:=fun j _ h2=>fY1.off2 d1 h2 (by (try simp) <;> omega);have hoff2:∀ j,w.heap.size≤j→j<w.heap.size+1+1+1+1→y2.ownBlock≠some j:=fun j _ h2=>fY2.off2 d2 h2 (by (try simp) <;> omega);have fr1:Fresh w (.slice none 0 0) y1:=fun j hj=>.inr (fY1.up d1 (by (try simp) <;> omega) (by (try simp) <;> omega) j hj);have fr2:Fresh w (.slice none 0 0) y2:=fun j hj=>.inr (fY2.up d2 (by (try simp) <;> omega) (by (try simp) <;> omega) j hj);obtain ⟨ya,yp,rfl,_⟩:=oY1.seg;obtain ⟨yb,yq,rfl,_⟩:=oY2.seg
  go_wp2
  refine bodyPost_ret (res_cct Tryz.results70 rfl (ldChan x.1 (.slice ya x.1.cells.length yp) (.slice yb x.1.words.length yq) (by simp [go_sem, *])) rfl (ldHand x.2.1 (by simp [go_sem, *]))) rfl ⟨⟨_,_,rfl,?_,?_,fr1,fr2⟩,by exact zB⟩
  · exact zP oY1 oY1 hoff1
  · exact zP oY2 oY2 hoff2
set_option maxRecDepth 100000 in
set_option maxHeartbeats 2000000 in
theorem sSend_3b (c:Ch) (h:Ha) (a b:Option Addr) (p q:Nat) (w:World) (h1:Seg w w.heap.size a c.cells.length 3 (cellF c.cells)) (z1:a=none→p=0) (h2:Seg w w.heap.size b c.words.length 1 (intF c.words)) (z2:b=none→q=0) (hk:stepOk c h 1 8 1=true) (hp0:h.pos=3) (ht:(look6 c h).2=false) :
    Calls Tryz.prog 70 #[.agg (cvals c (.slice a c.cells.length p) (.slice b c.words.length q)),.agg (hvals h)] w fun r w'=>StepN w w' (sendStep c h) r:=by
  have e:sendStep c h=nothing:=by simp [sendStep,hk,hp0,send3,ht]
  rw [e]
  obtain ⟨k1,k2,_,_⟩:=stepOk_yes hk
  obtain ⟨n1,n2⟩:=chan_40 k1
  have m1:c.cells.length≤1099511627776:=by omega
  have m2:c.words.length≤1099511627776:=by omega
  have H1:=Lib.hid h1
  have H2:=Lib.hid h2
  have Z1:=Lib.hid z1
  have Z2:=Lib.hid z2
  obtain ⟨c1,c2⟩:=hand_cell k2
  have K:=fun W x1=>l6Look_any c h a b p q W x1 c1 (by omega)
  rw [ht] at K
  have D:=Lib.hid fun W=>l6None_any W w.heap.size (.slice none 0 0) (.slice none 0 0)
  generalize nothing=x at *
  replace K:=Lib.hid K
  clear h1 h2 z1 z2 e k1 k2 n1 n2
  go_enter Tryz.func70,Tryz.ntmps70
  go_wp2_with fail;refine bHit w (by exact zB) fun bb=>?_;refine (l6Ok_any c h 1 8 1 a b p q _ ((H1.out.below bb).more bb.size) ((H2.out.below bb).more bb.size)).mono ?_;rintro _ w1 ⟨rfl,hbw1⟩;have hCw1:Below w.heap.size w w1:=bT bb hbw1;have hsw1:=hbw1.size;(try simp at hsw1);have zz:=q4 hbw1 (b:=w.heap.size);(try simp [go_sem] at zz);(try clear z_wppp x_wppp f_wppp l_wppp);(try clear z_wpp x_wpp f_wpp l_wpp);(try clear z_wp x_wp f_wp l_wp);(try clear z_w x_w f_w l_w);obtain ⟨z_wppp,z_wpp,z_wp,z_w⟩:=zz;obtain ⟨x_wppp,f_wppp,l_wppp⟩:=bO z_wppp;obtain ⟨x_wpp,f_wpp,l_wpp⟩:=bO z_wpp;obtain ⟨x_wp,f_wp,l_wp⟩:=bO z_wp;obtain ⟨x_w,f_w,l_w⟩:=bO z_w;clear hbw1 bb
  rw [hk]
  go_wp2_with fail;refine bHit w (by exact zB) fun bb=>?_;refine (wCopy_any c a b p q _ ((H1.out.below bb).more bb.size) Z1.out ((H2.out.below bb).more bb.size) Z2.out m1 m2).mono ?_;rintro _ w2 ⟨⟨v1,v2,rfl,o1,o2⟩,hbw2⟩;have hCw2:Below w.heap.size w w2:=bT bb hbw2;have hsw2:=hbw2.size;(try simp at hsw2);have zz:=q4 hbw2 (b:=w.heap.size);(first|simp [go_sem,z_wppp,z_wpp,z_wp,z_w,l_w,l_wp,l_wpp,l_wppp] at zz|simp [go_sem] at zz|skip);(try clear z_wppp x_wppp f_wppp l_wppp);(try clear z_wpp x_wpp f_wpp l_wpp);(try clear z_wp x_wp f_wp l_wp);(try clear z_w x_w f_w l_w);obtain ⟨z_wppp,z_wpp,z_wp,z_w⟩:=zz;obtain ⟨x_wppp,f_wppp,l_wppp⟩:=bO z_wppp;obtain ⟨x_wpp,f_wpp,l_wpp⟩:=bO z_wpp;obtain ⟨x_wp,f_wp,l_wp⟩:=bO z_wp;obtain ⟨x_w,f_w,l_w⟩:=bO z_w;clear hbw2 bb
  have k0:w.heap.size<w2.heap.size:=by omega
  have k1:w.heap.size+1<w2.heap.size:=by omega
  have k2:w.heap.size+1+1<w2.heap.size:=by omega
  have k3:w.heap.size+1+1+1<w2.heap.size:=by omega
  have d1:∀ j,v1.ownBlock=some j→w.heap.size+1+1+1+1≤j:=fun j hj=>by have:=(o1.lt j hj).1;omega
  have d2:∀ j,v2.ownBlock=some j→w.heap.size+1+1+1+1≤j:=fun j hj=>by have:=(o2.lt j hj).1;omega
  have p1:=own_lo (lo':=w.heap.size) o1 (by omega)
  have p2:=own_lo (lo':=w.heap.size) o2 (by omega)
  obtain ⟨a1,q1,rfl,_⟩:=o1.seg
  obtain ⟨a2,q2,rfl,_⟩:=o2.seg
  go_wp2_with fail;refine bHit w (by exact zB) fun bb=>?_;refine bHit w2 (by exact zB) fun bk=>?_;refine (K.out _ ((H1.out.below bb).more bb.size)).mono ?_;rintro _ w3 ⟨rfl,hbw3⟩;have hCw3:Below w.heap.size w w3:=bT bb hbw3;have hsw3:=hbw3.size;(try simp at hsw3);have zz:=And.intro (hQ hbw3 (b:=w2.heap.size)) <| And.intro (hQ hbw3 (b:=w.heap.size+1+1+1)) <| And.intro (hQ hbw3 (b:=w.heap.size+1+1)) <| And.intro (hQ hbw3 (b:=w.heap.size+1)) <| hQ hbw3 (b:=w.heap.size);(first|simp [go_sem,z_wppp,z_wpp,z_wp,z_w,l_w,l_wp,l_wpp,l_wppp,k0,k1,k2,k3] at zz|simp [go_sem] at zz|skip);(try clear z_w2 x_w2 f_w2 l_w2);(try clear z_wppp x_wppp f_wppp l_wppp);(try clear z_wpp x_wpp f_wpp l_wpp);(try clear z_wp x_wp f_wp l_wp);(try clear z_w x_w f_w l_w);obtain ⟨z_w2,z_wppp,z_wpp,z_wp,z_w⟩:=zz;obtain ⟨x_w2,f_w2,l_w2⟩:=bO z_w2;obtain ⟨x_wppp,f_wppp,l_wppp⟩:=bO z_wppp;obtain ⟨x_wpp,f_wpp,l_wpp⟩:=bO z_wpp;obtain ⟨x_wp,f_wp,l_wp⟩:=bO z_wp;obtain ⟨x_w,f_w,l_w⟩:=bO z_w;have hKw3:Below w2.heap.size w2 w3:=bT bk hbw3;clear hbw3 bb bk
  clear d1 d2
  have d1:∀ j,(Value.slice none 0 0).ownBlock=some j→w.heap.size+1+1+1+1≤j:=fun j hj=>by cases hj
  have d2:=d1
  go_wp2_with fail;refine bHit w (by exact zB) fun bb=>?_;refine (D.out _).mono ?_;rintro _ w5 ⟨⟨y1,y2,rfl,oY1,oY2,fY1,fY2⟩,hbw5⟩;have hCw5:Below w.heap.size w w5:=bT bb hbw5;have hsw5:=hbw5.size;(try simp at hsw5);have zz:=q4 hbw5 (b:=w.heap.size);(first|simp [go_sem,z_wppp,z_wpp,z_wp,z_w,l_w,l_wp,l_wpp,l_wppp,k0,k1,k2,k3] at zz|simp [go_sem] at zz|skip);(try clear z_wppp x_wppp f_wppp l_wppp);(try clear z_wpp x_wpp f_wpp l_wpp);(try clear z_wp x_wp f_wp l_wp);(try clear z_w x_w f_w l_w);obtain ⟨z_wppp,z_wpp,z_wp,z_w⟩:=zz;obtain ⟨x_wppp,f_wppp,l_wppp⟩:=bO z_wppp;obtain ⟨x_wpp,f_wpp,l_wpp⟩:=bO z_wpp;obtain ⟨x_wp,f_wp,l_wp⟩:=bO z_wp;obtain ⟨x_w,f_w,l_w⟩:=bO z_w;clear hbw5 bb
  have hoff1:∀ j,w.heap.size≤j→j<w.heap.size+1+1+1+1→y1.ownBlock≠some j:=fun j _ h2=>fY1.off2 d1 h2 (by (try simp) <;> omega);have hoff2:∀ j,w.heap.size≤j→j<w.heap.size+1+1+1+1→y2.ownBlock≠some j:=fun j _ h2=>fY2.off2 d2 h2 (by (try simp) <;> omega);have fr1:Fresh w (.slice none 0 0) y1:=fun j hj=>.inr (fY1.up d1 (by (try simp) <;> omega) (by (try simp) <;> omega) j hj);have fr2:Fresh w (.slice none 0 0) y2:=fun j hj=>.inr (fY2.up d2 (by (try simp) <;> omega) (by (try simp) <;> omega) j hj);obtain ⟨ya,yp,rfl,_⟩:=oY1.seg;obtain ⟨yb,yq,rfl,_⟩:=oY2.seg
  go_wp2
  refine bodyPost_ret (res_cct Tryz.results70 rfl (ldChan x.1 (.slice ya x.1.cells.length yp) (.slice yb x.1.words.length yq) (by simp [go_sem, *])) rfl (ldHand x.2.1 (by simp [go_sem, *]))) rfl ⟨⟨_,_,rfl,?_,?_,fr1,fr2⟩,by exact zB⟩
  · exact zP oY1 oY1 hoff1
  · exact zP oY2 oY2 hoff2
end Go.Proofs.YtmnpgkcdfielbaaGreat
set_option linter.unusedSimpArgs false
set_option linter.unusedVariables false
namespace Go.Proofs.YtmnpgkcdfielbaaGreat
open Go.RowKit
set_option linter.unusedSimpArgs false
attribute [local simp] bx_size
attribute [local go_sem ↓] zeroHand zeroChan toLHand toLChan toVHand toVChan storeHand storeChan storeHandC storeChanC
set_option maxRecDepth 100000 in
set_option maxHeartbeats 2000000 in
theorem sRecv_12 (c:Ch) (h:Ha) (a b:Option Addr) (p q:Nat) (w:World) (h1:Seg w w.heap.size a c.cells.length 3 (cellF c.cells)) (z1:a=none→p=0) (h2:Seg w w.heap.size b c.words.length 1 (intF c.words)) (z2:b=none→q=0) (hk:stepOk c h 9 15 2=true) (hp0:h.pos=12) :
    Calls Tryz.prog 71 #[.agg (cvals c (.slice a c.cells.length p) (.slice b c.words.length q)),.agg (hvals h)] w fun r w'=>StepN w w' (recvStep c h) r:=by
  obtain ⟨k1,k2,_,_⟩:=stepOk_yes hk
  obtain ⟨n1,n2⟩:=chan_40 k1
  have m1:c.cells.length≤1099511627776:=by omega
  have m2:c.words.length≤1099511627776:=by omega
  have H1:=Lib.hid h1
  have H2:=Lib.hid h2
  have Z1:=Lib.hid z1
  have Z2:=Lib.hid z2
  obtain ⟨c1,c2⟩:=hand_cell k2
  have e:recvStep c h=take7 c h:=by simp [recvStep,hk,hp0]
  rw [e]
  have D:=Lib.hid fun v1 v2 W x1 x2 x3=>l7Take_any c h v1 v2 w.heap.size W x1 x2 x3 c1 (by omega)
  generalize take7 c h=x at *
  clear h1 h2 z1 z2 e k1 k2 n1 n2 c1 c2
  go_enter Tryz.func71,Tryz.ntmps71
  go_wp2_with fail;refine bHit w (by exact zB) fun bb=>?_;refine (l6Ok_any c h 9 15 2 a b p q _ ((H1.out.below bb).more bb.size) ((H2.out.below bb).more bb.size)).mono ?_;rintro _ w1 ⟨rfl,hbw1⟩;have hCw1:Below w.heap.size w w1:=bT bb hbw1;have hsw1:=hbw1.size;(try simp at hsw1);have zz:=q4 hbw1 (b:=w.heap.size);(try simp [go_sem] at zz);(try clear z_wppp x_wppp f_wppp l_wppp);(try clear z_wpp x_wpp f_wpp l_wpp);(try clear z_wp x_wp f_wp l_wp);(try clear z_w x_w f_w l_w);obtain ⟨z_wppp,z_wpp,z_wp,z_w⟩:=zz;obtain ⟨x_wppp,f_wppp,l_wppp⟩:=bO z_wppp;obtain ⟨x_wpp,f_wpp,l_wpp⟩:=bO z_wpp;obtain ⟨x_wp,f_wp,l_wp⟩:=bO z_wp;obtain ⟨x_w,f_w,l_w⟩:=bO z_w;clear hbw1 bb
  rw [hk]
  go_wp2_with fail;refine bHit w (by exact zB) fun bb=>?_;refine (wCopy_any c a b p q _ ((H1.out.below bb).more bb.size) Z1.out ((H2.out.below bb).more bb.size) Z2.out m1 m2).mono ?_;rintro _ w2 ⟨⟨v1,v2,rfl,o1,o2⟩,hbw2⟩;have hCw2:Below w.heap.size w w2:=bT bb hbw2;have hsw2:=hbw2.size;(try simp at hsw2);have zz:=q4 hbw2 (b:=w.heap.size);(first|simp [go_sem,z_wppp,z_wpp,z_wp,z_w,l_w,l_wp,l_wpp,l_wppp] at zz|simp [go_sem] at zz|skip);(try clear z_wppp x_wppp f_wppp l_wppp);(try clear z_wpp x_wpp f_wpp l_wpp);(try clear z_wp x_wp f_wp l_wp);(try clear z_w x_w f_w l_w);obtain ⟨z_wppp,z_wpp,z_wp,z_w⟩:=zz;obtain ⟨x_wppp,f_wppp,l_wppp⟩:=bO z_wppp;obtain ⟨x_wpp,f_wpp,l_wpp⟩:=bO z_wpp;obtain ⟨x_wp,f_wp,l_wp⟩:=bO z_wp;obtain ⟨x_w,f_w,l_w⟩:=bO z_w;clear hbw2 bb
  have d1:∀ j,v1.ownBlock=some j→w.heap.size+1+1+1+1≤j:=fun j hj=>by have:=(o1.lt j hj).1;omega
  have d2:∀ j,v2.ownBlock=some j→w.heap.size+1+1+1+1≤j:=fun j hj=>by have:=(o2.lt j hj).1;omega
  have p1:=own_lo (lo':=w.heap.size) o1 (by omega)
  have p2:=own_lo (lo':=w.heap.size) o2 (by omega)
  obtain ⟨a1,q1,rfl,_⟩:=o1.seg
  obtain ⟨a2,q2,rfl,_⟩:=o2.seg
  have m3:∀ j,j<w.heap.size+1+1+1+1→some j≠(Value.slice a1 c.cells.length q1).ownBlock:=fun j hj e=>by have:=d1 _ e.symm;omega
  have m4:∀ j,j<w.heap.size+1+1+1+1→some j≠(Value.slice a2 c.words.length q2).ownBlock:=fun j hj e=>by have:=d2 _ e.symm;omega
  have m10:=m3 (w.heap.size) (by omega)
  have m20:=m4 (w.heap.size) (by omega)
  have m11:=m3 (w.heap.size+1) (by omega)
  have m21:=m4 (w.heap.size+1) (by omega)
  have m12:=m3 (w.heap.size+1+1) (by omega)
  have m22:=m4 (w.heap.size+1+1) (by omega)
  have m13:=m3 (w.heap.size+1+1+1) (by omega)
  have m23:=m4 (w.heap.size+1+1+1) (by omega)
  go_wp2_with fail
  refine (D.out _ _ _ (by exact zO p1 o1) (by exact zO p2 o2) (by simp;omega)).mono ?_
  rintro _ w3 ⟨⟨y1,y2,rfl,oY1,oY2,fY1,fY2⟩,hO⟩
  have hB3:Below w.heap.size w w3:=bOnl (by exact zB) hO (fun j hj=>by have:=d1 j hj;omega) (fun j hj=>by have:=d2 j hj;omega)
  have hsw3:=hO.2.2.2.1;(try (simp at hsw3));have zz:=And.intro (onlHp hO (i:=w.heap.size+1+1+1) (by (try simp) <;> omega) (by assumption) (by assumption)) <| And.intro (onlHp hO (i:=w.heap.size+1+1) (by (try simp) <;> omega) (by assumption) (by assumption)) <| And.intro (onlHp hO (i:=w.heap.size+1) (by (try simp) <;> omega) (by assumption) (by assumption)) <| onlHp hO (i:=w.heap.size) (by (try simp) <;> omega) (by assumption) (by assumption);(first|simp [go_sem,z_wppp,z_wpp,z_wp,z_w,l_w,l_wp,l_wpp,l_wppp] at zz|simp [go_sem] at zz|skip);(try clear z_wppp x_wppp f_wppp l_wppp);(try clear z_wpp x_wpp f_wpp l_wpp);(try clear z_wp x_wp f_wp l_wp);(try clear z_w x_w f_w l_w);obtain ⟨z_wppp,z_wpp,z_wp,z_w⟩:=zz;obtain ⟨x_wppp,f_wppp,l_wppp⟩:=bO z_wppp;obtain ⟨x_wpp,f_wpp,l_wpp⟩:=bO z_wpp;obtain ⟨x_wp,f_wp,l_wp⟩:=bO z_wp;obtain ⟨x_w,f_w,l_w⟩:=bO z_w
  clear hO
  have hoff1:∀ j,w.heap.size≤j→j<w.heap.size+1+1+1+1→y1.ownBlock≠some j:=fun j _ h2=>fY1.off2 d1 h2 (by (try simp) <;> omega);have hoff2:∀ j,w.heap.size≤j→j<w.heap.size+1+1+1+1→y2.ownBlock≠some j:=fun j _ h2=>fY2.off2 d2 h2 (by (try simp) <;> omega);have fr1:Fresh w (.slice none 0 0) y1:=fun j hj=>.inr (fY1.up d1 (by (try simp) <;> omega) (by (try simp) <;> omega) j hj);have fr2:Fresh w (.slice none 0 0) y2:=fun j hj=>.inr (fY2.up d2 (by (try simp) <;> omega) (by (try simp) <;> omega) j hj);obtain ⟨ya,yp,rfl,_⟩:=oY1.seg;obtain ⟨yb,yq,rfl,_⟩:=oY2.seg
  go_wp2
  refine bodyPost_ret (res_cct Tryz.results71 rfl (ldChan x.1 (.slice ya x.1.cells.length yp) (.slice yb x.1.words.length yq) (by simp [go_sem, *])) rfl (ldHand x.2.1 (by simp [go_sem, *]))) rfl ⟨⟨_,_,rfl,?_,?_,fr1,fr2⟩,by exact zB⟩
  · exact zP oY1 oY1 hoff1
  · exact zP oY2 oY2 hoff2
theorem chan_got {c:Ch} (e:chanOk c=true):0≤c.got∧c.got≤40:=by
  simp [chanOk,chanHead,inB] at e
  omega
theorem chan_sent {c:Ch} (e:chanOk c=true):0≤c.sent∧c.sent≤40:=by
  simp [chanOk,chanHead,inB] at e
  omega
theorem chan_fin {c:Ch} (e:chanOk c=true):0≤c.fin∧c.fin≤40:=by
  simp [chanOk,chanHead,inB] at e
  omega
theorem sRecvStep_any (c:Ch) (h:Ha) (a b:Option Addr) (p q:Nat) (w:World) (h1:Seg w w.heap.size a c.cells.length 3 (cellF c.cells)) (z1:a=none→p=0) (h2:Seg w w.heap.size b c.words.length 1 (intF c.words)) (z2:b=none→q=0) :
    Calls Tryz.prog 71 #[.agg (cvals c (.slice a c.cells.length p) (.slice b c.words.length q)),.agg (hvals h)] w fun r w'=>StepN w w' (recvStep c h) r:=by
  cases hk:stepOk c h 9 15 2 with
  | false=>exact sRecv_no c h a b p q w h1 h2 hk
  | true =>
    obtain ⟨k1,_,k3,k4⟩:=stepOk_yes hk
    have hp:h.pos=9∨h.pos=10∨h.pos=11∨h.pos=12∨h.pos=13∨h.pos=14∨h.pos=15:=by omega
    rcases hp with hp|hp|hp|hp|hp|hp|hp
    · by_cases hs:c.got=40
      · exact sRecv_9a c h a b p q w h1 z1 h2 z2 hk hp hs
      · exact sRecv_9b c h a b p q w h1 z1 h2 z2 hk hp hs (chan_got k1)
    · by_cases hs:(cellAt c h.cell).s=6
      · exact sRecv_10a c h a b p q w h1 z1 h2 z2 hk hp hs
      · cases ht:(view7 c h).2 with
        | true=>exact sRecv_10b c h a b p q w h1 z1 h2 z2 hk hp (by simpa using hs) ht
        | false=>exact sRecv_10c c h a b p q w h1 z1 h2 z2 hk hp (by simpa using hs) ht
    · exact sRecv_11 c h a b p q w h1 z1 h2 z2 hk hp
    · exact sRecv_12 c h a b p q w h1 z1 h2 z2 hk hp
    · cases ht:tellB c h.wait 1 with
      | true=>exact sRecv_13a c h a b p q w h1 z1 h2 z2 hk hp ht
      | false=>exact sRecv_13b c h a b p q w h1 z1 h2 z2 hk hp ht
    · exact sRecv_14 c h a b p q w h1 z1 h2 z2 hk hp
    · exact sRecv_15 c h a b p q w h1 z1 h2 z2 hk hp
theorem sSendStep_any (c:Ch) (h:Ha) (a b:Option Addr) (p q:Nat) (w:World) (h1:Seg w w.heap.size a c.cells.length 3 (cellF c.cells)) (z1:a=none→p=0) (h2:Seg w w.heap.size b c.words.length 1 (intF c.words)) (z2:b=none→q=0) :
    Calls Tryz.prog 70 #[.agg (cvals c (.slice a c.cells.length p) (.slice b c.words.length q)),.agg (hvals h)] w fun r w'=>StepN w w' (sendStep c h) r:=by
  cases hk:stepOk c h 1 8 1 with
  | false=>exact sSend_no c h a b p q w h1 h2 hk
  | true =>
    obtain ⟨k1,_,k3,k4⟩:=stepOk_yes hk
    have hp:h.pos=1∨h.pos=2∨h.pos=3∨h.pos=4∨h.pos=5∨h.pos=6∨h.pos=7∨h.pos=8:=by omega
    rcases hp with hp|hp|hp|hp|hp|hp|hp|hp
    · by_cases hs:c.sent=40
      · exact sSend_1a c h a b p q w h1 z1 h2 z2 hk hp hs
      · exact sSend_1b c h a b p q w h1 z1 h2 z2 hk hp hs (chan_sent k1)
    · exact sSend_2 c h a b p q w h1 z1 h2 z2 hk hp
    · cases ht:(look6 c h).2 with
      | true=>exact sSend_3a c h a b p q w h1 z1 h2 z2 hk hp ht
      | false=>exact sSend_3b c h a b p q w h1 z1 h2 z2 hk hp ht
    · exact sSend_4 c h a b p q w h1 z1 h2 z2 hk hp
    · exact sSend_5 c h a b p q w h1 z1 h2 z2 hk hp
    · exact sSend_6 c h a b p q w h1 z1 h2 z2 hk hp
    · exact sSend_7 c h a b p q w h1 z1 h2 z2 hk hp
    · exact sSend_8 c h a b p q w h1 z1 h2 z2 hk hp
end Go.Proofs.YtmnpgkcdfielbaaGreat
set_option linter.unusedSimpArgs false
set_option linter.unusedVariables false
namespace Go.Proofs.YtmnpgkcdfielbaaGreat
open Go.RowKit
set_option linter.unusedSimpArgs false
attribute [local simp] bx_size
attribute [local go_sem ↓] zeroHand zeroChan toLHand toLChan toVHand toVChan storeHand storeChan storeHandC storeChanC
theorem iChanOk_any (c:Ch) (a b:Option Addr) (p q:Nat) (w:World) (h1:Seg w w.heap.size a c.cells.length 3 (cellF c.cells)) (h2:Seg w w.heap.size b c.words.length 1 (intF c.words)) (m1:c.cells.length≤maxLen) (m2:c.words.length≤maxLen) :
    Calls Tryz.prog 43 #[.agg (cvals c (.slice a c.cells.length p) (.slice b c.words.length q))] w fun r w'=>r=.returned (.bool (chanOk c))∧Below w.heap.size w w':=chanOk_any c a b p q w h1 h2 m1 m2
theorem iCopied_any (c:Ch) (a b:Option Addr) (p q:Nat) (w:World) (h1:Seg w w.heap.size a c.cells.length 3 (cellF c.cells)) (z1:a=none→p=0) (h2:Seg w w.heap.size b c.words.length 1 (intF c.words)) (z2:b=none→q=0) (m1:c.cells.length≤1099511627776) (m2:c.words.length≤1099511627776) :
    Calls Tryz.prog 130 #[.agg (cvals c (.slice a c.cells.length p) (.slice b c.words.length q))] w fun r w'=>(∃ v1 v2,r=.returned (.agg (cvals c v1 v2))∧OCells w' w.heap.size v1 c.cells∧OInts w' w.heap.size v2 c.words)∧Below w.heap.size w w':=copied_any c a b p q w h1 z1 h2 z2 m1 m2
/-- What is answered behind a touch. -/
def fin7 (x:St):St:=if chanOk x.1 && handOk x.2.1 then x else nothing
theorem own_max {w:World} {lo:Nat} {e:TypeId} {k n p:Nat} {a:Option Addr} {xs:List Value} (h:w.ownsRow lo e k (.slice a n p) n xs):n≤maxLen:=by
  rcases h.2 with ⟨_,h1⟩|⟨g,cap,cur,_,_,_,h1,h2,_⟩
  · omega
  · exact Nat.le_trans h1 h2
theorem hp_onl {w w':World} {v1 v2:Value} {lo lo' b k k' n n':Nat} {e e' T:TypeId} {x:Array Value} {xs xs':List Value} (hz:hp w b=some (.cells x T)) (hO:Onl v1.ownBlock v2.ownBlock w w') (o1:w.ownsRow lo e k v1 n xs) (o2:w.ownsRow lo' e' k' v2 n' xs') (h1:e≠T) (h2:e'≠T):hp w' b=some (.cells x T) :=
  (onlHp hO (bO hz).2.2 (fun e=>own_offs o1 hz h1 _ e.symm rfl) (fun e=>own_offs o2 hz h2 _ e.symm rfl)).trans hz
theorem IsBox.onl {w w':World} {v v1 v2:Value} {lo lo1 lo2 k k' n n':Nat} {e e' T:TypeId} {x:Array Value} {xs xs':List Value} (h:IsBox w v lo x T) (hO:Onl v1.ownBlock v2.ownBlock w w') (o1:w.ownsRow lo1 e k v1 n xs) (o2:w.ownsRow lo2 e' k' v2 n' xs') (h1:e≠T) (h2:e'≠T):IsBox w' v lo x T:=by
  obtain ⟨b,eb,hl,hz⟩:=h
  exact ⟨b,eb,hl,hp_onl hz hO o1 o2 h1 h2⟩
set_option maxRecDepth 100000 in
set_option maxHeartbeats 8000000 in
theorem touched_via (F:Nat) (x:St) (c:Ch) (h:Ha) (a b:Option Addr) (p q:Nat) (w:World) (h1:Seg w w.heap.size a c.cells.length 3 (cellF c.cells)) (z1:a=none→p=0) (h2:Seg w w.heap.size b c.words.length 1 (intF c.words)) (z2:b=none→q=0) (hc:chanOk c=true) (hh:handOk h=true) (eg:∀ args w,(callFunc F args).run Tryz.prog w=.ok (.enter F args) w) (HF:∀ (v1 v2:Value) (lo:Nat) (W:World),OCells W lo v1 c.cells→OInts W lo v2 c.words→lo≤W.heap.size→Calls Tryz.prog F #[.agg (cvals c v1 v2),.agg (hvals h)] W fun r w'=>StepO W w' lo v1 v2 x r) :
    Calls Tryz.prog 127 #[.func (.func F) #[] #[],.agg (cvals c (.slice a c.cells.length p) (.slice b c.words.length q)),.agg (hvals h)] w fun r w'=>StepN w w' (fin7 x) r:=by
  obtain ⟨n1,n2⟩:=chan_len hc
  have l1:c.cells.length≤maxLen:=by unfold maxLen;omega
  have l2:c.words.length≤maxLen:=by unfold maxLen;omega
  have m1:c.cells.length≤1099511627776:=by omega
  have m2:c.words.length≤1099511627776:=by omega
  have H1:=Lib.hid h1
  have H2:=Lib.hid h2
  have Z1:=Lib.hid z1
  have Z2:=Lib.hid z2
  clear h1 h2 z1 z2 n1 n2
  obtain ⟨X,hXe⟩:∃ X,X=fin7 x:=⟨_,rfl⟩
  rw [← hXe]
  have HFF:=Lib.hid HF
  clear HF
  go_enter Tryz.func127,Tryz.ntmps127
  go_wp2_with fail;refine bHit w (by exact zB) fun bb=>?_;refine (iChanOk_any c a b p q _ ((H1.out.below bb).more bb.size) ((H2.out.below bb).more bb.size) l1 l2).mono ?_;rintro _ w1 ⟨rfl,hbw1⟩;have hCw1:Below w.heap.size w w1:=bT bb hbw1;have hsw1:=hbw1.size;(try simp at hsw1);have zz:=q4 hbw1 (b:=w.heap.size);(try simp [go_sem] at zz);(try clear z_wppp x_wppp f_wppp l_wppp);(try clear z_wpp x_wpp f_wpp l_wpp);(try clear z_wp x_wp f_wp l_wp);(try clear z_w x_w f_w l_w);obtain ⟨z_wppp,z_wpp,z_wp,z_w⟩:=zz;obtain ⟨x_wppp,f_wppp,l_wppp⟩:=bO z_wppp;obtain ⟨x_wpp,f_wpp,l_wpp⟩:=bO z_wpp;obtain ⟨x_wp,f_wp,l_wp⟩:=bO z_wp;obtain ⟨x_w,f_w,l_w⟩:=bO z_w;clear hbw1 bb
  rw [hc]
  go_wp2_with fail;refine bHit w (by exact zB) fun bb=>?_;refine (handOk_any h _).mono ?_;rintro _ w2 ⟨rfl,hbw2⟩;have hCw2:Below w.heap.size w w2:=bT bb hbw2;have hsw2:=hbw2.size;(try simp at hsw2);have zz:=q4 hbw2 (b:=w.heap.size);(first|simp [go_sem,z_wppp,z_wpp,z_wp,z_w,l_w,l_wp,l_wpp,l_wppp] at zz|simp [go_sem] at zz|skip);(try clear z_wppp x_wppp f_wppp l_wppp);(try clear z_wpp x_wpp f_wpp l_wpp);(try clear z_wp x_wp f_wp l_wp);(try clear z_w x_w f_w l_w);obtain ⟨z_wppp,z_wpp,z_wp,z_w⟩:=zz;obtain ⟨x_wppp,f_wppp,l_wppp⟩:=bO z_wppp;obtain ⟨x_wpp,f_wpp,l_wpp⟩:=bO z_wpp;obtain ⟨x_wp,f_wp,l_wp⟩:=bO z_wp;obtain ⟨x_w,f_w,l_w⟩:=bO z_w;clear hbw2 bb
  rw [hh]
  go_upto_region 3 with fail
  refine wp_region_inv [[],[],[1],[],[0,1,2,3],[0,1,2,3,4],[0,1,2,3,4,5],[0,1,2,3,4,5],[0,1,2,3,4,5],[],[],[0,1,2,3,4,5,6,9],[0,1,2,3,4,5,7,10],[0,1,2,3,4,5,8]] [25,26,27,28,29,24,30,31,32,9,10,11] (fun l s wx=>(Below w2.heap.size w2 wx)∧(l 0=true→s 25=.func (.func F) #[] #[])∧(l 1=true→s 26=.agg (cvals c (.slice a c.cells.length p) (.slice b c.words.length q)))∧(l 2=true→l 4=false→s 27=.agg (cvals c (s 1001) (s 1002))∧OCells wx w2.heap.size (s 1001) c.cells∧OInts wx w2.heap.size (s 1002) c.words)∧(l 3=true→s 28=.agg (hvals h))∧(l 4=true→s 29=.tuple #[.agg (cvals x.1 (s 1003) (s 1004)),.agg (hvals x.2.1),.bool x.2.2]∧OCells wx w2.heap.size (s 1003) x.1.cells∧OInts wx w2.heap.size (s 1004) x.1.words)∧(l 5=true→s 24=.tuple #[.agg (cvals x.1 (s 1003) (s 1004)),.agg (hvals x.2.1),.bool x.2.2])∧(l 6=true→s 30=.agg (cvals x.1 (s 1003) (s 1004)))∧(l 7=true→s 31=.agg (hvals x.2.1))∧(l 8=true→s 32=.bool x.2.2)∧(l 9=true→IsBox wx (s 9) w2.heap.size (cond (l 11) (cvals x.1 (s 1003) (s 1004)) (cvals Ch.zero (.slice none 0 0) (.slice none 0 0))) 34)∧(l 10=true→IsBox wx (s 10) w2.heap.size (cond (l 12) (hvals x.2.1) (hvals Ha.zero)) 70)∧(l 13=true→s 11=.bool x.2.2)) (by kernel_rfl) (by kernel_rfl) (by kernel_rfl) (fun s=>by (simp only [fill,fillA,List.setIfInBounds_toArray,List.set_cons_zero,List.set_cons_succ];rfl)) (fun s=>⟨(Below.refl _ _).drew,nB,nB,nB,nB,nB,nB,nB,nB,nB,nB,nB,nB⟩) ?_ ?_
  refine ⟨?_,?_,?_,?_,?_,?_,?_,?_,?_,?_,?_,?_,?_,?_,trivial⟩;rotate_left 14
  · intro l s w8 hall hf
    have hB:=hf.1
    obtain ⟨_,oX1,oX2⟩:=((jC hf).2.1 (hall 4 rfl))
    obtain ⟨gc,ea,hgc,z_gc⟩:=((jD hf).2.2.1 (hall 9 rfl))
    obtain ⟨gh,eb,hgh,z_gh⟩:=((jD hf).2.2.2.1 (hall 10 rfl))
    have ec:=((jC (jD hf)) (hall 13 rfl))
    rw [hall 11 rfl] at z_gc
    rw [hall 12 rfl] at z_gh
    dsimp only [cond] at z_gc z_gh
    simp only [ea,eb,ec]
    clear ea eb ec hf hall
    generalize s 1003=v1 at *
    generalize s 1004=v2 at *
    have hCw8:Below w.heap.size w w8:=bT hCw2 hB
    have z8:=hpS z_wpp hB
    have z9:=hpS z_wppp hB
    have hq2:=(bO z_wppp).2.2
    clear z_w x_w f_w l_w z_wp x_wp f_wp l_wp z_wpp x_wpp f_wpp l_wpp z_wppp x_wppp f_wppp l_wppp
    have z_wpp:=z8
    have z_wppp:=z9
    clear z8 z9
    have hz8:=hB.size
    have hg0:w.heap.size+1+1<gc:=by omega
    have hg1:w.heap.size+1+1+1<gc:=by omega
    have hg2:w.heap.size+1+1<gh:=by omega
    have hg3:w.heap.size+1+1+1<gh:=by omega
    clear HFF
    obtain ⟨c2,h2,ok⟩:=x
    replace oX1:OCells w8 (w.heap.size+1+1+1+1) v1 c2.cells:=own_lo oX1 (by omega)
    replace oX2:OInts w8 (w.heap.size+1+1+1+1) v2 c2.words:=own_lo oX2 (by omega)
    dsimp only at z_gc z_gh ⊢
    obtain ⟨ya,yp,rfl,G1⟩:=oX1.seg
    obtain ⟨yb,yq,rfl,G2⟩:=oX2.seg
    obtain ⟨x_gc,f_gc,l_gc⟩:=bO z_gc
    obtain ⟨x_gh,f_gh,l_gh⟩:=bO z_gh
    obtain ⟨x_wpp,f_wpp,l_wpp⟩:=bO z_wpp
    obtain ⟨x_wppp,f_wppp,l_wppp⟩:=bO z_wppp
    have L1:=own_max oX1
    have L2:=own_max oX2
    have K1:=Lib.hid G1
    have K2:=Lib.hid G2
    clear G1 G2
    have T:=Lib.hid fun W=>refused_any W w.heap.size (.slice none 0 0) (.slice none 0 0)
    have d1:∀ j,(Value.slice none 0 0).ownBlock=some j→w.heap.size+1+1+1+1≤j:=fun j hj=>by cases hj
    have d2:=d1
    cases hc2:chanOk c2 with
    | false =>
      have E:X=nothing:=hXe.trans (by simp [fin7,hc2])
      rw [← E] at T
      clear E hXe
      go_wp2_with fail
      refine (iChanOk_any c2 ya yb yp yq _ ((K1.out.below (by exact zB)).more (by (try simp) <;> omega)) ((K2.out.below (by exact zB)).more (by (try simp) <;> omega)) L1 L2).mono ?_
      rintro _ w9 ⟨rfl,hbw9⟩
      have hCw9:Below w.heap.size w w9:=bT (by exact zB) hbw9
      have hKw9:Below w8.heap.size w8 w9:=bT (by exact zB) hbw9
      have hsw9:=hbw9.size;(try (simp at hsw9));have zz:=hQ hbw9 (b:=gc);(first|(simp [go_sem,z_gc,l_gc] at zz)|(simp [go_sem] at zz));(try clear x_gc f_gc);(try clear z_gc);have z_gc:=zz;clear zz;(try clear l_gc);obtain ⟨x_gc,f_gc,l_gc⟩:=bO z_gc;have zz:=hQ hbw9 (b:=gh);(first|(simp [go_sem,z_gh,l_gh] at zz)|(simp [go_sem] at zz));(try clear x_gh f_gh);(try clear z_gh);have z_gh:=zz;clear zz;(try clear l_gh);obtain ⟨x_gh,f_gh,l_gh⟩:=bO z_gh;have zz:=hQ hbw9 (b:=w.heap.size+1+1);(first|(simp [go_sem,z_wpp,l_wpp] at zz)|(simp [go_sem] at zz));(try clear x_wpp f_wpp);(try clear z_wpp);have z_wpp:=zz;clear zz;(try clear l_wpp);obtain ⟨x_wpp,f_wpp,l_wpp⟩:=bO z_wpp;have zz:=hQ hbw9 (b:=w.heap.size+1+1+1);(first|(simp [go_sem,z_wppp,l_wppp] at zz)|(simp [go_sem] at zz));(try clear x_wppp f_wppp);(try clear z_wppp);have z_wppp:=zz;clear zz;(try clear l_wppp);obtain ⟨x_wppp,f_wppp,l_wppp⟩:=bO z_wppp
      rw [hc2]
      go_wp2_with fail
      refine (T.out _).mono ?_
      rintro _ w11 ⟨⟨y1,y2,rfl,oY1,oY2,fY1,fY2⟩,hbw11⟩
      have hCw11:Below w.heap.size w w11:=bT (by exact zB) hbw11
      have hsw11:=hbw11.size;(try (simp at hsw11));have zz:=hQ hbw11 (b:=w.heap.size+1+1);(first|(simp [go_sem,z_wpp,l_wpp] at zz)|(simp [go_sem] at zz));(try clear x_wpp f_wpp);(try clear z_wpp);have z_wpp:=zz;clear zz;(try clear l_wpp);obtain ⟨x_wpp,f_wpp,l_wpp⟩:=bO z_wpp;have zz:=hQ hbw11 (b:=w.heap.size+1+1+1);(first|(simp [go_sem,z_wppp,l_wppp] at zz)|(simp [go_sem] at zz));(try clear x_wppp f_wppp);(try clear z_wppp);have z_wppp:=zz;clear zz;(try clear l_wppp);obtain ⟨x_wppp,f_wppp,l_wppp⟩:=bO z_wppp
      have hoff1:∀ j,w.heap.size≤j→j<w.heap.size+1+1+1+1→y1.ownBlock≠some j:=fun j _ h2=>fY1.off2 d1 h2 (by (try simp) <;> omega);have hoff2:∀ j,w.heap.size≤j→j<w.heap.size+1+1+1+1→y2.ownBlock≠some j:=fun j _ h2=>fY2.off2 d2 h2 (by (try simp) <;> omega);have fr1:Fresh w (.slice none 0 0) y1:=fun j hj=>.inr (fY1.up d1 (by (try simp) <;> omega) (by (try simp) <;> omega) j hj);have fr2:Fresh w (.slice none 0 0) y2:=fun j hj=>.inr (fY2.up d2 (by (try simp) <;> omega) (by (try simp) <;> omega) j hj);obtain ⟨ya,yp,rfl,_⟩:=oY1.seg;obtain ⟨yb,yq,rfl,_⟩:=oY2.seg
      go_wp2
      refine bodyPost_ret (res_cct Tryz.results127 rfl (ldChan X.1 (.slice ya X.1.cells.length yp) (.slice yb X.1.words.length yq) (by simp [go_sem, *])) rfl (ldHand X.2.1 (by simp [go_sem, *]))) rfl ⟨⟨_,_,rfl,?_,?_,fr1,fr2⟩,by exact zB⟩
      · exact zP oY1 oY1 hoff1
      · exact zP oY2 oY2 hoff2
    | true =>
      cases hh2:handOk h2 with
      | false =>
        have E:X=nothing:=hXe.trans (by simp [fin7,hh2])
        rw [← E] at T
        clear E hXe
        go_wp2_with fail
        refine (iChanOk_any c2 ya yb yp yq _ ((K1.out.below (by exact zB)).more (by (try simp) <;> omega)) ((K2.out.below (by exact zB)).more (by (try simp) <;> omega)) L1 L2).mono ?_
        rintro _ w9 ⟨rfl,hbw9⟩
        have hCw9:Below w.heap.size w w9:=bT (by exact zB) hbw9
        have hKw9:Below w8.heap.size w8 w9:=bT (by exact zB) hbw9
        have hsw9:=hbw9.size;(try (simp at hsw9));have zz:=hQ hbw9 (b:=gc);(first|(simp [go_sem,z_gc,l_gc] at zz)|(simp [go_sem] at zz));(try clear x_gc f_gc);(try clear z_gc);have z_gc:=zz;clear zz;(try clear l_gc);obtain ⟨x_gc,f_gc,l_gc⟩:=bO z_gc;have zz:=hQ hbw9 (b:=gh);(first|(simp [go_sem,z_gh,l_gh] at zz)|(simp [go_sem] at zz));(try clear x_gh f_gh);(try clear z_gh);have z_gh:=zz;clear zz;(try clear l_gh);obtain ⟨x_gh,f_gh,l_gh⟩:=bO z_gh;have zz:=hQ hbw9 (b:=w.heap.size+1+1);(first|(simp [go_sem,z_wpp,l_wpp] at zz)|(simp [go_sem] at zz));(try clear x_wpp f_wpp);(try clear z_wpp);have z_wpp:=zz;clear zz;(try clear l_wpp);obtain ⟨x_wpp,f_wpp,l_wpp⟩:=bO z_wpp;have zz:=hQ hbw9 (b:=w.heap.size+1+1+1);(first|(simp [go_sem,z_wppp,l_wppp] at zz)|(simp [go_sem] at zz));(try clear x_wppp f_wppp);(try clear z_wppp);have z_wppp:=zz;clear zz;(try clear l_wppp);obtain ⟨x_wppp,f_wppp,l_wppp⟩:=bO z_wppp
        rw [hc2]
        go_wp2_with fail
        refine (handOk_any h2 _).mono ?_
        rintro _ w10 ⟨rfl,hbw10⟩
        have hCw10:Below w.heap.size w w10:=bT (by exact zB) hbw10
        have hKw10:Below w8.heap.size w8 w10:=bT (by exact zB) hbw10
        have hsw10:=hbw10.size;(try (simp at hsw10));have zz:=hQ hbw10 (b:=gc);(first|(simp [go_sem,z_gc,l_gc] at zz)|(simp [go_sem] at zz));(try clear x_gc f_gc);(try clear z_gc);have z_gc:=zz;clear zz;(try clear l_gc);obtain ⟨x_gc,f_gc,l_gc⟩:=bO z_gc;have zz:=hQ hbw10 (b:=gh);(first|(simp [go_sem,z_gh,l_gh] at zz)|(simp [go_sem] at zz));(try clear x_gh f_gh);(try clear z_gh);have z_gh:=zz;clear zz;(try clear l_gh);obtain ⟨x_gh,f_gh,l_gh⟩:=bO z_gh;have zz:=hQ hbw10 (b:=w.heap.size+1+1);(first|(simp [go_sem,z_wpp,l_wpp] at zz)|(simp [go_sem] at zz));(try clear x_wpp f_wpp);(try clear z_wpp);have z_wpp:=zz;clear zz;(try clear l_wpp);obtain ⟨x_wpp,f_wpp,l_wpp⟩:=bO z_wpp;have zz:=hQ hbw10 (b:=w.heap.size+1+1+1);(first|(simp [go_sem,z_wppp,l_wppp] at zz)|(simp [go_sem] at zz));(try clear x_wppp f_wppp);(try clear z_wppp);have z_wppp:=zz;clear zz;(try clear l_wppp);obtain ⟨x_wppp,f_wppp,l_wppp⟩:=bO z_wppp
        rw [hh2]
        have r1:=own_below oX1 hKw10
        have r2:=own_below oX2 hKw10
        go_wp2_with fail
        refine (T.out _).mono ?_
        rintro _ w11 ⟨⟨y1,y2,rfl,oY1,oY2,fY1,fY2⟩,hbw11⟩
        have hCw11:Below w.heap.size w w11:=bT (by exact zB) hbw11
        have hsw11:=hbw11.size;(try (simp at hsw11));have zz:=hQ hbw11 (b:=w.heap.size+1+1);(first|(simp [go_sem,z_wpp,l_wpp] at zz)|(simp [go_sem] at zz));(try clear x_wpp f_wpp);(try clear z_wpp);have z_wpp:=zz;clear zz;(try clear l_wpp);obtain ⟨x_wpp,f_wpp,l_wpp⟩:=bO z_wpp;have zz:=hQ hbw11 (b:=w.heap.size+1+1+1);(first|(simp [go_sem,z_wppp,l_wppp] at zz)|(simp [go_sem] at zz));(try clear x_wppp f_wppp);(try clear z_wppp);have z_wppp:=zz;clear zz;(try clear l_wppp);obtain ⟨x_wppp,f_wppp,l_wppp⟩:=bO z_wppp
        have hoff1:∀ j,w.heap.size≤j→j<w.heap.size+1+1+1+1→y1.ownBlock≠some j:=fun j _ h2=>fY1.off2 d1 h2 (by (try simp) <;> omega);have hoff2:∀ j,w.heap.size≤j→j<w.heap.size+1+1+1+1→y2.ownBlock≠some j:=fun j _ h2=>fY2.off2 d2 h2 (by (try simp) <;> omega);have fr1:Fresh w (.slice none 0 0) y1:=fun j hj=>.inr (fY1.up d1 (by (try simp) <;> omega) (by (try simp) <;> omega) j hj);have fr2:Fresh w (.slice none 0 0) y2:=fun j hj=>.inr (fY2.up d2 (by (try simp) <;> omega) (by (try simp) <;> omega) j hj);obtain ⟨ya,yp,rfl,_⟩:=oY1.seg;obtain ⟨yb,yq,rfl,_⟩:=oY2.seg
        go_wp2
        refine bodyPost_ret (res_cct Tryz.results127 rfl (ldChan X.1 (.slice ya X.1.cells.length yp) (.slice yb X.1.words.length yq) (by simp [go_sem, *])) rfl (ldHand X.2.1 (by simp [go_sem, *]))) rfl ⟨⟨_,_,rfl,?_,?_,fr1,fr2⟩,by exact zB⟩
        · exact zP oY1 oY1 hoff1
        · exact zP oY2 oY2 hoff2
      | true =>
        have E:=Lib.hid (hXe.trans (show fin7 (c2,h2,ok)=(c2,h2,ok) by simp [fin7,hc2,hh2]))
        clear hXe
        go_wp2_with fail
        refine (iChanOk_any c2 ya yb yp yq _ ((K1.out.below (by exact zB)).more (by (try simp) <;> omega)) ((K2.out.below (by exact zB)).more (by (try simp) <;> omega)) L1 L2).mono ?_
        rintro _ w9 ⟨rfl,hbw9⟩
        have hCw9:Below w.heap.size w w9:=bT (by exact zB) hbw9
        have hKw9:Below w8.heap.size w8 w9:=bT (by exact zB) hbw9
        have hsw9:=hbw9.size;(try (simp at hsw9));have zz:=hQ hbw9 (b:=gc);(first|(simp [go_sem,z_gc,l_gc] at zz)|(simp [go_sem] at zz));(try clear x_gc f_gc);(try clear z_gc);have z_gc:=zz;clear zz;(try clear l_gc);obtain ⟨x_gc,f_gc,l_gc⟩:=bO z_gc;have zz:=hQ hbw9 (b:=gh);(first|(simp [go_sem,z_gh,l_gh] at zz)|(simp [go_sem] at zz));(try clear x_gh f_gh);(try clear z_gh);have z_gh:=zz;clear zz;(try clear l_gh);obtain ⟨x_gh,f_gh,l_gh⟩:=bO z_gh;have zz:=hQ hbw9 (b:=w.heap.size+1+1);(first|(simp [go_sem,z_wpp,l_wpp] at zz)|(simp [go_sem] at zz));(try clear x_wpp f_wpp);(try clear z_wpp);have z_wpp:=zz;clear zz;(try clear l_wpp);obtain ⟨x_wpp,f_wpp,l_wpp⟩:=bO z_wpp;have zz:=hQ hbw9 (b:=w.heap.size+1+1+1);(first|(simp [go_sem,z_wppp,l_wppp] at zz)|(simp [go_sem] at zz));(try clear x_wppp f_wppp);(try clear z_wppp);have z_wppp:=zz;clear zz;(try clear l_wppp);obtain ⟨x_wppp,f_wppp,l_wppp⟩:=bO z_wppp
        rw [hc2]
        go_wp2_with fail
        refine (handOk_any h2 _).mono ?_
        rintro _ w10 ⟨rfl,hbw10⟩
        have hCw10:Below w.heap.size w w10:=bT (by exact zB) hbw10
        have hKw10:Below w8.heap.size w8 w10:=bT (by exact zB) hbw10
        have hsw10:=hbw10.size;(try (simp at hsw10));have zz:=hQ hbw10 (b:=gc);(first|(simp [go_sem,z_gc,l_gc] at zz)|(simp [go_sem] at zz));(try clear x_gc f_gc);(try clear z_gc);have z_gc:=zz;clear zz;(try clear l_gc);obtain ⟨x_gc,f_gc,l_gc⟩:=bO z_gc;have zz:=hQ hbw10 (b:=gh);(first|(simp [go_sem,z_gh,l_gh] at zz)|(simp [go_sem] at zz));(try clear x_gh f_gh);(try clear z_gh);have z_gh:=zz;clear zz;(try clear l_gh);obtain ⟨x_gh,f_gh,l_gh⟩:=bO z_gh;have zz:=hQ hbw10 (b:=w.heap.size+1+1);(first|(simp [go_sem,z_wpp,l_wpp] at zz)|(simp [go_sem] at zz));(try clear x_wpp f_wpp);(try clear z_wpp);have z_wpp:=zz;clear zz;(try clear l_wpp);obtain ⟨x_wpp,f_wpp,l_wpp⟩:=bO z_wpp;have zz:=hQ hbw10 (b:=w.heap.size+1+1+1);(first|(simp [go_sem,z_wppp,l_wppp] at zz)|(simp [go_sem] at zz));(try clear x_wppp f_wppp);(try clear z_wppp);have z_wppp:=zz;clear zz;(try clear l_wppp);obtain ⟨x_wppp,f_wppp,l_wppp⟩:=bO z_wppp
        rw [hh2]
        have r1:=own_below oX1 hKw10
        have r2:=own_below oX2 hKw10
        go_wp2_with fail
        go_region
        go_wp2
        refine bodyPost_ret (res_cct Tryz.results127 rfl (ldChan c2 (.slice ya c2.cells.length yp) (.slice yb c2.words.length yq) (by simp [go_sem, *])) rfl (ldHand h2 (by simp [go_sem, *]))) rfl ⟨⟨.slice ya c2.cells.length yp,.slice yb c2.words.length yq,by rw [E.out];rfl,?_,?_,fun j hj=>.inr (by have:=(oX1.lt j hj).1;omega),fun j hj=>.inr (by have:=(oX2.lt j hj).1;omega)⟩,by exact zB⟩
        · rw [E.out]
          refine own_lo (lo:=w.heap.size+1+1+1+1) ?_ (by omega)
          exact zO r1 oX1
        · rw [E.out]
          refine own_lo (lo:=w.heap.size+1+1+1+1) ?_ (by omega)
          exact zO r2 oX2
  · intro l s wx hl hd hn hf0 K hK
    have hf:=Lib.hid hf0
    clear hf0
    go_simp
    refine hK.out (upd s 25 (.func (.func F) #[] #[])) _ _ (by simp [upd_at] <;> rfl) (kA (kX (fun _=>rfl) id) hf.out)
  · intro l s wx hl hd hn hf0 K hK
    have hf:=Lib.hid hf0
    clear hf0
    have z:=hpS z_w hf.out.1
    go_simp
    refine hK.out (upd s 26 (.agg (cvals c (.slice a c.cells.length p) (.slice b c.words.length q)))) _ _ (by simp [upd_at] <;> rfl) (kB (kX (fun _=>rfl) id) hf.out)
  · intro l s wx hl hd hn hf0 K hK
    have hf:=Lib.hid hf0
    clear hf0
    have e1:=(hf.out.2.2.1 (hd 1 rfl))
    go_simp
    go_at_call 130
    refine (iCopied_any c a b p q _ ((H1.out.below (bT hCw2 hf.out.1)).more (Below.size (bT hCw2 hf.out.1))) Z1.out ((H2.out.below (bT hCw2 hf.out.1)).more (Below.size (bT hCw2 hf.out.1))) Z2.out m1 m2).mono ?_
    rintro _ wy ⟨⟨v1,v2,rfl,X1,X2⟩,hE⟩
    refine hK.out (upd (upd (upd s 1001 (v1)) 1002 (v2)) 27 (.agg (cvals c v1 v2))) _ _ (by simp [upd_at,e1] <;> rfl) ⟨bT hf.out.1 hE,hf.out.2.1,hf.out.2.2.1,fun _ _=>⟨rfl,own_lo X1 (Below.size hf.out.1),own_lo X2 (Below.size hf.out.1)⟩,hf.out.2.2.2.2.1,nU (hn 4 rfl),nU (hn 5 rfl),nU (hn 6 rfl),nU (hn 7 rfl),nU (hn 8 rfl),fun h=>IsBox.below ((jD hf.out).2.2.1 h) hE,fun h=>IsBox.below ((jD hf.out).2.2.2.1 h) hE,nU (hn 13 rfl)⟩
  · intro l s wx hl hd hn hf0 K hK
    have hf:=Lib.hid hf0
    clear hf0
    have z:=hpS z_wp hf.out.1
    go_simp
    refine hK.out (upd s 28 (.agg (hvals h))) _ _ (by simp [upd_at] <;> rfl) (kC (kX (fun _=>rfl) id) hf.out)
  · intro l s wx hl hd hn hf0 K hK
    have hf:=Lib.hid hf0
    clear hf0
    have e0:=(hf.out.2.1 (hd 0 rfl))
    have e3:=(hf.out.2.2.2.2.1 (hd 3 rfl))
    obtain ⟨e2,o1,o2⟩:=(hf.out.2.2.2.1 (hd 2 rfl)) hl
    go_simp
    refine (HFF.out _ _ w2.heap.size _ o1 o2 (Below.size hf.out.1)).mono ?_
    rintro _ wy ⟨⟨y1,y2,rfl,X1,X2,_,_⟩,hO⟩
    refine hK.out (upd (upd (upd s 1003 (y1)) 1004 (y2)) 29 (.tuple #[.agg (cvals x.1 y1 y2),.agg (hvals x.2.1),.bool x.2.2])) _ _ (by simp [upd_at,e0,e3,e2] <;> rfl) ⟨bOnl hf.out.1 hO (fun j hj=>(o1.lt j hj).1) (fun j hj=>(o2.lt j hj).1),hf.out.2.1,hf.out.2.2.1,fun _ h4=>absurd h4 (by rw [show upd l 4 true 4=true from rfl];decide),hf.out.2.2.2.2.1,fun _=>⟨rfl,X1,X2⟩,nU (hn 5 rfl),nU (hn 6 rfl),nU (hn 7 rfl),nU (hn 8 rfl),fun h=>by (have ee:l 11=false:=hn 11 rfl);(have F:=(jD hf.out).2.2.1 h);rw [ee] at F;rw [show upd l 4 true 11=false from ee];exact F.onl hO o1 o2 (by decide) (by decide),fun h=>by (have ee:l 12=false:=hn 12 rfl);(have F:=(jD hf.out).2.2.2.1 h);rw [ee] at F;rw [show upd l 4 true 12=false from ee];exact F.onl hO o1 o2 (by decide) (by decide),nU (hn 13 rfl)⟩
  · intro l s wx hl hd hn hf0 K hK
    have hf:=Lib.hid hf0
    clear hf0
    have e4:=((jC hf.out).2.1 (hd 4 rfl)).1
    go_simp
    refine hK.out (upd s 24 (.tuple #[.agg (cvals x.1 (s 1003) (s 1004)),.agg (hvals x.2.1),.bool x.2.2])) _ _ (by simp [upd_at,e4] <;> rfl) (kC (kB (kX (fun _=>rfl) id)) hf.out)
  · intro l s wx hl hd hn hf0 K hK
    have hf:=Lib.hid hf0
    clear hf0
    have e5:=((jC hf.out).2.2.1 (hd 5 rfl))
    go_simp
    refine hK.out (upd s 30 (.agg (cvals x.1 (s 1003) (s 1004)))) _ _ (by simp [upd_at,e5] <;> rfl) (kC (kB (kA (kX (fun _=>rfl) id))) hf.out)
  · intro l s wx hl hd hn hf0 K hK
    have hf:=Lib.hid hf0
    clear hf0
    have e5:=((jC hf.out).2.2.1 (hd 5 rfl))
    go_simp
    refine hK.out (upd s 31 (.agg (hvals x.2.1))) _ _ (by simp [upd_at,e5] <;> rfl) (kD (kX (fun _=>rfl) id) hf.out)
  · intro l s wx hl hd hn hf0 K hK
    have hf:=Lib.hid hf0
    clear hf0
    have e5:=((jC hf.out).2.2.1 (hd 5 rfl))
    go_simp
    refine hK.out (upd s 32 (.bool x.2.2)) _ _ (by simp [upd_at,e5] <;> rfl) (kD (kA (kX (fun _=>rfl) id)) hf.out)
  · intro l s wx hl hd hn hf0 K hK
    have hf:=Lib.hid hf0
    clear hf0
    go_simp
    refine hK.out (upd s 9 (.pointer (some ⟨wx.heap.size,0,none⟩))) _ _ (by simp [upd_at] <;> rfl) (kX (bT hf.out.1 (belowAlloc _ _)) (kB (kX (fun h=>fun h4=>(let ⟨e,X1,X2⟩:=(hf.out.2.2.2.1 h) h4;⟨e,own_below X1 (belowAlloc _ _),own_below X2 (belowAlloc _ _)⟩)) (kA (kX (fun h=>(let ⟨e,X1,X2⟩:=((jC hf.out).2.1 h);⟨e,own_below X1 (belowAlloc _ _),own_below X2 (belowAlloc _ _)⟩)) (kC (kX (fun _=>by rw [show upd l 9 true 11=false from hn 11 rfl];exact IsBox.new (Below.size hf.out.1)) (kX (fun h=>IsBox.below ((jD hf.out).2.2.2.1 h) (belowAlloc _ _)) id))))))) hf.out)
  · intro l s wx hl hd hn hf0 K hK
    have hf:=Lib.hid hf0
    clear hf0
    go_simp
    refine hK.out (upd s 10 (.pointer (some ⟨wx.heap.size,0,none⟩))) _ _ (by simp [upd_at] <;> rfl) (kX (bT hf.out.1 (belowAlloc _ _)) (kB (kX (fun h=>fun h4=>(let ⟨e,X1,X2⟩:=(hf.out.2.2.2.1 h) h4;⟨e,own_below X1 (belowAlloc _ _),own_below X2 (belowAlloc _ _)⟩)) (kA (kX (fun h=>(let ⟨e,X1,X2⟩:=((jC hf.out).2.1 h);⟨e,own_below X1 (belowAlloc _ _),own_below X2 (belowAlloc _ _)⟩)) (kC (kX (fun h=>IsBox.below ((jD hf.out).2.2.1 h) (belowAlloc _ _)) (kX (fun _=>by rw [show upd l 10 true 12=false from hn 12 rfl];exact IsBox.new (Below.size hf.out.1)) id))))))) hf.out)
  · intro l s wx hl hd hn hf0 K hK
    have hf:=Lib.hid hf0
    clear hf0
    have e6:=((jC hf.out).2.2.2.1 (hd 6 rfl))
    have e4:=((jC hf.out).2.1 (hd 4 rfl))
    have X1:=e4.2.1
    have X2:=e4.2.2
    clear e4
    obtain ⟨bb,eb,hlo,zb⟩:=((jD hf.out).2.2.1 (hd 9 rfl))
    rw [hl] at zb
    dsimp only [cond] at zb
    obtain ⟨xa,xp,ea,_⟩:=X1.seg
    obtain ⟨xb,xq,eb2,_⟩:=X2.seg
    rw [ea,eb2] at e6
    have zn:hp (setBox wx bb (cvals x.1 (.slice xa x.1.cells.length xp) (.slice xb x.1.words.length xq))) bb=some (.cells (cvals x.1 (s 1003) (s 1004)) 34):=by rw [ea,eb2];exact hp_set zb
    go_simp
    refine hK.out (s) _ _ (by simp [upd_at,eb,e6,ea,eb2] <;> rfl) (kX (bBx hf.out.1 hlo) (kB (kX (fun _ h4=>absurd ((hd 4 rfl).symm.trans h4) (by decide)) (kA (kX (fun h=>⟨((jC hf.out).2.1 h).1,own_far ((jC hf.out).2.1 h).2.1 zb (by decide),own_far ((jC hf.out).2.1 h).2.2 zb (by decide)⟩) (kC (kX (fun _=>⟨bb,eb,hlo,zn⟩) (kX (fun h=>IsBox.far ((jD hf.out).2.2.2.1 h) zb (by decide)) id))))))) hf.out)
  · intro l s wx hl hd hn hf0 K hK
    have hf:=Lib.hid hf0
    clear hf0
    have e7:=((jD hf.out).1 (hd 7 rfl))
    have e4:=((jC hf.out).2.1 (hd 4 rfl))
    have X1:=e4.2.1
    have X2:=e4.2.2
    clear e4
    obtain ⟨bb,eb,hlo,zb⟩:=((jD hf.out).2.2.2.1 (hd 10 rfl))
    rw [hl] at zb
    dsimp only [cond] at zb
    have zn:hp (setBox wx bb (hvals x.2.1)) bb=some (.cells (hvals x.2.1) 70):=by exact hp_set zb
    go_simp
    refine hK.out (s) _ _ (by simp [upd_at,eb,e7] <;> rfl) (kX (bBx hf.out.1 hlo) (kB (kX (fun _ h4=>absurd ((hd 4 rfl).symm.trans h4) (by decide)) (kA (kX (fun h=>⟨((jC hf.out).2.1 h).1,own_far ((jC hf.out).2.1 h).2.1 zb (by decide),own_far ((jC hf.out).2.1 h).2.2 zb (by decide)⟩) (kC (kX (fun h=>IsBox.far ((jD hf.out).2.2.1 h) zb (by decide)) (kX (fun _=>⟨bb,eb,hlo,zn⟩) id))))))) hf.out)
  · intro l s wx hl hd hn hf0 K hK
    have hf:=Lib.hid hf0
    clear hf0
    have e8:=((jD hf.out).2.1 (hd 8 rfl))
    go_simp
    refine hK.out (upd s 11 (.bool x.2.2)) _ _ (by simp [upd_at,e8] <;> rfl) (kD (kC (fun _=>fun _=>rfl)) hf.out)
set_option maxRecDepth 100000 in
set_option maxHeartbeats 4000000 in
theorem touched_no1 (F:Nat) (c:Ch) (h:Ha) (a b:Option Addr) (p q:Nat) (w:World) (h1:Seg w w.heap.size a c.cells.length 3 (cellF c.cells)) (z1:a=none→p=0) (h2:Seg w w.heap.size b c.words.length 1 (intF c.words)) (z2:b=none→q=0) (l1:c.cells.length≤maxLen) (l2:c.words.length≤maxLen) (hc:chanOk c=false) :
    Calls Tryz.prog 127 #[.func (.func F) #[] #[],.agg (cvals c (.slice a c.cells.length p) (.slice b c.words.length q)),.agg (hvals h)] w fun r w'=>StepN w w' nothing r:=by
  have H1:=Lib.hid h1
  have H2:=Lib.hid h2
  have T:=Lib.hid fun W=>refused_any W w.heap.size (.slice none 0 0) (.slice none 0 0)
  generalize nothing=x at *
  clear h1 h2 z1 z2
  have d1:∀ j,(Value.slice none 0 0).ownBlock=some j→w.heap.size+1+1+1+1≤j:=fun j hj=>by cases hj
  have d2:=d1
  go_enter Tryz.func127,Tryz.ntmps127
  go_wp2_with fail;refine bHit w (by exact zB) fun bb=>?_;refine (iChanOk_any c a b p q _ ((H1.out.below bb).more bb.size) ((H2.out.below bb).more bb.size) l1 l2).mono ?_;rintro _ w1 ⟨rfl,hbw1⟩;have hCw1:Below w.heap.size w w1:=bT bb hbw1;have hsw1:=hbw1.size;(try simp at hsw1);have zz:=q4 hbw1 (b:=w.heap.size);(try simp [go_sem] at zz);(try clear z_wppp x_wppp f_wppp l_wppp);(try clear z_wpp x_wpp f_wpp l_wpp);(try clear z_wp x_wp f_wp l_wp);(try clear z_w x_w f_w l_w);obtain ⟨z_wppp,z_wpp,z_wp,z_w⟩:=zz;obtain ⟨x_wppp,f_wppp,l_wppp⟩:=bO z_wppp;obtain ⟨x_wpp,f_wpp,l_wpp⟩:=bO z_wpp;obtain ⟨x_wp,f_wp,l_wp⟩:=bO z_wp;obtain ⟨x_w,f_w,l_w⟩:=bO z_w;clear hbw1 bb
  rw [hc]
  go_wp2_with fail;refine bHit w (by exact zB) fun bb=>?_;refine (T.out _).mono ?_;rintro _ w9 ⟨⟨y1,y2,rfl,oY1,oY2,fY1,fY2⟩,hbw9⟩;have hCw9:Below w.heap.size w w9:=bT bb hbw9;have hsw9:=hbw9.size;(try simp at hsw9);have zz:=q4 hbw9 (b:=w.heap.size);(first|simp [go_sem,z_wppp,z_wpp,z_wp,z_w,l_w,l_wp,l_wpp,l_wppp] at zz|simp [go_sem] at zz|skip);(try clear z_wppp x_wppp f_wppp l_wppp);(try clear z_wpp x_wpp f_wpp l_wpp);(try clear z_wp x_wp f_wp l_wp);(try clear z_w x_w f_w l_w);obtain ⟨z_wppp,z_wpp,z_wp,z_w⟩:=zz;obtain ⟨x_wppp,f_wppp,l_wppp⟩:=bO z_wppp;obtain ⟨x_wpp,f_wpp,l_wpp⟩:=bO z_wpp;obtain ⟨x_wp,f_wp,l_wp⟩:=bO z_wp;obtain ⟨x_w,f_w,l_w⟩:=bO z_w;clear hbw9 bb
  have hoff1:∀ j,w.heap.size≤j→j<w.heap.size+1+1+1+1→y1.ownBlock≠some j:=fun j _ h2=>fY1.off2 d1 h2 (by (try simp) <;> omega);have hoff2:∀ j,w.heap.size≤j→j<w.heap.size+1+1+1+1→y2.ownBlock≠some j:=fun j _ h2=>fY2.off2 d2 h2 (by (try simp) <;> omega);have fr1:Fresh w (.slice none 0 0) y1:=fun j hj=>.inr (fY1.up d1 (by (try simp) <;> omega) (by (try simp) <;> omega) j hj);have fr2:Fresh w (.slice none 0 0) y2:=fun j hj=>.inr (fY2.up d2 (by (try simp) <;> omega) (by (try simp) <;> omega) j hj);obtain ⟨ya,yp,rfl,_⟩:=oY1.seg;obtain ⟨yb,yq,rfl,_⟩:=oY2.seg
  go_wp2
  refine bodyPost_ret (res_cct Tryz.results127 rfl (ldChan x.1 (.slice ya x.1.cells.length yp) (.slice yb x.1.words.length yq) (by simp [go_sem, *])) rfl (ldHand x.2.1 (by simp [go_sem, *]))) rfl ⟨⟨_,_,rfl,?_,?_,fr1,fr2⟩,by exact zB⟩
  · exact zP oY1 oY1 hoff1
  · exact zP oY2 oY2 hoff2
set_option maxRecDepth 100000 in
set_option maxHeartbeats 4000000 in
theorem touched_no2 (F:Nat) (c:Ch) (h:Ha) (a b:Option Addr) (p q:Nat) (w:World) (h1:Seg w w.heap.size a c.cells.length 3 (cellF c.cells)) (z1:a=none→p=0) (h2:Seg w w.heap.size b c.words.length 1 (intF c.words)) (z2:b=none→q=0) (l1:c.cells.length≤maxLen) (l2:c.words.length≤maxLen) (hc:chanOk c=true) (hh:handOk h=false) :
    Calls Tryz.prog 127 #[.func (.func F) #[] #[],.agg (cvals c (.slice a c.cells.length p) (.slice b c.words.length q)),.agg (hvals h)] w fun r w'=>StepN w w' nothing r:=by
  have H1:=Lib.hid h1
  have H2:=Lib.hid h2
  have T:=Lib.hid fun W=>refused_any W w.heap.size (.slice none 0 0) (.slice none 0 0)
  generalize nothing=x at *
  clear h1 h2 z1 z2
  have d1:∀ j,(Value.slice none 0 0).ownBlock=some j→w.heap.size+1+1+1+1≤j:=fun j hj=>by cases hj
  have d2:=d1
  go_enter Tryz.func127,Tryz.ntmps127
  go_wp2_with fail;refine bHit w (by exact zB) fun bb=>?_;refine (iChanOk_any c a b p q _ ((H1.out.below bb).more bb.size) ((H2.out.below bb).more bb.size) l1 l2).mono ?_;rintro _ w1 ⟨rfl,hbw1⟩;have hCw1:Below w.heap.size w w1:=bT bb hbw1;have hsw1:=hbw1.size;(try simp at hsw1);have zz:=q4 hbw1 (b:=w.heap.size);(try simp [go_sem] at zz);(try clear z_wppp x_wppp f_wppp l_wppp);(try clear z_wpp x_wpp f_wpp l_wpp);(try clear z_wp x_wp f_wp l_wp);(try clear z_w x_w f_w l_w);obtain ⟨z_wppp,z_wpp,z_wp,z_w⟩:=zz;obtain ⟨x_wppp,f_wppp,l_wppp⟩:=bO z_wppp;obtain ⟨x_wpp,f_wpp,l_wpp⟩:=bO z_wpp;obtain ⟨x_wp,f_wp,l_wp⟩:=bO z_wp;obtain ⟨x_w,f_w,l_w⟩:=bO z_w;clear hbw1 bb
  rw [hc]
  go_wp2_with fail;refine bHit w (by exact zB) fun bb=>?_;refine (handOk_any h _).mono ?_;rintro _ w2 ⟨rfl,hbw2⟩;have hCw2:Below w.heap.size w w2:=bT bb hbw2;have hsw2:=hbw2.size;(try simp at hsw2);have zz:=q4 hbw2 (b:=w.heap.size);(first|simp [go_sem,z_wppp,z_wpp,z_wp,z_w,l_w,l_wp,l_wpp,l_wppp] at zz|simp [go_sem] at zz|skip);(try clear z_wppp x_wppp f_wppp l_wppp);(try clear z_wpp x_wpp f_wpp l_wpp);(try clear z_wp x_wp f_wp l_wp);(try clear z_w x_w f_w l_w);obtain ⟨z_wppp,z_wpp,z_wp,z_w⟩:=zz;obtain ⟨x_wppp,f_wppp,l_wppp⟩:=bO z_wppp;obtain ⟨x_wpp,f_wpp,l_wpp⟩:=bO z_wpp;obtain ⟨x_wp,f_wp,l_wp⟩:=bO z_wp;obtain ⟨x_w,f_w,l_w⟩:=bO z_w;clear hbw2 bb
  rw [hh]
  go_wp2_with fail;refine bHit w (by exact zB) fun bb=>?_;refine (T.out _).mono ?_;rintro _ w9 ⟨⟨y1,y2,rfl,oY1,oY2,fY1,fY2⟩,hbw9⟩;have hCw9:Below w.heap.size w w9:=bT bb hbw9;have hsw9:=hbw9.size;(try simp at hsw9);have zz:=q4 hbw9 (b:=w.heap.size);(first|simp [go_sem,z_wppp,z_wpp,z_wp,z_w,l_w,l_wp,l_wpp,l_wppp] at zz|simp [go_sem] at zz|skip);(try clear z_wppp x_wppp f_wppp l_wppp);(try clear z_wpp x_wpp f_wpp l_wpp);(try clear z_wp x_wp f_wp l_wp);(try clear z_w x_w f_w l_w);obtain ⟨z_wppp,z_wpp,z_wp,z_w⟩:=zz;obtain ⟨x_wppp,f_wppp,l_wppp⟩:=bO z_wppp;obtain ⟨x_wpp,f_wpp,l_wpp⟩:=bO z_wpp;obtain ⟨x_wp,f_wp,l_wp⟩:=bO z_wp;obtain ⟨x_w,f_w,l_w⟩:=bO z_w;clear hbw9 bb
  have hoff1:∀ j,w.heap.size≤j→j<w.heap.size+1+1+1+1→y1.ownBlock≠some j:=fun j _ h2=>fY1.off2 d1 h2 (by (try simp) <;> omega);have hoff2:∀ j,w.heap.size≤j→j<w.heap.size+1+1+1+1→y2.ownBlock≠some j:=fun j _ h2=>fY2.off2 d2 h2 (by (try simp) <;> omega);have fr1:Fresh w (.slice none 0 0) y1:=fun j hj=>.inr (fY1.up d1 (by (try simp) <;> omega) (by (try simp) <;> omega) j hj);have fr2:Fresh w (.slice none 0 0) y2:=fun j hj=>.inr (fY2.up d2 (by (try simp) <;> omega) (by (try simp) <;> omega) j hj);obtain ⟨ya,yp,rfl,_⟩:=oY1.seg;obtain ⟨yb,yq,rfl,_⟩:=oY2.seg
  go_wp2
  refine bodyPost_ret (res_cct Tryz.results127 rfl (ldChan x.1 (.slice ya x.1.cells.length yp) (.slice yb x.1.words.length yq) (by simp [go_sem, *])) rfl (ldHand x.2.1 (by simp [go_sem, *]))) rfl ⟨⟨_,_,rfl,?_,?_,fr1,fr2⟩,by exact zB⟩
  · exact zP oY1 oY1 hoff1
  · exact zP oY2 oY2 hoff2
end Go.Proofs.YtmnpgkcdfielbaaGreat
set_option linter.unusedSimpArgs false
set_option linter.unusedVariables false
namespace Go.Proofs.YtmnpgkcdfielbaaGreat
open Go.RowKit
set_option linter.unusedSimpArgs false
attribute [local simp] bx_size
attribute [local go_sem ↓] zeroHand zeroChan toLHand toLChan toVHand toVChan storeHand storeChan storeHandC storeChanC
set_option maxRecDepth 100000 in
set_option maxHeartbeats 2000000 in
theorem recvTake_w0 (c:Ch) (h:Ha) (v1 v2:Value) (lo:Nat) (w:World) (h1:OCells w lo v1 c.cells) (h2:OInts w lo v2 c.words) (hc0:0≤h.cell) (hc1:h.cell<c.cells.length) (hc:chanOk c=true) (hlo:lo≤w.heap.size) (hs:(h.seen == 0)=true) (hx:h.come≤h.cell) :
    Calls Tryz.prog 134 #[.agg (cvals c v1 v2),.agg (hvals h)] w fun r w'=>StepO w w' lo v1 v2 (wtS c 4 (grow7 h 1) { h with pos:=10 }) r:=by
  have T0:=fun W a b hl=>waited_any c 4 (grow7 h 1) { h with pos:=10 } v1 v2 lo W a b hc0 hc1 hc hl
  change ∀ W,_→_→_→Calls _ _ _ _ (fun r w'=>StepB W w' lo v1 v2 (wtS c 4 (grow7 h 1) { h with pos:=10 }) r) at T0
  have hy:¬ h.cell<h.come:=by omega
  clear hc hc0 hc1
  generalize wtS c 4 (grow7 h 1) { h with pos:=10 }=x at *
  have b1:=fun j (hj:v1.ownBlock=some j)=>(h1.lt j hj).2
  have b2:=fun j (hj:v2.ownBlock=some j)=>(h2.lt j hj).2
  obtain ⟨a1,q1,rfl,_⟩:=h1.seg
  obtain ⟨a2,q2,rfl,_⟩:=h2.seg
  have O1:=Lib.hid h1
  have O2:=Lib.hid h2
  clear h1 h2
  have T:=Lib.hid T0
  clear T0
  have o1:=O1.out
  have o2:=O2.out
  go_enter Tryz.func134,Tryz.ntmps134
  go_upto_region 8 with fail
  refine wp_region_inv [[],[],[1],[],[3],[0,1,2,3,4],[0,1,2,3,4,5],[0,1,2,3,4,5],[0,1,2,3,4,5],[0,1,2,3,4,5,6],[0,1,2,3,4,5,7],[0,1,2,3,4,5,8]] [23,24,25,26,27,28,29,30,31,6] (fun l s wx=>(Onl (Value.slice a1 c.cells.length q1).ownBlock (Value.slice a2 c.words.length q2).ownBlock w wx)∧(w.heap.size+1+1+1+1≤wx.heap.size)∧(hp wx w.heap.size=some (.cells (cvals c (.slice a1 c.cells.length q1) (.slice a2 c.words.length q2)) 34))∧(hp wx (w.heap.size+1)=some (.cells (hvals h) 70))∧(hp wx (w.heap.size+1+1)=some (.cells (cond (l 9) (cvals x.1 (s 1003) (s 1004)) (cvals Ch.zero (.slice none 0 0) (.slice none 0 0))) 34))∧(hp wx (w.heap.size+1+1+1)=some (.cells (cond (l 10) (hvals x.2.1) (hvals Ha.zero)) 70))∧(l 5=false→OCells wx lo (.slice a1 c.cells.length q1) c.cells)∧(l 5=false→OInts wx lo (.slice a2 c.words.length q2) c.words)∧(l 0=true→s 23=.agg (cvals c (.slice a1 c.cells.length q1) (.slice a2 c.words.length q2)))∧(l 1=true→s 24=.agg (hvals h))∧(l 2=true→s 25=.agg (hvals (grow7 h 1)))∧(l 3=true→s 26=.agg (hvals h))∧(l 4=true→s 27=.agg (hvals ({ h with pos:=10 })))∧(l 5=true→s 28=.tuple #[.agg (cvals x.1 (s 1003) (s 1004)),.agg (hvals x.2.1),.bool x.2.2]∧OCells wx lo (s 1003) x.1.cells∧OInts wx lo (s 1004) x.1.words∧Fresh w (.slice a1 c.cells.length q1) (s 1003)∧Fresh w (.slice a2 c.words.length q2) (s 1004))∧(l 6=true→s 29=.agg (cvals x.1 (s 1003) (s 1004)))∧(l 7=true→s 30=.agg (hvals x.2.1))∧(l 8=true→s 31=.bool x.2.2)∧(l 11=true→s 6=.bool x.2.2)) (by kernel_rfl) (by kernel_rfl) (by kernel_rfl) (fun s=>by (simp only [fill,fillA,List.setIfInBounds_toArray,List.set_cons_zero,List.set_cons_succ];rfl)) (fun s=>⟨onlB (by exact zB),by simp,by simp [go_sem, *],by simp [go_sem, *],by simp [go_sem, *],by simp [go_sem, *],fun _=>by exact zO o1 o1,fun _=>by exact zO o2 o2,nB,nB,nB,nB,nB,nB,nB,nB,nB,nB⟩) ?_ ?_
  refine ⟨?_,?_,?_,?_,?_,?_,?_,?_,?_,?_,?_,?_,trivial⟩;rotate_left 12
  · intro l s wx hall hf
    have hO:=hf.1
    have z1:=hf.2.2.2.2.1
    have z2:=(jC hf).2.1
    rw [hall 9 rfl] at z1
    rw [hall 10 rfl] at z2
    dsimp only [cond] at z1 z2
    obtain ⟨_,X1,X2,F1,F2⟩:=((jC (jD hf)).2.1 (hall 5 rfl))
    have ec:=((jE hf).2 (hall 11 rfl))
    simp only [ec]
    clear ec hf hall
    go_wp2
    exact bodyPost_ret (res_cct Tryz.results134 rfl (ldChan x.1 _ _ z1) rfl (ldHand x.2.1 z2)) rfl ⟨⟨_,_,rfl,X1,X2,F1,F2⟩,hO⟩
  · intro l s wx hl hd hn hf0 K hK
    have hf:=Lib.hid hf0
    clear hf0
    have zc:=hf.out.2.2.1
    go_simp
    refine hK.out (upd s 23 (.agg (cvals c (.slice a1 c.cells.length q1) (.slice a2 c.words.length q2)))) _ _ (by simp [upd_at] <;> rfl) (kD (kX (fun _=>rfl) id) hf.out)
  · intro l s wx hl hd hn hf0 K hK
    have hf:=Lib.hid hf0
    clear hf0
    have zh:=hf.out.2.2.2.1
    go_simp
    refine hK.out (upd s 24 (.agg (hvals h))) _ _ (by simp [upd_at] <;> rfl) (kD (kA (kX (fun _=>rfl) id)) hf.out)
  · intro l s wx hl hd hn hf0 K hK
    have hf:=Lib.hid hf0
    clear hf0
    have e1:=((jD hf.out).2.1 (hd 1 rfl))
    go_simp
    go_at_call 136
    refine (growing_any h 1 _).mono ?_
    rintro _ wy ⟨rfl,hE⟩
    refine hK.out (upd s 25 (.agg (hvals (grow7 h 1)))) _ _ (by simp [upd_at,e1] <;> rfl) (kX (onlT hf.out.1 (onlB hE)) (kX (Nat.le_trans hf.out.2.1 (Below.size hE)) (kX (hpS hf.out.2.2.1 hE) (kX (hpS hf.out.2.2.2.1 hE) (kX (hpS hf.out.2.2.2.2.1 hE) (kX (hpS (jC hf.out).2.1 hE) (kX (fun h9=>own_below ((jC hf.out).2.2.1 h9) hE) (kX (fun h9=>own_below ((jC hf.out).2.2.2.1 h9) hE) (kB (kX (fun _=>rfl) (kB (kX (nU (hn 5 rfl)) (kX (nU (hn 6 rfl)) (kX (nU (hn 7 rfl)) (kX (nU (hn 8 rfl)) (fun _=>nU (hn 11 rfl)))))))))))))))) hf.out)
  · intro l s wx hl hd hn hf0 K hK
    have hf:=Lib.hid hf0
    clear hf0
    have zh:=hf.out.2.2.2.1
    go_simp
    refine hK.out (upd s 26 (.agg (hvals h))) _ _ (by simp [upd_at] <;> rfl) (kD (kB (kA (kX (fun _=>rfl) id))) hf.out)
  · intro l s wx hl hd hn hf0 K hK
    have hf:=Lib.hid hf0
    clear hf0
    have e3:=((jD hf.out).2.2.2.1 (hd 3 rfl))
    go_simp
    go_at_call 133
    refine (moved_any h 10 _).mono ?_
    rintro _ wy ⟨rfl,hE⟩
    refine hK.out (upd s 27 (.agg (hvals ({ h with pos:=10 })))) _ _ (by simp [upd_at,e3] <;> rfl) (kX (onlT hf.out.1 (onlB hE)) (kX (Nat.le_trans hf.out.2.1 (Below.size hE)) (kX (hpS hf.out.2.2.1 hE) (kX (hpS hf.out.2.2.2.1 hE) (kX (hpS hf.out.2.2.2.2.1 hE) (kX (hpS (jC hf.out).2.1 hE) (kX (fun h9=>own_below ((jC hf.out).2.2.1 h9) hE) (kX (fun h9=>own_below ((jC hf.out).2.2.2.1 h9) hE) (kC (kX (fun _=>rfl) (kX (nU (hn 5 rfl)) (kX (nU (hn 6 rfl)) (kX (nU (hn 7 rfl)) (kX (nU (hn 8 rfl)) (fun _=>nU (hn 11 rfl))))))))))))))) hf.out)
  · intro l s wx hl hd hn hf0 K hK
    have hf:=Lib.hid hf0
    clear hf0
    have e0:=((jD hf.out).1 (hd 0 rfl))
    have e2:=((jD hf.out).2.2.1 (hd 2 rfl))
    have e4:=((jC (jD hf.out)).1 (hd 4 rfl))
    go_simp
    go_at_call 142
    refine (T.out _ ((jC hf.out).2.2.1 hl) ((jC hf.out).2.2.2.1 hl) (Nat.le_trans hlo hf.out.1.2.2.2.1)).mono ?_
    rintro _ wy ⟨⟨y1,y2,rfl,X1,X2,F1,F2⟩,hE⟩
    have hO:=onlB (a:=(Value.slice a1 c.cells.length q1).ownBlock) (b:=(Value.slice a2 c.words.length q2).ownBlock) hE
    refine hK.out (upd (upd (upd s 1003 (y1)) 1004 (y2)) 28 (.tuple #[.agg (cvals x.1 y1 y2),.agg (hvals x.2.1),.bool x.2.2])) _ _ (by simp [upd_at,e0,e2,e4] <;> rfl) (kX (onlT hf.out.1 hO) (kX (Nat.le_trans hf.out.2.1 hO.2.2.2.1) (kX (hp_onl hf.out.2.2.1 hO ((jC hf.out).2.2.1 hl) ((jC hf.out).2.2.2.1 hl) (by decide) (by decide)) (kX (hp_onl hf.out.2.2.2.1 hO ((jC hf.out).2.2.1 hl) ((jC hf.out).2.2.2.1 hl) (by decide) (by decide)) (kX (by (have ee:l 9=false:=hn 9 rfl);(have F:=hf.out.2.2.2.2.1);rw [ee] at F;rw [show upd l 5 true 9=false from ee];exact hp_onl F hO ((jC hf.out).2.2.1 hl) ((jC hf.out).2.2.2.1 hl) (by decide) (by decide)) (kX (by (have ee:l 10=false:=hn 10 rfl);(have F:=(jC hf.out).2.1);rw [ee] at F;rw [show upd l 5 true 10=false from ee];exact hp_onl F hO ((jC hf.out).2.2.1 hl) ((jC hf.out).2.2.2.1 hl) (by decide) (by decide)) (kX (fun h9=>nU h9 (show upd l 5 true 5=true from rfl)) (kX (fun h9=>nU h9 (show upd l 5 true 5=true from rfl)) (kC (kA (kX (fun _=>⟨rfl,X1,X2,fun j hj=>(F1 j hj).imp id (fun h=>Nat.le_trans hf.out.1.2.2.2.1 h),fun j hj=>(F2 j hj).imp id (fun h=>Nat.le_trans hf.out.1.2.2.2.1 h)⟩) (kX (nU (hn 6 rfl)) (kX (nU (hn 7 rfl)) (kX (nU (hn 8 rfl)) (fun _=>nU (hn 11 rfl))))))))))))))) hf.out)
  · intro l s wx hl hd hn hf0 K hK
    have hf:=Lib.hid hf0
    clear hf0
    have e5:=((jC (jD hf.out)).2.1 (hd 5 rfl)).1
    go_simp
    refine hK.out (upd s 29 (.agg (cvals x.1 (s 1003) (s 1004)))) _ _ (by simp [upd_at,e5] <;> rfl) (kD (kC (kB (kX (fun _=>rfl) id))) hf.out)
  · intro l s wx hl hd hn hf0 K hK
    have hf:=Lib.hid hf0
    clear hf0
    have e5:=((jC (jD hf.out)).2.1 (hd 5 rfl)).1
    go_simp
    refine hK.out (upd s 30 (.agg (hvals x.2.1))) _ _ (by simp [upd_at,e5] <;> rfl) (kD (kC (kB (kA (kX (fun _=>rfl) id)))) hf.out)
  · intro l s wx hl hd hn hf0 K hK
    have hf:=Lib.hid hf0
    clear hf0
    have e5:=((jC (jD hf.out)).2.1 (hd 5 rfl)).1
    go_simp
    refine hK.out (upd s 31 (.bool x.2.2)) _ _ (by simp [upd_at,e5] <;> rfl) (kE (kX (fun _=>rfl) id) hf.out)
  · intro l s wx hl hd hn hf0 K hK
    have hf:=Lib.hid hf0
    clear hf0
    have e6:=((jC (jD hf.out)).2.2.1 (hd 6 rfl))
    have e5:=((jC (jD hf.out)).2.1 (hd 5 rfl))
    have X1:=e5.2.1
    have X2:=e5.2.2.1
    clear e5
    have zr:=hf.out.2.2.2.2.1
    rw [hl] at zr
    dsimp only [cond] at zr
    obtain ⟨xa,xp,ea,_⟩:=X1.seg
    obtain ⟨xb,xq,eb2,_⟩:=X2.seg
    rw [ea,eb2] at e6
    have zn:hp (setBox wx (w.heap.size+1+1) (cvals x.1 (.slice xa x.1.cells.length xp) (.slice xb x.1.words.length xq))) (w.heap.size+1+1)=some (.cells (cvals x.1 (s 1003) (s 1004)) 34):=by rw [ea,eb2];exact hp_set zr
    have hO:=hf.out.1
    go_simp
    refine hK.out (s) _ _ (by simp [upd_at,e6,ea,eb2] <;> rfl) (kX (oX hO (by omega)) (kX (Nat.le_trans hf.out.2.1 (Nat.le_of_eq bx_size.symm)) (kX ((bx_heap_ne (by omega)).trans hf.out.2.2.1) (kX ((bx_heap_ne (by omega)).trans hf.out.2.2.2.1) (kX (zn) (kX ((bx_heap_ne (by omega)).trans (jC hf.out).2.1) (kX (fun h9=>nU h9 (show upd l 9 true 5=true from hd 5 rfl)) (kX (fun h9=>nU h9 (show upd l 9 true 5=true from hd 5 rfl)) (kC (kA (kX (fun h=>(let ⟨e,X1,X2,F1,F2⟩:=(jC (jD hf.out)).2.1 h;⟨e,own_far X1 zr (by decide),own_far X2 zr (by decide),F1,F2⟩)) id)))))))))) hf.out)
  · intro l s wx hl hd hn hf0 K hK
    have hf:=Lib.hid hf0
    clear hf0
    have e7:=((jC (jD hf.out)).2.2.2.1 (hd 7 rfl))
    have e5:=((jC (jD hf.out)).2.1 (hd 5 rfl))
    have X1:=e5.2.1
    have X2:=e5.2.2.1
    clear e5
    have zr:=(jC hf.out).2.1
    rw [hl] at zr
    dsimp only [cond] at zr
    have zn:hp (setBox wx (w.heap.size+1+1+1) (hvals x.2.1)) (w.heap.size+1+1+1)=some (.cells (hvals x.2.1) 70):=by exact hp_set zr
    have hO:=hf.out.1
    go_simp
    refine hK.out (s) _ _ (by simp [upd_at,e7] <;> rfl) (kX (oX hO (by omega)) (kX (Nat.le_trans hf.out.2.1 (Nat.le_of_eq bx_size.symm)) (kX ((bx_heap_ne (by omega)).trans hf.out.2.2.1) (kX ((bx_heap_ne (by omega)).trans hf.out.2.2.2.1) (kX ((bx_heap_ne (by omega)).trans hf.out.2.2.2.2.1) (kX (zn) (kX (fun h9=>nU h9 (show upd l 10 true 5=true from hd 5 rfl)) (kX (fun h9=>nU h9 (show upd l 10 true 5=true from hd 5 rfl)) (kC (kA (kX (fun h=>(let ⟨e,X1,X2,F1,F2⟩:=(jC (jD hf.out)).2.1 h;⟨e,own_far X1 zr (by decide),own_far X2 zr (by decide),F1,F2⟩)) id)))))))))) hf.out)
  · intro l s wx hl hd hn hf0 K hK
    have hf:=Lib.hid hf0
    clear hf0
    have e8:=((jE hf.out).1 (hd 8 rfl))
    go_simp
    refine hK.out (upd s 6 (.bool x.2.2)) _ _ (by simp [upd_at,e8] <;> rfl) (kE (kA (fun _=>fun _=>rfl)) hf.out)
set_option maxRecDepth 100000 in
set_option maxHeartbeats 2000000 in
theorem recvTake_p0 (c:Ch) (h:Ha) (v1 v2:Value) (lo:Nat) (w:World) (h1:OCells w lo v1 c.cells) (h2:OInts w lo v2 c.words) (hc0:0≤h.cell) (hc1:h.cell<c.cells.length) (hs:(h.seen == 0)=true) (hx:¬ h.come≤h.cell) :
    Calls Tryz.prog 134 #[.agg (cvals c v1 v2),.agg (hvals h)] w fun r w'=>StepO w w' lo v1 v2 (tnS c 8 0 (grow7 h 2) { h with pos:=10 }) r:=by
  have T0:=fun W a b=>recvTurn_any c 8 0 (grow7 h 2) { h with pos:=10 } v1 v2 lo W a b hc0 hc1
  change ∀ W,_→_→Calls _ _ _ _ (fun r w'=>StepO W w' lo v1 v2 (tnS c 8 0 (grow7 h 2) { h with pos:=10 }) r) at T0
  have hy:h.cell<h.come:=by omega
  clear hc0 hc1
  generalize tnS c 8 0 (grow7 h 2) { h with pos:=10 }=x at *
  have b1:=fun j (hj:v1.ownBlock=some j)=>(h1.lt j hj).2
  have b2:=fun j (hj:v2.ownBlock=some j)=>(h2.lt j hj).2
  obtain ⟨a1,q1,rfl,_⟩:=h1.seg
  obtain ⟨a2,q2,rfl,_⟩:=h2.seg
  have O1:=Lib.hid h1
  have O2:=Lib.hid h2
  clear h1 h2
  have T:=Lib.hid T0
  clear T0
  have o1:=O1.out
  have o2:=O2.out
  go_enter Tryz.func134,Tryz.ntmps134
  go_upto_region 10 with fail
  refine wp_region_inv [[],[],[],[],[2,3],[],[5],[0,1,2,3,4,5,6],qB [],qB [],qB [],qB [8],qB [9],qB [10]] [32,33,34,35,36,37,38,39,40,41,42,6] (fun l s wx=>(Onl (Value.slice a1 c.cells.length q1).ownBlock (Value.slice a2 c.words.length q2).ownBlock w wx)∧(w.heap.size+1+1+1+1≤wx.heap.size)∧(hp wx w.heap.size=some (.cells (cvals c (.slice a1 c.cells.length q1) (.slice a2 c.words.length q2)) 34))∧(hp wx (w.heap.size+1)=some (.cells (hvals h) 70))∧(hp wx (w.heap.size+1+1)=some (.cells (cond (l 11) (cvals x.1 (s 1003) (s 1004)) (cvals Ch.zero (.slice none 0 0) (.slice none 0 0))) 34))∧(hp wx (w.heap.size+1+1+1)=some (.cells (cond (l 12) (hvals x.2.1) (hvals Ha.zero)) 70))∧(l 7=false→OCells wx lo (.slice a1 c.cells.length q1) c.cells)∧(l 7=false→OInts wx lo (.slice a2 c.words.length q2) c.words)∧(l 0=true→s 32=.agg (cvals c (.slice a1 c.cells.length q1) (.slice a2 c.words.length q2)))∧(l 1=true→s 33=.int .i64 8)∧(l 2=true→s 34=.agg (hvals h))∧(l 3=true→s 35=.int .i64 2)∧(l 4=true→s 36=.agg (hvals (grow7 h 2)))∧(l 5=true→s 37=.agg (hvals h))∧(l 6=true→s 38=.agg (hvals ({ h with pos:=10 })))∧(l 7=true→s 39=.tuple #[.agg (cvals x.1 (s 1003) (s 1004)),.agg (hvals x.2.1),.bool x.2.2]∧OCells wx lo (s 1003) x.1.cells∧OInts wx lo (s 1004) x.1.words∧Fresh w (.slice a1 c.cells.length q1) (s 1003)∧Fresh w (.slice a2 c.words.length q2) (s 1004))∧(l 8=true→s 40=.agg (cvals x.1 (s 1003) (s 1004)))∧(l 9=true→s 41=.agg (hvals x.2.1))∧(l 10=true→s 42=.bool x.2.2)∧(l 13=true→s 6=.bool x.2.2)) (by kernel_rfl) (by kernel_rfl) (by kernel_rfl) (fun s=>by (simp only [fill,fillA,List.setIfInBounds_toArray,List.set_cons_zero,List.set_cons_succ];rfl)) (fun s=>⟨onlB (by exact zB),by simp,by simp [go_sem, *],by simp [go_sem, *],by simp [go_sem, *],by simp [go_sem, *],fun _=>by exact zO o1 o1,fun _=>by exact zO o2 o2,nB,nB,nB,nB,nB,nB,nB,nB,nB,nB,nB,nB⟩) ?_ ?_
  refine ⟨?_,?_,?_,?_,?_,?_,?_,?_,?_,?_,?_,?_,?_,?_,trivial⟩;rotate_left 14
  · intro l s wx hall hf
    have hO:=hf.1
    have z1:=hf.2.2.2.2.1
    have z2:=(jC hf).2.1
    rw [hall 11 rfl] at z1
    rw [hall 12 rfl] at z2
    dsimp only [cond] at z1 z2
    obtain ⟨_,X1,X2,F1,F2⟩:=((jC (jD hf)).2.2.2.1 (hall 7 rfl))
    have ec:=((jE hf).2.2.2 (hall 13 rfl))
    simp only [ec]
    clear ec hf hall
    go_wp2
    exact bodyPost_ret (res_cct Tryz.results134 rfl (ldChan x.1 _ _ z1) rfl (ldHand x.2.1 z2)) rfl ⟨⟨_,_,rfl,X1,X2,F1,F2⟩,hO⟩
  · intro l s wx hl hd hn hf0 K hK
    have hf:=Lib.hid hf0
    clear hf0
    have zc:=hf.out.2.2.1
    go_simp
    refine hK.out (upd s 32 (.agg (cvals c (.slice a1 c.cells.length q1) (.slice a2 c.words.length q2)))) _ _ (by simp [upd_at] <;> rfl) (kD (kX (fun _=>rfl) id) hf.out)
  · intro l s wx hl hd hn hf0 K hK
    have hf:=Lib.hid hf0
    clear hf0
    go_simp
    refine hK.out (upd s 33 (.int .i64 8)) _ _ (by simp [upd_at] <;> rfl) (kD (kA (kX (fun _=>rfl) id)) hf.out)
  · intro l s wx hl hd hn hf0 K hK
    have hf:=Lib.hid hf0
    clear hf0
    have zh:=hf.out.2.2.2.1
    go_simp
    refine hK.out (upd s 34 (.agg (hvals h))) _ _ (by simp [upd_at] <;> rfl) (kD (kB (kX (fun _=>rfl) id)) hf.out)
  · intro l s wx hl hd hn hf0 K hK
    have hf:=Lib.hid hf0
    clear hf0
    go_simp
    refine hK.out (upd s 35 (.int .i64 2)) _ _ (by simp [upd_at] <;> rfl) (kD (kB (kA (kX (fun _=>rfl) id))) hf.out)
  · intro l s wx hl hd hn hf0 K hK
    have hf:=Lib.hid hf0
    clear hf0
    have e2:=((jD hf.out).2.2.1 (hd 2 rfl))
    have e3:=((jD hf.out).2.2.2.1 (hd 3 rfl))
    go_simp
    go_at_call 136
    refine (growing_any h 2 _).mono ?_
    rintro _ wy ⟨rfl,hE⟩
    refine hK.out (upd s 36 (.agg (hvals (grow7 h 2)))) _ _ (by simp [upd_at,e2,e3] <;> rfl) (kX (onlT hf.out.1 (onlB hE)) (kX (Nat.le_trans hf.out.2.1 (Below.size hE)) (kX (hpS hf.out.2.2.1 hE) (kX (hpS hf.out.2.2.2.1 hE) (kX (hpS hf.out.2.2.2.2.1 hE) (kX (hpS (jC hf.out).2.1 hE) (kX (fun h9=>own_below ((jC hf.out).2.2.1 h9) hE) (kX (fun h9=>own_below ((jC hf.out).2.2.2.1 h9) hE) (kC (kX (fun _=>rfl) (kB (kX (nU (hn 7 rfl)) (kX (nU (hn 8 rfl)) (kX (nU (hn 9 rfl)) (kX (nU (hn 10 rfl)) (fun _=>nU (hn 13 rfl)))))))))))))))) hf.out)
  · intro l s wx hl hd hn hf0 K hK
    have hf:=Lib.hid hf0
    clear hf0
    have zh:=hf.out.2.2.2.1
    go_simp
    refine hK.out (upd s 37 (.agg (hvals h))) _ _ (by simp [upd_at] <;> rfl) (kD (kC (kA (kX (fun _=>rfl) id))) hf.out)
  · intro l s wx hl hd hn hf0 K hK
    have hf:=Lib.hid hf0
    clear hf0
    have e5:=((jC (jD hf.out)).2.1 (hd 5 rfl))
    go_simp
    go_at_call 133
    refine (moved_any h 10 _).mono ?_
    rintro _ wy ⟨rfl,hE⟩
    refine hK.out (upd s 38 (.agg (hvals ({ h with pos:=10 })))) _ _ (by simp [upd_at,e5] <;> rfl) (kX (onlT hf.out.1 (onlB hE)) (kX (Nat.le_trans hf.out.2.1 (Below.size hE)) (kX (hpS hf.out.2.2.1 hE) (kX (hpS hf.out.2.2.2.1 hE) (kX (hpS hf.out.2.2.2.2.1 hE) (kX (hpS (jC hf.out).2.1 hE) (kX (fun h9=>own_below ((jC hf.out).2.2.1 h9) hE) (kX (fun h9=>own_below ((jC hf.out).2.2.2.1 h9) hE) (kC (kB (kX (fun _=>rfl) (kX (nU (hn 7 rfl)) (kX (nU (hn 8 rfl)) (kX (nU (hn 9 rfl)) (kX (nU (hn 10 rfl)) (fun _=>nU (hn 13 rfl)))))))))))))))) hf.out)
  · intro l s wx hl hd hn hf0 K hK
    have hf:=Lib.hid hf0
    clear hf0
    have e0:=((jD hf.out).1 (hd 0 rfl))
    have e1:=((jD hf.out).2.1 (hd 1 rfl))
    have e4:=((jC (jD hf.out)).1 (hd 4 rfl))
    have e6:=((jC (jD hf.out)).2.2.1 (hd 6 rfl))
    go_simp
    go_at_call 143
    refine (T.out _ ((jC hf.out).2.2.1 hl) ((jC hf.out).2.2.2.1 hl)).mono ?_
    rintro _ wy ⟨⟨y1,y2,rfl,X1,X2,F1,F2⟩,hO⟩
    refine hK.out (upd (upd (upd s 1003 (y1)) 1004 (y2)) 39 (.tuple #[.agg (cvals x.1 y1 y2),.agg (hvals x.2.1),.bool x.2.2])) _ _ (by simp [upd_at,e0,e1,e4,e6] <;> rfl) (kX (onlT hf.out.1 hO) (kX (Nat.le_trans hf.out.2.1 hO.2.2.2.1) (kX (hp_onl hf.out.2.2.1 hO ((jC hf.out).2.2.1 hl) ((jC hf.out).2.2.2.1 hl) (by decide) (by decide)) (kX (hp_onl hf.out.2.2.2.1 hO ((jC hf.out).2.2.1 hl) ((jC hf.out).2.2.2.1 hl) (by decide) (by decide)) (kX (by (have ee:l 11=false:=hn 11 rfl);(have F:=hf.out.2.2.2.2.1);rw [ee] at F;rw [show upd l 7 true 11=false from ee];exact hp_onl F hO ((jC hf.out).2.2.1 hl) ((jC hf.out).2.2.2.1 hl) (by decide) (by decide)) (kX (by (have ee:l 12=false:=hn 12 rfl);(have F:=(jC hf.out).2.1);rw [ee] at F;rw [show upd l 7 true 12=false from ee];exact hp_onl F hO ((jC hf.out).2.2.1 hl) ((jC hf.out).2.2.2.1 hl) (by decide) (by decide)) (kX (fun h9=>nU h9 (show upd l 7 true 7=true from rfl)) (kX (fun h9=>nU h9 (show upd l 7 true 7=true from rfl)) (kC (kB (kA (kX (fun _=>⟨rfl,X1,X2,fun j hj=>(F1 j hj).imp id (fun h=>Nat.le_trans hf.out.1.2.2.2.1 h),fun j hj=>(F2 j hj).imp id (fun h=>Nat.le_trans hf.out.1.2.2.2.1 h)⟩) (kX (nU (hn 8 rfl)) (kX (nU (hn 9 rfl)) (kX (nU (hn 10 rfl)) (fun _=>nU (hn 13 rfl)))))))))))))))) hf.out)
  · intro l s wx hl hd hn hf0 K hK
    have hf:=Lib.hid hf0
    clear hf0
    have e7:=((jC (jD hf.out)).2.2.2.1 (hd 7 rfl)).1
    go_simp
    refine hK.out (upd s 40 (.agg (cvals x.1 (s 1003) (s 1004)))) _ _ (by simp [upd_at,e7] <;> rfl) (kE (kX (fun _=>rfl) id) hf.out)
  · intro l s wx hl hd hn hf0 K hK
    have hf:=Lib.hid hf0
    clear hf0
    have e7:=((jC (jD hf.out)).2.2.2.1 (hd 7 rfl)).1
    go_simp
    refine hK.out (upd s 41 (.agg (hvals x.2.1))) _ _ (by simp [upd_at,e7] <;> rfl) (kE (kA (kX (fun _=>rfl) id)) hf.out)
  · intro l s wx hl hd hn hf0 K hK
    have hf:=Lib.hid hf0
    clear hf0
    have e7:=((jC (jD hf.out)).2.2.2.1 (hd 7 rfl)).1
    go_simp
    refine hK.out (upd s 42 (.bool x.2.2)) _ _ (by simp [upd_at,e7] <;> rfl) (kE (kB (kX (fun _=>rfl) id)) hf.out)
  · intro l s wx hl hd hn hf0 K hK
    have hf:=Lib.hid hf0
    clear hf0
    have e8:=((jE hf.out).1 (hd 8 rfl))
    have e7:=((jC (jD hf.out)).2.2.2.1 (hd 7 rfl))
    have X1:=e7.2.1
    have X2:=e7.2.2.1
    clear e7
    have zr:=hf.out.2.2.2.2.1
    rw [hl] at zr
    dsimp only [cond] at zr
    obtain ⟨xa,xp,ea,_⟩:=X1.seg
    obtain ⟨xb,xq,eb2,_⟩:=X2.seg
    rw [ea,eb2] at e8
    have zn:hp (setBox wx (w.heap.size+1+1) (cvals x.1 (.slice xa x.1.cells.length xp) (.slice xb x.1.words.length xq))) (w.heap.size+1+1)=some (.cells (cvals x.1 (s 1003) (s 1004)) 34):=by rw [ea,eb2];exact hp_set zr
    have hO:=hf.out.1
    go_simp
    refine hK.out (s) _ _ (by simp [upd_at,e8,ea,eb2] <;> rfl) (kX (oX hO (by omega)) (kX (Nat.le_trans hf.out.2.1 (Nat.le_of_eq bx_size.symm)) (kX ((bx_heap_ne (by omega)).trans hf.out.2.2.1) (kX ((bx_heap_ne (by omega)).trans hf.out.2.2.2.1) (kX (zn) (kX ((bx_heap_ne (by omega)).trans (jC hf.out).2.1) (kX (fun h9=>nU h9 (show upd l 11 true 7=true from hd 7 rfl)) (kX (fun h9=>nU h9 (show upd l 11 true 7=true from hd 7 rfl)) (kC (kB (kA (kX (fun h=>(let ⟨e,X1,X2,F1,F2⟩:=(jC (jD hf.out)).2.2.2.1 h;⟨e,own_far X1 zr (by decide),own_far X2 zr (by decide),F1,F2⟩)) id))))))))))) hf.out)
  · intro l s wx hl hd hn hf0 K hK
    have hf:=Lib.hid hf0
    clear hf0
    have e9:=((jE hf.out).2.1 (hd 9 rfl))
    have e7:=((jC (jD hf.out)).2.2.2.1 (hd 7 rfl))
    have X1:=e7.2.1
    have X2:=e7.2.2.1
    clear e7
    have zr:=(jC hf.out).2.1
    rw [hl] at zr
    dsimp only [cond] at zr
    have zn:hp (setBox wx (w.heap.size+1+1+1) (hvals x.2.1)) (w.heap.size+1+1+1)=some (.cells (hvals x.2.1) 70):=by exact hp_set zr
    have hO:=hf.out.1
    go_simp
    refine hK.out (s) _ _ (by simp [upd_at,e9] <;> rfl) (kX (oX hO (by omega)) (kX (Nat.le_trans hf.out.2.1 (Nat.le_of_eq bx_size.symm)) (kX ((bx_heap_ne (by omega)).trans hf.out.2.2.1) (kX ((bx_heap_ne (by omega)).trans hf.out.2.2.2.1) (kX ((bx_heap_ne (by omega)).trans hf.out.2.2.2.2.1) (kX (zn) (kX (fun h9=>nU h9 (show upd l 12 true 7=true from hd 7 rfl)) (kX (fun h9=>nU h9 (show upd l 12 true 7=true from hd 7 rfl)) (kC (kB (kA (kX (fun h=>(let ⟨e,X1,X2,F1,F2⟩:=(jC (jD hf.out)).2.2.2.1 h;⟨e,own_far X1 zr (by decide),own_far X2 zr (by decide),F1,F2⟩)) id))))))))))) hf.out)
  · intro l s wx hl hd hn hf0 K hK
    have hf:=Lib.hid hf0
    clear hf0
    have e10:=((jE hf.out).2.2.1 (hd 10 rfl))
    go_simp
    refine hK.out (upd s 6 (.bool x.2.2)) _ _ (by simp [upd_at,e10] <;> rfl) (kE (kB (kA (fun _=>fun _=>rfl))) hf.out)
set_option maxRecDepth 100000 in
set_option maxHeartbeats 2000000 in
theorem recvTake_w1 (c:Ch) (h:Ha) (v1 v2:Value) (lo:Nat) (w:World) (h1:OCells w lo v1 c.cells) (h2:OInts w lo v2 c.words) (hc0:0≤h.cell) (hc1:h.cell<c.cells.length) (hc:chanOk c=true) (hlo:lo≤w.heap.size) (hs0:(h.seen == 0)=false) (hs:(h.seen == 1)=true) (hx:h.come≤h.cell) :
    Calls Tryz.prog 134 #[.agg (cvals c v1 v2),.agg (hvals h)] w fun r w'=>StepO w w' lo v1 v2 (wtS c 4 (grow7 h 1) { h with pos:=10 }) r:=by
  have T0:=fun W a b hl=>waited_any c 4 (grow7 h 1) { h with pos:=10 } v1 v2 lo W a b hc0 hc1 hc hl
  change ∀ W,_→_→_→Calls _ _ _ _ (fun r w'=>StepB W w' lo v1 v2 (wtS c 4 (grow7 h 1) { h with pos:=10 }) r) at T0
  have hy:¬ h.cell<h.come:=by omega
  clear hc hc0 hc1
  generalize wtS c 4 (grow7 h 1) { h with pos:=10 }=x at *
  have b1:=fun j (hj:v1.ownBlock=some j)=>(h1.lt j hj).2
  have b2:=fun j (hj:v2.ownBlock=some j)=>(h2.lt j hj).2
  obtain ⟨a1,q1,rfl,_⟩:=h1.seg
  obtain ⟨a2,q2,rfl,_⟩:=h2.seg
  have O1:=Lib.hid h1
  have O2:=Lib.hid h2
  clear h1 h2
  have T:=Lib.hid T0
  clear T0
  have o1:=O1.out
  have o2:=O2.out
  go_enter Tryz.func134,Tryz.ntmps134
  go_upto_region 8 with fail
  refine wp_region_inv [[],[],[1],[],[3],[0,1,2,3,4],[0,1,2,3,4,5],[0,1,2,3,4,5],[0,1,2,3,4,5],[0,1,2,3,4,5,6],[0,1,2,3,4,5,7],[0,1,2,3,4,5,8]] [23,24,25,26,27,28,29,30,31,6] (fun l s wx=>(Onl (Value.slice a1 c.cells.length q1).ownBlock (Value.slice a2 c.words.length q2).ownBlock w wx)∧(w.heap.size+1+1+1+1≤wx.heap.size)∧(hp wx w.heap.size=some (.cells (cvals c (.slice a1 c.cells.length q1) (.slice a2 c.words.length q2)) 34))∧(hp wx (w.heap.size+1)=some (.cells (hvals h) 70))∧(hp wx (w.heap.size+1+1)=some (.cells (cond (l 9) (cvals x.1 (s 1003) (s 1004)) (cvals Ch.zero (.slice none 0 0) (.slice none 0 0))) 34))∧(hp wx (w.heap.size+1+1+1)=some (.cells (cond (l 10) (hvals x.2.1) (hvals Ha.zero)) 70))∧(l 5=false→OCells wx lo (.slice a1 c.cells.length q1) c.cells)∧(l 5=false→OInts wx lo (.slice a2 c.words.length q2) c.words)∧(l 0=true→s 23=.agg (cvals c (.slice a1 c.cells.length q1) (.slice a2 c.words.length q2)))∧(l 1=true→s 24=.agg (hvals h))∧(l 2=true→s 25=.agg (hvals (grow7 h 1)))∧(l 3=true→s 26=.agg (hvals h))∧(l 4=true→s 27=.agg (hvals ({ h with pos:=10 })))∧(l 5=true→s 28=.tuple #[.agg (cvals x.1 (s 1003) (s 1004)),.agg (hvals x.2.1),.bool x.2.2]∧OCells wx lo (s 1003) x.1.cells∧OInts wx lo (s 1004) x.1.words∧Fresh w (.slice a1 c.cells.length q1) (s 1003)∧Fresh w (.slice a2 c.words.length q2) (s 1004))∧(l 6=true→s 29=.agg (cvals x.1 (s 1003) (s 1004)))∧(l 7=true→s 30=.agg (hvals x.2.1))∧(l 8=true→s 31=.bool x.2.2)∧(l 11=true→s 6=.bool x.2.2)) (by kernel_rfl) (by kernel_rfl) (by kernel_rfl) (fun s=>by (simp only [fill,fillA,List.setIfInBounds_toArray,List.set_cons_zero,List.set_cons_succ];rfl)) (fun s=>⟨onlB (by exact zB),by simp,by simp [go_sem, *],by simp [go_sem, *],by simp [go_sem, *],by simp [go_sem, *],fun _=>by exact zO o1 o1,fun _=>by exact zO o2 o2,nB,nB,nB,nB,nB,nB,nB,nB,nB,nB⟩) ?_ ?_
  refine ⟨?_,?_,?_,?_,?_,?_,?_,?_,?_,?_,?_,?_,trivial⟩;rotate_left 12
  · intro l s wx hall hf
    have hO:=hf.1
    have z1:=hf.2.2.2.2.1
    have z2:=(jC hf).2.1
    rw [hall 9 rfl] at z1
    rw [hall 10 rfl] at z2
    dsimp only [cond] at z1 z2
    obtain ⟨_,X1,X2,F1,F2⟩:=((jC (jD hf)).2.1 (hall 5 rfl))
    have ec:=((jE hf).2 (hall 11 rfl))
    simp only [ec]
    clear ec hf hall
    go_wp2
    exact bodyPost_ret (res_cct Tryz.results134 rfl (ldChan x.1 _ _ z1) rfl (ldHand x.2.1 z2)) rfl ⟨⟨_,_,rfl,X1,X2,F1,F2⟩,hO⟩
  · intro l s wx hl hd hn hf0 K hK
    have hf:=Lib.hid hf0
    clear hf0
    have zc:=hf.out.2.2.1
    go_simp
    refine hK.out (upd s 23 (.agg (cvals c (.slice a1 c.cells.length q1) (.slice a2 c.words.length q2)))) _ _ (by simp [upd_at] <;> rfl) (kD (kX (fun _=>rfl) id) hf.out)
  · intro l s wx hl hd hn hf0 K hK
    have hf:=Lib.hid hf0
    clear hf0
    have zh:=hf.out.2.2.2.1
    go_simp
    refine hK.out (upd s 24 (.agg (hvals h))) _ _ (by simp [upd_at] <;> rfl) (kD (kA (kX (fun _=>rfl) id)) hf.out)
  · intro l s wx hl hd hn hf0 K hK
    have hf:=Lib.hid hf0
    clear hf0
    have e1:=((jD hf.out).2.1 (hd 1 rfl))
    go_simp
    go_at_call 136
    refine (growing_any h 1 _).mono ?_
    rintro _ wy ⟨rfl,hE⟩
    refine hK.out (upd s 25 (.agg (hvals (grow7 h 1)))) _ _ (by simp [upd_at,e1] <;> rfl) (kX (onlT hf.out.1 (onlB hE)) (kX (Nat.le_trans hf.out.2.1 (Below.size hE)) (kX (hpS hf.out.2.2.1 hE) (kX (hpS hf.out.2.2.2.1 hE) (kX (hpS hf.out.2.2.2.2.1 hE) (kX (hpS (jC hf.out).2.1 hE) (kX (fun h9=>own_below ((jC hf.out).2.2.1 h9) hE) (kX (fun h9=>own_below ((jC hf.out).2.2.2.1 h9) hE) (kB (kX (fun _=>rfl) (kB (kX (nU (hn 5 rfl)) (kX (nU (hn 6 rfl)) (kX (nU (hn 7 rfl)) (kX (nU (hn 8 rfl)) (fun _=>nU (hn 11 rfl)))))))))))))))) hf.out)
  · intro l s wx hl hd hn hf0 K hK
    have hf:=Lib.hid hf0
    clear hf0
    have zh:=hf.out.2.2.2.1
    go_simp
    refine hK.out (upd s 26 (.agg (hvals h))) _ _ (by simp [upd_at] <;> rfl) (kD (kB (kA (kX (fun _=>rfl) id))) hf.out)
  · intro l s wx hl hd hn hf0 K hK
    have hf:=Lib.hid hf0
    clear hf0
    have e3:=((jD hf.out).2.2.2.1 (hd 3 rfl))
    go_simp
    go_at_call 133
    refine (moved_any h 10 _).mono ?_
    rintro _ wy ⟨rfl,hE⟩
    refine hK.out (upd s 27 (.agg (hvals ({ h with pos:=10 })))) _ _ (by simp [upd_at,e3] <;> rfl) (kX (onlT hf.out.1 (onlB hE)) (kX (Nat.le_trans hf.out.2.1 (Below.size hE)) (kX (hpS hf.out.2.2.1 hE) (kX (hpS hf.out.2.2.2.1 hE) (kX (hpS hf.out.2.2.2.2.1 hE) (kX (hpS (jC hf.out).2.1 hE) (kX (fun h9=>own_below ((jC hf.out).2.2.1 h9) hE) (kX (fun h9=>own_below ((jC hf.out).2.2.2.1 h9) hE) (kC (kX (fun _=>rfl) (kX (nU (hn 5 rfl)) (kX (nU (hn 6 rfl)) (kX (nU (hn 7 rfl)) (kX (nU (hn 8 rfl)) (fun _=>nU (hn 11 rfl))))))))))))))) hf.out)
  · intro l s wx hl hd hn hf0 K hK
    have hf:=Lib.hid hf0
    clear hf0
    have e0:=((jD hf.out).1 (hd 0 rfl))
    have e2:=((jD hf.out).2.2.1 (hd 2 rfl))
    have e4:=((jC (jD hf.out)).1 (hd 4 rfl))
    go_simp
    go_at_call 142
    refine (T.out _ ((jC hf.out).2.2.1 hl) ((jC hf.out).2.2.2.1 hl) (Nat.le_trans hlo hf.out.1.2.2.2.1)).mono ?_
    rintro _ wy ⟨⟨y1,y2,rfl,X1,X2,F1,F2⟩,hE⟩
    have hO:=onlB (a:=(Value.slice a1 c.cells.length q1).ownBlock) (b:=(Value.slice a2 c.words.length q2).ownBlock) hE
    refine hK.out (upd (upd (upd s 1003 (y1)) 1004 (y2)) 28 (.tuple #[.agg (cvals x.1 y1 y2),.agg (hvals x.2.1),.bool x.2.2])) _ _ (by simp [upd_at,e0,e2,e4] <;> rfl) (kX (onlT hf.out.1 hO) (kX (Nat.le_trans hf.out.2.1 hO.2.2.2.1) (kX (hp_onl hf.out.2.2.1 hO ((jC hf.out).2.2.1 hl) ((jC hf.out).2.2.2.1 hl) (by decide) (by decide)) (kX (hp_onl hf.out.2.2.2.1 hO ((jC hf.out).2.2.1 hl) ((jC hf.out).2.2.2.1 hl) (by decide) (by decide)) (kX (by (have ee:l 9=false:=hn 9 rfl);(have F:=hf.out.2.2.2.2.1);rw [ee] at F;rw [show upd l 5 true 9=false from ee];exact hp_onl F hO ((jC hf.out).2.2.1 hl) ((jC hf.out).2.2.2.1 hl) (by decide) (by decide)) (kX (by (have ee:l 10=false:=hn 10 rfl);(have F:=(jC hf.out).2.1);rw [ee] at F;rw [show upd l 5 true 10=false from ee];exact hp_onl F hO ((jC hf.out).2.2.1 hl) ((jC hf.out).2.2.2.1 hl) (by decide) (by decide)) (kX (fun h9=>nU h9 (show upd l 5 true 5=true from rfl)) (kX (fun h9=>nU h9 (show upd l 5 true 5=true from rfl)) (kC (kA (kX (fun _=>⟨rfl,X1,X2,fun j hj=>(F1 j hj).imp id (fun h=>Nat.le_trans hf.out.1.2.2.2.1 h),fun j hj=>(F2 j hj).imp id (fun h=>Nat.le_trans hf.out.1.2.2.2.1 h)⟩) (kX (nU (hn 6 rfl)) (kX (nU (hn 7 rfl)) (kX (nU (hn 8 rfl)) (fun _=>nU (hn 11 rfl))))))))))))))) hf.out)
  · intro l s wx hl hd hn hf0 K hK
    have hf:=Lib.hid hf0
    clear hf0
    have e5:=((jC (jD hf.out)).2.1 (hd 5 rfl)).1
    go_simp
    refine hK.out (upd s 29 (.agg (cvals x.1 (s 1003) (s 1004)))) _ _ (by simp [upd_at,e5] <;> rfl) (kD (kC (kB (kX (fun _=>rfl) id))) hf.out)
  · intro l s wx hl hd hn hf0 K hK
    have hf:=Lib.hid hf0
    clear hf0
    have e5:=((jC (jD hf.out)).2.1 (hd 5 rfl)).1
    go_simp
    refine hK.out (upd s 30 (.agg (hvals x.2.1))) _ _ (by simp [upd_at,e5] <;> rfl) (kD (kC (kB (kA (kX (fun _=>rfl) id)))) hf.out)
  · intro l s wx hl hd hn hf0 K hK
    have hf:=Lib.hid hf0
    clear hf0
    have e5:=((jC (jD hf.out)).2.1 (hd 5 rfl)).1
    go_simp
    refine hK.out (upd s 31 (.bool x.2.2)) _ _ (by simp [upd_at,e5] <;> rfl) (kE (kX (fun _=>rfl) id) hf.out)
  · intro l s wx hl hd hn hf0 K hK
    have hf:=Lib.hid hf0
    clear hf0
    have e6:=((jC (jD hf.out)).2.2.1 (hd 6 rfl))
    have e5:=((jC (jD hf.out)).2.1 (hd 5 rfl))
    have X1:=e5.2.1
    have X2:=e5.2.2.1
    clear e5
    have zr:=hf.out.2.2.2.2.1
    rw [hl] at zr
    dsimp only [cond] at zr
    obtain ⟨xa,xp,ea,_⟩:=X1.seg
    obtain ⟨xb,xq,eb2,_⟩:=X2.seg
    rw [ea,eb2] at e6
    have zn:hp (setBox wx (w.heap.size+1+1) (cvals x.1 (.slice xa x.1.cells.length xp) (.slice xb x.1.words.length xq))) (w.heap.size+1+1)=some (.cells (cvals x.1 (s 1003) (s 1004)) 34):=by rw [ea,eb2];exact hp_set zr
    have hO:=hf.out.1
    go_simp
    refine hK.out (s) _ _ (by simp [upd_at,e6,ea,eb2] <;> rfl) (kX (oX hO (by omega)) (kX (Nat.le_trans hf.out.2.1 (Nat.le_of_eq bx_size.symm)) (kX ((bx_heap_ne (by omega)).trans hf.out.2.2.1) (kX ((bx_heap_ne (by omega)).trans hf.out.2.2.2.1) (kX (zn) (kX ((bx_heap_ne (by omega)).trans (jC hf.out).2.1) (kX (fun h9=>nU h9 (show upd l 9 true 5=true from hd 5 rfl)) (kX (fun h9=>nU h9 (show upd l 9 true 5=true from hd 5 rfl)) (kC (kA (kX (fun h=>(let ⟨e,X1,X2,F1,F2⟩:=(jC (jD hf.out)).2.1 h;⟨e,own_far X1 zr (by decide),own_far X2 zr (by decide),F1,F2⟩)) id)))))))))) hf.out)
  · intro l s wx hl hd hn hf0 K hK
    have hf:=Lib.hid hf0
    clear hf0
    have e7:=((jC (jD hf.out)).2.2.2.1 (hd 7 rfl))
    have e5:=((jC (jD hf.out)).2.1 (hd 5 rfl))
    have X1:=e5.2.1
    have X2:=e5.2.2.1
    clear e5
    have zr:=(jC hf.out).2.1
    rw [hl] at zr
    dsimp only [cond] at zr
    have zn:hp (setBox wx (w.heap.size+1+1+1) (hvals x.2.1)) (w.heap.size+1+1+1)=some (.cells (hvals x.2.1) 70):=by exact hp_set zr
    have hO:=hf.out.1
    go_simp
    refine hK.out (s) _ _ (by simp [upd_at,e7] <;> rfl) (kX (oX hO (by omega)) (kX (Nat.le_trans hf.out.2.1 (Nat.le_of_eq bx_size.symm)) (kX ((bx_heap_ne (by omega)).trans hf.out.2.2.1) (kX ((bx_heap_ne (by omega)).trans hf.out.2.2.2.1) (kX ((bx_heap_ne (by omega)).trans hf.out.2.2.2.2.1) (kX (zn) (kX (fun h9=>nU h9 (show upd l 10 true 5=true from hd 5 rfl)) (kX (fun h9=>nU h9 (show upd l 10 true 5=true from hd 5 rfl)) (kC (kA (kX (fun h=>(let ⟨e,X1,X2,F1,F2⟩:=(jC (jD hf.out)).2.1 h;⟨e,own_far X1 zr (by decide),own_far X2 zr (by decide),F1,F2⟩)) id)))))))))) hf.out)
  · intro l s wx hl hd hn hf0 K hK
    have hf:=Lib.hid hf0
    clear hf0
    have e8:=((jE hf.out).1 (hd 8 rfl))
    go_simp
    refine hK.out (upd s 6 (.bool x.2.2)) _ _ (by simp [upd_at,e8] <;> rfl) (kE (kA (fun _=>fun _=>rfl)) hf.out)
set_option maxRecDepth 100000 in
set_option maxHeartbeats 2000000 in
theorem recvTake_p1 (c:Ch) (h:Ha) (v1 v2:Value) (lo:Nat) (w:World) (h1:OCells w lo v1 c.cells) (h2:OInts w lo v2 c.words) (hc0:0≤h.cell) (hc1:h.cell<c.cells.length) (hs0:(h.seen == 0)=false) (hs:(h.seen == 1)=true) (hx:¬ h.come≤h.cell) :
    Calls Tryz.prog 134 #[.agg (cvals c v1 v2),.agg (hvals h)] w fun r w'=>StepO w w' lo v1 v2 (tnS c 8 0 (grow7 h 2) { h with pos:=10 }) r:=by
  have T0:=fun W a b=>recvTurn_any c 8 0 (grow7 h 2) { h with pos:=10 } v1 v2 lo W a b hc0 hc1
  change ∀ W,_→_→Calls _ _ _ _ (fun r w'=>StepO W w' lo v1 v2 (tnS c 8 0 (grow7 h 2) { h with pos:=10 }) r) at T0
  have hy:h.cell<h.come:=by omega
  clear hc0 hc1
  generalize tnS c 8 0 (grow7 h 2) { h with pos:=10 }=x at *
  have b1:=fun j (hj:v1.ownBlock=some j)=>(h1.lt j hj).2
  have b2:=fun j (hj:v2.ownBlock=some j)=>(h2.lt j hj).2
  obtain ⟨a1,q1,rfl,_⟩:=h1.seg
  obtain ⟨a2,q2,rfl,_⟩:=h2.seg
  have O1:=Lib.hid h1
  have O2:=Lib.hid h2
  clear h1 h2
  have T:=Lib.hid T0
  clear T0
  have o1:=O1.out
  have o2:=O2.out
  go_enter Tryz.func134,Tryz.ntmps134
  go_upto_region 10 with fail
  refine wp_region_inv [[],[],[],[],[2,3],[],[5],[0,1,2,3,4,5,6],qB [],qB [],qB [],qB [8],qB [9],qB [10]] [32,33,34,35,36,37,38,39,40,41,42,6] (fun l s wx=>(Onl (Value.slice a1 c.cells.length q1).ownBlock (Value.slice a2 c.words.length q2).ownBlock w wx)∧(w.heap.size+1+1+1+1≤wx.heap.size)∧(hp wx w.heap.size=some (.cells (cvals c (.slice a1 c.cells.length q1) (.slice a2 c.words.length q2)) 34))∧(hp wx (w.heap.size+1)=some (.cells (hvals h) 70))∧(hp wx (w.heap.size+1+1)=some (.cells (cond (l 11) (cvals x.1 (s 1003) (s 1004)) (cvals Ch.zero (.slice none 0 0) (.slice none 0 0))) 34))∧(hp wx (w.heap.size+1+1+1)=some (.cells (cond (l 12) (hvals x.2.1) (hvals Ha.zero)) 70))∧(l 7=false→OCells wx lo (.slice a1 c.cells.length q1) c.cells)∧(l 7=false→OInts wx lo (.slice a2 c.words.length q2) c.words)∧(l 0=true→s 32=.agg (cvals c (.slice a1 c.cells.length q1) (.slice a2 c.words.length q2)))∧(l 1=true→s 33=.int .i64 8)∧(l 2=true→s 34=.agg (hvals h))∧(l 3=true→s 35=.int .i64 2)∧(l 4=true→s 36=.agg (hvals (grow7 h 2)))∧(l 5=true→s 37=.agg (hvals h))∧(l 6=true→s 38=.agg (hvals ({ h with pos:=10 })))∧(l 7=true→s 39=.tuple #[.agg (cvals x.1 (s 1003) (s 1004)),.agg (hvals x.2.1),.bool x.2.2]∧OCells wx lo (s 1003) x.1.cells∧OInts wx lo (s 1004) x.1.words∧Fresh w (.slice a1 c.cells.length q1) (s 1003)∧Fresh w (.slice a2 c.words.length q2) (s 1004))∧(l 8=true→s 40=.agg (cvals x.1 (s 1003) (s 1004)))∧(l 9=true→s 41=.agg (hvals x.2.1))∧(l 10=true→s 42=.bool x.2.2)∧(l 13=true→s 6=.bool x.2.2)) (by kernel_rfl) (by kernel_rfl) (by kernel_rfl) (fun s=>by (simp only [fill,fillA,List.setIfInBounds_toArray,List.set_cons_zero,List.set_cons_succ];rfl)) (fun s=>⟨onlB (by exact zB),by simp,by simp [go_sem, *],by simp [go_sem, *],by simp [go_sem, *],by simp [go_sem, *],fun _=>by exact zO o1 o1,fun _=>by exact zO o2 o2,nB,nB,nB,nB,nB,nB,nB,nB,nB,nB,nB,nB⟩) ?_ ?_
  refine ⟨?_,?_,?_,?_,?_,?_,?_,?_,?_,?_,?_,?_,?_,?_,trivial⟩;rotate_left 14
  · intro l s wx hall hf
    have hO:=hf.1
    have z1:=hf.2.2.2.2.1
    have z2:=(jC hf).2.1
    rw [hall 11 rfl] at z1
    rw [hall 12 rfl] at z2
    dsimp only [cond] at z1 z2
    obtain ⟨_,X1,X2,F1,F2⟩:=((jC (jD hf)).2.2.2.1 (hall 7 rfl))
    have ec:=((jE hf).2.2.2 (hall 13 rfl))
    simp only [ec]
    clear ec hf hall
    go_wp2
    exact bodyPost_ret (res_cct Tryz.results134 rfl (ldChan x.1 _ _ z1) rfl (ldHand x.2.1 z2)) rfl ⟨⟨_,_,rfl,X1,X2,F1,F2⟩,hO⟩
  · intro l s wx hl hd hn hf0 K hK
    have hf:=Lib.hid hf0
    clear hf0
    have zc:=hf.out.2.2.1
    go_simp
    refine hK.out (upd s 32 (.agg (cvals c (.slice a1 c.cells.length q1) (.slice a2 c.words.length q2)))) _ _ (by simp [upd_at] <;> rfl) (kD (kX (fun _=>rfl) id) hf.out)
  · intro l s wx hl hd hn hf0 K hK
    have hf:=Lib.hid hf0
    clear hf0
    go_simp
    refine hK.out (upd s 33 (.int .i64 8)) _ _ (by simp [upd_at] <;> rfl) (kD (kA (kX (fun _=>rfl) id)) hf.out)
  · intro l s wx hl hd hn hf0 K hK
    have hf:=Lib.hid hf0
    clear hf0
    have zh:=hf.out.2.2.2.1
    go_simp
    refine hK.out (upd s 34 (.agg (hvals h))) _ _ (by simp [upd_at] <;> rfl) (kD (kB (kX (fun _=>rfl) id)) hf.out)
  · intro l s wx hl hd hn hf0 K hK
    have hf:=Lib.hid hf0
    clear hf0
    go_simp
    refine hK.out (upd s 35 (.int .i64 2)) _ _ (by simp [upd_at] <;> rfl) (kD (kB (kA (kX (fun _=>rfl) id))) hf.out)
  · intro l s wx hl hd hn hf0 K hK
    have hf:=Lib.hid hf0
    clear hf0
    have e2:=((jD hf.out).2.2.1 (hd 2 rfl))
    have e3:=((jD hf.out).2.2.2.1 (hd 3 rfl))
    go_simp
    go_at_call 136
    refine (growing_any h 2 _).mono ?_
    rintro _ wy ⟨rfl,hE⟩
    refine hK.out (upd s 36 (.agg (hvals (grow7 h 2)))) _ _ (by simp [upd_at,e2,e3] <;> rfl) (kX (onlT hf.out.1 (onlB hE)) (kX (Nat.le_trans hf.out.2.1 (Below.size hE)) (kX (hpS hf.out.2.2.1 hE) (kX (hpS hf.out.2.2.2.1 hE) (kX (hpS hf.out.2.2.2.2.1 hE) (kX (hpS (jC hf.out).2.1 hE) (kX (fun h9=>own_below ((jC hf.out).2.2.1 h9) hE) (kX (fun h9=>own_below ((jC hf.out).2.2.2.1 h9) hE) (kC (kX (fun _=>rfl) (kB (kX (nU (hn 7 rfl)) (kX (nU (hn 8 rfl)) (kX (nU (hn 9 rfl)) (kX (nU (hn 10 rfl)) (fun _=>nU (hn 13 rfl)))))))))))))))) hf.out)
  · intro l s wx hl hd hn hf0 K hK
    have hf:=Lib.hid hf0
    clear hf0
    have zh:=hf.out.2.2.2.1
    go_simp
    refine hK.out (upd s 37 (.agg (hvals h))) _ _ (by simp [upd_at] <;> rfl) (kD (kC (kA (kX (fun _=>rfl) id))) hf.out)
  · intro l s wx hl hd hn hf0 K hK
    have hf:=Lib.hid hf0
    clear hf0
    have e5:=((jC (jD hf.out)).2.1 (hd 5 rfl))
    go_simp
    go_at_call 133
    refine (moved_any h 10 _).mono ?_
    rintro _ wy ⟨rfl,hE⟩
    refine hK.out (upd s 38 (.agg (hvals ({ h with pos:=10 })))) _ _ (by simp [upd_at,e5] <;> rfl) (kX (onlT hf.out.1 (onlB hE)) (kX (Nat.le_trans hf.out.2.1 (Below.size hE)) (kX (hpS hf.out.2.2.1 hE) (kX (hpS hf.out.2.2.2.1 hE) (kX (hpS hf.out.2.2.2.2.1 hE) (kX (hpS (jC hf.out).2.1 hE) (kX (fun h9=>own_below ((jC hf.out).2.2.1 h9) hE) (kX (fun h9=>own_below ((jC hf.out).2.2.2.1 h9) hE) (kC (kB (kX (fun _=>rfl) (kX (nU (hn 7 rfl)) (kX (nU (hn 8 rfl)) (kX (nU (hn 9 rfl)) (kX (nU (hn 10 rfl)) (fun _=>nU (hn 13 rfl)))))))))))))))) hf.out)
  · intro l s wx hl hd hn hf0 K hK
    have hf:=Lib.hid hf0
    clear hf0
    have e0:=((jD hf.out).1 (hd 0 rfl))
    have e1:=((jD hf.out).2.1 (hd 1 rfl))
    have e4:=((jC (jD hf.out)).1 (hd 4 rfl))
    have e6:=((jC (jD hf.out)).2.2.1 (hd 6 rfl))
    go_simp
    go_at_call 143
    refine (T.out _ ((jC hf.out).2.2.1 hl) ((jC hf.out).2.2.2.1 hl)).mono ?_
    rintro _ wy ⟨⟨y1,y2,rfl,X1,X2,F1,F2⟩,hO⟩
    refine hK.out (upd (upd (upd s 1003 (y1)) 1004 (y2)) 39 (.tuple #[.agg (cvals x.1 y1 y2),.agg (hvals x.2.1),.bool x.2.2])) _ _ (by simp [upd_at,e0,e1,e4,e6] <;> rfl) (kX (onlT hf.out.1 hO) (kX (Nat.le_trans hf.out.2.1 hO.2.2.2.1) (kX (hp_onl hf.out.2.2.1 hO ((jC hf.out).2.2.1 hl) ((jC hf.out).2.2.2.1 hl) (by decide) (by decide)) (kX (hp_onl hf.out.2.2.2.1 hO ((jC hf.out).2.2.1 hl) ((jC hf.out).2.2.2.1 hl) (by decide) (by decide)) (kX (by (have ee:l 11=false:=hn 11 rfl);(have F:=hf.out.2.2.2.2.1);rw [ee] at F;rw [show upd l 7 true 11=false from ee];exact hp_onl F hO ((jC hf.out).2.2.1 hl) ((jC hf.out).2.2.2.1 hl) (by decide) (by decide)) (kX (by (have ee:l 12=false:=hn 12 rfl);(have F:=(jC hf.out).2.1);rw [ee] at F;rw [show upd l 7 true 12=false from ee];exact hp_onl F hO ((jC hf.out).2.2.1 hl) ((jC hf.out).2.2.2.1 hl) (by decide) (by decide)) (kX (fun h9=>nU h9 (show upd l 7 true 7=true from rfl)) (kX (fun h9=>nU h9 (show upd l 7 true 7=true from rfl)) (kC (kB (kA (kX (fun _=>⟨rfl,X1,X2,fun j hj=>(F1 j hj).imp id (fun h=>Nat.le_trans hf.out.1.2.2.2.1 h),fun j hj=>(F2 j hj).imp id (fun h=>Nat.le_trans hf.out.1.2.2.2.1 h)⟩) (kX (nU (hn 8 rfl)) (kX (nU (hn 9 rfl)) (kX (nU (hn 10 rfl)) (fun _=>nU (hn 13 rfl)))))))))))))))) hf.out)
  · intro l s wx hl hd hn hf0 K hK
    have hf:=Lib.hid hf0
    clear hf0
    have e7:=((jC (jD hf.out)).2.2.2.1 (hd 7 rfl)).1
    go_simp
    refine hK.out (upd s 40 (.agg (cvals x.1 (s 1003) (s 1004)))) _ _ (by simp [upd_at,e7] <;> rfl) (kE (kX (fun _=>rfl) id) hf.out)
  · intro l s wx hl hd hn hf0 K hK
    have hf:=Lib.hid hf0
    clear hf0
    have e7:=((jC (jD hf.out)).2.2.2.1 (hd 7 rfl)).1
    go_simp
    refine hK.out (upd s 41 (.agg (hvals x.2.1))) _ _ (by simp [upd_at,e7] <;> rfl) (kE (kA (kX (fun _=>rfl) id)) hf.out)
  · intro l s wx hl hd hn hf0 K hK
    have hf:=Lib.hid hf0
    clear hf0
    have e7:=((jC (jD hf.out)).2.2.2.1 (hd 7 rfl)).1
    go_simp
    refine hK.out (upd s 42 (.bool x.2.2)) _ _ (by simp [upd_at,e7] <;> rfl) (kE (kB (kX (fun _=>rfl) id)) hf.out)
  · intro l s wx hl hd hn hf0 K hK
    have hf:=Lib.hid hf0
    clear hf0
    have e8:=((jE hf.out).1 (hd 8 rfl))
    have e7:=((jC (jD hf.out)).2.2.2.1 (hd 7 rfl))
    have X1:=e7.2.1
    have X2:=e7.2.2.1
    clear e7
    have zr:=hf.out.2.2.2.2.1
    rw [hl] at zr
    dsimp only [cond] at zr
    obtain ⟨xa,xp,ea,_⟩:=X1.seg
    obtain ⟨xb,xq,eb2,_⟩:=X2.seg
    rw [ea,eb2] at e8
    have zn:hp (setBox wx (w.heap.size+1+1) (cvals x.1 (.slice xa x.1.cells.length xp) (.slice xb x.1.words.length xq))) (w.heap.size+1+1)=some (.cells (cvals x.1 (s 1003) (s 1004)) 34):=by rw [ea,eb2];exact hp_set zr
    have hO:=hf.out.1
    go_simp
    refine hK.out (s) _ _ (by simp [upd_at,e8,ea,eb2] <;> rfl) (kX (oX hO (by omega)) (kX (Nat.le_trans hf.out.2.1 (Nat.le_of_eq bx_size.symm)) (kX ((bx_heap_ne (by omega)).trans hf.out.2.2.1) (kX ((bx_heap_ne (by omega)).trans hf.out.2.2.2.1) (kX (zn) (kX ((bx_heap_ne (by omega)).trans (jC hf.out).2.1) (kX (fun h9=>nU h9 (show upd l 11 true 7=true from hd 7 rfl)) (kX (fun h9=>nU h9 (show upd l 11 true 7=true from hd 7 rfl)) (kC (kB (kA (kX (fun h=>(let ⟨e,X1,X2,F1,F2⟩:=(jC (jD hf.out)).2.2.2.1 h;⟨e,own_far X1 zr (by decide),own_far X2 zr (by decide),F1,F2⟩)) id))))))))))) hf.out)
  · intro l s wx hl hd hn hf0 K hK
    have hf:=Lib.hid hf0
    clear hf0
    have e9:=((jE hf.out).2.1 (hd 9 rfl))
    have e7:=((jC (jD hf.out)).2.2.2.1 (hd 7 rfl))
    have X1:=e7.2.1
    have X2:=e7.2.2.1
    clear e7
    have zr:=(jC hf.out).2.1
    rw [hl] at zr
    dsimp only [cond] at zr
    have zn:hp (setBox wx (w.heap.size+1+1+1) (hvals x.2.1)) (w.heap.size+1+1+1)=some (.cells (hvals x.2.1) 70):=by exact hp_set zr
    have hO:=hf.out.1
    go_simp
    refine hK.out (s) _ _ (by simp [upd_at,e9] <;> rfl) (kX (oX hO (by omega)) (kX (Nat.le_trans hf.out.2.1 (Nat.le_of_eq bx_size.symm)) (kX ((bx_heap_ne (by omega)).trans hf.out.2.2.1) (kX ((bx_heap_ne (by omega)).trans hf.out.2.2.2.1) (kX ((bx_heap_ne (by omega)).trans hf.out.2.2.2.2.1) (kX (zn) (kX (fun h9=>nU h9 (show upd l 12 true 7=true from hd 7 rfl)) (kX (fun h9=>nU h9 (show upd l 12 true 7=true from hd 7 rfl)) (kC (kB (kA (kX (fun h=>(let ⟨e,X1,X2,F1,F2⟩:=(jC (jD hf.out)).2.2.2.1 h;⟨e,own_far X1 zr (by decide),own_far X2 zr (by decide),F1,F2⟩)) id))))))))))) hf.out)
  · intro l s wx hl hd hn hf0 K hK
    have hf:=Lib.hid hf0
    clear hf0
    have e10:=((jE hf.out).2.2.1 (hd 10 rfl))
    go_simp
    refine hK.out (upd s 6 (.bool x.2.2)) _ _ (by simp [upd_at,e10] <;> rfl) (kE (kB (kA (fun _=>fun _=>rfl))) hf.out)
set_option maxRecDepth 100000 in
set_option maxHeartbeats 2000000 in
theorem recvTake_2 (c:Ch) (h:Ha) (v1 v2:Value) (lo:Nat) (w:World) (h1:OCells w lo v1 c.cells) (h2:OInts w lo v2 c.words) (hc0:0≤h.cell) (hc1:h.cell<c.cells.length) (hs0:(h.seen == 0)=false) (hs1:(h.seen == 1)=false) (hs:(h.seen == 2)=true) :
    Calls Tryz.prog 134 #[.agg (cvals c v1 v2),.agg (hvals h)] w fun r w'=>StepO w w' lo v1 v2 (tnS c 7 0 (grow7 h 0) { h with pos:=10 }) r:=by
  have T0:=fun W a b=>recvTurn_any c 7 0 (grow7 h 0) { h with pos:=10 } v1 v2 lo W a b hc0 hc1
  change ∀ W,_→_→Calls _ _ _ _ (fun r w'=>StepO W w' lo v1 v2 (tnS c 7 0 (grow7 h 0) { h with pos:=10 }) r) at T0
  clear hc0 hc1
  generalize tnS c 7 0 (grow7 h 0) { h with pos:=10 }=x at *
  have b1:=fun j (hj:v1.ownBlock=some j)=>(h1.lt j hj).2
  have b2:=fun j (hj:v2.ownBlock=some j)=>(h2.lt j hj).2
  obtain ⟨a1,q1,rfl,_⟩:=h1.seg
  obtain ⟨a2,q2,rfl,_⟩:=h2.seg
  have O1:=Lib.hid h1
  have O2:=Lib.hid h2
  clear h1 h2
  have T:=Lib.hid T0
  clear T0
  have o1:=O1.out
  have o2:=O2.out
  go_enter Tryz.func134,Tryz.ntmps134
  go_upto_region 10 with fail
  refine wp_region_inv [[],[],[],[],[2,3],[],[5],[0,1,2,3,4,5,6],qB [],qB [],qB [],qB [8],qB [9],qB [10]] [32,33,34,35,36,37,38,39,40,41,42,6] (fun l s wx=>(Onl (Value.slice a1 c.cells.length q1).ownBlock (Value.slice a2 c.words.length q2).ownBlock w wx)∧(w.heap.size+1+1+1+1≤wx.heap.size)∧(hp wx w.heap.size=some (.cells (cvals c (.slice a1 c.cells.length q1) (.slice a2 c.words.length q2)) 34))∧(hp wx (w.heap.size+1)=some (.cells (hvals h) 70))∧(hp wx (w.heap.size+1+1)=some (.cells (cond (l 11) (cvals x.1 (s 1003) (s 1004)) (cvals Ch.zero (.slice none 0 0) (.slice none 0 0))) 34))∧(hp wx (w.heap.size+1+1+1)=some (.cells (cond (l 12) (hvals x.2.1) (hvals Ha.zero)) 70))∧(l 7=false→OCells wx lo (.slice a1 c.cells.length q1) c.cells)∧(l 7=false→OInts wx lo (.slice a2 c.words.length q2) c.words)∧(l 0=true→s 32=.agg (cvals c (.slice a1 c.cells.length q1) (.slice a2 c.words.length q2)))∧(l 1=true→s 33=.int .i64 7)∧(l 2=true→s 34=.agg (hvals h))∧(l 3=true→s 35=.int .i64 0)∧(l 4=true→s 36=.agg (hvals (grow7 h 0)))∧(l 5=true→s 37=.agg (hvals h))∧(l 6=true→s 38=.agg (hvals ({ h with pos:=10 })))∧(l 7=true→s 39=.tuple #[.agg (cvals x.1 (s 1003) (s 1004)),.agg (hvals x.2.1),.bool x.2.2]∧OCells wx lo (s 1003) x.1.cells∧OInts wx lo (s 1004) x.1.words∧Fresh w (.slice a1 c.cells.length q1) (s 1003)∧Fresh w (.slice a2 c.words.length q2) (s 1004))∧(l 8=true→s 40=.agg (cvals x.1 (s 1003) (s 1004)))∧(l 9=true→s 41=.agg (hvals x.2.1))∧(l 10=true→s 42=.bool x.2.2)∧(l 13=true→s 6=.bool x.2.2)) (by kernel_rfl) (by kernel_rfl) (by kernel_rfl) (fun s=>by (simp only [fill,fillA,List.setIfInBounds_toArray,List.set_cons_zero,List.set_cons_succ];rfl)) (fun s=>⟨onlB (by exact zB),by simp,by simp [go_sem, *],by simp [go_sem, *],by simp [go_sem, *],by simp [go_sem, *],fun _=>by exact zO o1 o1,fun _=>by exact zO o2 o2,nB,nB,nB,nB,nB,nB,nB,nB,nB,nB,nB,nB⟩) ?_ ?_
  refine ⟨?_,?_,?_,?_,?_,?_,?_,?_,?_,?_,?_,?_,?_,?_,trivial⟩;rotate_left 14
  · intro l s wx hall hf
    have hO:=hf.1
    have z1:=hf.2.2.2.2.1
    have z2:=(jC hf).2.1
    rw [hall 11 rfl] at z1
    rw [hall 12 rfl] at z2
    dsimp only [cond] at z1 z2
    obtain ⟨_,X1,X2,F1,F2⟩:=((jC (jD hf)).2.2.2.1 (hall 7 rfl))
    have ec:=((jE hf).2.2.2 (hall 13 rfl))
    simp only [ec]
    clear ec hf hall
    go_wp2
    exact bodyPost_ret (res_cct Tryz.results134 rfl (ldChan x.1 _ _ z1) rfl (ldHand x.2.1 z2)) rfl ⟨⟨_,_,rfl,X1,X2,F1,F2⟩,hO⟩
  · intro l s wx hl hd hn hf0 K hK
    have hf:=Lib.hid hf0
    clear hf0
    have zc:=hf.out.2.2.1
    go_simp
    refine hK.out (upd s 32 (.agg (cvals c (.slice a1 c.cells.length q1) (.slice a2 c.words.length q2)))) _ _ (by simp [upd_at] <;> rfl) (kD (kX (fun _=>rfl) id) hf.out)
  · intro l s wx hl hd hn hf0 K hK
    have hf:=Lib.hid hf0
    clear hf0
    go_simp
    refine hK.out (upd s 33 (.int .i64 7)) _ _ (by simp [upd_at] <;> rfl) (kD (kA (kX (fun _=>rfl) id)) hf.out)
  · intro l s wx hl hd hn hf0 K hK
    have hf:=Lib.hid hf0
    clear hf0
    have zh:=hf.out.2.2.2.1
    go_simp
    refine hK.out (upd s 34 (.agg (hvals h))) _ _ (by simp [upd_at] <;> rfl) (kD (kB (kX (fun _=>rfl) id)) hf.out)
  · intro l s wx hl hd hn hf0 K hK
    have hf:=Lib.hid hf0
    clear hf0
    go_simp
    refine hK.out (upd s 35 (.int .i64 0)) _ _ (by simp [upd_at] <;> rfl) (kD (kB (kA (kX (fun _=>rfl) id))) hf.out)
  · intro l s wx hl hd hn hf0 K hK
    have hf:=Lib.hid hf0
    clear hf0
    have e2:=((jD hf.out).2.2.1 (hd 2 rfl))
    have e3:=((jD hf.out).2.2.2.1 (hd 3 rfl))
    go_simp
    go_at_call 136
    refine (growing_any h 0 _).mono ?_
    rintro _ wy ⟨rfl,hE⟩
    refine hK.out (upd s 36 (.agg (hvals (grow7 h 0)))) _ _ (by simp [upd_at,e2,e3] <;> rfl) (kX (onlT hf.out.1 (onlB hE)) (kX (Nat.le_trans hf.out.2.1 (Below.size hE)) (kX (hpS hf.out.2.2.1 hE) (kX (hpS hf.out.2.2.2.1 hE) (kX (hpS hf.out.2.2.2.2.1 hE) (kX (hpS (jC hf.out).2.1 hE) (kX (fun h9=>own_below ((jC hf.out).2.2.1 h9) hE) (kX (fun h9=>own_below ((jC hf.out).2.2.2.1 h9) hE) (kC (kX (fun _=>rfl) (kB (kX (nU (hn 7 rfl)) (kX (nU (hn 8 rfl)) (kX (nU (hn 9 rfl)) (kX (nU (hn 10 rfl)) (fun _=>nU (hn 13 rfl)))))))))))))))) hf.out)
  · intro l s wx hl hd hn hf0 K hK
    have hf:=Lib.hid hf0
    clear hf0
    have zh:=hf.out.2.2.2.1
    go_simp
    refine hK.out (upd s 37 (.agg (hvals h))) _ _ (by simp [upd_at] <;> rfl) (kD (kC (kA (kX (fun _=>rfl) id))) hf.out)
  · intro l s wx hl hd hn hf0 K hK
    have hf:=Lib.hid hf0
    clear hf0
    have e5:=((jC (jD hf.out)).2.1 (hd 5 rfl))
    go_simp
    go_at_call 133
    refine (moved_any h 10 _).mono ?_
    rintro _ wy ⟨rfl,hE⟩
    refine hK.out (upd s 38 (.agg (hvals ({ h with pos:=10 })))) _ _ (by simp [upd_at,e5] <;> rfl) (kX (onlT hf.out.1 (onlB hE)) (kX (Nat.le_trans hf.out.2.1 (Below.size hE)) (kX (hpS hf.out.2.2.1 hE) (kX (hpS hf.out.2.2.2.1 hE) (kX (hpS hf.out.2.2.2.2.1 hE) (kX (hpS (jC hf.out).2.1 hE) (kX (fun h9=>own_below ((jC hf.out).2.2.1 h9) hE) (kX (fun h9=>own_below ((jC hf.out).2.2.2.1 h9) hE) (kC (kB (kX (fun _=>rfl) (kX (nU (hn 7 rfl)) (kX (nU (hn 8 rfl)) (kX (nU (hn 9 rfl)) (kX (nU (hn 10 rfl)) (fun _=>nU (hn 13 rfl)))))))))))))))) hf.out)
  · intro l s wx hl hd hn hf0 K hK
    have hf:=Lib.hid hf0
    clear hf0
    have e0:=((jD hf.out).1 (hd 0 rfl))
    have e1:=((jD hf.out).2.1 (hd 1 rfl))
    have e4:=((jC (jD hf.out)).1 (hd 4 rfl))
    have e6:=((jC (jD hf.out)).2.2.1 (hd 6 rfl))
    go_simp
    go_at_call 143
    refine (T.out _ ((jC hf.out).2.2.1 hl) ((jC hf.out).2.2.2.1 hl)).mono ?_
    rintro _ wy ⟨⟨y1,y2,rfl,X1,X2,F1,F2⟩,hO⟩
    refine hK.out (upd (upd (upd s 1003 (y1)) 1004 (y2)) 39 (.tuple #[.agg (cvals x.1 y1 y2),.agg (hvals x.2.1),.bool x.2.2])) _ _ (by simp [upd_at,e0,e1,e4,e6] <;> rfl) (kX (onlT hf.out.1 hO) (kX (Nat.le_trans hf.out.2.1 hO.2.2.2.1) (kX (hp_onl hf.out.2.2.1 hO ((jC hf.out).2.2.1 hl) ((jC hf.out).2.2.2.1 hl) (by decide) (by decide)) (kX (hp_onl hf.out.2.2.2.1 hO ((jC hf.out).2.2.1 hl) ((jC hf.out).2.2.2.1 hl) (by decide) (by decide)) (kX (by (have ee:l 11=false:=hn 11 rfl);(have F:=hf.out.2.2.2.2.1);rw [ee] at F;rw [show upd l 7 true 11=false from ee];exact hp_onl F hO ((jC hf.out).2.2.1 hl) ((jC hf.out).2.2.2.1 hl) (by decide) (by decide)) (kX (by (have ee:l 12=false:=hn 12 rfl);(have F:=(jC hf.out).2.1);rw [ee] at F;rw [show upd l 7 true 12=false from ee];exact hp_onl F hO ((jC hf.out).2.2.1 hl) ((jC hf.out).2.2.2.1 hl) (by decide) (by decide)) (kX (fun h9=>nU h9 (show upd l 7 true 7=true from rfl)) (kX (fun h9=>nU h9 (show upd l 7 true 7=true from rfl)) (kC (kB (kA (kX (fun _=>⟨rfl,X1,X2,fun j hj=>(F1 j hj).imp id (fun h=>Nat.le_trans hf.out.1.2.2.2.1 h),fun j hj=>(F2 j hj).imp id (fun h=>Nat.le_trans hf.out.1.2.2.2.1 h)⟩) (kX (nU (hn 8 rfl)) (kX (nU (hn 9 rfl)) (kX (nU (hn 10 rfl)) (fun _=>nU (hn 13 rfl)))))))))))))))) hf.out)
  · intro l s wx hl hd hn hf0 K hK
    have hf:=Lib.hid hf0
    clear hf0
    have e7:=((jC (jD hf.out)).2.2.2.1 (hd 7 rfl)).1
    go_simp
    refine hK.out (upd s 40 (.agg (cvals x.1 (s 1003) (s 1004)))) _ _ (by simp [upd_at,e7] <;> rfl) (kE (kX (fun _=>rfl) id) hf.out)
  · intro l s wx hl hd hn hf0 K hK
    have hf:=Lib.hid hf0
    clear hf0
    have e7:=((jC (jD hf.out)).2.2.2.1 (hd 7 rfl)).1
    go_simp
    refine hK.out (upd s 41 (.agg (hvals x.2.1))) _ _ (by simp [upd_at,e7] <;> rfl) (kE (kA (kX (fun _=>rfl) id)) hf.out)
  · intro l s wx hl hd hn hf0 K hK
    have hf:=Lib.hid hf0
    clear hf0
    have e7:=((jC (jD hf.out)).2.2.2.1 (hd 7 rfl)).1
    go_simp
    refine hK.out (upd s 42 (.bool x.2.2)) _ _ (by simp [upd_at,e7] <;> rfl) (kE (kB (kX (fun _=>rfl) id)) hf.out)
  · intro l s wx hl hd hn hf0 K hK
    have hf:=Lib.hid hf0
    clear hf0
    have e8:=((jE hf.out).1 (hd 8 rfl))
    have e7:=((jC (jD hf.out)).2.2.2.1 (hd 7 rfl))
    have X1:=e7.2.1
    have X2:=e7.2.2.1
    clear e7
    have zr:=hf.out.2.2.2.2.1
    rw [hl] at zr
    dsimp only [cond] at zr
    obtain ⟨xa,xp,ea,_⟩:=X1.seg
    obtain ⟨xb,xq,eb2,_⟩:=X2.seg
    rw [ea,eb2] at e8
    have zn:hp (setBox wx (w.heap.size+1+1) (cvals x.1 (.slice xa x.1.cells.length xp) (.slice xb x.1.words.length xq))) (w.heap.size+1+1)=some (.cells (cvals x.1 (s 1003) (s 1004)) 34):=by rw [ea,eb2];exact hp_set zr
    have hO:=hf.out.1
    go_simp
    refine hK.out (s) _ _ (by simp [upd_at,e8,ea,eb2] <;> rfl) (kX (oX hO (by omega)) (kX (Nat.le_trans hf.out.2.1 (Nat.le_of_eq bx_size.symm)) (kX ((bx_heap_ne (by omega)).trans hf.out.2.2.1) (kX ((bx_heap_ne (by omega)).trans hf.out.2.2.2.1) (kX (zn) (kX ((bx_heap_ne (by omega)).trans (jC hf.out).2.1) (kX (fun h9=>nU h9 (show upd l 11 true 7=true from hd 7 rfl)) (kX (fun h9=>nU h9 (show upd l 11 true 7=true from hd 7 rfl)) (kC (kB (kA (kX (fun h=>(let ⟨e,X1,X2,F1,F2⟩:=(jC (jD hf.out)).2.2.2.1 h;⟨e,own_far X1 zr (by decide),own_far X2 zr (by decide),F1,F2⟩)) id))))))))))) hf.out)
  · intro l s wx hl hd hn hf0 K hK
    have hf:=Lib.hid hf0
    clear hf0
    have e9:=((jE hf.out).2.1 (hd 9 rfl))
    have e7:=((jC (jD hf.out)).2.2.2.1 (hd 7 rfl))
    have X1:=e7.2.1
    have X2:=e7.2.2.1
    clear e7
    have zr:=(jC hf.out).2.1
    rw [hl] at zr
    dsimp only [cond] at zr
    have zn:hp (setBox wx (w.heap.size+1+1+1) (hvals x.2.1)) (w.heap.size+1+1+1)=some (.cells (hvals x.2.1) 70):=by exact hp_set zr
    have hO:=hf.out.1
    go_simp
    refine hK.out (s) _ _ (by simp [upd_at,e9] <;> rfl) (kX (oX hO (by omega)) (kX (Nat.le_trans hf.out.2.1 (Nat.le_of_eq bx_size.symm)) (kX ((bx_heap_ne (by omega)).trans hf.out.2.2.1) (kX ((bx_heap_ne (by omega)).trans hf.out.2.2.2.1) (kX ((bx_heap_ne (by omega)).trans hf.out.2.2.2.2.1) (kX (zn) (kX (fun h9=>nU h9 (show upd l 12 true 7=true from hd 7 rfl)) (kX (fun h9=>nU h9 (show upd l 12 true 7=true from hd 7 rfl)) (kC (kB (kA (kX (fun h=>(let ⟨e,X1,X2,F1,F2⟩:=(jC (jD hf.out)).2.2.2.1 h;⟨e,own_far X1 zr (by decide),own_far X2 zr (by decide),F1,F2⟩)) id))))))))))) hf.out)
  · intro l s wx hl hd hn hf0 K hK
    have hf:=Lib.hid hf0
    clear hf0
    have e10:=((jE hf.out).2.2.1 (hd 10 rfl))
    go_simp
    refine hK.out (upd s 6 (.bool x.2.2)) _ _ (by simp [upd_at,e10] <;> rfl) (kE (kB (kA (fun _=>fun _=>rfl))) hf.out)
set_option maxRecDepth 100000 in
set_option maxHeartbeats 2000000 in
theorem recvTake_3 (c:Ch) (h:Ha) (v1 v2:Value) (lo:Nat) (w:World) (h1:OCells w lo v1 c.cells) (h2:OInts w lo v2 c.words) (hc0:0≤h.cell) (hc1:h.cell<c.cells.length) (hs0:(h.seen == 0)=false) (hs1:(h.seen == 1)=false) (hs2:(h.seen == 2)=false) (hs:(h.seen == 3)=true) :
    Calls Tryz.prog 134 #[.agg (cvals c v1 v2),.agg (hvals h)] w fun r w'=>StepO w w' lo v1 v2 (tnS c 5 (cellAt c h.cell).t { h with pos:=13 } { h with pos:=10 }) r:=by
  have T0:=fun W a b=>recvTurn_any c 5 (cellAt c h.cell).t { h with pos:=13 } { h with pos:=10 } v1 v2 lo W a b hc0 hc1
  change ∀ W,_→_→Calls _ _ _ _ (fun r w'=>StepO W w' lo v1 v2 (tnS c 5 (cellAt c h.cell).t { h with pos:=13 } { h with pos:=10 }) r) at T0
  generalize hxx:tnS c 5 (cellAt c h.cell).t { h with pos:=13 } { h with pos:=10 }=x at *
  obtain ⟨i,hci⟩:∃ i:Nat,h.cell=(i:Int):=⟨h.cell.toNat,by omega⟩
  have hi:i<c.cells.length:=by omega
  have hi0:(0:Int)≤(i:Int):=by omega
  have hi1:(i:Int)<(c.cells.length:Int):=by omega
  have hne:=h1.ne h2
  obtain ⟨a2,q2,rfl,_⟩:=h2.seg
  obtain ⟨g,q1,rfl,hlo1,hlt,hcell,hfr⟩:=h1.open1 hi
  have O1:=Lib.hid h1
  have O2:=Lib.hid h2
  have lg0:g<w.heap.size+1:=by omega
  have lg1:g<w.heap.size+1+1:=by omega
  have lg2:g<w.heap.size+1+1+1:=by omega
  have ng0:g≠w.heap.size:=by omega
  have ng1:g≠w.heap.size+1:=by omega
  have ng2:g≠w.heap.size+1+1:=by omega
  have ng3:g≠w.heap.size+1+1+1:=by omega
  have mg0:w.heap.size≠g:=by omega
  have mg1:w.heap.size+1≠g:=by omega
  have mg2:w.heap.size+1+1≠g:=by omega
  have mg3:w.heap.size+1+1+1≠g:=by omega
  have hx:Hid (cellAt c h.cell=c.cells.getD i ⟨0,0,0⟩):=by simp [cellAt,Hid,hci]
  have c0:=hcell 0 (by omega)
  have c1:=hcell 1 (by omega)
  have c2:=hcell 2 (by omega)
  simp only [C3.val,Nat.add_zero] at c0 c1 c2
  have ex:=hx.out
  rw [ex] at T0
  clear hxx hx ex hcell h1 h2
  generalize c.cells.getD i ⟨0,0,0⟩=x0 at *
  obtain ⟨ss,e,t⟩:=x0
  simp only at T0 c0 c1 c2
  have T:=Lib.hid T0
  clear T0
  have o1:=O1.out
  have o2:=O2.out
  have HCI:=Lib.hid hci
  clear hci hc0 hc1
  go_enter Tryz.func134,Tryz.ntmps134
  go_upto_region 11 with fail
  refine wp_region_inv [[],[],[1],[],[3],[1,2,3,4],[1,2,3,4,5],[1,2,3,4,5,6],[],[8],[],[10],qB [8,9,10,11],qB [8,9,10,11,12],qB [8,9,10,11,12],qB [8,9,10,11,12],qB [8,9,10,11,12,13],qB [8,9,10,11,12,14],qB [8,9,10,11,12,15]] [43,44,45,46,47,48,49,50,51,52,53,54,55,56,57,58,6] (fun l s wx=>(Onl (Value.slice (some ⟨g,0,none⟩) c.cells.length q1).ownBlock (Value.slice a2 c.words.length q2).ownBlock w wx)∧(w.heap.size+1+1+1+1≤wx.heap.size)∧(hp wx w.heap.size=some (.cells (cvals c (.slice (some ⟨g,0,none⟩) c.cells.length q1) (.slice a2 c.words.length q2)) 34))∧(hp wx (w.heap.size+1)=some (.cells (hvals h) 70))∧(hp wx (w.heap.size+1+1)=some (.cells (cond (l 16) (cvals x.1 (s 1003) (s 1004)) (cvals Ch.zero (.slice none 0 0) (.slice none 0 0))) 34))∧(hp wx (w.heap.size+1+1+1)=some (.cells (cond (l 17) (hvals x.2.1) (hvals Ha.zero)) 70))∧(l 12=false→OCells wx lo (.slice (some ⟨g,0,none⟩) c.cells.length q1) c.cells)∧(l 12=false→OInts wx lo (.slice a2 c.words.length q2) c.words)∧(l 12=false→Below w.heap.size w wx)∧(l 0=true→s 43=.agg (cvals c (.slice (some ⟨g,0,none⟩) c.cells.length q1) (.slice a2 c.words.length q2)))∧(l 1=true→s 44=.pointer (some ⟨w.heap.size,4,none⟩))∧(l 2=true→s 45=.slice (some ⟨g,0,none⟩) c.cells.length q1)∧(l 3=true→s 46=.pointer (some ⟨w.heap.size+1,3,none⟩))∧(l 4=true→s 47=.int .i64 i)∧(l 5=true→s 48=.pointer (some ⟨g,i*3,none⟩))∧(l 6=true→s 49=.pointer (some ⟨g,i*3+2,none⟩))∧(l 7=true→s 50=.int .i64 t)∧(l 8=true→s 51=.agg (hvals h))∧(l 9=true→s 52=.agg (hvals ({ h with pos:=13 })))∧(l 10=true→s 53=.agg (hvals h))∧(l 11=true→s 54=.agg (hvals ({ h with pos:=10 })))∧(l 12=true→s 55=.tuple #[.agg (cvals x.1 (s 1003) (s 1004)),.agg (hvals x.2.1),.bool x.2.2]∧OCells wx lo (s 1003) x.1.cells∧OInts wx lo (s 1004) x.1.words∧Fresh w (.slice (some ⟨g,0,none⟩) c.cells.length q1) (s 1003)∧Fresh w (.slice a2 c.words.length q2) (s 1004))∧(l 13=true→s 56=.agg (cvals x.1 (s 1003) (s 1004)))∧(l 14=true→s 57=.agg (hvals x.2.1))∧(l 15=true→s 58=.bool x.2.2)∧(l 18=true→s 6=.bool x.2.2)) (by kernel_rfl) (by kernel_rfl) (by kernel_rfl) (fun s=>by (simp only [fill,fillA,List.setIfInBounds_toArray,List.set_cons_zero,List.set_cons_succ];rfl)) (fun s=>⟨onlB (by exact zB),by simp,by simp [go_sem, *],by simp [go_sem, *],by simp [go_sem, *],by simp [go_sem, *],fun _=>by exact zO o1 o1,fun _=>by exact zO o2 o2,fun _=>by exact zB,nB,nB,nB,nB,nB,nB,nB,nB,nB,nB,nB,nB,nB,nB,nB,nB,nB⟩) ?_ ?_
  refine ⟨?_,?_,?_,?_,?_,?_,?_,?_,?_,?_,?_,?_,?_,?_,?_,?_,?_,?_,?_,trivial⟩;rotate_left 19
  · intro l s wx hall hf
    have hO:=hf.1
    have z1:=hf.2.2.2.2.1
    have z2:=(jC hf).2.1
    rw [hall 16 rfl] at z1
    rw [hall 17 rfl] at z2
    dsimp only [cond] at z1 z2
    obtain ⟨_,X1,X2,F1,F2⟩:=((jC (jE hf)).2.1 (hall 12 rfl))
    have ec:=((jD (jE hf)).2 (hall 18 rfl))
    simp only [ec]
    clear ec hf hall
    go_wp2
    exact bodyPost_ret (res_cct Tryz.results134 rfl (ldChan x.1 _ _ z1) rfl (ldHand x.2.1 z2)) rfl ⟨⟨_,_,rfl,X1,X2,F1,F2⟩,hO⟩
  · intro l s wx hl hd hn hf0 K hK
    have hf:=Lib.hid hf0
    clear hf0
    have zc:=hf.out.2.2.1
    go_simp
    refine hK.out (upd s 43 (.agg (cvals c (.slice (some ⟨g,0,none⟩) c.cells.length q1) (.slice a2 c.words.length q2)))) _ _ (by simp [upd_at] <;> rfl) (kD (kA (kX (fun _=>rfl) id)) hf.out)
  · intro l s wx hl hd hn hf0 K hK
    have hf:=Lib.hid hf0
    clear hf0
    go_simp
    refine hK.out (upd s 44 (.pointer (some ⟨w.heap.size,4,none⟩))) _ _ (by simp [upd_at] <;> rfl) (kD (kB (kX (fun _=>rfl) id)) hf.out)
  · intro l s wx hl hd hn hf0 K hK
    have hf:=Lib.hid hf0
    clear hf0
    have e1:=((jD hf.out).2.2.1 (hd 1 rfl))
    have zc:=hf.out.2.2.1
    have q:=(bO zc).1 4
    go_simp
    refine hK.out (upd s 45 (.slice (some ⟨g,0,none⟩) c.cells.length q1)) _ _ (by simp [upd_at,e1] <;> rfl) (kD (kB (kA (kX (fun _=>rfl) id))) hf.out)
  · intro l s wx hl hd hn hf0 K hK
    have hf:=Lib.hid hf0
    clear hf0
    go_simp
    refine hK.out (upd s 46 (.pointer (some ⟨w.heap.size+1,3,none⟩))) _ _ (by simp [upd_at] <;> rfl) (kD (kC (kX (fun _=>rfl) id)) hf.out)
  · intro l s wx hl hd hn hf0 K hK
    have hf:=Lib.hid hf0
    clear hf0
    have e3:=((jC (jD hf.out)).1 (hd 3 rfl))
    have zh:=hf.out.2.2.2.1
    have q:wx.cell? ⟨w.heap.size+1,3,none⟩=some (.int .i64 i):=by rw [← HCI.out];exact (bO zh).1 3
    go_simp
    refine hK.out (upd s 47 (.int .i64 i)) _ _ (by simp [upd_at,e3] <;> rfl) (kD (kC (kA (kX (fun _=>rfl) id))) hf.out)
  · intro l s wx hl hd hn hf0 K hK
    have hf:=Lib.hid hf0
    clear hf0
    have e2:=((jD hf.out).2.2.2.1 (hd 2 rfl))
    have e4:=((jC (jD hf.out)).2.1 (hd 4 rfl))
    go_simp
    refine hK.out (upd s 48 (.pointer (some ⟨g,i*3,none⟩))) _ _ (by simp [upd_at,e2,e4] <;> rfl) (kD (kC (kB (kX (fun _=>rfl) id))) hf.out)
  · intro l s wx hl hd hn hf0 K hK
    have hf:=Lib.hid hf0
    clear hf0
    have e5:=((jC (jD hf.out)).2.2.1 (hd 5 rfl))
    go_simp
    refine hK.out (upd s 49 (.pointer (some ⟨g,i*3+2,none⟩))) _ _ (by simp [upd_at,e5] <;> rfl) (kD (kC (kB (kA (kX (fun _=>rfl) id)))) hf.out)
  · intro l s wx hl hd hn hf0 K hK
    have hf:=Lib.hid hf0
    clear hf0
    have e6:=((jC (jD hf.out)).2.2.2.1 (hd 6 rfl))
    have hcl:=(jD hf.out).1 (hn 12 rfl)
    have y0:=(hcl.cell (p:=⟨g,i*3+2,none⟩) hlt).trans c2
    go_simp
    refine hK.out (upd s 50 (.int .i64 t)) _ _ (by simp [upd_at,e6] <;> rfl) (kE (kX (fun _=>rfl) id) hf.out)
  · intro l s wx hl hd hn hf0 K hK
    have hf:=Lib.hid hf0
    clear hf0
    have zh:=hf.out.2.2.2.1
    go_simp
    refine hK.out (upd s 51 (.agg (hvals h))) _ _ (by simp [upd_at] <;> rfl) (kE (kA (kX (fun _=>rfl) id)) hf.out)
  · intro l s wx hl hd hn hf0 K hK
    have hf:=Lib.hid hf0
    clear hf0
    have e8:=((jE hf.out).2.1 (hd 8 rfl))
    go_simp
    go_at_call 133
    refine (moved_any h 13 _).mono ?_
    rintro _ wy ⟨rfl,hE⟩
    refine hK.out (upd s 52 (.agg (hvals ({ h with pos:=13 })))) _ _ (by simp [upd_at,e8] <;> rfl) (kX (onlT hf.out.1 (onlB hE)) (kX (Nat.le_trans hf.out.2.1 (Below.size hE)) (kX (hpS hf.out.2.2.1 hE) (kX (hpS hf.out.2.2.2.1 hE) (kX (hpS hf.out.2.2.2.2.1 hE) (kX (hpS (jC hf.out).2.1 hE) (kX (fun h9=>own_below ((jC hf.out).2.2.1 h9) hE) (kX (fun h9=>own_below ((jC hf.out).2.2.2.1 h9) hE) (kX (fun h9=>bT ((jD hf.out).1 h9) hE) (kD (kA (kX (fun _=>rfl) (kB (kX (nU (hn 12 rfl)) (kX (nU (hn 13 rfl)) (kX (nU (hn 14 rfl)) (kX (nU (hn 15 rfl)) (fun _=>nU (hn 18 rfl)))))))))))))))))) hf.out)
  · intro l s wx hl hd hn hf0 K hK
    have hf:=Lib.hid hf0
    clear hf0
    have zh:=hf.out.2.2.2.1
    go_simp
    refine hK.out (upd s 53 (.agg (hvals h))) _ _ (by simp [upd_at] <;> rfl) (kE (kB (kA (kX (fun _=>rfl) id))) hf.out)
  · intro l s wx hl hd hn hf0 K hK
    have hf:=Lib.hid hf0
    clear hf0
    have e10:=((jE hf.out).2.2.2.1 (hd 10 rfl))
    go_simp
    go_at_call 133
    refine (moved_any h 10 _).mono ?_
    rintro _ wy ⟨rfl,hE⟩
    refine hK.out (upd s 54 (.agg (hvals ({ h with pos:=10 })))) _ _ (by simp [upd_at,e10] <;> rfl) (kX (onlT hf.out.1 (onlB hE)) (kX (Nat.le_trans hf.out.2.1 (Below.size hE)) (kX (hpS hf.out.2.2.1 hE) (kX (hpS hf.out.2.2.2.1 hE) (kX (hpS hf.out.2.2.2.2.1 hE) (kX (hpS (jC hf.out).2.1 hE) (kX (fun h9=>own_below ((jC hf.out).2.2.1 h9) hE) (kX (fun h9=>own_below ((jC hf.out).2.2.2.1 h9) hE) (kX (fun h9=>bT ((jD hf.out).1 h9) hE) (kD (kB (kA (kX (fun _=>rfl) (kX (nU (hn 12 rfl)) (kX (nU (hn 13 rfl)) (kX (nU (hn 14 rfl)) (kX (nU (hn 15 rfl)) (fun _=>nU (hn 18 rfl)))))))))))))))))) hf.out)
  · intro l s wx hl hd hn hf0 K hK
    have hf:=Lib.hid hf0
    clear hf0
    have e0:=((jD hf.out).2.1 (hd 0 rfl))
    have e7:=((jE hf.out).1 (hd 7 rfl))
    have e9:=((jE hf.out).2.2.1 (hd 9 rfl))
    have e11:=((jC (jE hf.out)).1 (hd 11 rfl))
    go_simp
    go_at_call 143
    refine (T.out _ ((jC hf.out).2.2.1 hl) ((jC hf.out).2.2.2.1 hl)).mono ?_
    rintro _ wy ⟨⟨y1,y2,rfl,X1,X2,F1,F2⟩,hO⟩
    refine hK.out (upd (upd (upd s 1003 (y1)) 1004 (y2)) 55 (.tuple #[.agg (cvals x.1 y1 y2),.agg (hvals x.2.1),.bool x.2.2])) _ _ (by simp [upd_at,e0,e7,e9,e11] <;> rfl) (kX (onlT hf.out.1 hO) (kX (Nat.le_trans hf.out.2.1 hO.2.2.2.1) (kX (hp_onl hf.out.2.2.1 hO ((jC hf.out).2.2.1 hl) ((jC hf.out).2.2.2.1 hl) (by decide) (by decide)) (kX (hp_onl hf.out.2.2.2.1 hO ((jC hf.out).2.2.1 hl) ((jC hf.out).2.2.2.1 hl) (by decide) (by decide)) (kX (by (have ee:l 16=false:=hn 16 rfl);(have F:=hf.out.2.2.2.2.1);rw [ee] at F;rw [show upd l 12 true 16=false from ee];exact hp_onl F hO ((jC hf.out).2.2.1 hl) ((jC hf.out).2.2.2.1 hl) (by decide) (by decide)) (kX (by (have ee:l 17=false:=hn 17 rfl);(have F:=(jC hf.out).2.1);rw [ee] at F;rw [show upd l 12 true 17=false from ee];exact hp_onl F hO ((jC hf.out).2.2.1 hl) ((jC hf.out).2.2.2.1 hl) (by decide) (by decide)) (kX (fun h9=>nU h9 (show upd l 12 true 12=true from rfl)) (kX (fun h9=>nU h9 (show upd l 12 true 12=true from rfl)) (kX (fun h9=>nU h9 (show upd l 12 true 12=true from rfl)) (kD (kC (kX (fun _=>⟨rfl,X1,X2,fun j hj=>(F1 j hj).imp id (fun h=>Nat.le_trans hf.out.1.2.2.2.1 h),fun j hj=>(F2 j hj).imp id (fun h=>Nat.le_trans hf.out.1.2.2.2.1 h)⟩) (kX (nU (hn 13 rfl)) (kX (nU (hn 14 rfl)) (kX (nU (hn 15 rfl)) (fun _=>nU (hn 18 rfl)))))))))))))))) hf.out)
  · intro l s wx hl hd hn hf0 K hK
    have hf:=Lib.hid hf0
    clear hf0
    have e12:=((jC (jE hf.out)).2.1 (hd 12 rfl)).1
    go_simp
    refine hK.out (upd s 56 (.agg (cvals x.1 (s 1003) (s 1004)))) _ _ (by simp [upd_at,e12] <;> rfl) (kE (kC (kB (kX (fun _=>rfl) id))) hf.out)
  · intro l s wx hl hd hn hf0 K hK
    have hf:=Lib.hid hf0
    clear hf0
    have e12:=((jC (jE hf.out)).2.1 (hd 12 rfl)).1
    go_simp
    refine hK.out (upd s 57 (.agg (hvals x.2.1))) _ _ (by simp [upd_at,e12] <;> rfl) (kE (kC (kB (kA (kX (fun _=>rfl) id)))) hf.out)
  · intro l s wx hl hd hn hf0 K hK
    have hf:=Lib.hid hf0
    clear hf0
    have e12:=((jC (jE hf.out)).2.1 (hd 12 rfl)).1
    go_simp
    refine hK.out (upd s 58 (.bool x.2.2)) _ _ (by simp [upd_at,e12] <;> rfl) (kE (kD (kX (fun _=>rfl) id)) hf.out)
  · intro l s wx hl hd hn hf0 K hK
    have hf:=Lib.hid hf0
    clear hf0
    have e13:=((jC (jE hf.out)).2.2.1 (hd 13 rfl))
    have e12:=((jC (jE hf.out)).2.1 (hd 12 rfl))
    have X1:=e12.2.1
    have X2:=e12.2.2.1
    clear e12
    have zr:=hf.out.2.2.2.2.1
    rw [hl] at zr
    dsimp only [cond] at zr
    obtain ⟨xa,xp,ea,_⟩:=X1.seg
    obtain ⟨xb,xq,eb2,_⟩:=X2.seg
    rw [ea,eb2] at e13
    have zn:hp (setBox wx (w.heap.size+1+1) (cvals x.1 (.slice xa x.1.cells.length xp) (.slice xb x.1.words.length xq))) (w.heap.size+1+1)=some (.cells (cvals x.1 (s 1003) (s 1004)) 34):=by rw [ea,eb2];exact hp_set zr
    have hO:=hf.out.1
    go_simp
    refine hK.out (s) _ _ (by simp [upd_at,e13,ea,eb2] <;> rfl) (kX (oX hO (by omega)) (kX (Nat.le_trans hf.out.2.1 (Nat.le_of_eq bx_size.symm)) (kX ((bx_heap_ne (by omega)).trans hf.out.2.2.1) (kX ((bx_heap_ne (by omega)).trans hf.out.2.2.2.1) (kX (zn) (kX ((bx_heap_ne (by omega)).trans (jC hf.out).2.1) (kX (fun h9=>nU h9 (show upd l 16 true 12=true from hd 12 rfl)) (kX (fun h9=>nU h9 (show upd l 16 true 12=true from hd 12 rfl)) (kX (fun h9=>nU h9 (show upd l 16 true 12=true from hd 12 rfl)) (kD (kC (kX (fun h=>(let ⟨e,X1,X2,F1,F2⟩:=(jC (jE hf.out)).2.1 h;⟨e,own_far X1 zr (by decide),own_far X2 zr (by decide),F1,F2⟩)) id))))))))))) hf.out)
  · intro l s wx hl hd hn hf0 K hK
    have hf:=Lib.hid hf0
    clear hf0
    have e14:=((jC (jE hf.out)).2.2.2.1 (hd 14 rfl))
    have e12:=((jC (jE hf.out)).2.1 (hd 12 rfl))
    have X1:=e12.2.1
    have X2:=e12.2.2.1
    clear e12
    have zr:=(jC hf.out).2.1
    rw [hl] at zr
    dsimp only [cond] at zr
    have zn:hp (setBox wx (w.heap.size+1+1+1) (hvals x.2.1)) (w.heap.size+1+1+1)=some (.cells (hvals x.2.1) 70):=by exact hp_set zr
    have hO:=hf.out.1
    go_simp
    refine hK.out (s) _ _ (by simp [upd_at,e14] <;> rfl) (kX (oX hO (by omega)) (kX (Nat.le_trans hf.out.2.1 (Nat.le_of_eq bx_size.symm)) (kX ((bx_heap_ne (by omega)).trans hf.out.2.2.1) (kX ((bx_heap_ne (by omega)).trans hf.out.2.2.2.1) (kX ((bx_heap_ne (by omega)).trans hf.out.2.2.2.2.1) (kX (zn) (kX (fun h9=>nU h9 (show upd l 17 true 12=true from hd 12 rfl)) (kX (fun h9=>nU h9 (show upd l 17 true 12=true from hd 12 rfl)) (kX (fun h9=>nU h9 (show upd l 17 true 12=true from hd 12 rfl)) (kD (kC (kX (fun h=>(let ⟨e,X1,X2,F1,F2⟩:=(jC (jE hf.out)).2.1 h;⟨e,own_far X1 zr (by decide),own_far X2 zr (by decide),F1,F2⟩)) id))))))))))) hf.out)
  · intro l s wx hl hd hn hf0 K hK
    have hf:=Lib.hid hf0
    clear hf0
    have e15:=((jD (jE hf.out)).1 (hd 15 rfl))
    go_simp
    refine hK.out (upd s 6 (.bool x.2.2)) _ _ (by simp [upd_at,e15] <;> rfl) (kE (kD (kA (fun _=>fun _=>rfl))) hf.out)
set_option maxRecDepth 100000 in
set_option maxHeartbeats 2000000 in
theorem recvTake_no (c:Ch) (h:Ha) (v1 v2:Value) (lo:Nat) (w:World) (h1:OCells w lo v1 c.cells) (h2:OInts w lo v2 c.words) (hs0:(h.seen == 0)=false) (hs1:(h.seen == 1)=false) (hs2:(h.seen == 2)=false) (hs3:(h.seen == 3)=false) :
    Calls Tryz.prog 134 #[.agg (cvals c v1 v2),.agg (hvals h)] w fun r w'=>StepO w w' lo v1 v2 (nothing) r:=by
  have T:=Lib.hid fun W=>refused_any W lo v1 v2
  generalize nothing=x at *
  have b1:=fun j (hj:v1.ownBlock=some j)=>(h1.lt j hj).2
  have b2:=fun j (hj:v2.ownBlock=some j)=>(h2.lt j hj).2
  have m1:∀ j,w.heap.size≤j→some j≠v1.ownBlock:=fun j hj e=>by have:=b1 _ e.symm;omega
  have m2:∀ j,w.heap.size≤j→some j≠v2.ownBlock:=fun j hj e=>by have:=b2 _ e.symm;omega
  have m10:=m1 (w.heap.size) (by omega)
  have m20:=m2 (w.heap.size) (by omega)
  have m11:=m1 (w.heap.size+1) (by omega)
  have m21:=m2 (w.heap.size+1) (by omega)
  have m12:=m1 (w.heap.size+1+1) (by omega)
  have m22:=m2 (w.heap.size+1+1) (by omega)
  have m13:=m1 (w.heap.size+1+1+1) (by omega)
  have m23:=m2 (w.heap.size+1+1+1) (by omega)
  have o1:=h1
  have o2:=h2
  obtain ⟨a1,q1,e1,_⟩:=h1.seg
  obtain ⟨a2,q2,e2,_⟩:=h2.seg
  subst e1 e2
  clear h1 h2
  go_enter Tryz.func134,Tryz.ntmps134
  go_wp2_with fail
  refine (T.out _).mono ?_
  rintro _ w3 ⟨⟨y1,y2,rfl,oY1,oY2,fY1,fY2⟩,hbw3⟩
  have hO3:Onl (Value.slice a1 c.cells.length q1).ownBlock (Value.slice a2 c.words.length q2).ownBlock w w3:=onlT (onlB (by exact zB)) (onlB hbw3)
  have hsw3:=hbw3.size;(try simp at hsw3);have zz:=q4 hbw3 (b:=w.heap.size);(try simp [go_sem] at zz);(try clear z_wppp x_wppp f_wppp l_wppp);(try clear z_wpp x_wpp f_wpp l_wpp);(try clear z_wp x_wp f_wp l_wp);(try clear z_w x_w f_w l_w);obtain ⟨z_wppp,z_wpp,z_wp,z_w⟩:=zz;obtain ⟨x_wppp,f_wppp,l_wppp⟩:=bO z_wppp;obtain ⟨x_wpp,f_wpp,l_wpp⟩:=bO z_wpp;obtain ⟨x_wp,f_wp,l_wp⟩:=bO z_wp;obtain ⟨x_w,f_w,l_w⟩:=bO z_w;clear hbw3
  have hoff1:∀ j,w.heap.size≤j→j<w.heap.size+1+1+1+1→y1.ownBlock≠some j:=fun j h1 h2=>fY1.off b1 h1 (by (try simp) <;> omega);have hoff2:∀ j,w.heap.size≤j→j<w.heap.size+1+1+1+1→y2.ownBlock≠some j:=fun j h1 h2=>fY2.off b2 h1 (by (try simp) <;> omega);have fr1:Fresh w _ y1:=fun j hj=>(fY1 j hj).imp id (fun h=>Nat.le_trans (by (try simp) <;> omega) h);have fr2:Fresh w _ y2:=fun j hj=>(fY2 j hj).imp id (fun h=>Nat.le_trans (by (try simp) <;> omega) h);obtain ⟨ya,yp,rfl,_⟩:=oY1.seg;obtain ⟨yb,yq,rfl,_⟩:=oY2.seg
  go_wp2
  refine bodyPost_ret (res_cct Tryz.results134 rfl (ldChan x.1 (.slice ya x.1.cells.length yp) (.slice yb x.1.words.length yq) (by simp [go_sem, *])) rfl (ldHand x.2.1 (by simp [go_sem, *]))) rfl ⟨⟨_,_,rfl,?_,?_,fr1,fr2⟩,by (repeat (first|with_reducible assumption|with_reducible refine oA ?_|with_reducible refine oD ?_|((with_reducible refine oX ?_ ?_);rotate_left;(focus ((try dsimp only);(try simp);(try omega))))|((with_reducible refine oS ?_ ?_);rotate_left;(focus ((try dsimp only);(try simp);(try omega))))))⟩
  · exact zP oY1 oY1 hoff1
  · exact zP oY2 oY2 hoff2
end Go.Proofs.YtmnpgkcdfielbaaGreat
