/-
  Steps of parking of the reference model, all cases, on hands and channels that are kept whole; lists lie in memory and hold at most 2 ^ 40 elements.
  Steps of growing of the reference model, on hands and channels that are kept whole; lists lie in memory and hold at most 2 ^ 40 elements.
  More steps of growing of the reference model, on hands and channels that are kept whole; lists lie in memory and hold at most 2 ^ 40 elements.
  The beginning of growing, of the reference model, on hands and channels that are kept whole; lists lie in memory and hold at most 2 ^ 40 elements.
  Pulling a cell in chapter 8 of the reference model, on hands and channels that are kept whole; lists lie in memory and hold at most 2 ^ 40 elements.
-/
import Derived.Test.YtlfcgeoifmnjnaaP11
import Derived.Test.YtlfcgeoifmnjnaaP09
import Derived.Test.YtlfcgeoifmnjnaaP10
import Derived.BigRegion
import Derived.Test.YtlfcgeoifmnjnaaP08
set_option linter.unusedSimpArgs false
set_option linter.unusedVariables false
namespace Go.Proofs.Ytlfcgeoifmnjnaa
open Go.RowKit
set_option linter.unusedSimpArgs false
attribute [local simp] bx_size
attribute [local go_sem ↓] zeroHand zeroChan toLHand toLChan toVHand toVChan storeHand storeChan storeHandC storeChanC
set_option maxRecDepth 100000 in
set_option maxHeartbeats 2000000 in
theorem sPark_24 (c:Ch) (h:Ha) (a b:Option Addr) (p q:Nat) (w:World) (h1:Seg w w.heap.size a c.cells.length 3 (cellF c.cells)) (z1:a=none→p=0) (h2:Seg w w.heap.size b c.words.length 1 (intF c.words)) (z2:b=none→q=0) (hk:stepOk c h 23 25 0=true) (hh:hasW c h.mine=true) (hp0:h.pos=24) (hc:(h.code == 1)=false) :
    Calls Try.prog 62 #[.agg (cvals c (.slice a c.cells.length p) (.slice b c.words.length q)),.agg (hvals h)] w fun r w'=>StepN w w' (parkStep c h) r:=by
  obtain ⟨k1,k2,_,_⟩:=stepOk_yes hk
  obtain ⟨n1,n2⟩:=chan_40 k1
  have m1:c.cells.length≤1099511627776:=by omega
  have m2:c.words.length≤1099511627776:=by omega
  have H1:=Lib.hid h1
  have H2:=Lib.hid h2
  have Z1:=Lib.hid z1
  have Z2:=Lib.hid z2
  obtain ⟨c1,c2⟩:=hand_cell k2
  obtain ⟨i,hci⟩:∃ i:Nat,h.cell=(i:Int):=⟨h.cell.toNat,by omega⟩
  have hi:i<c.cells.length:=by omega
  have e:parkStep c h=done c (resting 2 (cellAt c h.cell).e):=by simp at hc;simp [parkStep,hk,hh,hp0,hc]
  rw [e]
  obtain ⟨bb,bo,rfl,hb,hcell⟩:∃ b' o,a=some ⟨b',o,none⟩∧b'<w.heap.size∧w.cell? ⟨b',o+i*3+1,none⟩=some (.int .i64 (cellAt c h.cell).e):=by
    rcases H1.out with h0|⟨b',o',e,h1,h2⟩
    · omega
    · exact ⟨b',o',e,h1,by simpa [cellF,cellAt,hci,C3.val] using h2 i 1 hi (by omega)⟩
  have D:=Lib.hid fun v1 v2 W=>l6Done_any (c) (resting 2 (cellAt c h.cell).e) v1 v2 w.heap.size W
  generalize done c (resting 2 (cellAt c h.cell).e)=x at *
  generalize (cellAt c h.cell).e=el at *
  clear h1 h2 z1 z2 e k1 k2 n1 n2 c1 c2
  go_enter Try.func62,Try.ntmps62
  go_wp2_with fail;refine bHit w (by (repeat (with_reducible first|assumption|exact bR|refine bA ?_|refine bD ?_|((first|refine bS ?_ ?_|refine bBx ?_ ?_);rotate_left;focus (try simp) <;> (try omega))))) fun bb=>?_;refine (l6Ok_any c h 23 25 0 _ b p q _ ((H1.out.below bb).more bb.size) ((H2.out.below bb).more bb.size)).mono ?_;rintro _ w1 ⟨rfl,hbw1⟩;have hCw1:Below w.heap.size w w1:=bT bb hbw1;have hsw1:=hbw1.size;(try simp at hsw1);have zz:=And.intro (hpB hbw1 (b:=w.heap.size+1+1+1) (by (try simp) <;> omega)) <| And.intro (hpB hbw1 (b:=w.heap.size+1+1) (by (try simp) <;> omega)) <| And.intro (hpB hbw1 (b:=w.heap.size+1) (by (try simp) <;> omega)) <| hpB hbw1 (b:=w.heap.size) (by (try simp) <;> omega);(try simp [go_sem] at zz);(try clear z_wppp x_wppp f_wppp l_wppp);(try clear z_wpp x_wpp f_wpp l_wpp);(try clear z_wp x_wp f_wp l_wp);(try clear z_w x_w f_w l_w);obtain ⟨z_wppp,z_wpp,z_wp,z_w⟩:=zz;obtain ⟨x_wppp,f_wppp,l_wppp⟩:=bO z_wppp;obtain ⟨x_wpp,f_wpp,l_wpp⟩:=bO z_wpp;obtain ⟨x_wp,f_wp,l_wp⟩:=bO z_wp;obtain ⟨x_w,f_w,l_w⟩:=bO z_w;clear hbw1 bb
  rw [hk]
  go_wp2_with fail;refine bHit w (by (repeat (with_reducible first|assumption|exact bR|refine bA ?_|refine bD ?_|((first|refine bS ?_ ?_|refine bBx ?_ ?_);rotate_left;focus (try simp) <;> (try omega))))) fun bb=>?_;refine (wHas_any c h.mine _ _ _ _ _).mono ?_;rintro _ w0 ⟨rfl,hbw0⟩;have hCw0:Below w.heap.size w w0:=bT bb hbw0;have hsw0:=hbw0.size;(try simp at hsw0);have zz:=And.intro (hpB hbw0 (b:=w.heap.size+1+1+1) (by (try simp) <;> omega)) <| And.intro (hpB hbw0 (b:=w.heap.size+1+1) (by (try simp) <;> omega)) <| And.intro (hpB hbw0 (b:=w.heap.size+1) (by (try simp) <;> omega)) <| hpB hbw0 (b:=w.heap.size) (by (try simp) <;> omega);(first|simp [go_sem,z_wppp,z_wpp,z_wp,z_w,l_w,l_wp,l_wpp,l_wppp] at zz|simp [go_sem] at zz|skip);(try clear z_wppp x_wppp f_wppp l_wppp);(try clear z_wpp x_wpp f_wpp l_wpp);(try clear z_wp x_wp f_wp l_wp);(try clear z_w x_w f_w l_w);obtain ⟨z_wppp,z_wpp,z_wp,z_w⟩:=zz;obtain ⟨x_wppp,f_wppp,l_wppp⟩:=bO z_wppp;obtain ⟨x_wpp,f_wpp,l_wpp⟩:=bO z_wpp;obtain ⟨x_wp,f_wp,l_wp⟩:=bO z_wp;obtain ⟨x_w,f_w,l_w⟩:=bO z_w;clear hbw0 bb
  rw [hh]
  go_wp2_with fail;refine bHit w (by (repeat (with_reducible first|assumption|exact bR|refine bA ?_|refine bD ?_|((first|refine bS ?_ ?_|refine bBx ?_ ?_);rotate_left;focus (try simp) <;> (try omega))))) fun bb=>?_;refine (wCopy_any c _ b p q _ ((H1.out.below bb).more bb.size) Z1.out ((H2.out.below bb).more bb.size) Z2.out m1 m2).mono ?_;rintro _ w2 ⟨⟨v1,v2,rfl,o1,o2⟩,hbw2⟩;have hCw2:Below w.heap.size w w2:=bT bb hbw2;have hsw2:=hbw2.size;(try simp at hsw2);have zz:=And.intro (hpB hbw2 (b:=w.heap.size+1+1+1) (by (try simp) <;> omega)) <| And.intro (hpB hbw2 (b:=w.heap.size+1+1) (by (try simp) <;> omega)) <| And.intro (hpB hbw2 (b:=w.heap.size+1) (by (try simp) <;> omega)) <| hpB hbw2 (b:=w.heap.size) (by (try simp) <;> omega);(first|simp [go_sem,z_wppp,z_wpp,z_wp,z_w,l_w,l_wp,l_wpp,l_wppp] at zz|simp [go_sem] at zz|skip);(try clear z_wppp x_wppp f_wppp l_wppp);(try clear z_wpp x_wpp f_wpp l_wpp);(try clear z_wp x_wp f_wp l_wp);(try clear z_w x_w f_w l_w);obtain ⟨z_wppp,z_wpp,z_wp,z_w⟩:=zz;obtain ⟨x_wppp,f_wppp,l_wppp⟩:=bO z_wppp;obtain ⟨x_wpp,f_wpp,l_wpp⟩:=bO z_wpp;obtain ⟨x_wp,f_wp,l_wp⟩:=bO z_wp;obtain ⟨x_w,f_w,l_w⟩:=bO z_w;clear hbw2 bb
  have d1:∀ j,v1.ownBlock=some j→w.heap.size+1+1+1+1≤j:=fun j hj=>by have:=(o1.lt j hj).1;omega
  have d2:∀ j,v2.ownBlock=some j→w.heap.size+1+1+1+1≤j:=fun j hj=>by have:=(o2.lt j hj).1;omega
  have p1:=own_lo (lo':=w.heap.size) o1 (by omega)
  have p2:=own_lo (lo':=w.heap.size) o2 (by omega)
  obtain ⟨a1,q1,rfl,_⟩:=o1.seg
  obtain ⟨a2,q2,rfl,_⟩:=o2.seg
  have k0:w.heap.size<w2.heap.size:=by omega
  have k1:w.heap.size+1<w2.heap.size:=by omega
  have k2:w.heap.size+1+1<w2.heap.size:=by omega
  have k3:w.heap.size+1+1+1<w2.heap.size:=by omega
  have hcell2:=(hCw2.cell (p:=⟨bb,bo+i*3+1,none⟩) hb).trans hcell
  have hi0:(0:Int)≤(i:Int):=by omega
  have hi1:(i:Int)<(c.cells.length:Int):=by omega
  have hbb:bb<w2.heap.size:=by omega
  have hbn:bb≠w2.heap.size:=by omega
  have hbl1:bb<w.heap.size+1:=by omega
  have hbx1:bb≠w.heap.size+1:=by omega
  have hbl2:bb<w.heap.size+1+1:=by omega
  have hbx2:bb≠w.heap.size+1+1:=by omega
  have hbl3:bb<w.heap.size+1+1+1:=by omega
  have hbx3:bb≠w.heap.size+1+1+1:=by omega
  go_wp2_with fail
  go_region_held3 (fun w'=>hp w' w2.heap.size=some (.cells (cvals c (.slice a1 c.cells.length q1) (.slice a2 c.words.length q2)) 54)∧w'.cell? ⟨w.heap.size,4,none⟩=some (.slice (some ⟨bb,bo,none⟩) c.cells.length p)∧w'.cell? ⟨w.heap.size+1,3,none⟩=some (.int .i64 i)∧w'.cell? ⟨bb,bo+i*3+1,none⟩=some (.int .i64 el))
    (first|(simp [*,go_sem]))
    (first|((go_at_call 13;refine bHit w (by (repeat (with_reducible first|assumption|exact bR|refine bA ?_|refine bD ?_|((first|refine bS ?_ ?_|refine bBx ?_ ?_);rotate_left;focus (try simp) <;> (try omega))))) fun bb=>?_;refine bHit w2 (by (repeat (with_reducible first|assumption|exact bR|refine bA ?_|refine bD ?_|((first|refine bS ?_ ?_|refine bBx ?_ ?_);rotate_left;focus (try simp) <;> (try omega))))) fun bk=>?_;refine (sResting_any _ _ _).mono ?_;rintro _ w5 ⟨rfl,hbw5⟩;have hCw5:Below w.heap.size w w5:=bT bb hbw5;have hsw5:=hbw5.size;(try simp at hsw5);have zz:=And.intro (hpB hbw5 (b:=w2.heap.size) (by (try simp) <;> omega)) <| And.intro (hpB hbw5 (b:=w.heap.size+1+1+1) (by (try simp) <;> omega)) <| And.intro (hpB hbw5 (b:=w.heap.size+1+1) (by (try simp) <;> omega)) <| And.intro (hpB hbw5 (b:=w.heap.size+1) (by (try simp) <;> omega)) <| hpB hbw5 (b:=w.heap.size) (by (try simp) <;> omega);(first|simp [go_sem,z_wppp,z_wpp,z_wp,z_w,l_w,l_wp,l_wpp,l_wppp,k0,k1,k2,k3] at zz|simp [go_sem] at zz|skip);(try clear z_w2 x_w2 f_w2 l_w2);(try clear z_wppp x_wppp f_wppp l_wppp);(try clear z_wpp x_wpp f_wpp l_wpp);(try clear z_wp x_wp f_wp l_wp);(try clear z_w x_w f_w l_w);obtain ⟨z_w2,z_wppp,z_wpp,z_wp,z_w⟩:=zz;obtain ⟨x_w2,f_w2,l_w2⟩:=bO z_w2;obtain ⟨x_wppp,f_wppp,l_wppp⟩:=bO z_wppp;obtain ⟨x_wpp,f_wpp,l_wpp⟩:=bO z_wpp;obtain ⟨x_wp,f_wp,l_wp⟩:=bO z_wp;obtain ⟨x_w,f_w,l_w⟩:=bO z_w;have hKw5:Below w2.heap.size w2 w5:=bT bk hbw5;clear hbw5 bb bk);have hcell5:=(hCw5.cell (p:=⟨bb,bo+i*3+1,none⟩) hb).trans hcell;have hbb5:bb<w5.heap.size:=(by omega);have r1:=own_below p1 hKw5;have r2:=own_below p2 hKw5)|((go_at_call 65;refine bHit w (by (repeat (with_reducible first|assumption|exact bR|refine bA ?_|refine bD ?_|((first|refine bS ?_ ?_|refine bBx ?_ ?_);rotate_left;focus (try simp) <;> (try omega))))) fun bb=>?_;refine (D.out _ _ _ (by (repeat first|with_reducible exact r1|with_reducible refine oAl ?_ _|with_reducible refine oDr ?_|((with_reducible first|refine own_store ?_ ?_ _|refine own_box ?_ ?_);rotate_left;focus first|(refine own_ne o1 ?_;(try dsimp only);omega)|(refine own_ne' o1 ?_;(try dsimp only);omega)))) (by (repeat first|with_reducible exact r2|with_reducible refine oAl ?_ _|with_reducible refine oDr ?_|((with_reducible first|refine own_store ?_ ?_ _|refine own_box ?_ ?_);rotate_left;focus first|(refine own_ne o2 ?_;(try dsimp only);omega)|(refine own_ne' o2 ?_;(try dsimp only);omega))))).mono ?_;rintro _ w3 ⟨⟨y1,y2,rfl,oY1,oY2,fY1,fY2⟩,hbw3⟩;have hCw3:Below w.heap.size w w3:=bT bb hbw3;have hsw3:=hbw3.size;(try simp at hsw3);have zz:=And.intro (hpB hbw3 (b:=w2.heap.size) (by (try simp) <;> omega)) <| And.intro (hpB hbw3 (b:=w.heap.size+1+1+1) (by (try simp) <;> omega)) <| And.intro (hpB hbw3 (b:=w.heap.size+1+1) (by (try simp) <;> omega)) <| And.intro (hpB hbw3 (b:=w.heap.size+1) (by (try simp) <;> omega)) <| hpB hbw3 (b:=w.heap.size) (by (try simp) <;> omega);(first|simp [go_sem,z_w2,z_wppp,z_wpp,z_wp,z_w,l_w,l_w2,l_wp,l_wpp,l_wppp,k0,k1,k2,k3] at zz|simp [go_sem,z_wppp,z_wpp,z_wp,z_w,l_w,l_wp,l_wpp,l_wppp,k0,k1,k2,k3] at zz|simp [go_sem] at zz|skip);(try clear z_w2 x_w2 f_w2 l_w2);(try clear z_wppp x_wppp f_wppp l_wppp);(try clear z_wpp x_wpp f_wpp l_wpp);(try clear z_wp x_wp f_wp l_wp);(try clear z_w x_w f_w l_w);obtain ⟨z_w2,z_wppp,z_wpp,z_wp,z_w⟩:=zz;obtain ⟨x_w2,f_w2,l_w2⟩:=bO z_w2;obtain ⟨x_wppp,f_wppp,l_wppp⟩:=bO z_wppp;obtain ⟨x_wpp,f_wpp,l_wpp⟩:=bO z_wpp;obtain ⟨x_wp,f_wp,l_wp⟩:=bO z_wp;obtain ⟨x_w,f_w,l_w⟩:=bO z_w;clear hbw3 bb);have hcell6:=(hCw3.cell (p:=⟨bb,bo+i*3+1,none⟩) hb).trans hcell;have hoff1:∀ j,w.heap.size≤j→j<w.heap.size+1+1+1+1→y1.ownBlock≠some j:=fun j _ h2=>fY1.off2 d1 h2 (by (try simp) <;> omega);have hoff2:∀ j,w.heap.size≤j→j<w.heap.size+1+1+1+1→y2.ownBlock≠some j:=fun j _ h2=>fY2.off2 d2 h2 (by (try simp) <;> omega);have fr1:Fresh w (.slice none 0 0) y1:=fun j hj=>.inr (fY1.up d1 (by (try simp) <;> omega) (by (try simp) <;> omega) j hj);have fr2:Fresh w (.slice none 0 0) y2:=fun j hj=>.inr (fY2.up d2 (by (try simp) <;> omega) (by (try simp) <;> omega) j hj);obtain ⟨ya,yp,rfl,_⟩:=oY1.seg;obtain ⟨yb,yq,rfl,_⟩:=oY2.seg))
  all_goals go_wp2
  all_goals (refine bodyPost_ret (res_cct Try.results62 rfl (ldChan x.1 (.slice ya x.1.cells.length yp) (.slice yb x.1.words.length yq) (by simp [go_sem, *])) rfl (ldHand x.2.1 (by simp [go_sem, *]))) rfl ⟨⟨_,_,rfl,?_,?_,fr1,fr2⟩,by (repeat (with_reducible first|assumption|exact bR|refine bA ?_|refine bD ?_|((first|refine bS ?_ ?_|refine bBx ?_ ?_);rotate_left;focus (try simp) <;> (try omega))))⟩)
  all_goals ((repeat first|with_reducible exact oY1|with_reducible refine oAl ?_ _|with_reducible refine oDr ?_|((with_reducible first|refine own_store ?_ ?_ _|refine own_box ?_ ?_);rotate_left;focus first|(refine own_ne oY1 ?_;(try dsimp only);omega)|(refine own_ne' oY1 ?_;(try dsimp only);omega)|exact hoff1 _ (by (try dsimp only) <;> omega) (by (try dsimp only) <;> omega))))
  all_goals ((repeat first|with_reducible exact oY2|with_reducible refine oAl ?_ _|with_reducible refine oDr ?_|((with_reducible first|refine own_store ?_ ?_ _|refine own_box ?_ ?_);rotate_left;focus first|(refine own_ne oY2 ?_;(try dsimp only);omega)|(refine own_ne' oY2 ?_;(try dsimp only);omega)|exact hoff2 _ (by (try dsimp only) <;> omega) (by (try dsimp only) <;> omega))))
theorem sParkStep_any (c:Ch) (h:Ha) (a b:Option Addr) (p q:Nat) (w:World) (h1:Seg w w.heap.size a c.cells.length 3 (cellF c.cells)) (z1:a=none→p=0) (h2:Seg w w.heap.size b c.words.length 1 (intF c.words)) (z2:b=none→q=0) :
    Calls Try.prog 62 #[.agg (cvals c (.slice a c.cells.length p) (.slice b c.words.length q)),.agg (hvals h)] w fun r w'=>StepN w w' (parkStep c h) r:=by
  cases hk:stepOk c h 23 25 0 with
  | false=>exact sPark_no1 c h a b p q w h1 h2 hk
  | true =>
    cases hh:hasW c h.mine with
    | false=>exact sPark_no2 c h a b p q w h1 h2 hk hh
    | true =>
      obtain ⟨k1,_,k3,k4⟩:=stepOk_yes hk
      have hp:h.pos=23∨h.pos=24∨h.pos=25:=by omega
      rcases hp with hp|hp|hp
      · exact sPark_23 c h a b p q w h1 z1 h2 z2 hk hh hp
      · cases hc:h.code == 1 with
        | true=>exact sPark_no3 c h a b p q w h1 h2 hk hh hp hc
        | false=>exact sPark_24 c h a b p q w h1 z1 h2 z2 hk hh hp hc
      · cases hc:h.code == 1 with
        | true=>exact sPark_25a c h a b p q w h1 z1 h2 z2 hk hh hp hc
        | false=>exact sPark_25b c h a b p q w h1 z1 h2 z2 hk hh hp hc
end Go.Proofs.Ytlfcgeoifmnjnaa
set_option linter.unusedSimpArgs false
set_option linter.unusedVariables false
namespace Go.Proofs.Ytlfcgeoifmnjnaa
open Go.RowKit
set_option linter.unusedSimpArgs false
attribute [local simp] bx_size
attribute [local go_sem ↓] zeroHand zeroChan toLHand toLChan toVHand toVChan storeHand storeChan storeHandC storeChanC
set_option maxRecDepth 100000 in
set_option maxHeartbeats 2000000 in
theorem sGrow_no (c:Ch) (h:Ha) (a b:Option Addr) (p q:Nat) (w:World) (h1:Seg w w.heap.size a c.cells.length 3 (cellF c.cells)) (h2:Seg w w.heap.size b c.words.length 1 (intF c.words)) (hk:stepOk c h 16 22 2=false) :
    Calls Try.prog 61 #[.agg (cvals c (.slice a c.cells.length p) (.slice b c.words.length q)),.agg (hvals h)] w fun r w'=>StepN w w' (growStep c h) r:=by
  have e:growStep c h=nothing:=by simp [growStep,hk]
  rw [e]
  have H1:=Lib.hid h1
  have H2:=Lib.hid h2
  have T:=Lib.hid fun W=>l6None_any W w.heap.size (.slice none 0 0) (.slice none 0 0)
  generalize nothing=x at *
  clear h1 h2 e
  have d1:∀ j,(Value.slice none 0 0).ownBlock=some j→w.heap.size+1+1+1+1≤j:=fun j hj=>by cases hj
  have d2:=d1
  go_enter Try.func61,Try.ntmps61
  go_wp2_with fail;refine bHit w (by (repeat (with_reducible first|assumption|exact bR|refine bA ?_|refine bD ?_|((first|refine bS ?_ ?_|refine bBx ?_ ?_);rotate_left;focus (try simp) <;> (try omega))))) fun bb=>?_;refine (l6Ok_any c h 16 22 2 a b p q _ ((H1.out.below bb).more bb.size) ((H2.out.below bb).more bb.size)).mono ?_;rintro _ w1 ⟨rfl,hbw1⟩;have hCw1:Below w.heap.size w w1:=bT bb hbw1;have hsw1:=hbw1.size;(try simp at hsw1);have zz:=And.intro (hpB hbw1 (b:=w.heap.size+1+1+1) (by (try simp) <;> omega)) <| And.intro (hpB hbw1 (b:=w.heap.size+1+1) (by (try simp) <;> omega)) <| And.intro (hpB hbw1 (b:=w.heap.size+1) (by (try simp) <;> omega)) <| hpB hbw1 (b:=w.heap.size) (by (try simp) <;> omega);(try simp [go_sem] at zz);(try clear z_wppp x_wppp f_wppp l_wppp);(try clear z_wpp x_wpp f_wpp l_wpp);(try clear z_wp x_wp f_wp l_wp);(try clear z_w x_w f_w l_w);obtain ⟨z_wppp,z_wpp,z_wp,z_w⟩:=zz;obtain ⟨x_wppp,f_wppp,l_wppp⟩:=bO z_wppp;obtain ⟨x_wpp,f_wpp,l_wpp⟩:=bO z_wpp;obtain ⟨x_wp,f_wp,l_wp⟩:=bO z_wp;obtain ⟨x_w,f_w,l_w⟩:=bO z_w;clear hbw1 bb
  rw [hk]
  go_wp2_with fail;refine bHit w (by (repeat (with_reducible first|assumption|exact bR|refine bA ?_|refine bD ?_|((first|refine bS ?_ ?_|refine bBx ?_ ?_);rotate_left;focus (try simp) <;> (try omega))))) fun bb=>?_;refine (T.out _).mono ?_;rintro _ w2 ⟨⟨y1,y2,rfl,oY1,oY2,fY1,fY2⟩,hbw2⟩;have hCw2:Below w.heap.size w w2:=bT bb hbw2;have hsw2:=hbw2.size;(try simp at hsw2);have zz:=And.intro (hpB hbw2 (b:=w.heap.size+1+1+1) (by (try simp) <;> omega)) <| And.intro (hpB hbw2 (b:=w.heap.size+1+1) (by (try simp) <;> omega)) <| And.intro (hpB hbw2 (b:=w.heap.size+1) (by (try simp) <;> omega)) <| hpB hbw2 (b:=w.heap.size) (by (try simp) <;> omega);(first|simp [go_sem,z_wppp,z_wpp,z_wp,z_w,l_w,l_wp,l_wpp,l_wppp] at zz|simp [go_sem] at zz|skip);(try clear z_wppp x_wppp f_wppp l_wppp);(try clear z_wpp x_wpp f_wpp l_wpp);(try clear z_wp x_wp f_wp l_wp);(try clear z_w x_w f_w l_w);obtain ⟨z_wppp,z_wpp,z_wp,z_w⟩:=zz;obtain ⟨x_wppp,f_wppp,l_wppp⟩:=bO z_wppp;obtain ⟨x_wpp,f_wpp,l_wpp⟩:=bO z_wpp;obtain ⟨x_wp,f_wp,l_wp⟩:=bO z_wp;obtain ⟨x_w,f_w,l_w⟩:=bO z_w;clear hbw2 bb
  have hoff1:∀ j,w.heap.size≤j→j<w.heap.size+1+1+1+1→y1.ownBlock≠some j:=fun j _ h2=>fY1.off2 d1 h2 (by (try simp) <;> omega);have hoff2:∀ j,w.heap.size≤j→j<w.heap.size+1+1+1+1→y2.ownBlock≠some j:=fun j _ h2=>fY2.off2 d2 h2 (by (try simp) <;> omega);have fr1:Fresh w (.slice none 0 0) y1:=fun j hj=>.inr (fY1.up d1 (by (try simp) <;> omega) (by (try simp) <;> omega) j hj);have fr2:Fresh w (.slice none 0 0) y2:=fun j hj=>.inr (fY2.up d2 (by (try simp) <;> omega) (by (try simp) <;> omega) j hj);obtain ⟨ya,yp,rfl,_⟩:=oY1.seg;obtain ⟨yb,yq,rfl,_⟩:=oY2.seg
  go_wp2
  refine bodyPost_ret (res_cct Try.results61 rfl (ldChan x.1 (.slice ya x.1.cells.length yp) (.slice yb x.1.words.length yq) (by simp [go_sem, *])) rfl (ldHand x.2.1 (by simp [go_sem, *]))) rfl ⟨⟨_,_,rfl,?_,?_,fr1,fr2⟩,by (repeat (with_reducible first|assumption|exact bR|refine bA ?_|refine bD ?_|((first|refine bS ?_ ?_|refine bBx ?_ ?_);rotate_left;focus (try simp) <;> (try omega))))⟩
  · (repeat first|with_reducible exact oY1|with_reducible refine oAl ?_ _|with_reducible refine oDr ?_|((with_reducible first|refine own_store ?_ ?_ _|refine own_box ?_ ?_);rotate_left;focus first|(refine own_ne oY1 ?_;(try dsimp only);omega)|(refine own_ne' oY1 ?_;(try dsimp only);omega)|exact hoff1 _ (by (try dsimp only) <;> omega) (by (try dsimp only) <;> omega)))
  · (repeat first|with_reducible exact oY2|with_reducible refine oAl ?_ _|with_reducible refine oDr ?_|((with_reducible first|refine own_store ?_ ?_ _|refine own_box ?_ ?_);rotate_left;focus first|(refine own_ne oY2 ?_;(try dsimp only);omega)|(refine own_ne' oY2 ?_;(try dsimp only);omega)|exact hoff2 _ (by (try dsimp only) <;> omega) (by (try dsimp only) <;> omega)))
set_option maxRecDepth 100000 in
set_option maxHeartbeats 2000000 in
theorem sGrow_17a (c:Ch) (h:Ha) (a b:Option Addr) (p q:Nat) (w:World) (h1:Seg w w.heap.size a c.cells.length 3 (cellF c.cells)) (z1:a=none→p=0) (h2:Seg w w.heap.size b c.words.length 1 (intF c.words)) (z2:b=none→q=0) (hk:stepOk c h 16 22 2=true) (hp0:h.pos=17) (hs:c.sent≤h.grow) :
    Calls Try.prog 61 #[.agg (cvals c (.slice a c.cells.length p) (.slice b c.words.length q)),.agg (hvals h)] w fun r w'=>StepN w w' (growStep c h) r:=by
  obtain ⟨k1,k2,_,_⟩:=stepOk_yes hk
  obtain ⟨n1,n2⟩:=chan_40 k1
  have m1:c.cells.length≤1099511627776:=by omega
  have m2:c.words.length≤1099511627776:=by omega
  have H1:=Lib.hid h1
  have H2:=Lib.hid h2
  have Z1:=Lib.hid z1
  have Z2:=Lib.hid z2
  have e:growStep c h=done c (grown8 h):=by simp [growStep,hk,hp0,hs]
  rw [e]
  have D:=Lib.hid fun v1 v2 W=>l6Done_any (c) (grown8 h) v1 v2 w.heap.size W
  generalize done c (grown8 h)=x at *
  clear h1 h2 z1 z2 e k1 k2 n1 n2
  go_enter Try.func61,Try.ntmps61
  go_wp2_with fail;refine bHit w (by (repeat (with_reducible first|assumption|exact bR|refine bA ?_|refine bD ?_|((first|refine bS ?_ ?_|refine bBx ?_ ?_);rotate_left;focus (try simp) <;> (try omega))))) fun bb=>?_;refine (l6Ok_any c h 16 22 2 a b p q _ ((H1.out.below bb).more bb.size) ((H2.out.below bb).more bb.size)).mono ?_;rintro _ w1 ⟨rfl,hbw1⟩;have hCw1:Below w.heap.size w w1:=bT bb hbw1;have hsw1:=hbw1.size;(try simp at hsw1);have zz:=And.intro (hpB hbw1 (b:=w.heap.size+1+1+1) (by (try simp) <;> omega)) <| And.intro (hpB hbw1 (b:=w.heap.size+1+1) (by (try simp) <;> omega)) <| And.intro (hpB hbw1 (b:=w.heap.size+1) (by (try simp) <;> omega)) <| hpB hbw1 (b:=w.heap.size) (by (try simp) <;> omega);(try simp [go_sem] at zz);(try clear z_wppp x_wppp f_wppp l_wppp);(try clear z_wpp x_wpp f_wpp l_wpp);(try clear z_wp x_wp f_wp l_wp);(try clear z_w x_w f_w l_w);obtain ⟨z_wppp,z_wpp,z_wp,z_w⟩:=zz;obtain ⟨x_wppp,f_wppp,l_wppp⟩:=bO z_wppp;obtain ⟨x_wpp,f_wpp,l_wpp⟩:=bO z_wpp;obtain ⟨x_wp,f_wp,l_wp⟩:=bO z_wp;obtain ⟨x_w,f_w,l_w⟩:=bO z_w;clear hbw1 bb
  rw [hk]
  go_wp2_with fail;refine bHit w (by (repeat (with_reducible first|assumption|exact bR|refine bA ?_|refine bD ?_|((first|refine bS ?_ ?_|refine bBx ?_ ?_);rotate_left;focus (try simp) <;> (try omega))))) fun bb=>?_;refine (wCopy_any c a b p q _ ((H1.out.below bb).more bb.size) Z1.out ((H2.out.below bb).more bb.size) Z2.out m1 m2).mono ?_;rintro _ w2 ⟨⟨v1,v2,rfl,o1,o2⟩,hbw2⟩;have hCw2:Below w.heap.size w w2:=bT bb hbw2;have hsw2:=hbw2.size;(try simp at hsw2);have zz:=And.intro (hpB hbw2 (b:=w.heap.size+1+1+1) (by (try simp) <;> omega)) <| And.intro (hpB hbw2 (b:=w.heap.size+1+1) (by (try simp) <;> omega)) <| And.intro (hpB hbw2 (b:=w.heap.size+1) (by (try simp) <;> omega)) <| hpB hbw2 (b:=w.heap.size) (by (try simp) <;> omega);(first|simp [go_sem,z_wppp,z_wpp,z_wp,z_w,l_w,l_wp,l_wpp,l_wppp] at zz|simp [go_sem] at zz|skip);(try clear z_wppp x_wppp f_wppp l_wppp);(try clear z_wpp x_wpp f_wpp l_wpp);(try clear z_wp x_wp f_wp l_wp);(try clear z_w x_w f_w l_w);obtain ⟨z_wppp,z_wpp,z_wp,z_w⟩:=zz;obtain ⟨x_wppp,f_wppp,l_wppp⟩:=bO z_wppp;obtain ⟨x_wpp,f_wpp,l_wpp⟩:=bO z_wpp;obtain ⟨x_wp,f_wp,l_wp⟩:=bO z_wp;obtain ⟨x_w,f_w,l_w⟩:=bO z_w;clear hbw2 bb
  have d1:∀ j,v1.ownBlock=some j→w.heap.size+1+1+1+1≤j:=fun j hj=>by have:=(o1.lt j hj).1;omega
  have d2:∀ j,v2.ownBlock=some j→w.heap.size+1+1+1+1≤j:=fun j hj=>by have:=(o2.lt j hj).1;omega
  have p1:=own_lo (lo':=w.heap.size) o1 (by omega)
  have p2:=own_lo (lo':=w.heap.size) o2 (by omega)
  obtain ⟨a1,q1,rfl,_⟩:=o1.seg
  obtain ⟨a2,q2,rfl,_⟩:=o2.seg
  go_wp2_with fail
  go_region_with (first|((go_at_call 76;refine bHit w (by (repeat (with_reducible first|assumption|exact bR|refine bA ?_|refine bD ?_|((first|refine bS ?_ ?_|refine bBx ?_ ?_);rotate_left;focus (try simp) <;> (try omega))))) fun bb=>?_;refine bHit w2 (by (repeat (with_reducible first|assumption|exact bR|refine bA ?_|refine bD ?_|((first|refine bS ?_ ?_|refine bBx ?_ ?_);rotate_left;focus (try simp) <;> (try omega))))) fun bk=>?_;refine (l8Grown_any _ _).mono ?_;rintro _ w5 ⟨rfl,hbw5⟩;have hCw5:Below w.heap.size w w5:=bT bb hbw5;have hsw5:=hbw5.size;(try simp at hsw5);have zz:=And.intro (hpB hbw5 (b:=w2.heap.size) (by (try simp) <;> omega)) <| And.intro (hpB hbw5 (b:=w.heap.size+1+1+1) (by (try simp) <;> omega)) <| And.intro (hpB hbw5 (b:=w.heap.size+1+1) (by (try simp) <;> omega)) <| And.intro (hpB hbw5 (b:=w.heap.size+1) (by (try simp) <;> omega)) <| hpB hbw5 (b:=w.heap.size) (by (try simp) <;> omega);(first|simp [go_sem,z_wppp,z_wpp,z_wp,z_w,l_w,l_wp,l_wpp,l_wppp] at zz|simp [go_sem] at zz|skip);(try clear z_w2 x_w2 f_w2 l_w2);(try clear z_wppp x_wppp f_wppp l_wppp);(try clear z_wpp x_wpp f_wpp l_wpp);(try clear z_wp x_wp f_wp l_wp);(try clear z_w x_w f_w l_w);obtain ⟨z_w2,z_wppp,z_wpp,z_wp,z_w⟩:=zz;obtain ⟨x_w2,f_w2,l_w2⟩:=bO z_w2;obtain ⟨x_wppp,f_wppp,l_wppp⟩:=bO z_wppp;obtain ⟨x_wpp,f_wpp,l_wpp⟩:=bO z_wpp;obtain ⟨x_wp,f_wp,l_wp⟩:=bO z_wp;obtain ⟨x_w,f_w,l_w⟩:=bO z_w;have hKw5:Below w2.heap.size w2 w5:=bT bk hbw5;clear hbw5 bb bk);have r1:=own_below p1 hKw5;have r2:=own_below p2 hKw5)|((go_at_call 65;refine bHit w (by (repeat (with_reducible first|assumption|exact bR|refine bA ?_|refine bD ?_|((first|refine bS ?_ ?_|refine bBx ?_ ?_);rotate_left;focus (try simp) <;> (try omega))))) fun bb=>?_;refine (D.out _ _ _ (by (repeat first|with_reducible exact r1|with_reducible refine oAl ?_ _|with_reducible refine oDr ?_|((with_reducible first|refine own_store ?_ ?_ _|refine own_box ?_ ?_);rotate_left;focus first|(refine own_ne o1 ?_;(try dsimp only);omega)|(refine own_ne' o1 ?_;(try dsimp only);omega)))) (by (repeat first|with_reducible exact r2|with_reducible refine oAl ?_ _|with_reducible refine oDr ?_|((with_reducible first|refine own_store ?_ ?_ _|refine own_box ?_ ?_);rotate_left;focus first|(refine own_ne o2 ?_;(try dsimp only);omega)|(refine own_ne' o2 ?_;(try dsimp only);omega))))).mono ?_;rintro _ w3 ⟨⟨y1,y2,rfl,oY1,oY2,fY1,fY2⟩,hbw3⟩;have hCw3:Below w.heap.size w w3:=bT bb hbw3;have hsw3:=hbw3.size;(try simp at hsw3);have zz:=And.intro (hpB hbw3 (b:=w.heap.size+1+1+1) (by (try simp) <;> omega)) <| And.intro (hpB hbw3 (b:=w.heap.size+1+1) (by (try simp) <;> omega)) <| And.intro (hpB hbw3 (b:=w.heap.size+1) (by (try simp) <;> omega)) <| hpB hbw3 (b:=w.heap.size) (by (try simp) <;> omega);(first|simp [go_sem,z_wppp,z_wpp,z_wp,z_w,l_w,l_wp,l_wpp,l_wppp] at zz|simp [go_sem] at zz|skip);(try clear z_wppp x_wppp f_wppp l_wppp);(try clear z_wpp x_wpp f_wpp l_wpp);(try clear z_wp x_wp f_wp l_wp);(try clear z_w x_w f_w l_w);obtain ⟨z_wppp,z_wpp,z_wp,z_w⟩:=zz;obtain ⟨x_wppp,f_wppp,l_wppp⟩:=bO z_wppp;obtain ⟨x_wpp,f_wpp,l_wpp⟩:=bO z_wpp;obtain ⟨x_wp,f_wp,l_wp⟩:=bO z_wp;obtain ⟨x_w,f_w,l_w⟩:=bO z_w;clear hbw3 bb);have hoff1:∀ j,w.heap.size≤j→j<w.heap.size+1+1+1+1→y1.ownBlock≠some j:=fun j _ h2=>fY1.off2 d1 h2 (by (try simp) <;> omega);have hoff2:∀ j,w.heap.size≤j→j<w.heap.size+1+1+1+1→y2.ownBlock≠some j:=fun j _ h2=>fY2.off2 d2 h2 (by (try simp) <;> omega);have fr1:Fresh w (.slice none 0 0) y1:=fun j hj=>.inr (fY1.up d1 (by (try simp) <;> omega) (by (try simp) <;> omega) j hj);have fr2:Fresh w (.slice none 0 0) y2:=fun j hj=>.inr (fY2.up d2 (by (try simp) <;> omega) (by (try simp) <;> omega) j hj);obtain ⟨ya,yp,rfl,_⟩:=oY1.seg;obtain ⟨yb,yq,rfl,_⟩:=oY2.seg))
  all_goals go_wp2
  all_goals (refine bodyPost_ret (res_cct Try.results61 rfl (ldChan x.1 (.slice ya x.1.cells.length yp) (.slice yb x.1.words.length yq) (by simp [go_sem, *])) rfl (ldHand x.2.1 (by simp [go_sem, *]))) rfl ⟨⟨_,_,rfl,?_,?_,fr1,fr2⟩,by (repeat (with_reducible first|assumption|exact bR|refine bA ?_|refine bD ?_|((first|refine bS ?_ ?_|refine bBx ?_ ?_);rotate_left;focus (try simp) <;> (try omega))))⟩)
  all_goals ((repeat first|with_reducible exact oY1|with_reducible refine oAl ?_ _|with_reducible refine oDr ?_|((with_reducible first|refine own_store ?_ ?_ _|refine own_box ?_ ?_);rotate_left;focus first|(refine own_ne oY1 ?_;(try dsimp only);omega)|(refine own_ne' oY1 ?_;(try dsimp only);omega)|exact hoff1 _ (by (try dsimp only) <;> omega) (by (try dsimp only) <;> omega))))
  all_goals ((repeat first|with_reducible exact oY2|with_reducible refine oAl ?_ _|with_reducible refine oDr ?_|((with_reducible first|refine own_store ?_ ?_ _|refine own_box ?_ ?_);rotate_left;focus first|(refine own_ne oY2 ?_;(try dsimp only);omega)|(refine own_ne' oY2 ?_;(try dsimp only);omega)|exact hoff2 _ (by (try dsimp only) <;> omega) (by (try dsimp only) <;> omega))))
set_option maxRecDepth 100000 in
set_option maxHeartbeats 2000000 in
theorem sGrow_17b (c:Ch) (h:Ha) (a b:Option Addr) (p q:Nat) (w:World) (h1:Seg w w.heap.size a c.cells.length 3 (cellF c.cells)) (z1:a=none→p=0) (h2:Seg w w.heap.size b c.words.length 1 (intF c.words)) (z2:b=none→q=0) (hk:stepOk c h 16 22 2=true) (hp0:h.pos=17) (hs:¬ c.sent≤h.grow) :
    Calls Try.prog 61 #[.agg (cvals c (.slice a c.cells.length p) (.slice b c.words.length q)),.agg (hvals h)] w fun r w'=>StepN w w' (growStep c h) r:=by
  obtain ⟨k1,k2,_,_⟩:=stepOk_yes hk
  obtain ⟨n1,n2⟩:=chan_40 k1
  have m1:c.cells.length≤1099511627776:=by omega
  have m2:c.words.length≤1099511627776:=by omega
  have H1:=Lib.hid h1
  have H2:=Lib.hid h2
  have Z1:=Lib.hid z1
  have Z2:=Lib.hid z2
  have e:growStep c h=done (c) ({ h with pos:=18 }):=by simp [growStep,hk,hp0,hs]
  rw [e]
  have D:=Lib.hid fun v1 v2 W=>l6Done_any (c) ({ h with pos:=18 }) v1 v2 w.heap.size W
  generalize done (c) ({ h with pos:=18 })=x at *
  clear h1 h2 z1 z2 e k1 k2 n1 n2
  go_enter Try.func61,Try.ntmps61
  go_wp2_with fail;refine bHit w (by (repeat (with_reducible first|assumption|exact bR|refine bA ?_|refine bD ?_|((first|refine bS ?_ ?_|refine bBx ?_ ?_);rotate_left;focus (try simp) <;> (try omega))))) fun bb=>?_;refine (l6Ok_any c h 16 22 2 a b p q _ ((H1.out.below bb).more bb.size) ((H2.out.below bb).more bb.size)).mono ?_;rintro _ w1 ⟨rfl,hbw1⟩;have hCw1:Below w.heap.size w w1:=bT bb hbw1;have hsw1:=hbw1.size;(try simp at hsw1);have zz:=And.intro (hpB hbw1 (b:=w.heap.size+1+1+1) (by (try simp) <;> omega)) <| And.intro (hpB hbw1 (b:=w.heap.size+1+1) (by (try simp) <;> omega)) <| And.intro (hpB hbw1 (b:=w.heap.size+1) (by (try simp) <;> omega)) <| hpB hbw1 (b:=w.heap.size) (by (try simp) <;> omega);(try simp [go_sem] at zz);(try clear z_wppp x_wppp f_wppp l_wppp);(try clear z_wpp x_wpp f_wpp l_wpp);(try clear z_wp x_wp f_wp l_wp);(try clear z_w x_w f_w l_w);obtain ⟨z_wppp,z_wpp,z_wp,z_w⟩:=zz;obtain ⟨x_wppp,f_wppp,l_wppp⟩:=bO z_wppp;obtain ⟨x_wpp,f_wpp,l_wpp⟩:=bO z_wpp;obtain ⟨x_wp,f_wp,l_wp⟩:=bO z_wp;obtain ⟨x_w,f_w,l_w⟩:=bO z_w;clear hbw1 bb
  rw [hk]
  go_wp2_with fail;refine bHit w (by (repeat (with_reducible first|assumption|exact bR|refine bA ?_|refine bD ?_|((first|refine bS ?_ ?_|refine bBx ?_ ?_);rotate_left;focus (try simp) <;> (try omega))))) fun bb=>?_;refine (wCopy_any c a b p q _ ((H1.out.below bb).more bb.size) Z1.out ((H2.out.below bb).more bb.size) Z2.out m1 m2).mono ?_;rintro _ w2 ⟨⟨v1,v2,rfl,o1,o2⟩,hbw2⟩;have hCw2:Below w.heap.size w w2:=bT bb hbw2;have hsw2:=hbw2.size;(try simp at hsw2);have zz:=And.intro (hpB hbw2 (b:=w.heap.size+1+1+1) (by (try simp) <;> omega)) <| And.intro (hpB hbw2 (b:=w.heap.size+1+1) (by (try simp) <;> omega)) <| And.intro (hpB hbw2 (b:=w.heap.size+1) (by (try simp) <;> omega)) <| hpB hbw2 (b:=w.heap.size) (by (try simp) <;> omega);(first|simp [go_sem,z_wppp,z_wpp,z_wp,z_w,l_w,l_wp,l_wpp,l_wppp] at zz|simp [go_sem] at zz|skip);(try clear z_wppp x_wppp f_wppp l_wppp);(try clear z_wpp x_wpp f_wpp l_wpp);(try clear z_wp x_wp f_wp l_wp);(try clear z_w x_w f_w l_w);obtain ⟨z_wppp,z_wpp,z_wp,z_w⟩:=zz;obtain ⟨x_wppp,f_wppp,l_wppp⟩:=bO z_wppp;obtain ⟨x_wpp,f_wpp,l_wpp⟩:=bO z_wpp;obtain ⟨x_wp,f_wp,l_wp⟩:=bO z_wp;obtain ⟨x_w,f_w,l_w⟩:=bO z_w;clear hbw2 bb
  have d1:∀ j,v1.ownBlock=some j→w.heap.size+1+1+1+1≤j:=fun j hj=>by have:=(o1.lt j hj).1;omega
  have d2:∀ j,v2.ownBlock=some j→w.heap.size+1+1+1+1≤j:=fun j hj=>by have:=(o2.lt j hj).1;omega
  have p1:=own_lo (lo':=w.heap.size) o1 (by omega)
  have p2:=own_lo (lo':=w.heap.size) o2 (by omega)
  obtain ⟨a1,q1,rfl,_⟩:=o1.seg
  obtain ⟨a2,q2,rfl,_⟩:=o2.seg
  go_wp2_with fail;refine bHit w (by (repeat (with_reducible first|assumption|exact bR|refine bA ?_|refine bD ?_|((first|refine bS ?_ ?_|refine bBx ?_ ?_);rotate_left;focus (try simp) <;> (try omega))))) fun bb=>?_;refine (D.out _ _ _ (by (repeat first|with_reducible exact p1|with_reducible refine oAl ?_ _|with_reducible refine oDr ?_|((with_reducible first|refine own_store ?_ ?_ _|refine own_box ?_ ?_);rotate_left;focus first|(refine own_ne o1 ?_;(try dsimp only);omega)|(refine own_ne' o1 ?_;(try dsimp only);omega)))) (by (repeat first|with_reducible exact p2|with_reducible refine oAl ?_ _|with_reducible refine oDr ?_|((with_reducible first|refine own_store ?_ ?_ _|refine own_box ?_ ?_);rotate_left;focus first|(refine own_ne o2 ?_;(try dsimp only);omega)|(refine own_ne' o2 ?_;(try dsimp only);omega))))).mono ?_;rintro _ w3 ⟨⟨y1,y2,rfl,oY1,oY2,fY1,fY2⟩,hbw3⟩;have hCw3:Below w.heap.size w w3:=bT bb hbw3;have hsw3:=hbw3.size;(try simp at hsw3);have zz:=And.intro (hpB hbw3 (b:=w.heap.size+1+1+1) (by (try simp) <;> omega)) <| And.intro (hpB hbw3 (b:=w.heap.size+1+1) (by (try simp) <;> omega)) <| And.intro (hpB hbw3 (b:=w.heap.size+1) (by (try simp) <;> omega)) <| hpB hbw3 (b:=w.heap.size) (by (try simp) <;> omega);(first|simp [go_sem,z_wppp,z_wpp,z_wp,z_w,l_w,l_wp,l_wpp,l_wppp] at zz|simp [go_sem] at zz|skip);(try clear z_wppp x_wppp f_wppp l_wppp);(try clear z_wpp x_wpp f_wpp l_wpp);(try clear z_wp x_wp f_wp l_wp);(try clear z_w x_w f_w l_w);obtain ⟨z_wppp,z_wpp,z_wp,z_w⟩:=zz;obtain ⟨x_wppp,f_wppp,l_wppp⟩:=bO z_wppp;obtain ⟨x_wpp,f_wpp,l_wpp⟩:=bO z_wpp;obtain ⟨x_wp,f_wp,l_wp⟩:=bO z_wp;obtain ⟨x_w,f_w,l_w⟩:=bO z_w;clear hbw3 bb
  have hoff1:∀ j,w.heap.size≤j→j<w.heap.size+1+1+1+1→y1.ownBlock≠some j:=fun j _ h2=>fY1.off2 d1 h2 (by (try simp) <;> omega);have hoff2:∀ j,w.heap.size≤j→j<w.heap.size+1+1+1+1→y2.ownBlock≠some j:=fun j _ h2=>fY2.off2 d2 h2 (by (try simp) <;> omega);have fr1:Fresh w (.slice none 0 0) y1:=fun j hj=>.inr (fY1.up d1 (by (try simp) <;> omega) (by (try simp) <;> omega) j hj);have fr2:Fresh w (.slice none 0 0) y2:=fun j hj=>.inr (fY2.up d2 (by (try simp) <;> omega) (by (try simp) <;> omega) j hj);obtain ⟨ya,yp,rfl,_⟩:=oY1.seg;obtain ⟨yb,yq,rfl,_⟩:=oY2.seg
  go_wp2
  refine bodyPost_ret (res_cct Try.results61 rfl (ldChan x.1 (.slice ya x.1.cells.length yp) (.slice yb x.1.words.length yq) (by simp [go_sem, *])) rfl (ldHand x.2.1 (by simp [go_sem, *]))) rfl ⟨⟨_,_,rfl,?_,?_,fr1,fr2⟩,by (repeat (with_reducible first|assumption|exact bR|refine bA ?_|refine bD ?_|((first|refine bS ?_ ?_|refine bBx ?_ ?_);rotate_left;focus (try simp) <;> (try omega))))⟩
  · (repeat first|with_reducible exact oY1|with_reducible refine oAl ?_ _|with_reducible refine oDr ?_|((with_reducible first|refine own_store ?_ ?_ _|refine own_box ?_ ?_);rotate_left;focus first|(refine own_ne oY1 ?_;(try dsimp only);omega)|(refine own_ne' oY1 ?_;(try dsimp only);omega)|exact hoff1 _ (by (try dsimp only) <;> omega) (by (try dsimp only) <;> omega)))
  · (repeat first|with_reducible exact oY2|with_reducible refine oAl ?_ _|with_reducible refine oDr ?_|((with_reducible first|refine own_store ?_ ?_ _|refine own_box ?_ ?_);rotate_left;focus first|(refine own_ne oY2 ?_;(try dsimp only);omega)|(refine own_ne' oY2 ?_;(try dsimp only);omega)|exact hoff2 _ (by (try dsimp only) <;> omega) (by (try dsimp only) <;> omega)))
set_option maxRecDepth 100000 in
set_option maxHeartbeats 2000000 in
theorem sGrow_20a (c:Ch) (h:Ha) (a b:Option Addr) (p q:Nat) (w:World) (h1:Seg w w.heap.size a c.cells.length 3 (cellF c.cells)) (z1:a=none→p=0) (h2:Seg w w.heap.size b c.words.length 1 (intF c.words)) (z2:b=none→q=0) (hk:stepOk c h 16 22 2=true) (hp0:h.pos=20) (ht:tellB c h.wait 1=true) :
    Calls Try.prog 61 #[.agg (cvals c (.slice a c.cells.length p) (.slice b c.words.length q)),.agg (hvals h)] w fun r w'=>StepN w w' (growStep c h) r:=by
  obtain ⟨k1,k2,_,_⟩:=stepOk_yes hk
  obtain ⟨n1,n2⟩:=chan_40 k1
  have m1:c.cells.length≤1099511627776:=by omega
  have m2:c.words.length≤1099511627776:=by omega
  have H1:=Lib.hid h1
  have H2:=Lib.hid h2
  have Z1:=Lib.hid z1
  have Z2:=Lib.hid z2
  have e:growStep c h=done (tellC c h.wait 1) ({ h with pos:=21 }):=by simp [growStep,hk,hp0,raise8,ht]
  rw [e]
  have K:=fun a b p q W x1 x2 x3 x4=>wTold_any c h.wait 1 a b p q W x1 x2 x3 x4 m1 m2
  have D:=fun v1 v2 W=>l6Done_any (tellC c h.wait 1) ({ h with pos:=21 }) v1 v2 w.heap.size W
  simp only [tell_ints,tell_cells] at D
  rw [ht] at K
  generalize done (tellC c h.wait 1) ({ h with pos:=21 })=x at *
  generalize (tellC c h.wait 1).words=tw at *
  replace K:=Lib.hid K
  replace D:=Lib.hid D
  clear ht
  clear h1 h2 z1 z2 e k1 k2 n1 n2
  go_enter Try.func61,Try.ntmps61
  go_wp2_with fail;refine bHit w (by (repeat (with_reducible first|assumption|exact bR|refine bA ?_|refine bD ?_|((first|refine bS ?_ ?_|refine bBx ?_ ?_);rotate_left;focus (try simp) <;> (try omega))))) fun bb=>?_;refine (l6Ok_any c h 16 22 2 a b p q _ ((H1.out.below bb).more bb.size) ((H2.out.below bb).more bb.size)).mono ?_;rintro _ w1 ⟨rfl,hbw1⟩;have hCw1:Below w.heap.size w w1:=bT bb hbw1;have hsw1:=hbw1.size;(try simp at hsw1);have zz:=And.intro (hpB hbw1 (b:=w.heap.size+1+1+1) (by (try simp) <;> omega)) <| And.intro (hpB hbw1 (b:=w.heap.size+1+1) (by (try simp) <;> omega)) <| And.intro (hpB hbw1 (b:=w.heap.size+1) (by (try simp) <;> omega)) <| hpB hbw1 (b:=w.heap.size) (by (try simp) <;> omega);(try simp [go_sem] at zz);(try clear z_wppp x_wppp f_wppp l_wppp);(try clear z_wpp x_wpp f_wpp l_wpp);(try clear z_wp x_wp f_wp l_wp);(try clear z_w x_w f_w l_w);obtain ⟨z_wppp,z_wpp,z_wp,z_w⟩:=zz;obtain ⟨x_wppp,f_wppp,l_wppp⟩:=bO z_wppp;obtain ⟨x_wpp,f_wpp,l_wpp⟩:=bO z_wpp;obtain ⟨x_wp,f_wp,l_wp⟩:=bO z_wp;obtain ⟨x_w,f_w,l_w⟩:=bO z_w;clear hbw1 bb
  rw [hk]
  go_wp2_with fail;refine bHit w (by (repeat (with_reducible first|assumption|exact bR|refine bA ?_|refine bD ?_|((first|refine bS ?_ ?_|refine bBx ?_ ?_);rotate_left;focus (try simp) <;> (try omega))))) fun bb=>?_;refine (wCopy_any c a b p q _ ((H1.out.below bb).more bb.size) Z1.out ((H2.out.below bb).more bb.size) Z2.out m1 m2).mono ?_;rintro _ w2 ⟨⟨v1,v2,rfl,o1,o2⟩,hbw2⟩;have hCw2:Below w.heap.size w w2:=bT bb hbw2;have hsw2:=hbw2.size;(try simp at hsw2);have zz:=And.intro (hpB hbw2 (b:=w.heap.size+1+1+1) (by (try simp) <;> omega)) <| And.intro (hpB hbw2 (b:=w.heap.size+1+1) (by (try simp) <;> omega)) <| And.intro (hpB hbw2 (b:=w.heap.size+1) (by (try simp) <;> omega)) <| hpB hbw2 (b:=w.heap.size) (by (try simp) <;> omega);(first|simp [go_sem,z_wppp,z_wpp,z_wp,z_w,l_w,l_wp,l_wpp,l_wppp] at zz|simp [go_sem] at zz|skip);(try clear z_wppp x_wppp f_wppp l_wppp);(try clear z_wpp x_wpp f_wpp l_wpp);(try clear z_wp x_wp f_wp l_wp);(try clear z_w x_w f_w l_w);obtain ⟨z_wppp,z_wpp,z_wp,z_w⟩:=zz;obtain ⟨x_wppp,f_wppp,l_wppp⟩:=bO z_wppp;obtain ⟨x_wpp,f_wpp,l_wpp⟩:=bO z_wpp;obtain ⟨x_wp,f_wp,l_wp⟩:=bO z_wp;obtain ⟨x_w,f_w,l_w⟩:=bO z_w;clear hbw2 bb
  have d1:∀ j,v1.ownBlock=some j→w.heap.size+1+1+1+1≤j:=fun j hj=>by have:=(o1.lt j hj).1;omega
  have d2:∀ j,v2.ownBlock=some j→w.heap.size+1+1+1+1≤j:=fun j hj=>by have:=(o2.lt j hj).1;omega
  have p1:=own_lo (lo':=w.heap.size) o1 (by omega)
  have p2:=own_lo (lo':=w.heap.size) o2 (by omega)
  obtain ⟨a1,q1,rfl,_⟩:=o1.seg
  obtain ⟨a2,q2,rfl,_⟩:=o2.seg
  have k0:w.heap.size<w2.heap.size:=by omega
  have k1:w.heap.size+1<w2.heap.size:=by omega
  have k2:w.heap.size+1+1<w2.heap.size:=by omega
  have k3:w.heap.size+1+1+1<w2.heap.size:=by omega
  go_wp2_with fail;refine bHit w (by (repeat (with_reducible first|assumption|exact bR|refine bA ?_|refine bD ?_|((first|refine bS ?_ ?_|refine bBx ?_ ?_);rotate_left;focus (try simp) <;> (try omega))))) fun bb=>?_;refine bHit w2 (by (repeat (with_reducible first|assumption|exact bR|refine bA ?_|refine bD ?_|((first|refine bS ?_ ?_|refine bBx ?_ ?_);rotate_left;focus (try simp) <;> (try omega))))) fun bk=>?_;refine (K.out _ _ _ _ _ ((H1.out.below bb).more bb.size) Z1.out ((H2.out.below bb).more bb.size) Z2.out).mono ?_;rintro _ w4 ⟨⟨u1,u2,rfl,u3,u4⟩,hbw4⟩;have hCw4:Below w.heap.size w w4:=bT bb hbw4;have hsw4:=hbw4.size;(try simp at hsw4);have zz:=And.intro (hpB hbw4 (b:=w2.heap.size) (by (try simp) <;> omega)) <| And.intro (hpB hbw4 (b:=w.heap.size+1+1+1) (by (try simp) <;> omega)) <| And.intro (hpB hbw4 (b:=w.heap.size+1+1) (by (try simp) <;> omega)) <| And.intro (hpB hbw4 (b:=w.heap.size+1) (by (try simp) <;> omega)) <| hpB hbw4 (b:=w.heap.size) (by (try simp) <;> omega);(first|simp [go_sem,z_wppp,z_wpp,z_wp,z_w,l_w,l_wp,l_wpp,l_wppp,k0,k1,k2,k3] at zz|simp [go_sem] at zz|skip);(try clear z_w2 x_w2 f_w2 l_w2);(try clear z_wppp x_wppp f_wppp l_wppp);(try clear z_wpp x_wpp f_wpp l_wpp);(try clear z_wp x_wp f_wp l_wp);(try clear z_w x_w f_w l_w);obtain ⟨z_w2,z_wppp,z_wpp,z_wp,z_w⟩:=zz;obtain ⟨x_w2,f_w2,l_w2⟩:=bO z_w2;obtain ⟨x_wppp,f_wppp,l_wppp⟩:=bO z_wppp;obtain ⟨x_wpp,f_wpp,l_wpp⟩:=bO z_wpp;obtain ⟨x_wp,f_wp,l_wp⟩:=bO z_wp;obtain ⟨x_w,f_w,l_w⟩:=bO z_w;have hKw4:Below w2.heap.size w2 w4:=bT bk hbw4;clear hbw4 bb bk
  try simp at u3 u4
  have d3:∀ j,u1.ownBlock=some j→w.heap.size+1+1+1+1≤j:=fun j hj=>by have:=(u3.lt j hj).1;omega
  have d4:∀ j,u2.ownBlock=some j→w.heap.size+1+1+1+1≤j:=fun j hj=>by have:=(u4.lt j hj).1;omega
  clear d1 d2
  have d1:=d3
  have d2:=d4
  clear d3 d4
  have s1:=own_lo (lo':=w.heap.size) u3 (by omega)
  have s2:=own_lo (lo':=w.heap.size) u4 (by omega)
  have b3:=fun j (hj:u1.ownBlock=some j)=>(u3.lt j hj).1
  have b4:=fun j (hj:u2.ownBlock=some j)=>(u4.lt j hj).1
  have g3:u1.ownBlock≠some w2.heap.size:=fun e=>by have:=b3 _ e;omega
  have g4:u2.ownBlock≠some w2.heap.size:=fun e=>by have:=b4 _ e;omega
  obtain ⟨ua,up,rfl,_⟩:=u3.seg
  obtain ⟨ub,uq,rfl,_⟩:=u4.seg
  go_wp2_with fail;refine bHit w (by (repeat (with_reducible first|assumption|exact bR|refine bA ?_|refine bD ?_|((first|refine bS ?_ ?_|refine bBx ?_ ?_);rotate_left;focus (try simp) <;> (try omega))))) fun bb=>?_;refine (D.out _ _ _ (by (repeat first|with_reducible exact s1|with_reducible refine oAl ?_ _|with_reducible refine oDr ?_|((with_reducible first|refine own_store ?_ ?_ _|refine own_box ?_ ?_);rotate_left;focus first|(refine own_ne u3 ?_;(try dsimp only);omega)|(refine own_ne' u3 ?_;(try dsimp only);omega)|exact g3))) (by (repeat first|with_reducible exact s2|with_reducible refine oAl ?_ _|with_reducible refine oDr ?_|((with_reducible first|refine own_store ?_ ?_ _|refine own_box ?_ ?_);rotate_left;focus first|(refine own_ne u4 ?_;(try dsimp only);omega)|(refine own_ne' u4 ?_;(try dsimp only);omega)|exact g4)))).mono ?_;rintro _ w3 ⟨⟨y1,y2,rfl,oY1,oY2,fY1,fY2⟩,hbw3⟩;have hCw3:Below w.heap.size w w3:=bT bb hbw3;have hsw3:=hbw3.size;(try simp at hsw3);have zz:=And.intro (hpB hbw3 (b:=w.heap.size+1+1+1) (by (try simp) <;> omega)) <| And.intro (hpB hbw3 (b:=w.heap.size+1+1) (by (try simp) <;> omega)) <| And.intro (hpB hbw3 (b:=w.heap.size+1) (by (try simp) <;> omega)) <| hpB hbw3 (b:=w.heap.size) (by (try simp) <;> omega);(first|simp [go_sem,z_wppp,z_wpp,z_wp,z_w,l_w,l_wp,l_wpp,l_wppp,k0,k1,k2,k3] at zz|simp [go_sem] at zz|skip);(try clear z_wppp x_wppp f_wppp l_wppp);(try clear z_wpp x_wpp f_wpp l_wpp);(try clear z_wp x_wp f_wp l_wp);(try clear z_w x_w f_w l_w);obtain ⟨z_wppp,z_wpp,z_wp,z_w⟩:=zz;obtain ⟨x_wppp,f_wppp,l_wppp⟩:=bO z_wppp;obtain ⟨x_wpp,f_wpp,l_wpp⟩:=bO z_wpp;obtain ⟨x_wp,f_wp,l_wp⟩:=bO z_wp;obtain ⟨x_w,f_w,l_w⟩:=bO z_w;clear hbw3 bb
  have hoff1:∀ j,w.heap.size≤j→j<w.heap.size+1+1+1+1→y1.ownBlock≠some j:=fun j _ h2=>fY1.off2 d1 h2 (by (try simp) <;> omega);have hoff2:∀ j,w.heap.size≤j→j<w.heap.size+1+1+1+1→y2.ownBlock≠some j:=fun j _ h2=>fY2.off2 d2 h2 (by (try simp) <;> omega);have fr1:Fresh w (.slice none 0 0) y1:=fun j hj=>.inr (fY1.up d1 (by (try simp) <;> omega) (by (try simp) <;> omega) j hj);have fr2:Fresh w (.slice none 0 0) y2:=fun j hj=>.inr (fY2.up d2 (by (try simp) <;> omega) (by (try simp) <;> omega) j hj);obtain ⟨ya,yp,rfl,_⟩:=oY1.seg;obtain ⟨yb,yq,rfl,_⟩:=oY2.seg
  go_wp2
  refine bodyPost_ret (res_cct Try.results61 rfl (ldChan x.1 (.slice ya x.1.cells.length yp) (.slice yb x.1.words.length yq) (by simp [go_sem, *])) rfl (ldHand x.2.1 (by simp [go_sem, *]))) rfl ⟨⟨_,_,rfl,?_,?_,fr1,fr2⟩,by (repeat (with_reducible first|assumption|exact bR|refine bA ?_|refine bD ?_|((first|refine bS ?_ ?_|refine bBx ?_ ?_);rotate_left;focus (try simp) <;> (try omega))))⟩
  · (repeat first|with_reducible exact oY1|with_reducible refine oAl ?_ _|with_reducible refine oDr ?_|((with_reducible first|refine own_store ?_ ?_ _|refine own_box ?_ ?_);rotate_left;focus first|(refine own_ne oY1 ?_;(try dsimp only);omega)|(refine own_ne' oY1 ?_;(try dsimp only);omega)|exact hoff1 _ (by (try dsimp only) <;> omega) (by (try dsimp only) <;> omega)))
  · (repeat first|with_reducible exact oY2|with_reducible refine oAl ?_ _|with_reducible refine oDr ?_|((with_reducible first|refine own_store ?_ ?_ _|refine own_box ?_ ?_);rotate_left;focus first|(refine own_ne oY2 ?_;(try dsimp only);omega)|(refine own_ne' oY2 ?_;(try dsimp only);omega)|exact hoff2 _ (by (try dsimp only) <;> omega) (by (try dsimp only) <;> omega)))
set_option maxRecDepth 100000 in
set_option maxHeartbeats 2000000 in
theorem sGrow_20b (c:Ch) (h:Ha) (a b:Option Addr) (p q:Nat) (w:World) (h1:Seg w w.heap.size a c.cells.length 3 (cellF c.cells)) (z1:a=none→p=0) (h2:Seg w w.heap.size b c.words.length 1 (intF c.words)) (z2:b=none→q=0) (hk:stepOk c h 16 22 2=true) (hp0:h.pos=20) (ht:tellB c h.wait 1=false) :
    Calls Try.prog 61 #[.agg (cvals c (.slice a c.cells.length p) (.slice b c.words.length q)),.agg (hvals h)] w fun r w'=>StepN w w' (growStep c h) r:=by
  obtain ⟨k1,k2,_,_⟩:=stepOk_yes hk
  obtain ⟨n1,n2⟩:=chan_40 k1
  have m1:c.cells.length≤1099511627776:=by omega
  have m2:c.words.length≤1099511627776:=by omega
  have H1:=Lib.hid h1
  have H2:=Lib.hid h2
  have Z1:=Lib.hid z1
  have Z2:=Lib.hid z2
  have e:growStep c h=done (tellC c h.wait 1) ({ h with pos:=22 }):=by simp [growStep,hk,hp0,raise8,ht]
  rw [e]
  have K:=fun a b p q W x1 x2 x3 x4=>wTold_any c h.wait 1 a b p q W x1 x2 x3 x4 m1 m2
  have D:=fun v1 v2 W=>l6Done_any (tellC c h.wait 1) ({ h with pos:=22 }) v1 v2 w.heap.size W
  simp only [tell_ints,tell_cells] at D
  rw [ht] at K
  generalize done (tellC c h.wait 1) ({ h with pos:=22 })=x at *
  generalize (tellC c h.wait 1).words=tw at *
  replace K:=Lib.hid K
  replace D:=Lib.hid D
  clear ht
  clear h1 h2 z1 z2 e k1 k2 n1 n2
  go_enter Try.func61,Try.ntmps61
  go_wp2_with fail;refine bHit w (by (repeat (with_reducible first|assumption|exact bR|refine bA ?_|refine bD ?_|((first|refine bS ?_ ?_|refine bBx ?_ ?_);rotate_left;focus (try simp) <;> (try omega))))) fun bb=>?_;refine (l6Ok_any c h 16 22 2 a b p q _ ((H1.out.below bb).more bb.size) ((H2.out.below bb).more bb.size)).mono ?_;rintro _ w1 ⟨rfl,hbw1⟩;have hCw1:Below w.heap.size w w1:=bT bb hbw1;have hsw1:=hbw1.size;(try simp at hsw1);have zz:=And.intro (hpB hbw1 (b:=w.heap.size+1+1+1) (by (try simp) <;> omega)) <| And.intro (hpB hbw1 (b:=w.heap.size+1+1) (by (try simp) <;> omega)) <| And.intro (hpB hbw1 (b:=w.heap.size+1) (by (try simp) <;> omega)) <| hpB hbw1 (b:=w.heap.size) (by (try simp) <;> omega);(try simp [go_sem] at zz);(try clear z_wppp x_wppp f_wppp l_wppp);(try clear z_wpp x_wpp f_wpp l_wpp);(try clear z_wp x_wp f_wp l_wp);(try clear z_w x_w f_w l_w);obtain ⟨z_wppp,z_wpp,z_wp,z_w⟩:=zz;obtain ⟨x_wppp,f_wppp,l_wppp⟩:=bO z_wppp;obtain ⟨x_wpp,f_wpp,l_wpp⟩:=bO z_wpp;obtain ⟨x_wp,f_wp,l_wp⟩:=bO z_wp;obtain ⟨x_w,f_w,l_w⟩:=bO z_w;clear hbw1 bb
  rw [hk]
  go_wp2_with fail;refine bHit w (by (repeat (with_reducible first|assumption|exact bR|refine bA ?_|refine bD ?_|((first|refine bS ?_ ?_|refine bBx ?_ ?_);rotate_left;focus (try simp) <;> (try omega))))) fun bb=>?_;refine (wCopy_any c a b p q _ ((H1.out.below bb).more bb.size) Z1.out ((H2.out.below bb).more bb.size) Z2.out m1 m2).mono ?_;rintro _ w2 ⟨⟨v1,v2,rfl,o1,o2⟩,hbw2⟩;have hCw2:Below w.heap.size w w2:=bT bb hbw2;have hsw2:=hbw2.size;(try simp at hsw2);have zz:=And.intro (hpB hbw2 (b:=w.heap.size+1+1+1) (by (try simp) <;> omega)) <| And.intro (hpB hbw2 (b:=w.heap.size+1+1) (by (try simp) <;> omega)) <| And.intro (hpB hbw2 (b:=w.heap.size+1) (by (try simp) <;> omega)) <| hpB hbw2 (b:=w.heap.size) (by (try simp) <;> omega);(first|simp [go_sem,z_wppp,z_wpp,z_wp,z_w,l_w,l_wp,l_wpp,l_wppp] at zz|simp [go_sem] at zz|skip);(try clear z_wppp x_wppp f_wppp l_wppp);(try clear z_wpp x_wpp f_wpp l_wpp);(try clear z_wp x_wp f_wp l_wp);(try clear z_w x_w f_w l_w);obtain ⟨z_wppp,z_wpp,z_wp,z_w⟩:=zz;obtain ⟨x_wppp,f_wppp,l_wppp⟩:=bO z_wppp;obtain ⟨x_wpp,f_wpp,l_wpp⟩:=bO z_wpp;obtain ⟨x_wp,f_wp,l_wp⟩:=bO z_wp;obtain ⟨x_w,f_w,l_w⟩:=bO z_w;clear hbw2 bb
  have d1:∀ j,v1.ownBlock=some j→w.heap.size+1+1+1+1≤j:=fun j hj=>by have:=(o1.lt j hj).1;omega
  have d2:∀ j,v2.ownBlock=some j→w.heap.size+1+1+1+1≤j:=fun j hj=>by have:=(o2.lt j hj).1;omega
  have p1:=own_lo (lo':=w.heap.size) o1 (by omega)
  have p2:=own_lo (lo':=w.heap.size) o2 (by omega)
  obtain ⟨a1,q1,rfl,_⟩:=o1.seg
  obtain ⟨a2,q2,rfl,_⟩:=o2.seg
  have k0:w.heap.size<w2.heap.size:=by omega
  have k1:w.heap.size+1<w2.heap.size:=by omega
  have k2:w.heap.size+1+1<w2.heap.size:=by omega
  have k3:w.heap.size+1+1+1<w2.heap.size:=by omega
  go_wp2_with fail;refine bHit w (by (repeat (with_reducible first|assumption|exact bR|refine bA ?_|refine bD ?_|((first|refine bS ?_ ?_|refine bBx ?_ ?_);rotate_left;focus (try simp) <;> (try omega))))) fun bb=>?_;refine bHit w2 (by (repeat (with_reducible first|assumption|exact bR|refine bA ?_|refine bD ?_|((first|refine bS ?_ ?_|refine bBx ?_ ?_);rotate_left;focus (try simp) <;> (try omega))))) fun bk=>?_;refine (K.out _ _ _ _ _ ((H1.out.below bb).more bb.size) Z1.out ((H2.out.below bb).more bb.size) Z2.out).mono ?_;rintro _ w4 ⟨⟨u1,u2,rfl,u3,u4⟩,hbw4⟩;have hCw4:Below w.heap.size w w4:=bT bb hbw4;have hsw4:=hbw4.size;(try simp at hsw4);have zz:=And.intro (hpB hbw4 (b:=w2.heap.size) (by (try simp) <;> omega)) <| And.intro (hpB hbw4 (b:=w.heap.size+1+1+1) (by (try simp) <;> omega)) <| And.intro (hpB hbw4 (b:=w.heap.size+1+1) (by (try simp) <;> omega)) <| And.intro (hpB hbw4 (b:=w.heap.size+1) (by (try simp) <;> omega)) <| hpB hbw4 (b:=w.heap.size) (by (try simp) <;> omega);(first|simp [go_sem,z_wppp,z_wpp,z_wp,z_w,l_w,l_wp,l_wpp,l_wppp,k0,k1,k2,k3] at zz|simp [go_sem] at zz|skip);(try clear z_w2 x_w2 f_w2 l_w2);(try clear z_wppp x_wppp f_wppp l_wppp);(try clear z_wpp x_wpp f_wpp l_wpp);(try clear z_wp x_wp f_wp l_wp);(try clear z_w x_w f_w l_w);obtain ⟨z_w2,z_wppp,z_wpp,z_wp,z_w⟩:=zz;obtain ⟨x_w2,f_w2,l_w2⟩:=bO z_w2;obtain ⟨x_wppp,f_wppp,l_wppp⟩:=bO z_wppp;obtain ⟨x_wpp,f_wpp,l_wpp⟩:=bO z_wpp;obtain ⟨x_wp,f_wp,l_wp⟩:=bO z_wp;obtain ⟨x_w,f_w,l_w⟩:=bO z_w;have hKw4:Below w2.heap.size w2 w4:=bT bk hbw4;clear hbw4 bb bk
  try simp at u3 u4
  have d3:∀ j,u1.ownBlock=some j→w.heap.size+1+1+1+1≤j:=fun j hj=>by have:=(u3.lt j hj).1;omega
  have d4:∀ j,u2.ownBlock=some j→w.heap.size+1+1+1+1≤j:=fun j hj=>by have:=(u4.lt j hj).1;omega
  clear d1 d2
  have d1:=d3
  have d2:=d4
  clear d3 d4
  have s1:=own_lo (lo':=w.heap.size) u3 (by omega)
  have s2:=own_lo (lo':=w.heap.size) u4 (by omega)
  have b3:=fun j (hj:u1.ownBlock=some j)=>(u3.lt j hj).1
  have b4:=fun j (hj:u2.ownBlock=some j)=>(u4.lt j hj).1
  have g3:u1.ownBlock≠some w2.heap.size:=fun e=>by have:=b3 _ e;omega
  have g4:u2.ownBlock≠some w2.heap.size:=fun e=>by have:=b4 _ e;omega
  obtain ⟨ua,up,rfl,_⟩:=u3.seg
  obtain ⟨ub,uq,rfl,_⟩:=u4.seg
  go_wp2_with fail;refine bHit w (by (repeat (with_reducible first|assumption|exact bR|refine bA ?_|refine bD ?_|((first|refine bS ?_ ?_|refine bBx ?_ ?_);rotate_left;focus (try simp) <;> (try omega))))) fun bb=>?_;refine (D.out _ _ _ (by (repeat first|with_reducible exact s1|with_reducible refine oAl ?_ _|with_reducible refine oDr ?_|((with_reducible first|refine own_store ?_ ?_ _|refine own_box ?_ ?_);rotate_left;focus first|(refine own_ne u3 ?_;(try dsimp only);omega)|(refine own_ne' u3 ?_;(try dsimp only);omega)|exact g3))) (by (repeat first|with_reducible exact s2|with_reducible refine oAl ?_ _|with_reducible refine oDr ?_|((with_reducible first|refine own_store ?_ ?_ _|refine own_box ?_ ?_);rotate_left;focus first|(refine own_ne u4 ?_;(try dsimp only);omega)|(refine own_ne' u4 ?_;(try dsimp only);omega)|exact g4)))).mono ?_;rintro _ w3 ⟨⟨y1,y2,rfl,oY1,oY2,fY1,fY2⟩,hbw3⟩;have hCw3:Below w.heap.size w w3:=bT bb hbw3;have hsw3:=hbw3.size;(try simp at hsw3);have zz:=And.intro (hpB hbw3 (b:=w.heap.size+1+1+1) (by (try simp) <;> omega)) <| And.intro (hpB hbw3 (b:=w.heap.size+1+1) (by (try simp) <;> omega)) <| And.intro (hpB hbw3 (b:=w.heap.size+1) (by (try simp) <;> omega)) <| hpB hbw3 (b:=w.heap.size) (by (try simp) <;> omega);(first|simp [go_sem,z_wppp,z_wpp,z_wp,z_w,l_w,l_wp,l_wpp,l_wppp,k0,k1,k2,k3] at zz|simp [go_sem] at zz|skip);(try clear z_wppp x_wppp f_wppp l_wppp);(try clear z_wpp x_wpp f_wpp l_wpp);(try clear z_wp x_wp f_wp l_wp);(try clear z_w x_w f_w l_w);obtain ⟨z_wppp,z_wpp,z_wp,z_w⟩:=zz;obtain ⟨x_wppp,f_wppp,l_wppp⟩:=bO z_wppp;obtain ⟨x_wpp,f_wpp,l_wpp⟩:=bO z_wpp;obtain ⟨x_wp,f_wp,l_wp⟩:=bO z_wp;obtain ⟨x_w,f_w,l_w⟩:=bO z_w;clear hbw3 bb
  have hoff1:∀ j,w.heap.size≤j→j<w.heap.size+1+1+1+1→y1.ownBlock≠some j:=fun j _ h2=>fY1.off2 d1 h2 (by (try simp) <;> omega);have hoff2:∀ j,w.heap.size≤j→j<w.heap.size+1+1+1+1→y2.ownBlock≠some j:=fun j _ h2=>fY2.off2 d2 h2 (by (try simp) <;> omega);have fr1:Fresh w (.slice none 0 0) y1:=fun j hj=>.inr (fY1.up d1 (by (try simp) <;> omega) (by (try simp) <;> omega) j hj);have fr2:Fresh w (.slice none 0 0) y2:=fun j hj=>.inr (fY2.up d2 (by (try simp) <;> omega) (by (try simp) <;> omega) j hj);obtain ⟨ya,yp,rfl,_⟩:=oY1.seg;obtain ⟨yb,yq,rfl,_⟩:=oY2.seg
  go_wp2
  refine bodyPost_ret (res_cct Try.results61 rfl (ldChan x.1 (.slice ya x.1.cells.length yp) (.slice yb x.1.words.length yq) (by simp [go_sem, *])) rfl (ldHand x.2.1 (by simp [go_sem, *]))) rfl ⟨⟨_,_,rfl,?_,?_,fr1,fr2⟩,by (repeat (with_reducible first|assumption|exact bR|refine bA ?_|refine bD ?_|((first|refine bS ?_ ?_|refine bBx ?_ ?_);rotate_left;focus (try simp) <;> (try omega))))⟩
  · (repeat first|with_reducible exact oY1|with_reducible refine oAl ?_ _|with_reducible refine oDr ?_|((with_reducible first|refine own_store ?_ ?_ _|refine own_box ?_ ?_);rotate_left;focus first|(refine own_ne oY1 ?_;(try dsimp only);omega)|(refine own_ne' oY1 ?_;(try dsimp only);omega)|exact hoff1 _ (by (try dsimp only) <;> omega) (by (try dsimp only) <;> omega)))
  · (repeat first|with_reducible exact oY2|with_reducible refine oAl ?_ _|with_reducible refine oDr ?_|((with_reducible first|refine own_store ?_ ?_ _|refine own_box ?_ ?_);rotate_left;focus first|(refine own_ne oY2 ?_;(try dsimp only);omega)|(refine own_ne' oY2 ?_;(try dsimp only);omega)|exact hoff2 _ (by (try dsimp only) <;> omega) (by (try dsimp only) <;> omega)))
end Go.Proofs.Ytlfcgeoifmnjnaa
set_option linter.unusedSimpArgs false
set_option linter.unusedVariables false
namespace Go.Proofs.Ytlfcgeoifmnjnaa
open Go.RowKit
set_option linter.unusedSimpArgs false
attribute [local simp] bx_size
attribute [local go_sem ↓] zeroHand zeroChan toLHand toLChan toVHand toVChan storeHand storeChan storeHandC storeChanC
set_option maxRecDepth 100000 in
set_option maxHeartbeats 2000000 in
theorem sGrow_18a (c:Ch) (h:Ha) (a b:Option Addr) (p q:Nat) (w:World) (h1:Seg w w.heap.size a c.cells.length 3 (cellF c.cells)) (z1:a=none→p=0) (h2:Seg w w.heap.size b c.words.length 1 (intF c.words)) (z2:b=none→q=0) (hk:stepOk c h 16 22 2=true) (hp0:h.pos=18) (hs:(cellAt c h.grow).s=5) :
    Calls Try.prog 61 #[.agg (cvals c (.slice a c.cells.length p) (.slice b c.words.length q)),.agg (hvals h)] w fun r w'=>StepN w w' (growStep c h) r:=by
  obtain ⟨k1,k2,_,_⟩:=stepOk_yes hk
  obtain ⟨n1,n2⟩:=chan_40 k1
  have m1:c.cells.length≤1099511627776:=by omega
  have m2:c.words.length≤1099511627776:=by omega
  have H1:=Lib.hid h1
  have H2:=Lib.hid h2
  have Z1:=Lib.hid z1
  have Z2:=Lib.hid z2
  obtain ⟨c1,c2⟩:=hand_grow k2
  obtain ⟨i,hci⟩:∃ i:Nat,h.grow=(i:Int):=⟨h.grow.toNat,by omega⟩
  have hi:i<c.cells.length:=by omega
  have e:growStep c h=(c,h,false):=by simp [growStep,hk,hp0,meetStep,hs]
  rw [e]
  obtain ⟨bb,bo,rfl,hb,hcell⟩:∃ b' o,a=some ⟨b',o,none⟩∧b'<w.heap.size∧w.cell? ⟨b',o+i*3,none⟩=some (.int .i64 (cellAt c h.grow).s):=by
    rcases H1.out with h0|⟨b',o',e,h1,h2⟩
    · omega
    · exact ⟨b',o',e,h1,by simpa [cellF,cellAt,hci,C3.val] using h2 i 0 hi (by omega)⟩
  generalize (cellAt c h.grow).s=s at *
  subst hs
  clear h1 h2 z1 z2 e k1 k2 n1 n2 c1 c2
  go_enter Try.func61,Try.ntmps61
  go_wp2_with fail;refine bHit w (by (repeat (with_reducible first|assumption|exact bR|refine bA ?_|refine bD ?_|((first|refine bS ?_ ?_|refine bBx ?_ ?_);rotate_left;focus (try simp) <;> (try omega))))) fun bb=>?_;refine (l6Ok_any c h 16 22 2 _ b p q _ ((H1.out.below bb).more bb.size) ((H2.out.below bb).more bb.size)).mono ?_;rintro _ w1 ⟨rfl,hbw1⟩;have hCw1:Below w.heap.size w w1:=bT bb hbw1;have hsw1:=hbw1.size;(try simp at hsw1);have zz:=And.intro (hpB hbw1 (b:=w.heap.size+1+1+1) (by (try simp) <;> omega)) <| And.intro (hpB hbw1 (b:=w.heap.size+1+1) (by (try simp) <;> omega)) <| And.intro (hpB hbw1 (b:=w.heap.size+1) (by (try simp) <;> omega)) <| hpB hbw1 (b:=w.heap.size) (by (try simp) <;> omega);(try simp [go_sem] at zz);(try clear z_wppp x_wppp f_wppp l_wppp);(try clear z_wpp x_wpp f_wpp l_wpp);(try clear z_wp x_wp f_wp l_wp);(try clear z_w x_w f_w l_w);obtain ⟨z_wppp,z_wpp,z_wp,z_w⟩:=zz;obtain ⟨x_wppp,f_wppp,l_wppp⟩:=bO z_wppp;obtain ⟨x_wpp,f_wpp,l_wpp⟩:=bO z_wpp;obtain ⟨x_wp,f_wp,l_wp⟩:=bO z_wp;obtain ⟨x_w,f_w,l_w⟩:=bO z_w;clear hbw1 bb
  rw [hk]
  go_wp2_with fail;refine bHit w (by (repeat (with_reducible first|assumption|exact bR|refine bA ?_|refine bD ?_|((first|refine bS ?_ ?_|refine bBx ?_ ?_);rotate_left;focus (try simp) <;> (try omega))))) fun bb=>?_;refine (wCopy_any c _ b p q _ ((H1.out.below bb).more bb.size) Z1.out ((H2.out.below bb).more bb.size) Z2.out m1 m2).mono ?_;rintro _ w2 ⟨⟨v1,v2,rfl,o1,o2⟩,hbw2⟩;have hCw2:Below w.heap.size w w2:=bT bb hbw2;have hsw2:=hbw2.size;(try simp at hsw2);have zz:=And.intro (hpB hbw2 (b:=w.heap.size+1+1+1) (by (try simp) <;> omega)) <| And.intro (hpB hbw2 (b:=w.heap.size+1+1) (by (try simp) <;> omega)) <| And.intro (hpB hbw2 (b:=w.heap.size+1) (by (try simp) <;> omega)) <| hpB hbw2 (b:=w.heap.size) (by (try simp) <;> omega);(first|simp [go_sem,z_wppp,z_wpp,z_wp,z_w,l_w,l_wp,l_wpp,l_wppp] at zz|simp [go_sem] at zz|skip);(try clear z_wppp x_wppp f_wppp l_wppp);(try clear z_wpp x_wpp f_wpp l_wpp);(try clear z_wp x_wp f_wp l_wp);(try clear z_w x_w f_w l_w);obtain ⟨z_wppp,z_wpp,z_wp,z_w⟩:=zz;obtain ⟨x_wppp,f_wppp,l_wppp⟩:=bO z_wppp;obtain ⟨x_wpp,f_wpp,l_wpp⟩:=bO z_wpp;obtain ⟨x_wp,f_wp,l_wp⟩:=bO z_wp;obtain ⟨x_w,f_w,l_w⟩:=bO z_w;clear hbw2 bb
  have d1:∀ j,v1.ownBlock=some j→w.heap.size+1+1+1+1≤j:=fun j hj=>by have:=(o1.lt j hj).1;omega
  have d2:∀ j,v2.ownBlock=some j→w.heap.size+1+1+1+1≤j:=fun j hj=>by have:=(o2.lt j hj).1;omega
  have p1:=own_lo (lo':=w.heap.size) o1 (by omega)
  have p2:=own_lo (lo':=w.heap.size) o2 (by omega)
  obtain ⟨a1,q1,rfl,_⟩:=o1.seg
  obtain ⟨a2,q2,rfl,_⟩:=o2.seg
  have k0:w.heap.size<w2.heap.size:=by omega
  have k1:w.heap.size+1<w2.heap.size:=by omega
  have k2:w.heap.size+1+1<w2.heap.size:=by omega
  have k3:w.heap.size+1+1+1<w2.heap.size:=by omega
  have hcell2:=(hCw2.cell (p:=⟨bb,bo+i*3,none⟩) hb).trans hcell
  have hi0:(0:Int)≤(i:Int):=by omega
  have hi1:(i:Int)<(c.cells.length:Int):=by omega
  have hbb:bb<w2.heap.size:=by omega
  have hbn:bb≠w2.heap.size:=by omega
  go_wp2_with fail
  go_region
  all_goals go_wp2
  all_goals (refine bodyPost_ret (res_cct Try.results61 rfl (ldChan c (.slice a1 c.cells.length q1) (.slice a2 c.words.length q2) (by simp [go_sem, *])) rfl (ldHand h (by simp [go_sem, *]))) rfl ⟨⟨_,_,rfl,?_,?_,fun j hj=>.inr (by have:=d1 j hj;omega),fun j hj=>.inr (by have:=d2 j hj;omega)⟩,by (repeat (with_reducible first|assumption|exact bR|refine bA ?_|refine bD ?_|((first|refine bS ?_ ?_|refine bBx ?_ ?_);rotate_left;focus (try simp) <;> (try omega))))⟩)
  all_goals first|(show OCells _ _ _ c.cells;(repeat first|with_reducible exact p1|with_reducible refine oAl ?_ _|with_reducible refine oDr ?_|((with_reducible first|refine own_store ?_ ?_ _|refine own_box ?_ ?_);rotate_left;focus first|(refine own_ne o1 ?_;(try dsimp only);omega)|(refine own_ne' o1 ?_;(try dsimp only);omega))))|skip
  all_goals first|(show OInts _ _ _ c.words;(repeat first|with_reducible exact p2|with_reducible refine oAl ?_ _|with_reducible refine oDr ?_|((with_reducible first|refine own_store ?_ ?_ _|refine own_box ?_ ?_);rotate_left;focus first|(refine own_ne o2 ?_;(try dsimp only);omega)|(refine own_ne' o2 ?_;(try dsimp only);omega))))|skip
set_option maxRecDepth 100000 in
set_option maxHeartbeats 2000000 in
theorem sGrow_18b (c:Ch) (h:Ha) (a b:Option Addr) (p q:Nat) (w:World) (h1:Seg w w.heap.size a c.cells.length 3 (cellF c.cells)) (z1:a=none→p=0) (h2:Seg w w.heap.size b c.words.length 1 (intF c.words)) (z2:b=none→q=0) (hk:stepOk c h 16 22 2=true) (hp0:h.pos=18) (hs:((cellAt c h.grow).s == 5)=false) :
    Calls Try.prog 61 #[.agg (cvals c (.slice a c.cells.length p) (.slice b c.words.length q)),.agg (hvals h)] w fun r w'=>StepN w w' (growStep c h) r:=by
  obtain ⟨k1,k2,_,_⟩:=stepOk_yes hk
  obtain ⟨n1,n2⟩:=chan_40 k1
  have m1:c.cells.length≤1099511627776:=by omega
  have m2:c.words.length≤1099511627776:=by omega
  have H1:=Lib.hid h1
  have H2:=Lib.hid h2
  have Z1:=Lib.hid z1
  have Z2:=Lib.hid z2
  obtain ⟨c1,c2⟩:=hand_grow k2
  obtain ⟨i,hci⟩:∃ i:Nat,h.grow=(i:Int):=⟨h.grow.toNat,by omega⟩
  have hi:i<c.cells.length:=by omega
  have e:growStep c h=done c (meet8 c h):=by simp at hs;simp [growStep,hk,hp0,meetStep,hs]
  rw [e]
  obtain ⟨bb,bo,rfl,hb,hcell⟩:∃ b' o,a=some ⟨b',o,none⟩∧b'<w.heap.size∧w.cell? ⟨b',o+i*3,none⟩=some (.int .i64 (cellAt c h.grow).s):=by
    rcases H1.out with h0|⟨b',o',e,h1,h2⟩
    · omega
    · exact ⟨b',o',e,h1,by simpa [cellF,cellAt,hci,C3.val] using h2 i 0 hi (by omega)⟩
  generalize (cellAt c h.grow).s=s at *
  have K:=fun W x1=>l8Meet_any c h (some ⟨bb,bo,none⟩) b p q W x1 c1 (by omega)
  have D:=Lib.hid fun v1 v2 W=>l6Done_any (c) (meet8 c h) v1 v2 w.heap.size W
  generalize done c (meet8 c h)=x at *
  generalize meet8 c h=y at *
  replace K:=Lib.hid K
  clear h1 h2 z1 z2 e k1 k2 n1 n2 c1 c2
  go_enter Try.func61,Try.ntmps61
  go_wp2_with fail;refine bHit w (by (repeat (with_reducible first|assumption|exact bR|refine bA ?_|refine bD ?_|((first|refine bS ?_ ?_|refine bBx ?_ ?_);rotate_left;focus (try simp) <;> (try omega))))) fun bb=>?_;refine (l6Ok_any c h 16 22 2 _ b p q _ ((H1.out.below bb).more bb.size) ((H2.out.below bb).more bb.size)).mono ?_;rintro _ w1 ⟨rfl,hbw1⟩;have hCw1:Below w.heap.size w w1:=bT bb hbw1;have hsw1:=hbw1.size;(try simp at hsw1);have zz:=And.intro (hpB hbw1 (b:=w.heap.size+1+1+1) (by (try simp) <;> omega)) <| And.intro (hpB hbw1 (b:=w.heap.size+1+1) (by (try simp) <;> omega)) <| And.intro (hpB hbw1 (b:=w.heap.size+1) (by (try simp) <;> omega)) <| hpB hbw1 (b:=w.heap.size) (by (try simp) <;> omega);(try simp [go_sem] at zz);(try clear z_wppp x_wppp f_wppp l_wppp);(try clear z_wpp x_wpp f_wpp l_wpp);(try clear z_wp x_wp f_wp l_wp);(try clear z_w x_w f_w l_w);obtain ⟨z_wppp,z_wpp,z_wp,z_w⟩:=zz;obtain ⟨x_wppp,f_wppp,l_wppp⟩:=bO z_wppp;obtain ⟨x_wpp,f_wpp,l_wpp⟩:=bO z_wpp;obtain ⟨x_wp,f_wp,l_wp⟩:=bO z_wp;obtain ⟨x_w,f_w,l_w⟩:=bO z_w;clear hbw1 bb
  rw [hk]
  go_wp2_with fail;refine bHit w (by (repeat (with_reducible first|assumption|exact bR|refine bA ?_|refine bD ?_|((first|refine bS ?_ ?_|refine bBx ?_ ?_);rotate_left;focus (try simp) <;> (try omega))))) fun bb=>?_;refine (wCopy_any c _ b p q _ ((H1.out.below bb).more bb.size) Z1.out ((H2.out.below bb).more bb.size) Z2.out m1 m2).mono ?_;rintro _ w2 ⟨⟨v1,v2,rfl,o1,o2⟩,hbw2⟩;have hCw2:Below w.heap.size w w2:=bT bb hbw2;have hsw2:=hbw2.size;(try simp at hsw2);have zz:=And.intro (hpB hbw2 (b:=w.heap.size+1+1+1) (by (try simp) <;> omega)) <| And.intro (hpB hbw2 (b:=w.heap.size+1+1) (by (try simp) <;> omega)) <| And.intro (hpB hbw2 (b:=w.heap.size+1) (by (try simp) <;> omega)) <| hpB hbw2 (b:=w.heap.size) (by (try simp) <;> omega);(first|simp [go_sem,z_wppp,z_wpp,z_wp,z_w,l_w,l_wp,l_wpp,l_wppp] at zz|simp [go_sem] at zz|skip);(try clear z_wppp x_wppp f_wppp l_wppp);(try clear z_wpp x_wpp f_wpp l_wpp);(try clear z_wp x_wp f_wp l_wp);(try clear z_w x_w f_w l_w);obtain ⟨z_wppp,z_wpp,z_wp,z_w⟩:=zz;obtain ⟨x_wppp,f_wppp,l_wppp⟩:=bO z_wppp;obtain ⟨x_wpp,f_wpp,l_wpp⟩:=bO z_wpp;obtain ⟨x_wp,f_wp,l_wp⟩:=bO z_wp;obtain ⟨x_w,f_w,l_w⟩:=bO z_w;clear hbw2 bb
  have d1:∀ j,v1.ownBlock=some j→w.heap.size+1+1+1+1≤j:=fun j hj=>by have:=(o1.lt j hj).1;omega
  have d2:∀ j,v2.ownBlock=some j→w.heap.size+1+1+1+1≤j:=fun j hj=>by have:=(o2.lt j hj).1;omega
  have p1:=own_lo (lo':=w.heap.size) o1 (by omega)
  have p2:=own_lo (lo':=w.heap.size) o2 (by omega)
  obtain ⟨a1,q1,rfl,_⟩:=o1.seg
  obtain ⟨a2,q2,rfl,_⟩:=o2.seg
  have k0:w.heap.size<w2.heap.size:=by omega
  have k1:w.heap.size+1<w2.heap.size:=by omega
  have k2:w.heap.size+1+1<w2.heap.size:=by omega
  have k3:w.heap.size+1+1+1<w2.heap.size:=by omega
  have hcell2:=(hCw2.cell (p:=⟨bb,bo+i*3,none⟩) hb).trans hcell
  have hi0:(0:Int)≤(i:Int):=by omega
  have hi1:(i:Int)<(c.cells.length:Int):=by omega
  have hbb:bb<w2.heap.size:=by omega
  have hbn:bb≠w2.heap.size:=by omega
  go_wp2_with fail;refine bHit w (by (repeat (with_reducible first|assumption|exact bR|refine bA ?_|refine bD ?_|((first|refine bS ?_ ?_|refine bBx ?_ ?_);rotate_left;focus (try simp) <;> (try omega))))) fun bb=>?_;refine bHit w2 (by (repeat (with_reducible first|assumption|exact bR|refine bA ?_|refine bD ?_|((first|refine bS ?_ ?_|refine bBx ?_ ?_);rotate_left;focus (try simp) <;> (try omega))))) fun bk=>?_;refine (K.out _ ((H1.out.below bb).more bb.size)).mono ?_;rintro _ w4 ⟨rfl,hbw4⟩;have hCw4:Below w.heap.size w w4:=bT bb hbw4;have hsw4:=hbw4.size;(try simp at hsw4);have zz:=And.intro (hpB hbw4 (b:=w2.heap.size) (by (try simp) <;> omega)) <| And.intro (hpB hbw4 (b:=w.heap.size+1+1+1) (by (try simp) <;> omega)) <| And.intro (hpB hbw4 (b:=w.heap.size+1+1) (by (try simp) <;> omega)) <| And.intro (hpB hbw4 (b:=w.heap.size+1) (by (try simp) <;> omega)) <| hpB hbw4 (b:=w.heap.size) (by (try simp) <;> omega);(first|simp [go_sem,z_wppp,z_wpp,z_wp,z_w,l_w,l_wp,l_wpp,l_wppp,k0,k1,k2,k3] at zz|simp [go_sem] at zz|skip);(try clear z_w2 x_w2 f_w2 l_w2);(try clear z_wppp x_wppp f_wppp l_wppp);(try clear z_wpp x_wpp f_wpp l_wpp);(try clear z_wp x_wp f_wp l_wp);(try clear z_w x_w f_w l_w);obtain ⟨z_w2,z_wppp,z_wpp,z_wp,z_w⟩:=zz;obtain ⟨x_w2,f_w2,l_w2⟩:=bO z_w2;obtain ⟨x_wppp,f_wppp,l_wppp⟩:=bO z_wppp;obtain ⟨x_wpp,f_wpp,l_wpp⟩:=bO z_wpp;obtain ⟨x_wp,f_wp,l_wp⟩:=bO z_wp;obtain ⟨x_w,f_w,l_w⟩:=bO z_w;have hKw4:Below w2.heap.size w2 w4:=bT bk hbw4;clear hbw4 bb bk
  have s1:=own_below p1 hKw4
  have s2:=own_below p2 hKw4
  go_wp2_with fail;refine bHit w (by (repeat (with_reducible first|assumption|exact bR|refine bA ?_|refine bD ?_|((first|refine bS ?_ ?_|refine bBx ?_ ?_);rotate_left;focus (try simp) <;> (try omega))))) fun bb=>?_;refine (D.out _ _ _ (by (repeat first|with_reducible exact s1|with_reducible refine oAl ?_ _|with_reducible refine oDr ?_|((with_reducible first|refine own_store ?_ ?_ _|refine own_box ?_ ?_);rotate_left;focus first|(refine own_ne o1 ?_;(try dsimp only);omega)|(refine own_ne' o1 ?_;(try dsimp only);omega)))) (by (repeat first|with_reducible exact s2|with_reducible refine oAl ?_ _|with_reducible refine oDr ?_|((with_reducible first|refine own_store ?_ ?_ _|refine own_box ?_ ?_);rotate_left;focus first|(refine own_ne o2 ?_;(try dsimp only);omega)|(refine own_ne' o2 ?_;(try dsimp only);omega))))).mono ?_;rintro _ w3 ⟨⟨y1,y2,rfl,oY1,oY2,fY1,fY2⟩,hbw3⟩;have hCw3:Below w.heap.size w w3:=bT bb hbw3;have hsw3:=hbw3.size;(try simp at hsw3);have zz:=And.intro (hpB hbw3 (b:=w.heap.size+1+1+1) (by (try simp) <;> omega)) <| And.intro (hpB hbw3 (b:=w.heap.size+1+1) (by (try simp) <;> omega)) <| And.intro (hpB hbw3 (b:=w.heap.size+1) (by (try simp) <;> omega)) <| hpB hbw3 (b:=w.heap.size) (by (try simp) <;> omega);(first|simp [go_sem,z_wppp,z_wpp,z_wp,z_w,l_w,l_wp,l_wpp,l_wppp,k0,k1,k2,k3] at zz|simp [go_sem] at zz|skip);(try clear z_wppp x_wppp f_wppp l_wppp);(try clear z_wpp x_wpp f_wpp l_wpp);(try clear z_wp x_wp f_wp l_wp);(try clear z_w x_w f_w l_w);obtain ⟨z_wppp,z_wpp,z_wp,z_w⟩:=zz;obtain ⟨x_wppp,f_wppp,l_wppp⟩:=bO z_wppp;obtain ⟨x_wpp,f_wpp,l_wpp⟩:=bO z_wpp;obtain ⟨x_wp,f_wp,l_wp⟩:=bO z_wp;obtain ⟨x_w,f_w,l_w⟩:=bO z_w;clear hbw3 bb
  have hoff1:∀ j,w.heap.size≤j→j<w.heap.size+1+1+1+1→y1.ownBlock≠some j:=fun j _ h2=>fY1.off2 d1 h2 (by (try simp) <;> omega);have hoff2:∀ j,w.heap.size≤j→j<w.heap.size+1+1+1+1→y2.ownBlock≠some j:=fun j _ h2=>fY2.off2 d2 h2 (by (try simp) <;> omega);have fr1:Fresh w (.slice none 0 0) y1:=fun j hj=>.inr (fY1.up d1 (by (try simp) <;> omega) (by (try simp) <;> omega) j hj);have fr2:Fresh w (.slice none 0 0) y2:=fun j hj=>.inr (fY2.up d2 (by (try simp) <;> omega) (by (try simp) <;> omega) j hj);obtain ⟨ya,yp,rfl,_⟩:=oY1.seg;obtain ⟨yb,yq,rfl,_⟩:=oY2.seg
  go_wp2
  refine bodyPost_ret (res_cct Try.results61 rfl (ldChan x.1 (.slice ya x.1.cells.length yp) (.slice yb x.1.words.length yq) (by simp [go_sem, *])) rfl (ldHand x.2.1 (by simp [go_sem, *]))) rfl ⟨⟨_,_,rfl,?_,?_,fr1,fr2⟩,by (repeat (with_reducible first|assumption|exact bR|refine bA ?_|refine bD ?_|((first|refine bS ?_ ?_|refine bBx ?_ ?_);rotate_left;focus (try simp) <;> (try omega))))⟩
  · (repeat first|with_reducible exact oY1|with_reducible refine oAl ?_ _|with_reducible refine oDr ?_|((with_reducible first|refine own_store ?_ ?_ _|refine own_box ?_ ?_);rotate_left;focus first|(refine own_ne oY1 ?_;(try dsimp only);omega)|(refine own_ne' oY1 ?_;(try dsimp only);omega)|exact hoff1 _ (by (try dsimp only) <;> omega) (by (try dsimp only) <;> omega)))
  · (repeat first|with_reducible exact oY2|with_reducible refine oAl ?_ _|with_reducible refine oDr ?_|((with_reducible first|refine own_store ?_ ?_ _|refine own_box ?_ ?_);rotate_left;focus first|(refine own_ne oY2 ?_;(try dsimp only);omega)|(refine own_ne' oY2 ?_;(try dsimp only);omega)|exact hoff2 _ (by (try dsimp only) <;> omega) (by (try dsimp only) <;> omega)))
set_option maxRecDepth 100000 in
set_option maxHeartbeats 2000000 in
theorem sGrow_21 (c:Ch) (h:Ha) (a b:Option Addr) (p q:Nat) (w:World) (h1:Seg w w.heap.size a c.cells.length 3 (cellF c.cells)) (z1:a=none→p=0) (h2:Seg w w.heap.size b c.words.length 1 (intF c.words)) (z2:b=none→q=0) (hk:stepOk c h 16 22 2=true) (hp0:h.pos=21) :
    Calls Try.prog 61 #[.agg (cvals c (.slice a c.cells.length p) (.slice b c.words.length q)),.agg (hvals h)] w fun r w'=>StepN w w' (growStep c h) r:=by
  obtain ⟨k1,k2,_,_⟩:=stepOk_yes hk
  obtain ⟨n1,n2⟩:=chan_40 k1
  have m1:c.cells.length≤1099511627776:=by omega
  have m2:c.words.length≤1099511627776:=by omega
  have H1:=Lib.hid h1
  have H2:=Lib.hid h2
  have Z1:=Lib.hid z1
  have Z2:=Lib.hid z2
  obtain ⟨c1,c2⟩:=hand_grow k2
  obtain ⟨i,hci⟩:∃ i:Nat,h.grow=(i:Int):=⟨h.grow.toNat,by omega⟩
  have hi:i<c.cells.length:=by omega
  have e:growStep c h=done (stateC c i 2) (grown8 h):=by simp [growStep,hk,hp0,hci]
  rw [e]
  have ST:=Lib.hid fun v1 v2 W=>wState_any c i 2 v1 v2 w.heap.size W
  have D:=fun v1 v2 W=>l6Done_any (stateC c i 2) (grown8 h) v1 v2 w.heap.size W
  simp only [state_ints,state_words] at D
  generalize done (stateC c i 2) (grown8 h)=x at *
  replace D:=Lib.hid D
  clear h1 h2 z1 z2 e k1 k2 n1 n2 c1 c2
  go_enter Try.func61,Try.ntmps61
  go_wp2_with fail;refine bHit w (by (repeat (with_reducible first|assumption|exact bR|refine bA ?_|refine bD ?_|((first|refine bS ?_ ?_|refine bBx ?_ ?_);rotate_left;focus (try simp) <;> (try omega))))) fun bb=>?_;refine (l6Ok_any c h 16 22 2 a b p q _ ((H1.out.below bb).more bb.size) ((H2.out.below bb).more bb.size)).mono ?_;rintro _ w1 ⟨rfl,hbw1⟩;have hCw1:Below w.heap.size w w1:=bT bb hbw1;have hsw1:=hbw1.size;(try simp at hsw1);have zz:=And.intro (hpB hbw1 (b:=w.heap.size+1+1+1) (by (try simp) <;> omega)) <| And.intro (hpB hbw1 (b:=w.heap.size+1+1) (by (try simp) <;> omega)) <| And.intro (hpB hbw1 (b:=w.heap.size+1) (by (try simp) <;> omega)) <| hpB hbw1 (b:=w.heap.size) (by (try simp) <;> omega);(try simp [go_sem] at zz);(try clear z_wppp x_wppp f_wppp l_wppp);(try clear z_wpp x_wpp f_wpp l_wpp);(try clear z_wp x_wp f_wp l_wp);(try clear z_w x_w f_w l_w);obtain ⟨z_wppp,z_wpp,z_wp,z_w⟩:=zz;obtain ⟨x_wppp,f_wppp,l_wppp⟩:=bO z_wppp;obtain ⟨x_wpp,f_wpp,l_wpp⟩:=bO z_wpp;obtain ⟨x_wp,f_wp,l_wp⟩:=bO z_wp;obtain ⟨x_w,f_w,l_w⟩:=bO z_w;clear hbw1 bb
  rw [hk]
  go_wp2_with fail;refine bHit w (by (repeat (with_reducible first|assumption|exact bR|refine bA ?_|refine bD ?_|((first|refine bS ?_ ?_|refine bBx ?_ ?_);rotate_left;focus (try simp) <;> (try omega))))) fun bb=>?_;refine (wCopy_any c a b p q _ ((H1.out.below bb).more bb.size) Z1.out ((H2.out.below bb).more bb.size) Z2.out m1 m2).mono ?_;rintro _ w2 ⟨⟨v1,v2,rfl,o1,o2⟩,hbw2⟩;have hCw2:Below w.heap.size w w2:=bT bb hbw2;have hsw2:=hbw2.size;(try simp at hsw2);have zz:=And.intro (hpB hbw2 (b:=w.heap.size+1+1+1) (by (try simp) <;> omega)) <| And.intro (hpB hbw2 (b:=w.heap.size+1+1) (by (try simp) <;> omega)) <| And.intro (hpB hbw2 (b:=w.heap.size+1) (by (try simp) <;> omega)) <| hpB hbw2 (b:=w.heap.size) (by (try simp) <;> omega);(first|simp [go_sem,z_wppp,z_wpp,z_wp,z_w,l_w,l_wp,l_wpp,l_wppp] at zz|simp [go_sem] at zz|skip);(try clear z_wppp x_wppp f_wppp l_wppp);(try clear z_wpp x_wpp f_wpp l_wpp);(try clear z_wp x_wp f_wp l_wp);(try clear z_w x_w f_w l_w);obtain ⟨z_wppp,z_wpp,z_wp,z_w⟩:=zz;obtain ⟨x_wppp,f_wppp,l_wppp⟩:=bO z_wppp;obtain ⟨x_wpp,f_wpp,l_wpp⟩:=bO z_wpp;obtain ⟨x_wp,f_wp,l_wp⟩:=bO z_wp;obtain ⟨x_w,f_w,l_w⟩:=bO z_w;clear hbw2 bb
  have d1:∀ j,v1.ownBlock=some j→w.heap.size+1+1+1+1≤j:=fun j hj=>by have:=(o1.lt j hj).1;omega
  have d2:∀ j,v2.ownBlock=some j→w.heap.size+1+1+1+1≤j:=fun j hj=>by have:=(o2.lt j hj).1;omega
  have p1:=own_lo (lo':=w.heap.size) o1 (by omega)
  have p2:=own_lo (lo':=w.heap.size) o2 (by omega)
  obtain ⟨a1,q1,rfl,_⟩:=o1.seg
  obtain ⟨a2,q2,rfl,_⟩:=o2.seg
  have nw:∀ j,(j<w.heap.size+1+1+1+1∨w2.heap.size≤j)→some j≠(Value.slice a1 c.cells.length q1).ownBlock:=fun j hj e=>by have:=d1 _ e.symm;have:=(o1.lt _ e.symm).2;omega
  have nw0:=nw (w.heap.size) (by omega)
  have nw1:=nw (w.heap.size+1) (by omega)
  have nw2:=nw (w.heap.size+1+1) (by omega)
  have nw3:=nw (w.heap.size+1+1+1) (by omega)
  have nwo:=nw w2.heap.size (by omega)
  have k0:w.heap.size<w2.heap.size:=by omega
  have k1:w.heap.size+1<w2.heap.size:=by omega
  have k2:w.heap.size+1+1<w2.heap.size:=by omega
  have k3:w.heap.size+1+1+1<w2.heap.size:=by omega
  go_wp2_with fail
  go_region_held3 (fun w'=>hp w' w2.heap.size=some (.cells (cvals c (.slice a1 c.cells.length q1) (.slice a2 c.words.length q2)) 54)∧hp w' (w.heap.size+1)=some (.cells (hvals h) 27)∧w'.cell? ⟨w.heap.size+1,8,none⟩=some (.int .i64 i))
    (first|(simp [*,go_sem]))
    (first|(go_at_call 70;refine (ST.out _ _ _ (by (repeat first|with_reducible exact p1|with_reducible refine oAl ?_ _|with_reducible refine oDr ?_|((with_reducible first|refine own_store ?_ ?_ _|refine own_box ?_ ?_);rotate_left;focus first|(refine own_ne o1 ?_;(try dsimp only);omega)|(refine own_ne' o1 ?_;(try dsimp only);omega)))) (by (repeat first|with_reducible exact p2|with_reducible refine oAl ?_ _|with_reducible refine oDr ?_|((with_reducible first|refine own_store ?_ ?_ _|refine own_box ?_ ?_);rotate_left;focus first|(refine own_ne o2 ?_;(try dsimp only);omega)|(refine own_ne' o2 ?_;(try dsimp only);omega)))) hi).mono ?_;rintro _ w4 ⟨rfl,s1,s2,hgw4⟩;have hsw4:=hgw4.size;(try (simp at hsw4));have zz:=And.intro (grHp hgw4 (b:=w2.heap.size) (by (try simp) <;> omega) (by assumption)) <| And.intro (grHp hgw4 (b:=w.heap.size+1+1+1) (by (try simp) <;> omega) (by assumption)) <| And.intro (grHp hgw4 (b:=w.heap.size+1+1) (by (try simp) <;> omega) (by assumption)) <| And.intro (grHp hgw4 (b:=w.heap.size+1) (by (try simp) <;> omega) (by assumption)) <| grHp hgw4 (b:=w.heap.size) (by (try simp) <;> omega) (by assumption);(first|simp [go_sem,z_wppp,z_wpp,z_wp,z_w,l_w,l_wp,l_wpp,l_wppp,k0,k1,k2,k3] at zz|simp [go_sem] at zz|skip);(try clear z_w2 x_w2 f_w2 l_w2);(try clear z_wppp x_wppp f_wppp l_wppp);(try clear z_wpp x_wpp f_wpp l_wpp);(try clear z_wp x_wp f_wp l_wp);(try clear z_w x_w f_w l_w);obtain ⟨z_w2,z_wppp,z_wpp,z_wp,z_w⟩:=zz;obtain ⟨x_w2,f_w2,l_w2⟩:=bO z_w2;obtain ⟨x_wppp,f_wppp,l_wppp⟩:=bO z_wppp;obtain ⟨x_wpp,f_wpp,l_wpp⟩:=bO z_wpp;obtain ⟨x_wp,f_wp,l_wp⟩:=bO z_wp;obtain ⟨x_w,f_w,l_w⟩:=bO z_w;have hCw4:Below w.heap.size w w4:=bOwn (by (repeat (with_reducible first|assumption|exact bR|refine bA ?_|refine bD ?_|((first|refine bS ?_ ?_|refine bBx ?_ ?_);rotate_left;focus (try simp) <;> (try omega))))) hgw4 (by (try simp) <;> omega) (fun k hk=>by have:=d1 k hk;omega);clear hgw4)|((go_at_call 76;refine bHit w (by (repeat (with_reducible first|assumption|exact bR|refine bA ?_|refine bD ?_|((first|refine bS ?_ ?_|refine bBx ?_ ?_);rotate_left;focus (try simp) <;> (try omega))))) fun bb=>?_;refine bHit w4 (by (repeat (with_reducible first|assumption|exact bR|refine bA ?_|refine bD ?_|((first|refine bS ?_ ?_|refine bBx ?_ ?_);rotate_left;focus (try simp) <;> (try omega))))) fun bk=>?_;refine (l8Grown_any _ _).mono ?_;rintro _ w5 ⟨rfl,hbw5⟩;have hCw5:Below w.heap.size w w5:=bT bb hbw5;have hsw5:=hbw5.size;(try simp at hsw5);have zz:=And.intro (hpB hbw5 (b:=w2.heap.size) (by (try simp) <;> omega)) <| And.intro (hpB hbw5 (b:=w.heap.size+1+1+1) (by (try simp) <;> omega)) <| And.intro (hpB hbw5 (b:=w.heap.size+1+1) (by (try simp) <;> omega)) <| And.intro (hpB hbw5 (b:=w.heap.size+1) (by (try simp) <;> omega)) <| hpB hbw5 (b:=w.heap.size) (by (try simp) <;> omega);(first|simp [go_sem,z_w2,z_wppp,z_wpp,z_wp,z_w,l_w,l_w2,l_wp,l_wpp,l_wppp,k0,k1,k2,k3] at zz|simp [go_sem,z_wppp,z_wpp,z_wp,z_w,l_w,l_wp,l_wpp,l_wppp,k0,k1,k2,k3] at zz|simp [go_sem] at zz|skip);(try clear z_w2 x_w2 f_w2 l_w2);(try clear z_wppp x_wppp f_wppp l_wppp);(try clear z_wpp x_wpp f_wpp l_wpp);(try clear z_wp x_wp f_wp l_wp);(try clear z_w x_w f_w l_w);obtain ⟨z_w2,z_wppp,z_wpp,z_wp,z_w⟩:=zz;obtain ⟨x_w2,f_w2,l_w2⟩:=bO z_w2;obtain ⟨x_wppp,f_wppp,l_wppp⟩:=bO z_wppp;obtain ⟨x_wpp,f_wpp,l_wpp⟩:=bO z_wpp;obtain ⟨x_wp,f_wp,l_wp⟩:=bO z_wp;obtain ⟨x_w,f_w,l_w⟩:=bO z_w;have hKw5:Below w4.heap.size w4 w5:=bT bk hbw5;clear hbw5 bb bk);have r1:=own_below s1 hKw5;have r2:=own_below s2 hKw5)|((go_at_call 65;refine bHit w (by (repeat (with_reducible first|assumption|exact bR|refine bA ?_|refine bD ?_|((first|refine bS ?_ ?_|refine bBx ?_ ?_);rotate_left;focus (try simp) <;> (try omega))))) fun bb=>?_;refine (D.out _ _ _ (by (repeat first|with_reducible exact r1|with_reducible refine oAl ?_ _|with_reducible refine oDr ?_|((with_reducible first|refine own_store ?_ ?_ _|refine own_box ?_ ?_);rotate_left;focus first|(refine own_ne o1 ?_;(try dsimp only);omega)|(refine own_ne' o1 ?_;(try dsimp only);omega)))) (by (repeat first|with_reducible exact r2|with_reducible refine oAl ?_ _|with_reducible refine oDr ?_|((with_reducible first|refine own_store ?_ ?_ _|refine own_box ?_ ?_);rotate_left;focus first|(refine own_ne o2 ?_;(try dsimp only);omega)|(refine own_ne' o2 ?_;(try dsimp only);omega))))).mono ?_;rintro _ w3 ⟨⟨y1,y2,rfl,oY1,oY2,fY1,fY2⟩,hbw3⟩;have hCw3:Below w.heap.size w w3:=bT bb hbw3;have hsw3:=hbw3.size;(try simp at hsw3);have zz:=And.intro (hpB hbw3 (b:=w2.heap.size) (by (try simp) <;> omega)) <| And.intro (hpB hbw3 (b:=w.heap.size+1+1+1) (by (try simp) <;> omega)) <| And.intro (hpB hbw3 (b:=w.heap.size+1+1) (by (try simp) <;> omega)) <| And.intro (hpB hbw3 (b:=w.heap.size+1) (by (try simp) <;> omega)) <| hpB hbw3 (b:=w.heap.size) (by (try simp) <;> omega);(first|simp [go_sem,z_w2,z_wppp,z_wpp,z_wp,z_w,l_w,l_w2,l_wp,l_wpp,l_wppp,k0,k1,k2,k3] at zz|simp [go_sem,z_wppp,z_wpp,z_wp,z_w,l_w,l_wp,l_wpp,l_wppp,k0,k1,k2,k3] at zz|simp [go_sem] at zz|skip);(try clear z_w2 x_w2 f_w2 l_w2);(try clear z_wppp x_wppp f_wppp l_wppp);(try clear z_wpp x_wpp f_wpp l_wpp);(try clear z_wp x_wp f_wp l_wp);(try clear z_w x_w f_w l_w);obtain ⟨z_w2,z_wppp,z_wpp,z_wp,z_w⟩:=zz;obtain ⟨x_w2,f_w2,l_w2⟩:=bO z_w2;obtain ⟨x_wppp,f_wppp,l_wppp⟩:=bO z_wppp;obtain ⟨x_wpp,f_wpp,l_wpp⟩:=bO z_wpp;obtain ⟨x_wp,f_wp,l_wp⟩:=bO z_wp;obtain ⟨x_w,f_w,l_w⟩:=bO z_w;clear hbw3 bb);have hoff1:∀ j,w.heap.size≤j→j<w.heap.size+1+1+1+1→y1.ownBlock≠some j:=fun j _ h2=>fY1.off2 d1 h2 (by (try simp) <;> omega);have hoff2:∀ j,w.heap.size≤j→j<w.heap.size+1+1+1+1→y2.ownBlock≠some j:=fun j _ h2=>fY2.off2 d2 h2 (by (try simp) <;> omega);have fr1:Fresh w (.slice none 0 0) y1:=fun j hj=>.inr (fY1.up d1 (by (try simp) <;> omega) (by (try simp) <;> omega) j hj);have fr2:Fresh w (.slice none 0 0) y2:=fun j hj=>.inr (fY2.up d2 (by (try simp) <;> omega) (by (try simp) <;> omega) j hj);obtain ⟨ya,yp,rfl,_⟩:=oY1.seg;obtain ⟨yb,yq,rfl,_⟩:=oY2.seg))
  all_goals go_wp2
  all_goals (refine bodyPost_ret (res_cct Try.results61 rfl (ldChan x.1 (.slice ya x.1.cells.length yp) (.slice yb x.1.words.length yq) (by simp [go_sem, *])) rfl (ldHand x.2.1 (by simp [go_sem, *]))) rfl ⟨⟨_,_,rfl,?_,?_,fr1,fr2⟩,by (repeat (with_reducible first|assumption|exact bR|refine bA ?_|refine bD ?_|((first|refine bS ?_ ?_|refine bBx ?_ ?_);rotate_left;focus (try simp) <;> (try omega))))⟩)
  all_goals ((repeat first|with_reducible exact oY1|with_reducible refine oAl ?_ _|with_reducible refine oDr ?_|((with_reducible first|refine own_store ?_ ?_ _|refine own_box ?_ ?_);rotate_left;focus first|(refine own_ne oY1 ?_;(try dsimp only);omega)|(refine own_ne' oY1 ?_;(try dsimp only);omega)|exact hoff1 _ (by (try dsimp only) <;> omega) (by (try dsimp only) <;> omega))))
  all_goals ((repeat first|with_reducible exact oY2|with_reducible refine oAl ?_ _|with_reducible refine oDr ?_|((with_reducible first|refine own_store ?_ ?_ _|refine own_box ?_ ?_);rotate_left;focus first|(refine own_ne oY2 ?_;(try dsimp only);omega)|(refine own_ne' oY2 ?_;(try dsimp only);omega)|exact hoff2 _ (by (try dsimp only) <;> omega) (by (try dsimp only) <;> omega))))
set_option maxRecDepth 100000 in
set_option maxHeartbeats 2000000 in
theorem sGrow_22 (c:Ch) (h:Ha) (a b:Option Addr) (p q:Nat) (w:World) (h1:Seg w w.heap.size a c.cells.length 3 (cellF c.cells)) (z1:a=none→p=0) (h2:Seg w w.heap.size b c.words.length 1 (intF c.words)) (z2:b=none→q=0) (hk:stepOk c h 16 22 2=true) (hp0:h.pos=22) :
    Calls Try.prog 61 #[.agg (cvals c (.slice a c.cells.length p) (.slice b c.words.length q)),.agg (hvals h)] w fun r w'=>StepN w w' (growStep c h) r:=by
  obtain ⟨k1,k2,_,_⟩:=stepOk_yes hk
  obtain ⟨n1,n2⟩:=chan_40 k1
  have m1:c.cells.length≤1099511627776:=by omega
  have m2:c.words.length≤1099511627776:=by omega
  have H1:=Lib.hid h1
  have H2:=Lib.hid h2
  have Z1:=Lib.hid z1
  have Z2:=Lib.hid z2
  obtain ⟨c1,c2⟩:=hand_grow k2
  obtain ⟨i,hci⟩:∃ i:Nat,h.grow=(i:Int):=⟨h.grow.toNat,by omega⟩
  have hi:i<c.cells.length:=by omega
  have e:growStep c h=done (stateC c i 9) ({ h with pos:=16,grow:=(i:Int) }):=by simp [growStep,hk,hp0,hci]
  rw [e]
  have ST:=Lib.hid fun v1 v2 W=>wState_any c i 9 v1 v2 w.heap.size W
  have D:=fun v1 v2 W=>l6Done_any (stateC c i 9) ({ h with pos:=16,grow:=(i:Int) }) v1 v2 w.heap.size W
  simp only [state_ints,state_words] at D
  generalize done (stateC c i 9) ({ h with pos:=16,grow:=(i:Int) })=x at *
  replace D:=Lib.hid D
  clear h1 h2 z1 z2 e k1 k2 n1 n2 c1 c2
  go_enter Try.func61,Try.ntmps61
  go_wp2_with fail;refine bHit w (by (repeat (with_reducible first|assumption|exact bR|refine bA ?_|refine bD ?_|((first|refine bS ?_ ?_|refine bBx ?_ ?_);rotate_left;focus (try simp) <;> (try omega))))) fun bb=>?_;refine (l6Ok_any c h 16 22 2 a b p q _ ((H1.out.below bb).more bb.size) ((H2.out.below bb).more bb.size)).mono ?_;rintro _ w1 ⟨rfl,hbw1⟩;have hCw1:Below w.heap.size w w1:=bT bb hbw1;have hsw1:=hbw1.size;(try simp at hsw1);have zz:=And.intro (hpB hbw1 (b:=w.heap.size+1+1+1) (by (try simp) <;> omega)) <| And.intro (hpB hbw1 (b:=w.heap.size+1+1) (by (try simp) <;> omega)) <| And.intro (hpB hbw1 (b:=w.heap.size+1) (by (try simp) <;> omega)) <| hpB hbw1 (b:=w.heap.size) (by (try simp) <;> omega);(try simp [go_sem] at zz);(try clear z_wppp x_wppp f_wppp l_wppp);(try clear z_wpp x_wpp f_wpp l_wpp);(try clear z_wp x_wp f_wp l_wp);(try clear z_w x_w f_w l_w);obtain ⟨z_wppp,z_wpp,z_wp,z_w⟩:=zz;obtain ⟨x_wppp,f_wppp,l_wppp⟩:=bO z_wppp;obtain ⟨x_wpp,f_wpp,l_wpp⟩:=bO z_wpp;obtain ⟨x_wp,f_wp,l_wp⟩:=bO z_wp;obtain ⟨x_w,f_w,l_w⟩:=bO z_w;clear hbw1 bb
  rw [hk]
  go_wp2_with fail;refine bHit w (by (repeat (with_reducible first|assumption|exact bR|refine bA ?_|refine bD ?_|((first|refine bS ?_ ?_|refine bBx ?_ ?_);rotate_left;focus (try simp) <;> (try omega))))) fun bb=>?_;refine (wCopy_any c a b p q _ ((H1.out.below bb).more bb.size) Z1.out ((H2.out.below bb).more bb.size) Z2.out m1 m2).mono ?_;rintro _ w2 ⟨⟨v1,v2,rfl,o1,o2⟩,hbw2⟩;have hCw2:Below w.heap.size w w2:=bT bb hbw2;have hsw2:=hbw2.size;(try simp at hsw2);have zz:=And.intro (hpB hbw2 (b:=w.heap.size+1+1+1) (by (try simp) <;> omega)) <| And.intro (hpB hbw2 (b:=w.heap.size+1+1) (by (try simp) <;> omega)) <| And.intro (hpB hbw2 (b:=w.heap.size+1) (by (try simp) <;> omega)) <| hpB hbw2 (b:=w.heap.size) (by (try simp) <;> omega);(first|simp [go_sem,z_wppp,z_wpp,z_wp,z_w,l_w,l_wp,l_wpp,l_wppp] at zz|simp [go_sem] at zz|skip);(try clear z_wppp x_wppp f_wppp l_wppp);(try clear z_wpp x_wpp f_wpp l_wpp);(try clear z_wp x_wp f_wp l_wp);(try clear z_w x_w f_w l_w);obtain ⟨z_wppp,z_wpp,z_wp,z_w⟩:=zz;obtain ⟨x_wppp,f_wppp,l_wppp⟩:=bO z_wppp;obtain ⟨x_wpp,f_wpp,l_wpp⟩:=bO z_wpp;obtain ⟨x_wp,f_wp,l_wp⟩:=bO z_wp;obtain ⟨x_w,f_w,l_w⟩:=bO z_w;clear hbw2 bb
  have d1:∀ j,v1.ownBlock=some j→w.heap.size+1+1+1+1≤j:=fun j hj=>by have:=(o1.lt j hj).1;omega
  have d2:∀ j,v2.ownBlock=some j→w.heap.size+1+1+1+1≤j:=fun j hj=>by have:=(o2.lt j hj).1;omega
  have p1:=own_lo (lo':=w.heap.size) o1 (by omega)
  have p2:=own_lo (lo':=w.heap.size) o2 (by omega)
  obtain ⟨a1,q1,rfl,_⟩:=o1.seg
  obtain ⟨a2,q2,rfl,_⟩:=o2.seg
  have nw:∀ j,(j<w.heap.size+1+1+1+1∨w2.heap.size≤j)→some j≠(Value.slice a1 c.cells.length q1).ownBlock:=fun j hj e=>by have:=d1 _ e.symm;have:=(o1.lt _ e.symm).2;omega
  have nw0:=nw (w.heap.size) (by omega)
  have nw1:=nw (w.heap.size+1) (by omega)
  have nw2:=nw (w.heap.size+1+1) (by omega)
  have nw3:=nw (w.heap.size+1+1+1) (by omega)
  have nwo:=nw w2.heap.size (by omega)
  go_wp2_with fail
  refine (ST.out _ _ _ (by (repeat first|with_reducible exact p1|with_reducible refine oAl ?_ _|with_reducible refine oDr ?_|((with_reducible first|refine own_store ?_ ?_ _|refine own_box ?_ ?_);rotate_left;focus first|(refine own_ne o1 ?_;(try dsimp only);omega)|(refine own_ne' o1 ?_;(try dsimp only);omega)))) (by (repeat first|with_reducible exact p2|with_reducible refine oAl ?_ _|with_reducible refine oDr ?_|((with_reducible first|refine own_store ?_ ?_ _|refine own_box ?_ ?_);rotate_left;focus first|(refine own_ne o2 ?_;(try dsimp only);omega)|(refine own_ne' o2 ?_;(try dsimp only);omega)))) hi).mono ?_
  rintro _ w4 ⟨rfl,s1,s2,hgw4⟩
  have hsw4:=hgw4.size;(try (simp at hsw4));have zz:=And.intro (grHp hgw4 (b:=w2.heap.size) (by (try simp) <;> omega) (by assumption)) <| And.intro (grHp hgw4 (b:=w.heap.size+1+1+1) (by (try simp) <;> omega) (by assumption)) <| And.intro (grHp hgw4 (b:=w.heap.size+1+1) (by (try simp) <;> omega) (by assumption)) <| And.intro (grHp hgw4 (b:=w.heap.size+1) (by (try simp) <;> omega) (by assumption)) <| grHp hgw4 (b:=w.heap.size) (by (try simp) <;> omega) (by assumption);(first|simp [go_sem,z_wppp,z_wpp,z_wp,z_w,l_w,l_wp,l_wpp,l_wppp] at zz|simp [go_sem] at zz|skip);(try clear z_w2 x_w2 f_w2 l_w2);(try clear z_wppp x_wppp f_wppp l_wppp);(try clear z_wpp x_wpp f_wpp l_wpp);(try clear z_wp x_wp f_wp l_wp);(try clear z_w x_w f_w l_w);obtain ⟨z_w2,z_wppp,z_wpp,z_wp,z_w⟩:=zz;obtain ⟨x_w2,f_w2,l_w2⟩:=bO z_w2;obtain ⟨x_wppp,f_wppp,l_wppp⟩:=bO z_wppp;obtain ⟨x_wpp,f_wpp,l_wpp⟩:=bO z_wpp;obtain ⟨x_wp,f_wp,l_wp⟩:=bO z_wp;obtain ⟨x_w,f_w,l_w⟩:=bO z_w
  have hCw4:Below w.heap.size w w4:=bOwn (by (repeat (with_reducible first|assumption|exact bR|refine bA ?_|refine bD ?_|((first|refine bS ?_ ?_|refine bBx ?_ ?_);rotate_left;focus (try simp) <;> (try omega))))) hgw4 (by (try simp) <;> omega) (fun k hk=>by have:=d1 k hk;omega)
  clear hgw4
  have k0:w.heap.size<w2.heap.size:=by omega
  have k1:w.heap.size+1<w2.heap.size:=by omega
  have k2:w.heap.size+1+1<w2.heap.size:=by omega
  have k3:w.heap.size+1+1+1<w2.heap.size:=by omega
  go_wp2_with fail;refine bHit w (by (repeat (with_reducible first|assumption|exact bR|refine bA ?_|refine bD ?_|((first|refine bS ?_ ?_|refine bBx ?_ ?_);rotate_left;focus (try simp) <;> (try omega))))) fun bb=>?_;refine (D.out _ _ _ (by (repeat first|with_reducible exact s1|with_reducible refine oAl ?_ _|with_reducible refine oDr ?_|((with_reducible first|refine own_store ?_ ?_ _|refine own_box ?_ ?_);rotate_left;focus first|(refine own_ne o1 ?_;(try dsimp only);omega)|(refine own_ne' o1 ?_;(try dsimp only);omega)))) (by (repeat first|with_reducible exact s2|with_reducible refine oAl ?_ _|with_reducible refine oDr ?_|((with_reducible first|refine own_store ?_ ?_ _|refine own_box ?_ ?_);rotate_left;focus first|(refine own_ne o2 ?_;(try dsimp only);omega)|(refine own_ne' o2 ?_;(try dsimp only);omega))))).mono ?_;rintro _ w3 ⟨⟨y1,y2,rfl,oY1,oY2,fY1,fY2⟩,hbw3⟩;have hCw3:Below w.heap.size w w3:=bT bb hbw3;have hsw3:=hbw3.size;(try simp at hsw3);have zz:=And.intro (hpB hbw3 (b:=w.heap.size+1+1+1) (by (try simp) <;> omega)) <| And.intro (hpB hbw3 (b:=w.heap.size+1+1) (by (try simp) <;> omega)) <| And.intro (hpB hbw3 (b:=w.heap.size+1) (by (try simp) <;> omega)) <| hpB hbw3 (b:=w.heap.size) (by (try simp) <;> omega);(first|simp [go_sem,z_wppp,z_wpp,z_wp,z_w,l_w,l_wp,l_wpp,l_wppp,k0,k1,k2,k3] at zz|simp [go_sem] at zz|skip);(try clear z_wppp x_wppp f_wppp l_wppp);(try clear z_wpp x_wpp f_wpp l_wpp);(try clear z_wp x_wp f_wp l_wp);(try clear z_w x_w f_w l_w);obtain ⟨z_wppp,z_wpp,z_wp,z_w⟩:=zz;obtain ⟨x_wppp,f_wppp,l_wppp⟩:=bO z_wppp;obtain ⟨x_wpp,f_wpp,l_wpp⟩:=bO z_wpp;obtain ⟨x_wp,f_wp,l_wp⟩:=bO z_wp;obtain ⟨x_w,f_w,l_w⟩:=bO z_w;clear hbw3 bb
  have hoff1:∀ j,w.heap.size≤j→j<w.heap.size+1+1+1+1→y1.ownBlock≠some j:=fun j _ h2=>fY1.off2 d1 h2 (by (try simp) <;> omega);have hoff2:∀ j,w.heap.size≤j→j<w.heap.size+1+1+1+1→y2.ownBlock≠some j:=fun j _ h2=>fY2.off2 d2 h2 (by (try simp) <;> omega);have fr1:Fresh w (.slice none 0 0) y1:=fun j hj=>.inr (fY1.up d1 (by (try simp) <;> omega) (by (try simp) <;> omega) j hj);have fr2:Fresh w (.slice none 0 0) y2:=fun j hj=>.inr (fY2.up d2 (by (try simp) <;> omega) (by (try simp) <;> omega) j hj);obtain ⟨ya,yp,rfl,_⟩:=oY1.seg;obtain ⟨yb,yq,rfl,_⟩:=oY2.seg
  go_wp2
  refine bodyPost_ret (res_cct Try.results61 rfl (ldChan x.1 (.slice ya x.1.cells.length yp) (.slice yb x.1.words.length yq) (by simp [go_sem, *])) rfl (ldHand x.2.1 (by simp [go_sem, *]))) rfl ⟨⟨_,_,rfl,?_,?_,fr1,fr2⟩,by (repeat (with_reducible first|assumption|exact bR|refine bA ?_|refine bD ?_|((first|refine bS ?_ ?_|refine bBx ?_ ?_);rotate_left;focus (try simp) <;> (try omega))))⟩
  · (repeat first|with_reducible exact oY1|with_reducible refine oAl ?_ _|with_reducible refine oDr ?_|((with_reducible first|refine own_store ?_ ?_ _|refine own_box ?_ ?_);rotate_left;focus first|(refine own_ne oY1 ?_;(try dsimp only);omega)|(refine own_ne' oY1 ?_;(try dsimp only);omega)|exact hoff1 _ (by (try dsimp only) <;> omega) (by (try dsimp only) <;> omega)))
  · (repeat first|with_reducible exact oY2|with_reducible refine oAl ?_ _|with_reducible refine oDr ?_|((with_reducible first|refine own_store ?_ ?_ _|refine own_box ?_ ?_);rotate_left;focus first|(refine own_ne oY2 ?_;(try dsimp only);omega)|(refine own_ne' oY2 ?_;(try dsimp only);omega)|exact hoff2 _ (by (try dsimp only) <;> omega) (by (try dsimp only) <;> omega)))
end Go.Proofs.Ytlfcgeoifmnjnaa
set_option linter.unusedSimpArgs false
set_option linter.unusedVariables false
namespace Go.Proofs.Ytlfcgeoifmnjnaa
open Go.RowKit
set_option linter.unusedSimpArgs false
attribute [local simp] bx_size
attribute [local go_sem ↓] zeroHand zeroChan toLHand toLChan toVHand toVChan storeHand storeChan storeHandC storeChanC
theorem begin_cells (c:Ch) (h:Ha):(begin8 c h).1.cells=c.cells:=by unfold begin8;split <;> rfl
theorem begin_words (c:Ch) (h:Ha):(begin8 c h).1.words=c.words:=by unfold begin8;split <;> rfl
set_option maxRecDepth 100000 in
set_option maxHeartbeats 2000000 in
theorem l8Begin_any (c:Ch) (h:Ha) (a1 a2:Option Addr) (n1 n2 q1 q2:Nat) (w:World) (hf:0≤c.fin∧c.fin≤40) :
    Calls Try.prog 75 #[.agg (cvals c (.slice a1 n1 q1) (.slice a2 n2 q2)),.agg (hvals h)] w fun r w'=>r=.returned (.tuple #[.agg (cvals (begin8 c h).1 (.slice a1 n1 q1) (.slice a2 n2 q2)),.agg (hvals (begin8 c h).2)])∧Below w.heap.size w w':=by
  by_cases hc:c.cap=0∨c.fin=40
  · rw [show begin8 c h=(c,grown8 h) by unfold begin8;rw [if_pos (by simpa using hc)]]
    have hc2:(c.cap == 0)=true∨((c.cap == 0)=false∧(c.fin == 40)=true):=by
      by_cases h0:c.cap=0
      · exact .inl (by simpa using h0)
      · exact .inr ⟨by simpa using h0,by simpa [h0] using hc⟩
    clear hc
    rcases hc2 with hc2|⟨hc2,hc3⟩
    all_goals go_enter Try.func75,Try.ntmps75
    all_goals go_wp2_with fail
    all_goals go_region_with (first|((go_at_call 76;refine bHit w (by (repeat (with_reducible first|assumption|exact bR|refine bA ?_|refine bD ?_|((first|refine bS ?_ ?_|refine bBx ?_ ?_);rotate_left;focus (try simp) <;> (try omega))))) fun bb=>?_;refine (l8Grown_any _ _).mono ?_;rintro _ w1 ⟨rfl,hbw1⟩;have hCw1:Below w.heap.size w w1:=bT bb hbw1;have hsw1:=hbw1.size;(try simp at hsw1);have zz:=And.intro (hpB hbw1 (b:=w.heap.size+1+1+1) (by (try simp) <;> omega)) <| And.intro (hpB hbw1 (b:=w.heap.size+1+1) (by (try simp) <;> omega)) <| And.intro (hpB hbw1 (b:=w.heap.size+1) (by (try simp) <;> omega)) <| hpB hbw1 (b:=w.heap.size) (by (try simp) <;> omega);(try simp [go_sem] at zz);(try clear z_wppp x_wppp f_wppp l_wppp);(try clear z_wpp x_wpp f_wpp l_wpp);(try clear z_wp x_wp f_wp l_wp);(try clear z_w x_w f_w l_w);obtain ⟨z_wppp,z_wpp,z_wp,z_w⟩:=zz;obtain ⟨x_wppp,f_wppp,l_wppp⟩:=bO z_wppp;obtain ⟨x_wpp,f_wpp,l_wpp⟩:=bO z_wpp;obtain ⟨x_wp,f_wp,l_wp⟩:=bO z_wp;obtain ⟨x_w,f_w,l_w⟩:=bO z_w;have hKw1:Below w.heap.size w w1:=hCw1;clear hbw1 bb)))
    all_goals go_wp2
    all_goals exact bodyPost_ret (res_cc Try.results75 rfl (ldChan c (.slice a1 n1 q1) (.slice a2 n2 q2) (by simp [go_sem, *])) rfl (ldHand (grown8 h) (by simp [go_sem, *]))) rfl ⟨rfl,by (repeat (with_reducible first|assumption|exact bR|refine bA ?_|refine bD ?_|((first|refine bS ?_ ?_|refine bBx ?_ ?_);rotate_left;focus (try simp) <;> (try omega))))⟩
  · have hc0:(c.cap == 0)=false:=by simp;omega
    have hc1:(c.fin == 40)=false:=by simp;omega
    rw [show begin8 c h=({ c with fin:=c.fin+1 },{ h with grow:=c.fin,pos:=17 }) by unfold begin8;rw [if_neg (by simpa using hc)]]
    clear hc
    go_enter Try.func75,Try.ntmps75
    go_wp2_with fail
    go_region
    all_goals go_wp2
    all_goals exact bodyPost_ret (res_cc Try.results75 rfl (ldChan { c with fin:=c.fin+1 } (.slice a1 n1 q1) (.slice a2 n2 q2) (by simp [go_sem, *] <;> rfl)) rfl (ldHand { h with grow:=c.fin,pos:=17 } (by simp [go_sem, *] <;> rfl))) rfl ⟨rfl,by (repeat (with_reducible first|assumption|exact bR|refine bA ?_|refine bD ?_|((first|refine bS ?_ ?_|refine bBx ?_ ?_);rotate_left;focus (try simp) <;> (try omega))))⟩
end Go.Proofs.Ytlfcgeoifmnjnaa
set_option linter.unusedSimpArgs false
set_option linter.unusedVariables false
namespace Go.Proofs.Ytlfcgeoifmnjnaa
open Go.RowKit
set_option linter.unusedSimpArgs false
attribute [local simp] bx_size
attribute [local go_sem ↓] zeroHand zeroChan toLHand toLChan toVHand toVChan storeHand storeChan storeHandC storeChanC
set_option maxRecDepth 100000 in
set_option maxHeartbeats 4000000 in
theorem l8Pull_st (c:Ch) (h:Ha) (v1 v2:Value) (lo:Nat) (w:World) (h1:OCells w lo v1 c.cells) (h2:OInts w lo v2 c.words) (hc0:0≤h.grow) (hc1:h.grow<c.cells.length) (hs:(h.seen == 3)=true) (hs2:(h.seen == 0)=false) (ht:turnCB c h.grow h.seen 6 h.wait=true) :
    Calls Try.prog 78 #[.agg (cvals c v1 v2),.agg (hvals h)] w fun r w'=>StepO w w' lo v1 v2 (pull8 c h) r:=by
  obtain ⟨i,hci⟩:∃ i:Nat,h.grow=(i:Int):=⟨h.grow.toNat,by omega⟩
  have hi:i<c.cells.length:=by omega
  have ht2:turnCB c i h.seen 6 h.wait=true:=by rw [← ht,hci]
  have e:pull8 c h=done (turnC c i h.seen 6 h.wait) ({ h with pos:=20,grow:=(i:Int) }):=by simp at hs hs2;simp [pull8,turn8,hs,hs2,hci] at ht2 ⊢;simp [ht2]
  rw [e]
  have T:=Lib.hid fun W a b=>wTurn_any c i h.seen 6 h.wait v1 v2 lo W a b hi
  have D:=Lib.hid fun W=>l6Done_any (turnC c i h.seen 6 h.wait) ({ h with pos:=20,grow:=(i:Int) }) v1 v2 lo W
  generalize done (turnC c i h.seen 6 h.wait) ({ h with pos:=20,grow:=(i:Int) })=x at *
  rw [ht2] at T
  have b1:=fun j (hj:v1.ownBlock=some j)=>(h1.lt j hj).2
  have b2:=fun j (hj:v2.ownBlock=some j)=>(h2.lt j hj).2
  have m1:∀ j,w.heap.size≤j→some j≠v1.ownBlock:=fun j hj e=>by have:=b1 _ e.symm;omega
  have m2:∀ j,w.heap.size≤j→some j≠v2.ownBlock:=fun j hj e=>by have:=b2 _ e.symm;omega
  have m10:=m1 (w.heap.size) (by omega)
  have m20:=m2 (w.heap.size) (by omega)
  have m11:=m1 (w.heap.size+1) (by omega)
  have m21:=m2 (w.heap.size+1) (by omega)
  have m12:=m1 (w.heap.size+1+1) (by omega)
  have m22:=m2 (w.heap.size+1+1) (by omega)
  have m13:=m1 (w.heap.size+1+1+1) (by omega)
  have m23:=m2 (w.heap.size+1+1+1) (by omega)
  have o1:=h1
  have o2:=h2
  obtain ⟨a1,q1,e1,_⟩:=h1.seg
  obtain ⟨a2,q2,e2,_⟩:=h2.seg
  subst e1 e2
  clear h1 h2 e ht
  go_enter Try.func78,Try.ntmps78
  go_wp2_with fail;refine bHit w (by (repeat (with_reducible first|assumption|exact bR|refine bA ?_|refine bD ?_|((first|refine bS ?_ ?_|refine bBx ?_ ?_);rotate_left;focus (try simp) <;> (try omega))))) fun bb=>?_;refine (l8Grown_any _ _).mono ?_;rintro _ w4 ⟨rfl,hbw4⟩;have hCw4:Below w.heap.size w w4:=bT bb hbw4;have hsw4:=hbw4.size;(try simp at hsw4);have zz:=And.intro (hpB hbw4 (b:=w.heap.size+1+1+1) (by (try simp) <;> omega)) <| And.intro (hpB hbw4 (b:=w.heap.size+1+1) (by (try simp) <;> omega)) <| And.intro (hpB hbw4 (b:=w.heap.size+1) (by (try simp) <;> omega)) <| hpB hbw4 (b:=w.heap.size) (by (try simp) <;> omega);(try simp [go_sem] at zz);(try clear z_wppp x_wppp f_wppp l_wppp);(try clear z_wpp x_wpp f_wpp l_wpp);(try clear z_wp x_wp f_wp l_wp);(try clear z_w x_w f_w l_w);obtain ⟨z_wppp,z_wpp,z_wp,z_w⟩:=zz;obtain ⟨x_wppp,f_wppp,l_wppp⟩:=bO z_wppp;obtain ⟨x_wpp,f_wpp,l_wpp⟩:=bO z_wpp;obtain ⟨x_wp,f_wp,l_wp⟩:=bO z_wp;obtain ⟨x_w,f_w,l_w⟩:=bO z_w;clear hbw4 bb
  have o3:=own_below o1 hCw4
  have o4:=own_below o2 hCw4
  have m14:=m1 w4.heap.size (by omega)
  have m24:=m2 w4.heap.size (by omega)
  have l_w4:w4.heap.size<w4.heap.size+1:=by omega
  have k0:w.heap.size<w4.heap.size:=by omega
  have k1:w.heap.size+1<w4.heap.size:=by omega
  have k2:w.heap.size+1+1<w4.heap.size:=by omega
  have k3:w.heap.size+1+1+1<w4.heap.size:=by omega
  go_wp2_with fail;refine (T.out _ (by (repeat first|with_reducible exact o3|with_reducible refine oAl ?_ _|with_reducible refine oDr ?_|((with_reducible first|refine own_store ?_ ?_ _|refine own_box ?_ ?_);rotate_left;focus first|(refine own_ne o1 ?_;(try dsimp only);omega)|(refine own_ne' o1 ?_;(try dsimp only);omega)))) (by (repeat first|with_reducible exact o4|with_reducible refine oAl ?_ _|with_reducible refine oDr ?_|((with_reducible first|refine own_store ?_ ?_ _|refine own_box ?_ ?_);rotate_left;focus first|(refine own_ne o2 ?_;(try dsimp only);omega)|(refine own_ne' o2 ?_;(try dsimp only);omega))))).mono ?_;rintro _ w1 ⟨rfl,p1,p2,hgw1⟩;have hsw1:=hgw1.size;(try (simp at hsw1));have zz:=And.intro (grHp hgw1 (b:=w4.heap.size) (by (try simp) <;> omega) (by assumption)) <| And.intro (grHp hgw1 (b:=w.heap.size+1+1+1) (by (try simp) <;> omega) (by assumption)) <| And.intro (grHp hgw1 (b:=w.heap.size+1+1) (by (try simp) <;> omega) (by assumption)) <| And.intro (grHp hgw1 (b:=w.heap.size+1) (by (try simp) <;> omega) (by assumption)) <| grHp hgw1 (b:=w.heap.size) (by (try simp) <;> omega) (by assumption);(first|simp [go_sem,z_wppp,z_wpp,z_wp,z_w,l_w,l_w4,l_wp,l_wpp,l_wppp,k0,k1,k2,k3] at zz|simp [go_sem] at zz|skip);(try clear z_w4 x_w4 f_w4 l_w4);(try clear z_wppp x_wppp f_wppp l_wppp);(try clear z_wpp x_wpp f_wpp l_wpp);(try clear z_wp x_wp f_wp l_wp);(try clear z_w x_w f_w l_w);obtain ⟨z_w4,z_wppp,z_wpp,z_wp,z_w⟩:=zz;obtain ⟨x_w4,f_w4,l_w4⟩:=bO z_w4;obtain ⟨x_wppp,f_wppp,l_wppp⟩:=bO z_wppp;obtain ⟨x_wpp,f_wpp,l_wpp⟩:=bO z_wpp;obtain ⟨x_wp,f_wp,l_wp⟩:=bO z_wp;obtain ⟨x_w,f_w,l_w⟩:=bO z_w;have hGw1:=grB (w:=w) (by (repeat (with_reducible first|assumption|exact bR|refine bA ?_|refine bD ?_|((first|refine bS ?_ ?_|refine bBx ?_ ?_);rotate_left;focus (try simp) <;> (try omega))))) hgw1;clear hgw1
  have hO1:Onl (Value.slice a1 c.cells.length q1).ownBlock (Value.slice a2 c.words.length q2).ownBlock w w1:=onl1 hGw1
  clear k0 k1 k2 k3
  have k0:w.heap.size<w1.heap.size:=by omega
  have k1:w.heap.size+1<w1.heap.size:=by omega
  have k2:w.heap.size+1+1<w1.heap.size:=by omega
  have k3:w.heap.size+1+1+1<w1.heap.size:=by omega
  have k4:w4.heap.size<w1.heap.size:=by omega
  have r1:OCells w1 lo (.slice a1 c.cells.length q1) (turnC c i h.seen 6 h.wait).cells:=p1
  have r2:OInts w1 lo (.slice a2 c.words.length q2) (turnC c i h.seen 6 h.wait).words:=p2
  go_wp2_with fail
  refine (D.out _ (by (repeat first|with_reducible exact r1|with_reducible refine oAl ?_ _|with_reducible refine oDr ?_|((with_reducible first|refine own_store ?_ ?_ _|refine own_box ?_ ?_);rotate_left;focus first|(refine own_ne o1 ?_;(try dsimp only);omega)|(refine own_ne' o1 ?_;(try dsimp only);omega)))) (by (repeat first|with_reducible exact r2|with_reducible refine oAl ?_ _|with_reducible refine oDr ?_|((with_reducible first|refine own_store ?_ ?_ _|refine own_box ?_ ?_);rotate_left;focus first|(refine own_ne o2 ?_;(try dsimp only);omega)|(refine own_ne' o2 ?_;(try dsimp only);omega))))).mono ?_
  rintro _ w3 ⟨⟨y1,y2,rfl,oY1,oY2,fY1,fY2⟩,hbw3⟩
  have hO3:Onl (Value.slice a1 c.cells.length q1).ownBlock (Value.slice a2 c.words.length q2).ownBlock w w3:=onlT (by (repeat (first|with_reducible assumption|with_reducible refine oA ?_|with_reducible refine oD ?_|((with_reducible refine oX ?_ ?_);rotate_left;(focus ((try dsimp only);(try simp);(try omega))))|((with_reducible refine oS ?_ ?_);rotate_left;(focus ((try dsimp only);(try simp);(try omega))))))) (onlB hbw3)
  have hsw3:=hbw3.size;(try simp at hsw3);have zz:=And.intro (hpB hbw3 (b:=w.heap.size+1+1+1) (by (try simp) <;> omega)) <| And.intro (hpB hbw3 (b:=w.heap.size+1+1) (by (try simp) <;> omega)) <| And.intro (hpB hbw3 (b:=w.heap.size+1) (by (try simp) <;> omega)) <| hpB hbw3 (b:=w.heap.size) (by (try simp) <;> omega);(first|simp [go_sem,z_wppp,z_wpp,z_wp,z_w,l_w,l_wp,l_wpp,l_wppp,k0,k1,k2,k3,k4] at zz|simp [go_sem] at zz|skip);(try clear z_wppp x_wppp f_wppp l_wppp);(try clear z_wpp x_wpp f_wpp l_wpp);(try clear z_wp x_wp f_wp l_wp);(try clear z_w x_w f_w l_w);obtain ⟨z_wppp,z_wpp,z_wp,z_w⟩:=zz;obtain ⟨x_wppp,f_wppp,l_wppp⟩:=bO z_wppp;obtain ⟨x_wpp,f_wpp,l_wpp⟩:=bO z_wpp;obtain ⟨x_wp,f_wp,l_wp⟩:=bO z_wp;obtain ⟨x_w,f_w,l_w⟩:=bO z_w;clear hbw3
  have hoff1:∀ j,w.heap.size≤j→j<w.heap.size+1+1+1+1→y1.ownBlock≠some j:=fun j h1 h2=>fY1.off b1 h1 (by (try simp) <;> omega);have hoff2:∀ j,w.heap.size≤j→j<w.heap.size+1+1+1+1→y2.ownBlock≠some j:=fun j h1 h2=>fY2.off b2 h1 (by (try simp) <;> omega);have fr1:Fresh w _ y1:=fun j hj=>(fY1 j hj).imp id (fun h=>Nat.le_trans (by (try simp) <;> omega) h);have fr2:Fresh w _ y2:=fun j hj=>(fY2 j hj).imp id (fun h=>Nat.le_trans (by (try simp) <;> omega) h);obtain ⟨ya,yp,rfl,_⟩:=oY1.seg;obtain ⟨yb,yq,rfl,_⟩:=oY2.seg
  go_wp2
  refine bodyPost_ret (res_cct Try.results78 rfl (ldChan x.1 (.slice ya x.1.cells.length yp) (.slice yb x.1.words.length yq) (by simp [go_sem, *])) rfl (ldHand x.2.1 (by simp [go_sem, *]))) rfl ⟨⟨_,_,rfl,?_,?_,fr1,fr2⟩,by (repeat (first|with_reducible assumption|with_reducible refine oA ?_|with_reducible refine oD ?_|((with_reducible refine oX ?_ ?_);rotate_left;(focus ((try dsimp only);(try simp);(try omega))))|((with_reducible refine oS ?_ ?_);rotate_left;(focus ((try dsimp only);(try simp);(try omega))))))⟩
  · (repeat first|with_reducible exact oY1|with_reducible refine oAl ?_ _|with_reducible refine oDr ?_|((with_reducible first|refine own_store ?_ ?_ _|refine own_box ?_ ?_);rotate_left;focus first|(refine own_ne oY1 ?_;(try dsimp only);omega)|(refine own_ne' oY1 ?_;(try dsimp only);omega)|exact hoff1 _ (by (try dsimp only) <;> omega) (by (try dsimp only) <;> omega)))
  · (repeat first|with_reducible exact oY2|with_reducible refine oAl ?_ _|with_reducible refine oDr ?_|((with_reducible first|refine own_store ?_ ?_ _|refine own_box ?_ ?_);rotate_left;focus first|(refine own_ne oY2 ?_;(try dsimp only);omega)|(refine own_ne' oY2 ?_;(try dsimp only);omega)|exact hoff2 _ (by (try dsimp only) <;> omega) (by (try dsimp only) <;> omega)))
set_option maxRecDepth 100000 in
set_option maxHeartbeats 4000000 in
theorem l8Pull_sf (c:Ch) (h:Ha) (v1 v2:Value) (lo:Nat) (w:World) (h1:OCells w lo v1 c.cells) (h2:OInts w lo v2 c.words) (hc0:0≤h.grow) (hc1:h.grow<c.cells.length) (hs:(h.seen == 3)=true) (hs2:(h.seen == 0)=false) (ht:turnCB c h.grow h.seen 6 h.wait=false) :
    Calls Try.prog 78 #[.agg (cvals c v1 v2),.agg (hvals h)] w fun r w'=>StepO w w' lo v1 v2 (pull8 c h) r:=by
  obtain ⟨i,hci⟩:∃ i:Nat,h.grow=(i:Int):=⟨h.grow.toNat,by omega⟩
  have hi:i<c.cells.length:=by omega
  have ht2:turnCB c i h.seen 6 h.wait=false:=by rw [← ht,hci]
  have e:pull8 c h=done (turnC c i h.seen 6 h.wait) ({ h with pos:=18,grow:=(i:Int) }):=by simp at hs hs2;simp [pull8,turn8,hs,hs2,hci] at ht2 ⊢;simp [ht2]
  rw [e]
  have T:=Lib.hid fun W a b=>wTurn_any c i h.seen 6 h.wait v1 v2 lo W a b hi
  have D:=Lib.hid fun W=>l6Done_any (turnC c i h.seen 6 h.wait) ({ h with pos:=18,grow:=(i:Int) }) v1 v2 lo W
  generalize done (turnC c i h.seen 6 h.wait) ({ h with pos:=18,grow:=(i:Int) })=x at *
  rw [ht2] at T
  have b1:=fun j (hj:v1.ownBlock=some j)=>(h1.lt j hj).2
  have b2:=fun j (hj:v2.ownBlock=some j)=>(h2.lt j hj).2
  have m1:∀ j,w.heap.size≤j→some j≠v1.ownBlock:=fun j hj e=>by have:=b1 _ e.symm;omega
  have m2:∀ j,w.heap.size≤j→some j≠v2.ownBlock:=fun j hj e=>by have:=b2 _ e.symm;omega
  have m10:=m1 (w.heap.size) (by omega)
  have m20:=m2 (w.heap.size) (by omega)
  have m11:=m1 (w.heap.size+1) (by omega)
  have m21:=m2 (w.heap.size+1) (by omega)
  have m12:=m1 (w.heap.size+1+1) (by omega)
  have m22:=m2 (w.heap.size+1+1) (by omega)
  have m13:=m1 (w.heap.size+1+1+1) (by omega)
  have m23:=m2 (w.heap.size+1+1+1) (by omega)
  have o1:=h1
  have o2:=h2
  obtain ⟨a1,q1,e1,_⟩:=h1.seg
  obtain ⟨a2,q2,e2,_⟩:=h2.seg
  subst e1 e2
  clear h1 h2 e ht
  go_enter Try.func78,Try.ntmps78
  go_wp2_with fail;refine bHit w (by (repeat (with_reducible first|assumption|exact bR|refine bA ?_|refine bD ?_|((first|refine bS ?_ ?_|refine bBx ?_ ?_);rotate_left;focus (try simp) <;> (try omega))))) fun bb=>?_;refine (l8Grown_any _ _).mono ?_;rintro _ w4 ⟨rfl,hbw4⟩;have hCw4:Below w.heap.size w w4:=bT bb hbw4;have hsw4:=hbw4.size;(try simp at hsw4);have zz:=And.intro (hpB hbw4 (b:=w.heap.size+1+1+1) (by (try simp) <;> omega)) <| And.intro (hpB hbw4 (b:=w.heap.size+1+1) (by (try simp) <;> omega)) <| And.intro (hpB hbw4 (b:=w.heap.size+1) (by (try simp) <;> omega)) <| hpB hbw4 (b:=w.heap.size) (by (try simp) <;> omega);(try simp [go_sem] at zz);(try clear z_wppp x_wppp f_wppp l_wppp);(try clear z_wpp x_wpp f_wpp l_wpp);(try clear z_wp x_wp f_wp l_wp);(try clear z_w x_w f_w l_w);obtain ⟨z_wppp,z_wpp,z_wp,z_w⟩:=zz;obtain ⟨x_wppp,f_wppp,l_wppp⟩:=bO z_wppp;obtain ⟨x_wpp,f_wpp,l_wpp⟩:=bO z_wpp;obtain ⟨x_wp,f_wp,l_wp⟩:=bO z_wp;obtain ⟨x_w,f_w,l_w⟩:=bO z_w;clear hbw4 bb
  have o3:=own_below o1 hCw4
  have o4:=own_below o2 hCw4
  have m14:=m1 w4.heap.size (by omega)
  have m24:=m2 w4.heap.size (by omega)
  have l_w4:w4.heap.size<w4.heap.size+1:=by omega
  have k0:w.heap.size<w4.heap.size:=by omega
  have k1:w.heap.size+1<w4.heap.size:=by omega
  have k2:w.heap.size+1+1<w4.heap.size:=by omega
  have k3:w.heap.size+1+1+1<w4.heap.size:=by omega
  go_wp2_with fail;refine (T.out _ (by (repeat first|with_reducible exact o3|with_reducible refine oAl ?_ _|with_reducible refine oDr ?_|((with_reducible first|refine own_store ?_ ?_ _|refine own_box ?_ ?_);rotate_left;focus first|(refine own_ne o1 ?_;(try dsimp only);omega)|(refine own_ne' o1 ?_;(try dsimp only);omega)))) (by (repeat first|with_reducible exact o4|with_reducible refine oAl ?_ _|with_reducible refine oDr ?_|((with_reducible first|refine own_store ?_ ?_ _|refine own_box ?_ ?_);rotate_left;focus first|(refine own_ne o2 ?_;(try dsimp only);omega)|(refine own_ne' o2 ?_;(try dsimp only);omega))))).mono ?_;rintro _ w1 ⟨rfl,p1,p2,hgw1⟩;have hsw1:=hgw1.size;(try (simp at hsw1));have zz:=And.intro (grHp hgw1 (b:=w4.heap.size) (by (try simp) <;> omega) (by assumption)) <| And.intro (grHp hgw1 (b:=w.heap.size+1+1+1) (by (try simp) <;> omega) (by assumption)) <| And.intro (grHp hgw1 (b:=w.heap.size+1+1) (by (try simp) <;> omega) (by assumption)) <| And.intro (grHp hgw1 (b:=w.heap.size+1) (by (try simp) <;> omega) (by assumption)) <| grHp hgw1 (b:=w.heap.size) (by (try simp) <;> omega) (by assumption);(first|simp [go_sem,z_wppp,z_wpp,z_wp,z_w,l_w,l_w4,l_wp,l_wpp,l_wppp,k0,k1,k2,k3] at zz|simp [go_sem] at zz|skip);(try clear z_w4 x_w4 f_w4 l_w4);(try clear z_wppp x_wppp f_wppp l_wppp);(try clear z_wpp x_wpp f_wpp l_wpp);(try clear z_wp x_wp f_wp l_wp);(try clear z_w x_w f_w l_w);obtain ⟨z_w4,z_wppp,z_wpp,z_wp,z_w⟩:=zz;obtain ⟨x_w4,f_w4,l_w4⟩:=bO z_w4;obtain ⟨x_wppp,f_wppp,l_wppp⟩:=bO z_wppp;obtain ⟨x_wpp,f_wpp,l_wpp⟩:=bO z_wpp;obtain ⟨x_wp,f_wp,l_wp⟩:=bO z_wp;obtain ⟨x_w,f_w,l_w⟩:=bO z_w;have hGw1:=grB (w:=w) (by (repeat (with_reducible first|assumption|exact bR|refine bA ?_|refine bD ?_|((first|refine bS ?_ ?_|refine bBx ?_ ?_);rotate_left;focus (try simp) <;> (try omega))))) hgw1;clear hgw1
  have hO1:Onl (Value.slice a1 c.cells.length q1).ownBlock (Value.slice a2 c.words.length q2).ownBlock w w1:=onl1 hGw1
  clear k0 k1 k2 k3
  have k0:w.heap.size<w1.heap.size:=by omega
  have k1:w.heap.size+1<w1.heap.size:=by omega
  have k2:w.heap.size+1+1<w1.heap.size:=by omega
  have k3:w.heap.size+1+1+1<w1.heap.size:=by omega
  have k4:w4.heap.size<w1.heap.size:=by omega
  have r1:OCells w1 lo (.slice a1 c.cells.length q1) (turnC c i h.seen 6 h.wait).cells:=p1
  have r2:OInts w1 lo (.slice a2 c.words.length q2) (turnC c i h.seen 6 h.wait).words:=p2
  go_wp2_with fail
  refine (D.out _ (by (repeat first|with_reducible exact r1|with_reducible refine oAl ?_ _|with_reducible refine oDr ?_|((with_reducible first|refine own_store ?_ ?_ _|refine own_box ?_ ?_);rotate_left;focus first|(refine own_ne o1 ?_;(try dsimp only);omega)|(refine own_ne' o1 ?_;(try dsimp only);omega)))) (by (repeat first|with_reducible exact r2|with_reducible refine oAl ?_ _|with_reducible refine oDr ?_|((with_reducible first|refine own_store ?_ ?_ _|refine own_box ?_ ?_);rotate_left;focus first|(refine own_ne o2 ?_;(try dsimp only);omega)|(refine own_ne' o2 ?_;(try dsimp only);omega))))).mono ?_
  rintro _ w3 ⟨⟨y1,y2,rfl,oY1,oY2,fY1,fY2⟩,hbw3⟩
  have hO3:Onl (Value.slice a1 c.cells.length q1).ownBlock (Value.slice a2 c.words.length q2).ownBlock w w3:=onlT (by (repeat (first|with_reducible assumption|with_reducible refine oA ?_|with_reducible refine oD ?_|((with_reducible refine oX ?_ ?_);rotate_left;(focus ((try dsimp only);(try simp);(try omega))))|((with_reducible refine oS ?_ ?_);rotate_left;(focus ((try dsimp only);(try simp);(try omega))))))) (onlB hbw3)
  have hsw3:=hbw3.size;(try simp at hsw3);have zz:=And.intro (hpB hbw3 (b:=w.heap.size+1+1+1) (by (try simp) <;> omega)) <| And.intro (hpB hbw3 (b:=w.heap.size+1+1) (by (try simp) <;> omega)) <| And.intro (hpB hbw3 (b:=w.heap.size+1) (by (try simp) <;> omega)) <| hpB hbw3 (b:=w.heap.size) (by (try simp) <;> omega);(first|simp [go_sem,z_wppp,z_wpp,z_wp,z_w,l_w,l_wp,l_wpp,l_wppp,k0,k1,k2,k3,k4] at zz|simp [go_sem] at zz|skip);(try clear z_wppp x_wppp f_wppp l_wppp);(try clear z_wpp x_wpp f_wpp l_wpp);(try clear z_wp x_wp f_wp l_wp);(try clear z_w x_w f_w l_w);obtain ⟨z_wppp,z_wpp,z_wp,z_w⟩:=zz;obtain ⟨x_wppp,f_wppp,l_wppp⟩:=bO z_wppp;obtain ⟨x_wpp,f_wpp,l_wpp⟩:=bO z_wpp;obtain ⟨x_wp,f_wp,l_wp⟩:=bO z_wp;obtain ⟨x_w,f_w,l_w⟩:=bO z_w;clear hbw3
  have hoff1:∀ j,w.heap.size≤j→j<w.heap.size+1+1+1+1→y1.ownBlock≠some j:=fun j h1 h2=>fY1.off b1 h1 (by (try simp) <;> omega);have hoff2:∀ j,w.heap.size≤j→j<w.heap.size+1+1+1+1→y2.ownBlock≠some j:=fun j h1 h2=>fY2.off b2 h1 (by (try simp) <;> omega);have fr1:Fresh w _ y1:=fun j hj=>(fY1 j hj).imp id (fun h=>Nat.le_trans (by (try simp) <;> omega) h);have fr2:Fresh w _ y2:=fun j hj=>(fY2 j hj).imp id (fun h=>Nat.le_trans (by (try simp) <;> omega) h);obtain ⟨ya,yp,rfl,_⟩:=oY1.seg;obtain ⟨yb,yq,rfl,_⟩:=oY2.seg
  go_wp2
  refine bodyPost_ret (res_cct Try.results78 rfl (ldChan x.1 (.slice ya x.1.cells.length yp) (.slice yb x.1.words.length yq) (by simp [go_sem, *])) rfl (ldHand x.2.1 (by simp [go_sem, *]))) rfl ⟨⟨_,_,rfl,?_,?_,fr1,fr2⟩,by (repeat (first|with_reducible assumption|with_reducible refine oA ?_|with_reducible refine oD ?_|((with_reducible refine oX ?_ ?_);rotate_left;(focus ((try dsimp only);(try simp);(try omega))))|((with_reducible refine oS ?_ ?_);rotate_left;(focus ((try dsimp only);(try simp);(try omega))))))⟩
  · (repeat first|with_reducible exact oY1|with_reducible refine oAl ?_ _|with_reducible refine oDr ?_|((with_reducible first|refine own_store ?_ ?_ _|refine own_box ?_ ?_);rotate_left;focus first|(refine own_ne oY1 ?_;(try dsimp only);omega)|(refine own_ne' oY1 ?_;(try dsimp only);omega)|exact hoff1 _ (by (try dsimp only) <;> omega) (by (try dsimp only) <;> omega)))
  · (repeat first|with_reducible exact oY2|with_reducible refine oAl ?_ _|with_reducible refine oDr ?_|((with_reducible first|refine own_store ?_ ?_ _|refine own_box ?_ ?_);rotate_left;focus first|(refine own_ne oY2 ?_;(try dsimp only);omega)|(refine own_ne' oY2 ?_;(try dsimp only);omega)|exact hoff2 _ (by (try dsimp only) <;> omega) (by (try dsimp only) <;> omega)))
set_option maxRecDepth 100000 in
set_option maxHeartbeats 4000000 in
theorem l8Pull_nt (c:Ch) (h:Ha) (v1 v2:Value) (lo:Nat) (w:World) (h1:OCells w lo v1 c.cells) (h2:OInts w lo v2 c.words) (hc0:0≤h.grow) (hc1:h.grow<c.cells.length) (hs:(h.seen == 3)=false) (hs2:(h.seen == 0)=true) (ht:turnCB c h.grow h.seen 1 0=true) :
    Calls Try.prog 78 #[.agg (cvals c v1 v2),.agg (hvals h)] w fun r w'=>StepO w w' lo v1 v2 (pull8 c h) r:=by
  obtain ⟨i,hci⟩:∃ i:Nat,h.grow=(i:Int):=⟨h.grow.toNat,by omega⟩
  have hi:i<c.cells.length:=by omega
  have ht2:turnCB c i h.seen 1 0=true:=by rw [← ht,hci]
  have e:pull8 c h=done (turnC c i h.seen 1 0) (grown8 h):=by simp at hs hs2;simp [pull8,turn8,hs,hs2,hci] at ht2 ⊢;simp [ht2]
  rw [e]
  have T:=Lib.hid fun W a b=>wTurn_any c i h.seen 1 0 v1 v2 lo W a b hi
  have D:=Lib.hid fun W=>l6Done_any (turnC c i h.seen 1 0) (grown8 h) v1 v2 lo W
  generalize done (turnC c i h.seen 1 0) (grown8 h)=x at *
  rw [ht2] at T
  have b1:=fun j (hj:v1.ownBlock=some j)=>(h1.lt j hj).2
  have b2:=fun j (hj:v2.ownBlock=some j)=>(h2.lt j hj).2
  have m1:∀ j,w.heap.size≤j→some j≠v1.ownBlock:=fun j hj e=>by have:=b1 _ e.symm;omega
  have m2:∀ j,w.heap.size≤j→some j≠v2.ownBlock:=fun j hj e=>by have:=b2 _ e.symm;omega
  have m10:=m1 (w.heap.size) (by omega)
  have m20:=m2 (w.heap.size) (by omega)
  have m11:=m1 (w.heap.size+1) (by omega)
  have m21:=m2 (w.heap.size+1) (by omega)
  have m12:=m1 (w.heap.size+1+1) (by omega)
  have m22:=m2 (w.heap.size+1+1) (by omega)
  have m13:=m1 (w.heap.size+1+1+1) (by omega)
  have m23:=m2 (w.heap.size+1+1+1) (by omega)
  have o1:=h1
  have o2:=h2
  obtain ⟨a1,q1,e1,_⟩:=h1.seg
  obtain ⟨a2,q2,e2,_⟩:=h2.seg
  subst e1 e2
  clear h1 h2 e ht
  go_enter Try.func78,Try.ntmps78
  go_wp2_with fail;refine bHit w (by (repeat (with_reducible first|assumption|exact bR|refine bA ?_|refine bD ?_|((first|refine bS ?_ ?_|refine bBx ?_ ?_);rotate_left;focus (try simp) <;> (try omega))))) fun bb=>?_;refine (l8Grown_any _ _).mono ?_;rintro _ w4 ⟨rfl,hbw4⟩;have hCw4:Below w.heap.size w w4:=bT bb hbw4;have hsw4:=hbw4.size;(try simp at hsw4);have zz:=And.intro (hpB hbw4 (b:=w.heap.size+1+1+1) (by (try simp) <;> omega)) <| And.intro (hpB hbw4 (b:=w.heap.size+1+1) (by (try simp) <;> omega)) <| And.intro (hpB hbw4 (b:=w.heap.size+1) (by (try simp) <;> omega)) <| hpB hbw4 (b:=w.heap.size) (by (try simp) <;> omega);(try simp [go_sem] at zz);(try clear z_wppp x_wppp f_wppp l_wppp);(try clear z_wpp x_wpp f_wpp l_wpp);(try clear z_wp x_wp f_wp l_wp);(try clear z_w x_w f_w l_w);obtain ⟨z_wppp,z_wpp,z_wp,z_w⟩:=zz;obtain ⟨x_wppp,f_wppp,l_wppp⟩:=bO z_wppp;obtain ⟨x_wpp,f_wpp,l_wpp⟩:=bO z_wpp;obtain ⟨x_wp,f_wp,l_wp⟩:=bO z_wp;obtain ⟨x_w,f_w,l_w⟩:=bO z_w;clear hbw4 bb
  have o3:=own_below o1 hCw4
  have o4:=own_below o2 hCw4
  have m14:=m1 w4.heap.size (by omega)
  have m24:=m2 w4.heap.size (by omega)
  have l_w4:w4.heap.size<w4.heap.size+1:=by omega
  have k0:w.heap.size<w4.heap.size:=by omega
  have k1:w.heap.size+1<w4.heap.size:=by omega
  have k2:w.heap.size+1+1<w4.heap.size:=by omega
  have k3:w.heap.size+1+1+1<w4.heap.size:=by omega
  go_wp2_with fail;refine (T.out _ (by (repeat first|with_reducible exact o3|with_reducible refine oAl ?_ _|with_reducible refine oDr ?_|((with_reducible first|refine own_store ?_ ?_ _|refine own_box ?_ ?_);rotate_left;focus first|(refine own_ne o1 ?_;(try dsimp only);omega)|(refine own_ne' o1 ?_;(try dsimp only);omega)))) (by (repeat first|with_reducible exact o4|with_reducible refine oAl ?_ _|with_reducible refine oDr ?_|((with_reducible first|refine own_store ?_ ?_ _|refine own_box ?_ ?_);rotate_left;focus first|(refine own_ne o2 ?_;(try dsimp only);omega)|(refine own_ne' o2 ?_;(try dsimp only);omega))))).mono ?_;rintro _ w1 ⟨rfl,p1,p2,hgw1⟩;have hsw1:=hgw1.size;(try (simp at hsw1));have zz:=And.intro (grHp hgw1 (b:=w4.heap.size) (by (try simp) <;> omega) (by assumption)) <| And.intro (grHp hgw1 (b:=w.heap.size+1+1+1) (by (try simp) <;> omega) (by assumption)) <| And.intro (grHp hgw1 (b:=w.heap.size+1+1) (by (try simp) <;> omega) (by assumption)) <| And.intro (grHp hgw1 (b:=w.heap.size+1) (by (try simp) <;> omega) (by assumption)) <| grHp hgw1 (b:=w.heap.size) (by (try simp) <;> omega) (by assumption);(first|simp [go_sem,z_wppp,z_wpp,z_wp,z_w,l_w,l_w4,l_wp,l_wpp,l_wppp,k0,k1,k2,k3] at zz|simp [go_sem] at zz|skip);(try clear z_w4 x_w4 f_w4 l_w4);(try clear z_wppp x_wppp f_wppp l_wppp);(try clear z_wpp x_wpp f_wpp l_wpp);(try clear z_wp x_wp f_wp l_wp);(try clear z_w x_w f_w l_w);obtain ⟨z_w4,z_wppp,z_wpp,z_wp,z_w⟩:=zz;obtain ⟨x_w4,f_w4,l_w4⟩:=bO z_w4;obtain ⟨x_wppp,f_wppp,l_wppp⟩:=bO z_wppp;obtain ⟨x_wpp,f_wpp,l_wpp⟩:=bO z_wpp;obtain ⟨x_wp,f_wp,l_wp⟩:=bO z_wp;obtain ⟨x_w,f_w,l_w⟩:=bO z_w;have hGw1:=grB (w:=w) (by (repeat (with_reducible first|assumption|exact bR|refine bA ?_|refine bD ?_|((first|refine bS ?_ ?_|refine bBx ?_ ?_);rotate_left;focus (try simp) <;> (try omega))))) hgw1;clear hgw1
  have hO1:Onl (Value.slice a1 c.cells.length q1).ownBlock (Value.slice a2 c.words.length q2).ownBlock w w1:=onl1 hGw1
  clear k0 k1 k2 k3
  have k0:w.heap.size<w1.heap.size:=by omega
  have k1:w.heap.size+1<w1.heap.size:=by omega
  have k2:w.heap.size+1+1<w1.heap.size:=by omega
  have k3:w.heap.size+1+1+1<w1.heap.size:=by omega
  have k4:w4.heap.size<w1.heap.size:=by omega
  have r1:OCells w1 lo (.slice a1 c.cells.length q1) (turnC c i h.seen 1 0).cells:=p1
  have r2:OInts w1 lo (.slice a2 c.words.length q2) (turnC c i h.seen 1 0).words:=p2
  go_wp2_with fail
  refine (D.out _ (by (repeat first|with_reducible exact r1|with_reducible refine oAl ?_ _|with_reducible refine oDr ?_|((with_reducible first|refine own_store ?_ ?_ _|refine own_box ?_ ?_);rotate_left;focus first|(refine own_ne o1 ?_;(try dsimp only);omega)|(refine own_ne' o1 ?_;(try dsimp only);omega)))) (by (repeat first|with_reducible exact r2|with_reducible refine oAl ?_ _|with_reducible refine oDr ?_|((with_reducible first|refine own_store ?_ ?_ _|refine own_box ?_ ?_);rotate_left;focus first|(refine own_ne o2 ?_;(try dsimp only);omega)|(refine own_ne' o2 ?_;(try dsimp only);omega))))).mono ?_
  rintro _ w3 ⟨⟨y1,y2,rfl,oY1,oY2,fY1,fY2⟩,hbw3⟩
  have hO3:Onl (Value.slice a1 c.cells.length q1).ownBlock (Value.slice a2 c.words.length q2).ownBlock w w3:=onlT (by (repeat (first|with_reducible assumption|with_reducible refine oA ?_|with_reducible refine oD ?_|((with_reducible refine oX ?_ ?_);rotate_left;(focus ((try dsimp only);(try simp);(try omega))))|((with_reducible refine oS ?_ ?_);rotate_left;(focus ((try dsimp only);(try simp);(try omega))))))) (onlB hbw3)
  have hsw3:=hbw3.size;(try simp at hsw3);have zz:=And.intro (hpB hbw3 (b:=w.heap.size+1+1+1) (by (try simp) <;> omega)) <| And.intro (hpB hbw3 (b:=w.heap.size+1+1) (by (try simp) <;> omega)) <| And.intro (hpB hbw3 (b:=w.heap.size+1) (by (try simp) <;> omega)) <| hpB hbw3 (b:=w.heap.size) (by (try simp) <;> omega);(first|simp [go_sem,z_wppp,z_wpp,z_wp,z_w,l_w,l_wp,l_wpp,l_wppp,k0,k1,k2,k3,k4] at zz|simp [go_sem] at zz|skip);(try clear z_wppp x_wppp f_wppp l_wppp);(try clear z_wpp x_wpp f_wpp l_wpp);(try clear z_wp x_wp f_wp l_wp);(try clear z_w x_w f_w l_w);obtain ⟨z_wppp,z_wpp,z_wp,z_w⟩:=zz;obtain ⟨x_wppp,f_wppp,l_wppp⟩:=bO z_wppp;obtain ⟨x_wpp,f_wpp,l_wpp⟩:=bO z_wpp;obtain ⟨x_wp,f_wp,l_wp⟩:=bO z_wp;obtain ⟨x_w,f_w,l_w⟩:=bO z_w;clear hbw3
  have hoff1:∀ j,w.heap.size≤j→j<w.heap.size+1+1+1+1→y1.ownBlock≠some j:=fun j h1 h2=>fY1.off b1 h1 (by (try simp) <;> omega);have hoff2:∀ j,w.heap.size≤j→j<w.heap.size+1+1+1+1→y2.ownBlock≠some j:=fun j h1 h2=>fY2.off b2 h1 (by (try simp) <;> omega);have fr1:Fresh w _ y1:=fun j hj=>(fY1 j hj).imp id (fun h=>Nat.le_trans (by (try simp) <;> omega) h);have fr2:Fresh w _ y2:=fun j hj=>(fY2 j hj).imp id (fun h=>Nat.le_trans (by (try simp) <;> omega) h);obtain ⟨ya,yp,rfl,_⟩:=oY1.seg;obtain ⟨yb,yq,rfl,_⟩:=oY2.seg
  go_wp2
  refine bodyPost_ret (res_cct Try.results78 rfl (ldChan x.1 (.slice ya x.1.cells.length yp) (.slice yb x.1.words.length yq) (by simp [go_sem, *])) rfl (ldHand x.2.1 (by simp [go_sem, *]))) rfl ⟨⟨_,_,rfl,?_,?_,fr1,fr2⟩,by (repeat (first|with_reducible assumption|with_reducible refine oA ?_|with_reducible refine oD ?_|((with_reducible refine oX ?_ ?_);rotate_left;(focus ((try dsimp only);(try simp);(try omega))))|((with_reducible refine oS ?_ ?_);rotate_left;(focus ((try dsimp only);(try simp);(try omega))))))⟩
  · (repeat first|with_reducible exact oY1|with_reducible refine oAl ?_ _|with_reducible refine oDr ?_|((with_reducible first|refine own_store ?_ ?_ _|refine own_box ?_ ?_);rotate_left;focus first|(refine own_ne oY1 ?_;(try dsimp only);omega)|(refine own_ne' oY1 ?_;(try dsimp only);omega)|exact hoff1 _ (by (try dsimp only) <;> omega) (by (try dsimp only) <;> omega)))
  · (repeat first|with_reducible exact oY2|with_reducible refine oAl ?_ _|with_reducible refine oDr ?_|((with_reducible first|refine own_store ?_ ?_ _|refine own_box ?_ ?_);rotate_left;focus first|(refine own_ne oY2 ?_;(try dsimp only);omega)|(refine own_ne' oY2 ?_;(try dsimp only);omega)|exact hoff2 _ (by (try dsimp only) <;> omega) (by (try dsimp only) <;> omega)))
set_option maxRecDepth 100000 in
set_option maxHeartbeats 4000000 in
theorem l8Pull_nf (c:Ch) (h:Ha) (v1 v2:Value) (lo:Nat) (w:World) (h1:OCells w lo v1 c.cells) (h2:OInts w lo v2 c.words) (hc0:0≤h.grow) (hc1:h.grow<c.cells.length) (hs:(h.seen == 3)=false) (hs2:(h.seen == 0)=true) (ht:turnCB c h.grow h.seen 1 0=false) :
    Calls Try.prog 78 #[.agg (cvals c v1 v2),.agg (hvals h)] w fun r w'=>StepO w w' lo v1 v2 (pull8 c h) r:=by
  obtain ⟨i,hci⟩:∃ i:Nat,h.grow=(i:Int):=⟨h.grow.toNat,by omega⟩
  have hi:i<c.cells.length:=by omega
  have ht2:turnCB c i h.seen 1 0=false:=by rw [← ht,hci]
  have e:pull8 c h=done (turnC c i h.seen 1 0) ({ h with pos:=18,grow:=(i:Int) }):=by simp at hs hs2;simp [pull8,turn8,hs,hs2,hci] at ht2 ⊢;simp [ht2]
  rw [e]
  have T:=Lib.hid fun W a b=>wTurn_any c i h.seen 1 0 v1 v2 lo W a b hi
  have D:=Lib.hid fun W=>l6Done_any (turnC c i h.seen 1 0) ({ h with pos:=18,grow:=(i:Int) }) v1 v2 lo W
  generalize done (turnC c i h.seen 1 0) ({ h with pos:=18,grow:=(i:Int) })=x at *
  rw [ht2] at T
  have b1:=fun j (hj:v1.ownBlock=some j)=>(h1.lt j hj).2
  have b2:=fun j (hj:v2.ownBlock=some j)=>(h2.lt j hj).2
  have m1:∀ j,w.heap.size≤j→some j≠v1.ownBlock:=fun j hj e=>by have:=b1 _ e.symm;omega
  have m2:∀ j,w.heap.size≤j→some j≠v2.ownBlock:=fun j hj e=>by have:=b2 _ e.symm;omega
  have m10:=m1 (w.heap.size) (by omega)
  have m20:=m2 (w.heap.size) (by omega)
  have m11:=m1 (w.heap.size+1) (by omega)
  have m21:=m2 (w.heap.size+1) (by omega)
  have m12:=m1 (w.heap.size+1+1) (by omega)
  have m22:=m2 (w.heap.size+1+1) (by omega)
  have m13:=m1 (w.heap.size+1+1+1) (by omega)
  have m23:=m2 (w.heap.size+1+1+1) (by omega)
  have o1:=h1
  have o2:=h2
  obtain ⟨a1,q1,e1,_⟩:=h1.seg
  obtain ⟨a2,q2,e2,_⟩:=h2.seg
  subst e1 e2
  clear h1 h2 e ht
  go_enter Try.func78,Try.ntmps78
  go_wp2_with fail;refine bHit w (by (repeat (with_reducible first|assumption|exact bR|refine bA ?_|refine bD ?_|((first|refine bS ?_ ?_|refine bBx ?_ ?_);rotate_left;focus (try simp) <;> (try omega))))) fun bb=>?_;refine (l8Grown_any _ _).mono ?_;rintro _ w4 ⟨rfl,hbw4⟩;have hCw4:Below w.heap.size w w4:=bT bb hbw4;have hsw4:=hbw4.size;(try simp at hsw4);have zz:=And.intro (hpB hbw4 (b:=w.heap.size+1+1+1) (by (try simp) <;> omega)) <| And.intro (hpB hbw4 (b:=w.heap.size+1+1) (by (try simp) <;> omega)) <| And.intro (hpB hbw4 (b:=w.heap.size+1) (by (try simp) <;> omega)) <| hpB hbw4 (b:=w.heap.size) (by (try simp) <;> omega);(try simp [go_sem] at zz);(try clear z_wppp x_wppp f_wppp l_wppp);(try clear z_wpp x_wpp f_wpp l_wpp);(try clear z_wp x_wp f_wp l_wp);(try clear z_w x_w f_w l_w);obtain ⟨z_wppp,z_wpp,z_wp,z_w⟩:=zz;obtain ⟨x_wppp,f_wppp,l_wppp⟩:=bO z_wppp;obtain ⟨x_wpp,f_wpp,l_wpp⟩:=bO z_wpp;obtain ⟨x_wp,f_wp,l_wp⟩:=bO z_wp;obtain ⟨x_w,f_w,l_w⟩:=bO z_w;clear hbw4 bb
  have o3:=own_below o1 hCw4
  have o4:=own_below o2 hCw4
  have m14:=m1 w4.heap.size (by omega)
  have m24:=m2 w4.heap.size (by omega)
  have l_w4:w4.heap.size<w4.heap.size+1:=by omega
  have k0:w.heap.size<w4.heap.size:=by omega
  have k1:w.heap.size+1<w4.heap.size:=by omega
  have k2:w.heap.size+1+1<w4.heap.size:=by omega
  have k3:w.heap.size+1+1+1<w4.heap.size:=by omega
  go_wp2_with fail;refine (T.out _ (by (repeat first|with_reducible exact o3|with_reducible refine oAl ?_ _|with_reducible refine oDr ?_|((with_reducible first|refine own_store ?_ ?_ _|refine own_box ?_ ?_);rotate_left;focus first|(refine own_ne o1 ?_;(try dsimp only);omega)|(refine own_ne' o1 ?_;(try dsimp only);omega)))) (by (repeat first|with_reducible exact o4|with_reducible refine oAl ?_ _|with_reducible refine oDr ?_|((with_reducible first|refine own_store ?_ ?_ _|refine own_box ?_ ?_);rotate_left;focus first|(refine own_ne o2 ?_;(try dsimp only);omega)|(refine own_ne' o2 ?_;(try dsimp only);omega))))).mono ?_;rintro _ w1 ⟨rfl,p1,p2,hgw1⟩;have hsw1:=hgw1.size;(try (simp at hsw1));have zz:=And.intro (grHp hgw1 (b:=w4.heap.size) (by (try simp) <;> omega) (by assumption)) <| And.intro (grHp hgw1 (b:=w.heap.size+1+1+1) (by (try simp) <;> omega) (by assumption)) <| And.intro (grHp hgw1 (b:=w.heap.size+1+1) (by (try simp) <;> omega) (by assumption)) <| And.intro (grHp hgw1 (b:=w.heap.size+1) (by (try simp) <;> omega) (by assumption)) <| grHp hgw1 (b:=w.heap.size) (by (try simp) <;> omega) (by assumption);(first|simp [go_sem,z_wppp,z_wpp,z_wp,z_w,l_w,l_w4,l_wp,l_wpp,l_wppp,k0,k1,k2,k3] at zz|simp [go_sem] at zz|skip);(try clear z_w4 x_w4 f_w4 l_w4);(try clear z_wppp x_wppp f_wppp l_wppp);(try clear z_wpp x_wpp f_wpp l_wpp);(try clear z_wp x_wp f_wp l_wp);(try clear z_w x_w f_w l_w);obtain ⟨z_w4,z_wppp,z_wpp,z_wp,z_w⟩:=zz;obtain ⟨x_w4,f_w4,l_w4⟩:=bO z_w4;obtain ⟨x_wppp,f_wppp,l_wppp⟩:=bO z_wppp;obtain ⟨x_wpp,f_wpp,l_wpp⟩:=bO z_wpp;obtain ⟨x_wp,f_wp,l_wp⟩:=bO z_wp;obtain ⟨x_w,f_w,l_w⟩:=bO z_w;have hGw1:=grB (w:=w) (by (repeat (with_reducible first|assumption|exact bR|refine bA ?_|refine bD ?_|((first|refine bS ?_ ?_|refine bBx ?_ ?_);rotate_left;focus (try simp) <;> (try omega))))) hgw1;clear hgw1
  have hO1:Onl (Value.slice a1 c.cells.length q1).ownBlock (Value.slice a2 c.words.length q2).ownBlock w w1:=onl1 hGw1
  clear k0 k1 k2 k3
  have k0:w.heap.size<w1.heap.size:=by omega
  have k1:w.heap.size+1<w1.heap.size:=by omega
  have k2:w.heap.size+1+1<w1.heap.size:=by omega
  have k3:w.heap.size+1+1+1<w1.heap.size:=by omega
  have k4:w4.heap.size<w1.heap.size:=by omega
  have r1:OCells w1 lo (.slice a1 c.cells.length q1) (turnC c i h.seen 1 0).cells:=p1
  have r2:OInts w1 lo (.slice a2 c.words.length q2) (turnC c i h.seen 1 0).words:=p2
  go_wp2_with fail
  refine (D.out _ (by (repeat first|with_reducible exact r1|with_reducible refine oAl ?_ _|with_reducible refine oDr ?_|((with_reducible first|refine own_store ?_ ?_ _|refine own_box ?_ ?_);rotate_left;focus first|(refine own_ne o1 ?_;(try dsimp only);omega)|(refine own_ne' o1 ?_;(try dsimp only);omega)))) (by (repeat first|with_reducible exact r2|with_reducible refine oAl ?_ _|with_reducible refine oDr ?_|((with_reducible first|refine own_store ?_ ?_ _|refine own_box ?_ ?_);rotate_left;focus first|(refine own_ne o2 ?_;(try dsimp only);omega)|(refine own_ne' o2 ?_;(try dsimp only);omega))))).mono ?_
  rintro _ w3 ⟨⟨y1,y2,rfl,oY1,oY2,fY1,fY2⟩,hbw3⟩
  have hO3:Onl (Value.slice a1 c.cells.length q1).ownBlock (Value.slice a2 c.words.length q2).ownBlock w w3:=onlT (by (repeat (first|with_reducible assumption|with_reducible refine oA ?_|with_reducible refine oD ?_|((with_reducible refine oX ?_ ?_);rotate_left;(focus ((try dsimp only);(try simp);(try omega))))|((with_reducible refine oS ?_ ?_);rotate_left;(focus ((try dsimp only);(try simp);(try omega))))))) (onlB hbw3)
  have hsw3:=hbw3.size;(try simp at hsw3);have zz:=And.intro (hpB hbw3 (b:=w.heap.size+1+1+1) (by (try simp) <;> omega)) <| And.intro (hpB hbw3 (b:=w.heap.size+1+1) (by (try simp) <;> omega)) <| And.intro (hpB hbw3 (b:=w.heap.size+1) (by (try simp) <;> omega)) <| hpB hbw3 (b:=w.heap.size) (by (try simp) <;> omega);(first|simp [go_sem,z_wppp,z_wpp,z_wp,z_w,l_w,l_wp,l_wpp,l_wppp,k0,k1,k2,k3,k4] at zz|simp [go_sem] at zz|skip);(try clear z_wppp x_wppp f_wppp l_wppp);(try clear z_wpp x_wpp f_wpp l_wpp);(try clear z_wp x_wp f_wp l_wp);(try clear z_w x_w f_w l_w);obtain ⟨z_wppp,z_wpp,z_wp,z_w⟩:=zz;obtain ⟨x_wppp,f_wppp,l_wppp⟩:=bO z_wppp;obtain ⟨x_wpp,f_wpp,l_wpp⟩:=bO z_wpp;obtain ⟨x_wp,f_wp,l_wp⟩:=bO z_wp;obtain ⟨x_w,f_w,l_w⟩:=bO z_w;clear hbw3
  have hoff1:∀ j,w.heap.size≤j→j<w.heap.size+1+1+1+1→y1.ownBlock≠some j:=fun j h1 h2=>fY1.off b1 h1 (by (try simp) <;> omega);have hoff2:∀ j,w.heap.size≤j→j<w.heap.size+1+1+1+1→y2.ownBlock≠some j:=fun j h1 h2=>fY2.off b2 h1 (by (try simp) <;> omega);have fr1:Fresh w _ y1:=fun j hj=>(fY1 j hj).imp id (fun h=>Nat.le_trans (by (try simp) <;> omega) h);have fr2:Fresh w _ y2:=fun j hj=>(fY2 j hj).imp id (fun h=>Nat.le_trans (by (try simp) <;> omega) h);obtain ⟨ya,yp,rfl,_⟩:=oY1.seg;obtain ⟨yb,yq,rfl,_⟩:=oY2.seg
  go_wp2
  refine bodyPost_ret (res_cct Try.results78 rfl (ldChan x.1 (.slice ya x.1.cells.length yp) (.slice yb x.1.words.length yq) (by simp [go_sem, *])) rfl (ldHand x.2.1 (by simp [go_sem, *]))) rfl ⟨⟨_,_,rfl,?_,?_,fr1,fr2⟩,by (repeat (first|with_reducible assumption|with_reducible refine oA ?_|with_reducible refine oD ?_|((with_reducible refine oX ?_ ?_);rotate_left;(focus ((try dsimp only);(try simp);(try omega))))|((with_reducible refine oS ?_ ?_);rotate_left;(focus ((try dsimp only);(try simp);(try omega))))))⟩
  · (repeat first|with_reducible exact oY1|with_reducible refine oAl ?_ _|with_reducible refine oDr ?_|((with_reducible first|refine own_store ?_ ?_ _|refine own_box ?_ ?_);rotate_left;focus first|(refine own_ne oY1 ?_;(try dsimp only);omega)|(refine own_ne' oY1 ?_;(try dsimp only);omega)|exact hoff1 _ (by (try dsimp only) <;> omega) (by (try dsimp only) <;> omega)))
  · (repeat first|with_reducible exact oY2|with_reducible refine oAl ?_ _|with_reducible refine oDr ?_|((with_reducible first|refine own_store ?_ ?_ _|refine own_box ?_ ?_);rotate_left;focus first|(refine own_ne oY2 ?_;(try dsimp only);omega)|(refine own_ne' oY2 ?_;(try dsimp only);omega)|exact hoff2 _ (by (try dsimp only) <;> omega) (by (try dsimp only) <;> omega)))
set_option maxRecDepth 100000 in
set_option maxHeartbeats 4000000 in
theorem l8Pull_no (c:Ch) (h:Ha) (v1 v2:Value) (lo:Nat) (w:World) (h1:OCells w lo v1 c.cells) (h2:OInts w lo v2 c.words) (hs:(h.seen == 3)=false) (hs2:(h.seen == 0)=false) :
    Calls Try.prog 78 #[.agg (cvals c v1 v2),.agg (hvals h)] w fun r w'=>StepO w w' lo v1 v2 (pull8 c h) r:=by
  have e:pull8 c h=nothing:=by simp at hs hs2;simp [pull8,hs,hs2]
  rw [e]
  have T:=Lib.hid (l6None_any · lo v1 v2)
  generalize nothing=x at *
  have b1:=fun j (hj:v1.ownBlock=some j)=>(h1.lt j hj).2
  have b2:=fun j (hj:v2.ownBlock=some j)=>(h2.lt j hj).2
  have m1:∀ j,w.heap.size≤j→some j≠v1.ownBlock:=fun j hj e=>by have:=b1 _ e.symm;omega
  have m2:∀ j,w.heap.size≤j→some j≠v2.ownBlock:=fun j hj e=>by have:=b2 _ e.symm;omega
  have m10:=m1 (w.heap.size) (by omega)
  have m20:=m2 (w.heap.size) (by omega)
  have m11:=m1 (w.heap.size+1) (by omega)
  have m21:=m2 (w.heap.size+1) (by omega)
  have m12:=m1 (w.heap.size+1+1) (by omega)
  have m22:=m2 (w.heap.size+1+1) (by omega)
  have m13:=m1 (w.heap.size+1+1+1) (by omega)
  have m23:=m2 (w.heap.size+1+1+1) (by omega)
  have o1:=h1
  have o2:=h2
  obtain ⟨a1,q1,e1,_⟩:=h1.seg
  obtain ⟨a2,q2,e2,_⟩:=h2.seg
  subst e1 e2
  clear h1 h2 e
  go_enter Try.func78,Try.ntmps78
  go_wp2_with fail;refine bHit w (by (repeat (with_reducible first|assumption|exact bR|refine bA ?_|refine bD ?_|((first|refine bS ?_ ?_|refine bBx ?_ ?_);rotate_left;focus (try simp) <;> (try omega))))) fun bb=>?_;refine (l8Grown_any _ _).mono ?_;rintro _ w4 ⟨rfl,hbw4⟩;have hCw4:Below w.heap.size w w4:=bT bb hbw4;have hsw4:=hbw4.size;(try simp at hsw4);have zz:=And.intro (hpB hbw4 (b:=w.heap.size+1+1+1) (by (try simp) <;> omega)) <| And.intro (hpB hbw4 (b:=w.heap.size+1+1) (by (try simp) <;> omega)) <| And.intro (hpB hbw4 (b:=w.heap.size+1) (by (try simp) <;> omega)) <| hpB hbw4 (b:=w.heap.size) (by (try simp) <;> omega);(try simp [go_sem] at zz);(try clear z_wppp x_wppp f_wppp l_wppp);(try clear z_wpp x_wpp f_wpp l_wpp);(try clear z_wp x_wp f_wp l_wp);(try clear z_w x_w f_w l_w);obtain ⟨z_wppp,z_wpp,z_wp,z_w⟩:=zz;obtain ⟨x_wppp,f_wppp,l_wppp⟩:=bO z_wppp;obtain ⟨x_wpp,f_wpp,l_wpp⟩:=bO z_wpp;obtain ⟨x_wp,f_wp,l_wp⟩:=bO z_wp;obtain ⟨x_w,f_w,l_w⟩:=bO z_w;clear hbw4 bb
  go_wp2_with fail;refine bHit w (by (repeat (with_reducible first|assumption|exact bR|refine bA ?_|refine bD ?_|((first|refine bS ?_ ?_|refine bBx ?_ ?_);rotate_left;focus (try simp) <;> (try omega))))) fun bb=>?_;refine (T.out _).mono ?_;rintro _ w1 ⟨⟨y1,y2,rfl,oY1,oY2,fY1,fY2⟩,hbw1⟩;have hCw1:Below w.heap.size w w1:=bT bb hbw1;have hsw1:=hbw1.size;(try simp at hsw1);have zz:=And.intro (hpB hbw1 (b:=w.heap.size+1+1+1) (by (try simp) <;> omega)) <| And.intro (hpB hbw1 (b:=w.heap.size+1+1) (by (try simp) <;> omega)) <| And.intro (hpB hbw1 (b:=w.heap.size+1) (by (try simp) <;> omega)) <| hpB hbw1 (b:=w.heap.size) (by (try simp) <;> omega);(first|simp [go_sem,z_wppp,z_wpp,z_wp,z_w,l_w,l_wp,l_wpp,l_wppp] at zz|simp [go_sem] at zz|skip);(try clear z_wppp x_wppp f_wppp l_wppp);(try clear z_wpp x_wpp f_wpp l_wpp);(try clear z_wp x_wp f_wp l_wp);(try clear z_w x_w f_w l_w);obtain ⟨z_wppp,z_wpp,z_wp,z_w⟩:=zz;obtain ⟨x_wppp,f_wppp,l_wppp⟩:=bO z_wppp;obtain ⟨x_wpp,f_wpp,l_wpp⟩:=bO z_wpp;obtain ⟨x_wp,f_wp,l_wp⟩:=bO z_wp;obtain ⟨x_w,f_w,l_w⟩:=bO z_w;clear hbw1 bb
  have hoff1:∀ j,w.heap.size≤j→j<w.heap.size+1+1+1+1→y1.ownBlock≠some j:=fun j h1 h2=>fY1.off b1 h1 (by (try simp) <;> omega);have hoff2:∀ j,w.heap.size≤j→j<w.heap.size+1+1+1+1→y2.ownBlock≠some j:=fun j h1 h2=>fY2.off b2 h1 (by (try simp) <;> omega);have fr1:Fresh w _ y1:=fun j hj=>(fY1 j hj).imp id (fun h=>Nat.le_trans (by (try simp) <;> omega) h);have fr2:Fresh w _ y2:=fun j hj=>(fY2 j hj).imp id (fun h=>Nat.le_trans (by (try simp) <;> omega) h);obtain ⟨ya,yp,rfl,_⟩:=oY1.seg;obtain ⟨yb,yq,rfl,_⟩:=oY2.seg
  go_wp2
  refine bodyPost_ret (res_cct Try.results78 rfl (ldChan x.1 (.slice ya x.1.cells.length yp) (.slice yb x.1.words.length yq) (by simp [go_sem, *])) rfl (ldHand x.2.1 (by simp [go_sem, *]))) rfl ⟨⟨_,_,rfl,?_,?_,fr1,fr2⟩,onlB (by (repeat (with_reducible first|assumption|exact bR|refine bA ?_|refine bD ?_|((first|refine bS ?_ ?_|refine bBx ?_ ?_);rotate_left;focus (try simp) <;> (try omega)))))⟩
  · (repeat first|with_reducible exact oY1|with_reducible refine oAl ?_ _|with_reducible refine oDr ?_|((with_reducible first|refine own_store ?_ ?_ _|refine own_box ?_ ?_);rotate_left;focus first|(refine own_ne oY1 ?_;(try dsimp only);omega)|(refine own_ne' oY1 ?_;(try dsimp only);omega)|exact hoff1 _ (by (try dsimp only) <;> omega) (by (try dsimp only) <;> omega)))
  · (repeat first|with_reducible exact oY2|with_reducible refine oAl ?_ _|with_reducible refine oDr ?_|((with_reducible first|refine own_store ?_ ?_ _|refine own_box ?_ ?_);rotate_left;focus first|(refine own_ne oY2 ?_;(try dsimp only);omega)|(refine own_ne' oY2 ?_;(try dsimp only);omega)|exact hoff2 _ (by (try dsimp only) <;> omega) (by (try dsimp only) <;> omega)))
theorem l8Pull_any (c:Ch) (h:Ha) (v1 v2:Value) (lo:Nat) (w:World) (h1:OCells w lo v1 c.cells) (h2:OInts w lo v2 c.words) (hc0:0≤h.grow) (hc1:h.grow<c.cells.length) :
    Calls Try.prog 78 #[.agg (cvals c v1 v2),.agg (hvals h)] w fun r w'=>StepO w w' lo v1 v2 (pull8 c h) r:=by
  by_cases s3:h.seen=3
  · cases ht:turnCB c h.grow h.seen 6 h.wait with
    | true=>exact l8Pull_st c h v1 v2 lo w h1 h2 hc0 hc1 (by simpa using s3) (by simp [s3]) ht
    | false=>exact l8Pull_sf c h v1 v2 lo w h1 h2 hc0 hc1 (by simpa using s3) (by simp [s3]) ht
  · by_cases s0:h.seen=0
    · cases ht:turnCB c h.grow h.seen 1 0 with
      | true=>exact l8Pull_nt c h v1 v2 lo w h1 h2 hc0 hc1 (by simpa using s3) (by simpa using s0) ht
      | false=>exact l8Pull_nf c h v1 v2 lo w h1 h2 hc0 hc1 (by simpa using s3) (by simpa using s0) ht
    · exact l8Pull_no c h v1 v2 lo w h1 h2 (by simpa using s3) (by simpa using s0)
end Go.Proofs.Ytlfcgeoifmnjnaa
