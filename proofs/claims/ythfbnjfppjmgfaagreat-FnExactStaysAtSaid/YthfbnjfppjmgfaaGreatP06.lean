/-
  The reference model's putting into a cell that is turned, on hands and channels that are kept whole; the lists are the call's own and hold at most 2 ^ 40 elements.
  The reference model's putting into a cell, all cases; the lists are the call's own and hold at most 2 ^ 40 elements.
  What the document's steps of chapters 7 to 10 compute, as plain functions on numbers and lists; no condition.
  What who is parked does, of the reference model, on hands and channels that are kept whole; lists lie in memory and hold at most 2 ^ 40 elements.
  The reference model's calling of a receiver, on hands and channels that are kept whole; lists hold at most 2 ^ 40 elements.
  The reference model's steps of sending, on hands and channels that are kept whole; lists lie in memory and hold at most 2 ^ 40 elements.
  The last step of sending of the reference model, on hands and channels that are kept whole; lists lie in memory and hold at most 2 ^ 40 elements.
-/
import Derived.Test.YthfbnjfppjmgfaaGreatP04
import Derived.Test.YthfbnjfppjmgfaaGreatP05
import Derived.Test.YthfbnjfppjmgfaaGreatP02
import Derived.BigRegion
import Derived.Test.YthfbnjfppjmgfaaGreatP03
set_option linter.unusedSimpArgs false
set_option linter.unusedVariables false
namespace Go.Proofs.YthfbnjfppjmgfaaGreat
open Go.RowKit
set_option linter.unusedSimpArgs false
attribute [local simp] bx_size
attribute [local go_sem ↓] zeroHand zeroChan toLHand toLChan toVHand toVChan storeHand storeChan storeHandC storeChanC
set_option maxRecDepth 100000 in
set_option maxHeartbeats 4000000 in
theorem l6Put_late1 (c:Ch) (h:Ha) (v1 v2:Value) (lo:Nat) (w:World) (h1:OCells w lo v1 c.cells) (h2:OInts w lo v2 c.words) (hc0:0≤h.cell) (hc1:h.cell<c.cells.length) (hso:h.seen=1) (ht:turnCB c h.cell h.seen 2 0=false) :
    Calls Tryz.prog 32 #[.agg (cvals c v1 v2),.agg (hvals h)] w fun r w'=>StepO w w' lo v1 v2 (put6 c h) r:=by
  obtain ⟨i,hci⟩:∃ i:Nat,h.cell=(i:Int):=⟨h.cell.toNat,by omega⟩
  have hs:=hso
  rw [hci,hs] at ht
  have e:put6 c h=done (turnC c i 1 2 0) { h with pos:=3,cell:=(i:Int),seen:=1 }:=by simp [put6,hs,hci,ht]
  rw [e]
  have hi:i<c.cells.length:=by omega
  have T:=Lib.hid fun W a b=>wTurn_any c i 1 2 0 v1 v2 lo W a b hi
  have D:=Lib.hid fun W=>l6Done_any (turnC c i 1 2 0) { h with pos:=3,cell:=(i:Int),seen:=1 } v1 v2 lo W
  generalize done (turnC c i 1 2 0) { h with pos:=3,cell:=(i:Int),seen:=1 }=x at *
  rw [ht] at T
  have b1:=fun j (hj:v1.ownBlock=some j)=>(h1.lt j hj).2
  have b2:=fun j (hj:v2.ownBlock=some j)=>(h2.lt j hj).2
  have m1:∀ j,w.heap.size≤j→some j≠v1.ownBlock:=fun j hj e=>by have:=b1 _ e.symm;omega
  have m10:=m1 w.heap.size (by omega)
  have m11:=m1 (w.heap.size+1) (by omega)
  have m12:=m1 (w.heap.size+1+1) (by omega)
  have m13:=m1 (w.heap.size+1+1+1) (by omega)
  have o1:=h1
  have o2:=h2
  obtain ⟨a1,q1,e1,_⟩:=h1.seg
  obtain ⟨a2,q2,e2,_⟩:=h2.seg
  subst e1 e2
  clear h1 h2 e hso
  go_enter Tryz.func32,Tryz.ntmps32
  go_wp2_with fail;refine (T.out _ (by exact zO o1 o1) (by exact zO o2 o2)).mono ?_;rintro _ w1 ⟨rfl,p1,p2,hgw1⟩;have hsw1:=hgw1.size;(try (simp at hsw1));have zz:=And.intro (grHp hgw1 (b:=w.heap.size+1+1+1) (by (try simp) <;> omega) (by assumption)) <| And.intro (grHp hgw1 (b:=w.heap.size+1+1) (by (try simp) <;> omega) (by assumption)) <| And.intro (grHp hgw1 (b:=w.heap.size+1) (by (try simp) <;> omega) (by assumption)) <| grHp hgw1 (b:=w.heap.size) (by (try simp) <;> omega) (by assumption);(try simp [go_sem] at zz);(try clear z_wppp x_wppp f_wppp l_wppp);(try clear z_wpp x_wpp f_wpp l_wpp);(try clear z_wp x_wp f_wp l_wp);(try clear z_w x_w f_w l_w);obtain ⟨z_wppp,z_wpp,z_wp,z_w⟩:=zz;obtain ⟨x_wppp,f_wppp,l_wppp⟩:=bO z_wppp;obtain ⟨x_wpp,f_wpp,l_wpp⟩:=bO z_wpp;obtain ⟨x_wp,f_wp,l_wp⟩:=bO z_wp;obtain ⟨x_w,f_w,l_w⟩:=bO z_w;have hGw1:=grB (w:=w) (by exact zB) hgw1;clear hgw1
  have hO1:Onl (Value.slice a1 c.cells.length q1).ownBlock (Value.slice a2 c.words.length q2).ownBlock w w1:=onl1 hGw1
  have k0:w.heap.size<w1.heap.size:=by omega
  have k1:w.heap.size+1<w1.heap.size:=by omega
  have k2:w.heap.size+1+1<w1.heap.size:=by omega
  have k3:w.heap.size+1+1+1<w1.heap.size:=by omega
  have r1:OCells w1 lo (.slice a1 c.cells.length q1) (turnC c i 1 2 0).cells:=p1
  have r2:OInts w1 lo (.slice a2 c.words.length q2) (turnC c i 1 2 0).words:=p2
  go_wp2_with fail
  refine (D.out _ (by exact zO r1 o1) (by exact zO r2 o2)).mono ?_
  rintro _ w3 ⟨⟨y1,y2,rfl,oY1,oY2,fY1,fY2⟩,hbw3⟩
  have hO3:Onl (Value.slice a1 c.cells.length q1).ownBlock (Value.slice a2 c.words.length q2).ownBlock w w3:=onlT (by (repeat (first|with_reducible assumption|with_reducible refine oA ?_|with_reducible refine oD ?_|((with_reducible refine oX ?_ ?_);rotate_left;(focus ((try dsimp only);(try simp);(try omega))))|((with_reducible refine oS ?_ ?_);rotate_left;(focus ((try dsimp only);(try simp);(try omega))))))) (onlB hbw3)
  have hsw3:=hbw3.size;(try simp at hsw3);have zz:=q4 hbw3 (b:=w.heap.size);(first|simp [go_sem,z_wppp,z_wpp,z_wp,z_w,l_w,l_wp,l_wpp,l_wppp,k0,k1,k2,k3] at zz|simp [go_sem] at zz|skip);(try clear z_wppp x_wppp f_wppp l_wppp);(try clear z_wpp x_wpp f_wpp l_wpp);(try clear z_wp x_wp f_wp l_wp);(try clear z_w x_w f_w l_w);obtain ⟨z_wppp,z_wpp,z_wp,z_w⟩:=zz;obtain ⟨x_wppp,f_wppp,l_wppp⟩:=bO z_wppp;obtain ⟨x_wpp,f_wpp,l_wpp⟩:=bO z_wpp;obtain ⟨x_wp,f_wp,l_wp⟩:=bO z_wp;obtain ⟨x_w,f_w,l_w⟩:=bO z_w;clear hbw3
  have hoff1:∀ j,w.heap.size≤j→j<w.heap.size+1+1+1+1→y1.ownBlock≠some j:=fun j h1 h2=>fY1.off b1 h1 (by (try simp) <;> omega);have hoff2:∀ j,w.heap.size≤j→j<w.heap.size+1+1+1+1→y2.ownBlock≠some j:=fun j h1 h2=>fY2.off b2 h1 (by (try simp) <;> omega);have fr1:Fresh w _ y1:=fun j hj=>(fY1 j hj).imp id (fun h=>Nat.le_trans (by (try simp) <;> omega) h);have fr2:Fresh w _ y2:=fun j hj=>(fY2 j hj).imp id (fun h=>Nat.le_trans (by (try simp) <;> omega) h);obtain ⟨ya,yp,rfl,_⟩:=oY1.seg;obtain ⟨yb,yq,rfl,_⟩:=oY2.seg
  go_wp2
  refine bodyPost_ret (res_cct Tryz.results32 rfl (ldChan x.1 (.slice ya x.1.cells.length yp) (.slice yb x.1.words.length yq) (by simp [go_sem, *])) rfl (ldHand x.2.1 (by simp [go_sem, *]))) rfl ⟨⟨_,_,rfl,?_,?_,fr1,fr2⟩,by (repeat (first|with_reducible assumption|with_reducible refine oA ?_|with_reducible refine oD ?_|((with_reducible refine oX ?_ ?_);rotate_left;(focus ((try dsimp only);(try simp);(try omega))))|((with_reducible refine oS ?_ ?_);rotate_left;(focus ((try dsimp only);(try simp);(try omega))))))⟩
  · exact zP oY1 oY1 hoff1
  · exact zP oY2 oY2 hoff2
set_option maxRecDepth 100000 in
set_option maxHeartbeats 4000000 in
theorem l6Put_late2 (c:Ch) (h:Ha) (v1 v2:Value) (lo:Nat) (w:World) (h1:OCells w lo v1 c.cells) (h2:OInts w lo v2 c.words) (hc0:0≤h.cell) (hc1:h.cell<c.cells.length) (hso:h.seen=0) (hx:h.cell<h.come) (ht:turnCB c h.cell h.seen 2 0=false) :
    Calls Tryz.prog 32 #[.agg (cvals c v1 v2),.agg (hvals h)] w fun r w'=>StepO w w' lo v1 v2 (put6 c h) r:=by
  obtain ⟨i,hci⟩:∃ i:Nat,h.cell=(i:Int):=⟨h.cell.toNat,by omega⟩
  have hs:=hso
  rw [hci,hs] at ht
  have e:put6 c h=done (turnC c i 0 2 0) { h with pos:=3,cell:=(i:Int),seen:=0 }:=by simp [put6,hs,hci,ht,show ¬ h.come≤i by omega]
  rw [e]
  have hi:i<c.cells.length:=by omega
  have T:=Lib.hid fun W a b=>wTurn_any c i 0 2 0 v1 v2 lo W a b hi
  have D:=Lib.hid fun W=>l6Done_any (turnC c i 0 2 0) { h with pos:=3,cell:=(i:Int),seen:=0 } v1 v2 lo W
  generalize done (turnC c i 0 2 0) { h with pos:=3,cell:=(i:Int),seen:=0 }=x at *
  rw [ht] at T
  have b1:=fun j (hj:v1.ownBlock=some j)=>(h1.lt j hj).2
  have b2:=fun j (hj:v2.ownBlock=some j)=>(h2.lt j hj).2
  have m1:∀ j,w.heap.size≤j→some j≠v1.ownBlock:=fun j hj e=>by have:=b1 _ e.symm;omega
  have m10:=m1 w.heap.size (by omega)
  have m11:=m1 (w.heap.size+1) (by omega)
  have m12:=m1 (w.heap.size+1+1) (by omega)
  have m13:=m1 (w.heap.size+1+1+1) (by omega)
  have o1:=h1
  have o2:=h2
  obtain ⟨a1,q1,e1,_⟩:=h1.seg
  obtain ⟨a2,q2,e2,_⟩:=h2.seg
  subst e1 e2
  clear h1 h2 e hso
  have hx2:¬ h.come≤(i:Int):=by omega
  clear hx
  go_enter Tryz.func32,Tryz.ntmps32
  go_wp2_with fail;refine (T.out _ (by exact zO o1 o1) (by exact zO o2 o2)).mono ?_;rintro _ w1 ⟨rfl,p1,p2,hgw1⟩;have hsw1:=hgw1.size;(try (simp at hsw1));have zz:=And.intro (grHp hgw1 (b:=w.heap.size+1+1+1) (by (try simp) <;> omega) (by assumption)) <| And.intro (grHp hgw1 (b:=w.heap.size+1+1) (by (try simp) <;> omega) (by assumption)) <| And.intro (grHp hgw1 (b:=w.heap.size+1) (by (try simp) <;> omega) (by assumption)) <| grHp hgw1 (b:=w.heap.size) (by (try simp) <;> omega) (by assumption);(try simp [go_sem] at zz);(try clear z_wppp x_wppp f_wppp l_wppp);(try clear z_wpp x_wpp f_wpp l_wpp);(try clear z_wp x_wp f_wp l_wp);(try clear z_w x_w f_w l_w);obtain ⟨z_wppp,z_wpp,z_wp,z_w⟩:=zz;obtain ⟨x_wppp,f_wppp,l_wppp⟩:=bO z_wppp;obtain ⟨x_wpp,f_wpp,l_wpp⟩:=bO z_wpp;obtain ⟨x_wp,f_wp,l_wp⟩:=bO z_wp;obtain ⟨x_w,f_w,l_w⟩:=bO z_w;have hGw1:=grB (w:=w) (by exact zB) hgw1;clear hgw1
  have hO1:Onl (Value.slice a1 c.cells.length q1).ownBlock (Value.slice a2 c.words.length q2).ownBlock w w1:=onl1 hGw1
  have k0:w.heap.size<w1.heap.size:=by omega
  have k1:w.heap.size+1<w1.heap.size:=by omega
  have k2:w.heap.size+1+1<w1.heap.size:=by omega
  have k3:w.heap.size+1+1+1<w1.heap.size:=by omega
  have r1:OCells w1 lo (.slice a1 c.cells.length q1) (turnC c i 0 2 0).cells:=p1
  have r2:OInts w1 lo (.slice a2 c.words.length q2) (turnC c i 0 2 0).words:=p2
  go_wp2_with fail
  refine (D.out _ (by exact zO r1 o1) (by exact zO r2 o2)).mono ?_
  rintro _ w3 ⟨⟨y1,y2,rfl,oY1,oY2,fY1,fY2⟩,hbw3⟩
  have hO3:Onl (Value.slice a1 c.cells.length q1).ownBlock (Value.slice a2 c.words.length q2).ownBlock w w3:=onlT (by (repeat (first|with_reducible assumption|with_reducible refine oA ?_|with_reducible refine oD ?_|((with_reducible refine oX ?_ ?_);rotate_left;(focus ((try dsimp only);(try simp);(try omega))))|((with_reducible refine oS ?_ ?_);rotate_left;(focus ((try dsimp only);(try simp);(try omega))))))) (onlB hbw3)
  have hsw3:=hbw3.size;(try simp at hsw3);have zz:=q4 hbw3 (b:=w.heap.size);(first|simp [go_sem,z_wppp,z_wpp,z_wp,z_w,l_w,l_wp,l_wpp,l_wppp,k0,k1,k2,k3] at zz|simp [go_sem] at zz|skip);(try clear z_wppp x_wppp f_wppp l_wppp);(try clear z_wpp x_wpp f_wpp l_wpp);(try clear z_wp x_wp f_wp l_wp);(try clear z_w x_w f_w l_w);obtain ⟨z_wppp,z_wpp,z_wp,z_w⟩:=zz;obtain ⟨x_wppp,f_wppp,l_wppp⟩:=bO z_wppp;obtain ⟨x_wpp,f_wpp,l_wpp⟩:=bO z_wpp;obtain ⟨x_wp,f_wp,l_wp⟩:=bO z_wp;obtain ⟨x_w,f_w,l_w⟩:=bO z_w;clear hbw3
  have hoff1:∀ j,w.heap.size≤j→j<w.heap.size+1+1+1+1→y1.ownBlock≠some j:=fun j h1 h2=>fY1.off b1 h1 (by (try simp) <;> omega);have hoff2:∀ j,w.heap.size≤j→j<w.heap.size+1+1+1+1→y2.ownBlock≠some j:=fun j h1 h2=>fY2.off b2 h1 (by (try simp) <;> omega);have fr1:Fresh w _ y1:=fun j hj=>(fY1 j hj).imp id (fun h=>Nat.le_trans (by (try simp) <;> omega) h);have fr2:Fresh w _ y2:=fun j hj=>(fY2 j hj).imp id (fun h=>Nat.le_trans (by (try simp) <;> omega) h);obtain ⟨ya,yp,rfl,_⟩:=oY1.seg;obtain ⟨yb,yq,rfl,_⟩:=oY2.seg
  go_wp2
  refine bodyPost_ret (res_cct Tryz.results32 rfl (ldChan x.1 (.slice ya x.1.cells.length yp) (.slice yb x.1.words.length yq) (by simp [go_sem, *])) rfl (ldHand x.2.1 (by simp [go_sem, *]))) rfl ⟨⟨_,_,rfl,?_,?_,fr1,fr2⟩,by (repeat (first|with_reducible assumption|with_reducible refine oA ?_|with_reducible refine oD ?_|((with_reducible refine oX ?_ ?_);rotate_left;(focus ((try dsimp only);(try simp);(try omega))))|((with_reducible refine oS ?_ ?_);rotate_left;(focus ((try dsimp only);(try simp);(try omega))))))⟩
  · exact zP oY1 oY1 hoff1
  · exact zP oY2 oY2 hoff2
set_option maxRecDepth 100000 in
set_option maxHeartbeats 4000000 in
theorem l6Put_late3 (c:Ch) (h:Ha) (v1 v2:Value) (lo:Nat) (w:World) (h1:OCells w lo v1 c.cells) (h2:OInts w lo v2 c.words) (hc0:0≤h.cell) (hc1:h.cell<c.cells.length) (hso:h.seen=0) (hx:h.come≤h.cell) (hy:h.cell<h.fin) (ht:turnCB c h.cell h.seen 2 0=false) :
    Calls Tryz.prog 32 #[.agg (cvals c v1 v2),.agg (hvals h)] w fun r w'=>StepO w w' lo v1 v2 (put6 c h) r:=by
  obtain ⟨i,hci⟩:∃ i:Nat,h.cell=(i:Int):=⟨h.cell.toNat,by omega⟩
  have hs:=hso
  rw [hci,hs] at ht
  have e:put6 c h=done (turnC c i 0 2 0) { h with pos:=3,cell:=(i:Int),seen:=0 }:=by simp [put6,hs,hci,ht,show ¬ h.fin≤i by omega]
  rw [e]
  have hi:i<c.cells.length:=by omega
  have T:=Lib.hid fun W a b=>wTurn_any c i 0 2 0 v1 v2 lo W a b hi
  have D:=Lib.hid fun W=>l6Done_any (turnC c i 0 2 0) { h with pos:=3,cell:=(i:Int),seen:=0 } v1 v2 lo W
  generalize done (turnC c i 0 2 0) { h with pos:=3,cell:=(i:Int),seen:=0 }=x at *
  rw [ht] at T
  have b1:=fun j (hj:v1.ownBlock=some j)=>(h1.lt j hj).2
  have b2:=fun j (hj:v2.ownBlock=some j)=>(h2.lt j hj).2
  have m1:∀ j,w.heap.size≤j→some j≠v1.ownBlock:=fun j hj e=>by have:=b1 _ e.symm;omega
  have m10:=m1 w.heap.size (by omega)
  have m11:=m1 (w.heap.size+1) (by omega)
  have m12:=m1 (w.heap.size+1+1) (by omega)
  have m13:=m1 (w.heap.size+1+1+1) (by omega)
  have o1:=h1
  have o2:=h2
  obtain ⟨a1,q1,e1,_⟩:=h1.seg
  obtain ⟨a2,q2,e2,_⟩:=h2.seg
  subst e1 e2
  clear h1 h2 e hso
  have hx2:h.come≤(i:Int):=by omega
  have hy2:¬ h.fin≤(i:Int):=by omega
  clear hx hy
  go_enter Tryz.func32,Tryz.ntmps32
  go_wp2_with fail;refine (T.out _ (by exact zO o1 o1) (by exact zO o2 o2)).mono ?_;rintro _ w1 ⟨rfl,p1,p2,hgw1⟩;have hsw1:=hgw1.size;(try (simp at hsw1));have zz:=And.intro (grHp hgw1 (b:=w.heap.size+1+1+1) (by (try simp) <;> omega) (by assumption)) <| And.intro (grHp hgw1 (b:=w.heap.size+1+1) (by (try simp) <;> omega) (by assumption)) <| And.intro (grHp hgw1 (b:=w.heap.size+1) (by (try simp) <;> omega) (by assumption)) <| grHp hgw1 (b:=w.heap.size) (by (try simp) <;> omega) (by assumption);(try simp [go_sem] at zz);(try clear z_wppp x_wppp f_wppp l_wppp);(try clear z_wpp x_wpp f_wpp l_wpp);(try clear z_wp x_wp f_wp l_wp);(try clear z_w x_w f_w l_w);obtain ⟨z_wppp,z_wpp,z_wp,z_w⟩:=zz;obtain ⟨x_wppp,f_wppp,l_wppp⟩:=bO z_wppp;obtain ⟨x_wpp,f_wpp,l_wpp⟩:=bO z_wpp;obtain ⟨x_wp,f_wp,l_wp⟩:=bO z_wp;obtain ⟨x_w,f_w,l_w⟩:=bO z_w;have hGw1:=grB (w:=w) (by exact zB) hgw1;clear hgw1
  have hO1:Onl (Value.slice a1 c.cells.length q1).ownBlock (Value.slice a2 c.words.length q2).ownBlock w w1:=onl1 hGw1
  have k0:w.heap.size<w1.heap.size:=by omega
  have k1:w.heap.size+1<w1.heap.size:=by omega
  have k2:w.heap.size+1+1<w1.heap.size:=by omega
  have k3:w.heap.size+1+1+1<w1.heap.size:=by omega
  have r1:OCells w1 lo (.slice a1 c.cells.length q1) (turnC c i 0 2 0).cells:=p1
  have r2:OInts w1 lo (.slice a2 c.words.length q2) (turnC c i 0 2 0).words:=p2
  go_wp2_with fail
  refine (D.out _ (by exact zO r1 o1) (by exact zO r2 o2)).mono ?_
  rintro _ w3 ⟨⟨y1,y2,rfl,oY1,oY2,fY1,fY2⟩,hbw3⟩
  have hO3:Onl (Value.slice a1 c.cells.length q1).ownBlock (Value.slice a2 c.words.length q2).ownBlock w w3:=onlT (by (repeat (first|with_reducible assumption|with_reducible refine oA ?_|with_reducible refine oD ?_|((with_reducible refine oX ?_ ?_);rotate_left;(focus ((try dsimp only);(try simp);(try omega))))|((with_reducible refine oS ?_ ?_);rotate_left;(focus ((try dsimp only);(try simp);(try omega))))))) (onlB hbw3)
  have hsw3:=hbw3.size;(try simp at hsw3);have zz:=q4 hbw3 (b:=w.heap.size);(first|simp [go_sem,z_wppp,z_wpp,z_wp,z_w,l_w,l_wp,l_wpp,l_wppp,k0,k1,k2,k3] at zz|simp [go_sem] at zz|skip);(try clear z_wppp x_wppp f_wppp l_wppp);(try clear z_wpp x_wpp f_wpp l_wpp);(try clear z_wp x_wp f_wp l_wp);(try clear z_w x_w f_w l_w);obtain ⟨z_wppp,z_wpp,z_wp,z_w⟩:=zz;obtain ⟨x_wppp,f_wppp,l_wppp⟩:=bO z_wppp;obtain ⟨x_wpp,f_wpp,l_wpp⟩:=bO z_wpp;obtain ⟨x_wp,f_wp,l_wp⟩:=bO z_wp;obtain ⟨x_w,f_w,l_w⟩:=bO z_w;clear hbw3
  have hoff1:∀ j,w.heap.size≤j→j<w.heap.size+1+1+1+1→y1.ownBlock≠some j:=fun j h1 h2=>fY1.off b1 h1 (by (try simp) <;> omega);have hoff2:∀ j,w.heap.size≤j→j<w.heap.size+1+1+1+1→y2.ownBlock≠some j:=fun j h1 h2=>fY2.off b2 h1 (by (try simp) <;> omega);have fr1:Fresh w _ y1:=fun j hj=>(fY1 j hj).imp id (fun h=>Nat.le_trans (by (try simp) <;> omega) h);have fr2:Fresh w _ y2:=fun j hj=>(fY2 j hj).imp id (fun h=>Nat.le_trans (by (try simp) <;> omega) h);obtain ⟨ya,yp,rfl,_⟩:=oY1.seg;obtain ⟨yb,yq,rfl,_⟩:=oY2.seg
  go_wp2
  refine bodyPost_ret (res_cct Tryz.results32 rfl (ldChan x.1 (.slice ya x.1.cells.length yp) (.slice yb x.1.words.length yq) (by simp [go_sem, *])) rfl (ldHand x.2.1 (by simp [go_sem, *]))) rfl ⟨⟨_,_,rfl,?_,?_,fr1,fr2⟩,by (repeat (first|with_reducible assumption|with_reducible refine oA ?_|with_reducible refine oD ?_|((with_reducible refine oX ?_ ?_);rotate_left;(focus ((try dsimp only);(try simp);(try omega))))|((with_reducible refine oS ?_ ?_);rotate_left;(focus ((try dsimp only);(try simp);(try omega))))))⟩
  · exact zP oY1 oY1 hoff1
  · exact zP oY2 oY2 hoff2
end Go.Proofs.YthfbnjfppjmgfaaGreat
set_option linter.unusedSimpArgs false
set_option linter.unusedVariables false
namespace Go.Proofs.YthfbnjfppjmgfaaGreat
open Go.RowKit
theorem l6Put_any (c:Ch) (h:Ha) (v1 v2:Value) (lo:Nat) (w:World) (h1:OCells w lo v1 c.cells) (h2:OInts w lo v2 c.words) (hlo:lo≤w.heap.size) (hc0:0≤h.cell) (hc1:h.cell<c.cells.length) :
    Calls Tryz.prog 32 #[.agg (cvals c v1 v2),.agg (hvals h)] w fun r w'=>StepO w w' lo v1 v2 (put6 c h) r:=by
  by_cases hs:(h.seen != 0 && h.seen != 1)=true
  · exact l6Put_none c h v1 v2 lo w h1 h2 hs
  · have hs2:h.seen=0∨h.seen=1:=by simp at hs;omega
    rcases hs2 with h0|h0
    · by_cases hx:h.come≤h.cell
      · by_cases hy:h.fin≤h.cell
        · exact l6Put_wait c h v1 v2 lo w h1 h2 hlo hc0 hc1 h0 hx hy
        · cases ht:turnCB c h.cell h.seen 2 0 with
          | true=>exact l6Put_turn3 c h v1 v2 lo w h1 h2 hc0 hc1 h0 hx (by omega) ht
          | false=>exact l6Put_late3 c h v1 v2 lo w h1 h2 hc0 hc1 h0 hx (by omega) ht
      · cases ht:turnCB c h.cell h.seen 2 0 with
        | true=>exact l6Put_turn2 c h v1 v2 lo w h1 h2 hc0 hc1 h0 (by omega) ht
        | false=>exact l6Put_late2 c h v1 v2 lo w h1 h2 hc0 hc1 h0 (by omega) ht
    · cases ht:turnCB c h.cell h.seen 2 0 with
      | true=>exact l6Put_turn1 c h v1 v2 lo w h1 h2 hc0 hc1 h0 ht
      | false=>exact l6Put_late1 c h v1 v2 lo w h1 h2 hc0 hc1 h0 ht
end Go.Proofs.YthfbnjfppjmgfaaGreat
set_option linter.unusedSimpArgs false
set_option linter.unusedVariables false
namespace Go.Proofs.YthfbnjfppjmgfaaGreat
/- Chapter 7 -/
def viewAs (h:Ha) (x:C3):Ha:={ h with seen:=x.s,wait:=x.t,out:=x.e }
def view7 (c:Ch) (h:Ha):Ha × Bool :=
  let x:=cellAt c h.cell
  let y:=viewAs h x
  if x.s == 0 then ({ y with pos:=11 },true) else if x.s == 1 then ({ y with pos:=11 },true) else if x.s == 2 then ({ y with pos:=12 },true)
  else if x.s == 3 then ({ y with pos:=12 },true) else if x.s == 9 then (anew y,true) else (y,false)
def grow7 (h:Ha) (t:Int):Ha:={ h with nxt:=t,pos:=16 }
def turn7 (c:Ch) (h:Ha) (to wt:Int) (thn:Ha):St :=
  if turnCB c h.cell h.seen to wt then done (turnC c h.cell h.seen to wt) thn else done (turnC c h.cell h.seen to wt) { h with pos:=10 }
def then7 (h:Ha):Ha:=if h.pos == 16 then { h with nxt:=1 } else h
def take7 (c:Ch) (h:Ha):St :=
  if h.seen == 2 then turn7 c h 7 0 (grow7 h 0) else if h.seen == 3 then turn7 c h 5 h.wait { h with pos:=13 }
  else if h.seen != 0 && h.seen != 1 then nothing else if h.cell<h.come then turn7 c h 8 0 (grow7 h 2)
  else done (wait6 c h 4 16 10).1 (then7 (wait6 c h 4 16 10).2)
def recv1 (c:Ch) (h:Ha):St:=if c.got == 40 then done c (resting 4 0) else done { c with got:=c.got+1 } { h with cell:=c.got,pos:=10 }
def recv2 (c:Ch) (h:Ha):St:=if (cellAt c h.cell).s == 6 then (c,h,false) else if (view7 c h).2 then done c (view7 c h).1 else nothing
def wake7 (c:Ch) (h:Ha):St:=done (tellC c h.wait 1) { h with pos:=if tellB c h.wait 1 then 14 else 15 }
def recvStep (c:Ch) (h:Ha):St :=
  if stepOk c h 9 15 2 then
    if h.pos == 9 then recv1 c h else if h.pos == 10 then recv2 c h else if h.pos == 11 then done c { h with come:=c.sent,pos:=12 }
    else if h.pos == 12 then take7 c h else if h.pos == 13 then wake7 c h
    else if h.pos == 14 then done (stateC c h.cell 7) (grow7 h 0) else done (stateC c h.cell 9) (anew h)
  else nothing
/- Chapter 8 -/
def grown8 (h:Ha):Ha:=if h.nxt == 0 then resting 2 h.out else if h.nxt == 1 then { h with pos:=23 } else anew h
def meet8 (c:Ch) (h:Ha):Ha :=
  let x:=cellAt c h.grow
  let y:=seenAs h x
  if x.s == 0 then { y with pos:=19 } else if x.s == 3 then { y with pos:=19 } else if x.s == 9 then { y with pos:=16 } else grown8 y
def turn8 (c:Ch) (h:Ha) (to wt:Int) (thn:Ha):St :=
  if turnCB c h.grow h.seen to wt then done (turnC c h.grow h.seen to wt) thn else done (turnC c h.grow h.seen to wt) { h with pos:=18 }
def pull8 (c:Ch) (h:Ha):St:=if h.seen == 3 then turn8 c h 6 h.wait { h with pos:=20 } else if h.seen == 0 then turn8 c h 1 0 (grown8 h) else nothing
def begin8 (c:Ch) (h:Ha):Ch × Ha:=if c.cap == 0 || c.fin == 40 then (c,grown8 h) else ({ c with fin:=c.fin+1 },{ h with grow:=c.fin,pos:=17 })
def meetStep (c:Ch) (h:Ha):St:=if (cellAt c h.grow).s == 5 then (c,h,false) else done c (meet8 c h)
def raise8 (c:Ch) (h:Ha):St:=done (tellC c h.wait 1) { h with pos:=if tellB c h.wait 1 then 21 else 22 }
def growStep (c:Ch) (h:Ha):St :=
  if stepOk c h 16 22 2 then
    if h.pos == 16 then done (begin8 c h).1 (begin8 c h).2 else if h.pos == 17 then (if c.sent≤h.grow then done c (grown8 h) else done c { h with pos:=18 })
    else if h.pos == 18 then meetStep c h else if h.pos == 19 then pull8 c h else if h.pos == 20 then raise8 c h
    else if h.pos == 21 then done (stateC c h.grow 2) (grown8 h) else done (stateC c h.grow 9) { h with pos:=16 }
  else nothing
/- Chapters 9 and 10 -/
def park9 (c:Ch) (h:Ha):St :=
  if wordAt c h.mine == 0 then (c,h,false) else if wordAt c h.mine == 2 then done c { h with pos:=25 }
  else if h.code == 1 then done c (resting 1 0) else done c { h with pos:=24 }
def goneS (h:Ha):Int:=if h.code == 1 then 9 else 10
def parkStep (c:Ch) (h:Ha):St :=
  if stepOk c h 23 25 0 && (hasW c h.mine && !(h.pos == 24 && h.code == 1)) then
    if h.pos == 23 then park9 c h else if h.pos == 24 then done c (resting 2 (cellAt c h.cell).e) else done (stateC c h.cell (goneS h)) (resting 3 0)
  else nothing
def stepC (c:Ch) (h:Ha):St :=
  if inB h.pos 1 8 then sendStep c h else if inB h.pos 9 15 then recvStep c h else if inB h.pos 16 22 then growStep c h else parkStep c h
end Go.Proofs.YthfbnjfppjmgfaaGreat
set_option linter.unusedSimpArgs false
set_option linter.unusedVariables false
namespace Go.Proofs.YthfbnjfppjmgfaaGreat
open Go.RowKit
set_option linter.unusedSimpArgs false
attribute [local simp] bx_size
attribute [local go_sem ↓] zeroHand zeroChan toLHand toLChan toVHand toVChan storeHand storeChan storeHandC storeChanC
theorem wHas_any (c:Ch) (v:Int) (a b:Option Addr) (p q:Nat) (w:World) :
    Calls Tryz.prog 44 #[.agg (cvals c (.slice a c.cells.length p) (.slice b c.words.length q)),.int .i64 v] w fun r w'=>r=.returned (.bool (hasW c v))∧Below w.heap.size w w':=l3Has_any c v a b p q w
set_option maxRecDepth 100000 in
set_option maxHeartbeats 4000000 in
theorem l9Park_0 (c:Ch) (h:Ha) (v1 v2:Value) (lo:Nat) (w:World) (h1:OCells w lo v1 c.cells) (h2:OInts w lo v2 c.words) (hm0:1≤h.mine) (hm1:h.mine≤c.words.length) (hm80:c.words.length≤80) (hs:wordAt c h.mine=0) :
    Calls Tryz.prog 45 #[.agg (cvals c v1 v2),.agg (hvals h)] w fun r w'=>StepO w w' lo v1 v2 (park9 c h) r:=by
  obtain ⟨j,hj⟩:∃ j:Nat,h.mine=(j:Int)+1:=⟨(h.mine - 1).toNat,by omega⟩
  have hjl:j<c.words.length:=by omega
  have hw0:wordAt c h.mine=c.words.getD j 0:=by simp [wordAt,hj]
  have e:park9 c h=(c,h,false):=by simp [park9,hs]
  rw [e]
  rw [hw0] at hs
  have b1:=fun j (hj:v1.ownBlock=some j)=>(h1.lt j hj).2
  have b2:=fun j (hj:v2.ownBlock=some j)=>(h2.lt j hj).2
  have m1:∀ j,w.heap.size≤j→some j≠v1.ownBlock:=fun j hj e=>by have:=b1 _ e.symm;omega
  have m2:∀ j,w.heap.size≤j→some j≠v2.ownBlock:=fun j hj e=>by have:=b2 _ e.symm;omega
  have m10:=m1 (w.heap.size) (by omega)
  have m20:=m2 (w.heap.size) (by omega)
  have m11:=m1 (w.heap.size+1) (by omega)
  have m21:=m2 (w.heap.size+1) (by omega)
  have m12:=m1 (w.heap.size+1+1) (by omega)
  have m22:=m2 (w.heap.size+1+1) (by omega)
  have m13:=m1 (w.heap.size+1+1+1) (by omega)
  have m23:=m2 (w.heap.size+1+1+1) (by omega)
  have o1:=h1
  have o2:=h2
  obtain ⟨a1,q1,e1,_⟩:=h1.seg
  obtain ⟨a2,q2,e2,_⟩:=h2.seg
  subst e1 e2
  clear h1 h2 e
  go_enter Tryz.func45,Tryz.ntmps45
  obtain ⟨g,cap,hv,hlo,hlt,hcell,_⟩:=o2.open1 hjl
  simp at hv
  obtain ⟨rfl,rfl⟩:=hv
  generalize c.words.getD j 0=y at *
  have hj0:(0:Int)≤(j:Int):=by omega
  have hj1:(j:Int)<(c.words.length:Int):=by omega
  have hg0:g≠w.heap.size:=by omega
  have hg1:g≠w.heap.size+1:=by omega
  have hg2:g≠w.heap.size+1+1:=by omega
  have hg3:g≠w.heap.size+1+1+1:=by omega
  have hg4:g<w.heap.size+1:=by omega
  have hg5:g<w.heap.size+1+1:=by omega
  have hg6:g<w.heap.size+1+1+1:=by omega
  go_wp2_with fail
  go_region
  all_goals go_wp2
  all_goals (refine bodyPost_ret (res_cct Tryz.results45 rfl (ldChan c (.slice a1 c.cells.length q1) (.slice (some ⟨g,0,none⟩) c.words.length q2) (by simp [go_sem, *])) rfl (ldHand h (by simp [go_sem, *]))) rfl ⟨⟨_,_,rfl,?_,?_,fresh_refl _ _,fresh_refl _ _⟩,onlB (by exact zB)⟩)
  all_goals first|(show OCells _ _ _ c.cells;exact zO o1 o1)|skip
  all_goals first|(show OInts _ _ _ c.words;exact zO o2 o2)|skip
set_option maxRecDepth 100000 in
set_option maxHeartbeats 4000000 in
theorem l9Park_2 (c:Ch) (h:Ha) (v1 v2:Value) (lo:Nat) (w:World) (h1:OCells w lo v1 c.cells) (h2:OInts w lo v2 c.words) (hm0:1≤h.mine) (hm1:h.mine≤c.words.length) (hm80:c.words.length≤80) (hs:(wordAt c h.mine == 0)=false) (hs2:(wordAt c h.mine == 2)=true) :
    Calls Tryz.prog 45 #[.agg (cvals c v1 v2),.agg (hvals h)] w fun r w'=>StepO w w' lo v1 v2 (park9 c h) r:=by
  obtain ⟨j,hj⟩:∃ j:Nat,h.mine=(j:Int)+1:=⟨(h.mine - 1).toNat,by omega⟩
  have hjl:j<c.words.length:=by omega
  have hw0:wordAt c h.mine=c.words.getD j 0:=by simp [wordAt,hj]
  have e:park9 c h=done c ({ h with pos:=25,mine:=(j:Int)+1 }):=by rw [← hj];simp at hs hs2;simp [park9,hs2]
  rw [e]
  rw [hw0] at hs hs2
  have D:=Lib.hid fun W=>l6Done_any c ({ h with pos:=25,mine:=(j:Int)+1 }) v1 v2 lo W
  generalize done c ({ h with pos:=25,mine:=(j:Int)+1 })=x at *
  have b1:=fun j (hj:v1.ownBlock=some j)=>(h1.lt j hj).2
  have b2:=fun j (hj:v2.ownBlock=some j)=>(h2.lt j hj).2
  have m1:∀ j,w.heap.size≤j→some j≠v1.ownBlock:=fun j hj e=>by have:=b1 _ e.symm;omega
  have m2:∀ j,w.heap.size≤j→some j≠v2.ownBlock:=fun j hj e=>by have:=b2 _ e.symm;omega
  have m10:=m1 (w.heap.size) (by omega)
  have m20:=m2 (w.heap.size) (by omega)
  have m11:=m1 (w.heap.size+1) (by omega)
  have m21:=m2 (w.heap.size+1) (by omega)
  have m12:=m1 (w.heap.size+1+1) (by omega)
  have m22:=m2 (w.heap.size+1+1) (by omega)
  have m13:=m1 (w.heap.size+1+1+1) (by omega)
  have m23:=m2 (w.heap.size+1+1+1) (by omega)
  have o1:=h1
  have o2:=h2
  obtain ⟨a1,q1,e1,_⟩:=h1.seg
  obtain ⟨a2,q2,e2,_⟩:=h2.seg
  subst e1 e2
  clear h1 h2 e
  go_enter Tryz.func45,Tryz.ntmps45
  obtain ⟨g,cap,hv,hlo,hlt,hcell,_⟩:=o2.open1 hjl
  simp at hv
  obtain ⟨rfl,rfl⟩:=hv
  generalize c.words.getD j 0=y at *
  have hj0:(0:Int)≤(j:Int):=by omega
  have hj1:(j:Int)<(c.words.length:Int):=by omega
  have hg0:g≠w.heap.size:=by omega
  have hg1:g≠w.heap.size+1:=by omega
  have hg2:g≠w.heap.size+1+1:=by omega
  have hg3:g≠w.heap.size+1+1+1:=by omega
  have hg4:g<w.heap.size+1:=by omega
  have hg5:g<w.heap.size+1+1:=by omega
  have hg6:g<w.heap.size+1+1+1:=by omega
  go_wp2_with fail;refine bHit w (by exact zB) fun bb=>?_;refine (D.out _ (by exact zO o1 o1) (by exact zO o2 o2)).mono ?_;rintro _ w3 ⟨⟨y1,y2,rfl,oY1,oY2,fY1,fY2⟩,hbw3⟩;have hCw3:Below w.heap.size w w3:=bT bb hbw3;have hsw3:=hbw3.size;(try simp at hsw3);have zz:=q4 hbw3 (b:=w.heap.size);(try simp [go_sem] at zz);(try clear z_wppp x_wppp f_wppp l_wppp);(try clear z_wpp x_wpp f_wpp l_wpp);(try clear z_wp x_wp f_wp l_wp);(try clear z_w x_w f_w l_w);obtain ⟨z_wppp,z_wpp,z_wp,z_w⟩:=zz;obtain ⟨x_wppp,f_wppp,l_wppp⟩:=bO z_wppp;obtain ⟨x_wpp,f_wpp,l_wpp⟩:=bO z_wpp;obtain ⟨x_wp,f_wp,l_wp⟩:=bO z_wp;obtain ⟨x_w,f_w,l_w⟩:=bO z_w;clear hbw3 bb
  have hoff1:∀ j,w.heap.size≤j→j<w.heap.size+1+1+1+1→y1.ownBlock≠some j:=fun j h1 h2=>fY1.off b1 h1 (by (try simp) <;> omega);have hoff2:∀ j,w.heap.size≤j→j<w.heap.size+1+1+1+1→y2.ownBlock≠some j:=fun j h1 h2=>fY2.off b2 h1 (by (try simp) <;> omega);have fr1:Fresh w _ y1:=fun j hj=>(fY1 j hj).imp id (fun h=>Nat.le_trans (by (try simp) <;> omega) h);have fr2:Fresh w _ y2:=fun j hj=>(fY2 j hj).imp id (fun h=>Nat.le_trans (by (try simp) <;> omega) h);obtain ⟨ya,yp,rfl,_⟩:=oY1.seg;obtain ⟨yb,yq,rfl,_⟩:=oY2.seg
  go_wp2
  refine bodyPost_ret (res_cct Tryz.results45 rfl (ldChan x.1 (.slice ya x.1.cells.length yp) (.slice yb x.1.words.length yq) (by simp [go_sem, *])) rfl (ldHand x.2.1 (by simp [go_sem, *]))) rfl ⟨⟨_,_,rfl,?_,?_,fr1,fr2⟩,onlB (by exact zB)⟩
  · exact zP oY1 oY1 hoff1
  · exact zP oY2 oY2 hoff2
set_option maxRecDepth 100000 in
set_option maxHeartbeats 4000000 in
theorem l9Park_s (c:Ch) (h:Ha) (v1 v2:Value) (lo:Nat) (w:World) (h1:OCells w lo v1 c.cells) (h2:OInts w lo v2 c.words) (hm0:1≤h.mine) (hm1:h.mine≤c.words.length) (hm80:c.words.length≤80) (hs:(wordAt c h.mine == 0)=false) (hs2:(wordAt c h.mine == 2)=false) (hs3:(h.code == 1)=true) :
    Calls Tryz.prog 45 #[.agg (cvals c v1 v2),.agg (hvals h)] w fun r w'=>StepO w w' lo v1 v2 (park9 c h) r:=by
  obtain ⟨j,hj⟩:∃ j:Nat,h.mine=(j:Int)+1:=⟨(h.mine - 1).toNat,by omega⟩
  have hjl:j<c.words.length:=by omega
  have hw0:wordAt c h.mine=c.words.getD j 0:=by simp [wordAt,hj]
  have e:park9 c h=done c (resting 1 0):=by simp at hs hs2 hs3;simp [park9,hs,hs2,hs3]
  rw [e]
  rw [hw0] at hs hs2
  have D:=Lib.hid fun W=>l6Done_any c (resting 1 0) v1 v2 lo W
  generalize done c (resting 1 0)=x at *
  have b1:=fun j (hj:v1.ownBlock=some j)=>(h1.lt j hj).2
  have b2:=fun j (hj:v2.ownBlock=some j)=>(h2.lt j hj).2
  have m1:∀ j,w.heap.size≤j→some j≠v1.ownBlock:=fun j hj e=>by have:=b1 _ e.symm;omega
  have m2:∀ j,w.heap.size≤j→some j≠v2.ownBlock:=fun j hj e=>by have:=b2 _ e.symm;omega
  have m10:=m1 (w.heap.size) (by omega)
  have m20:=m2 (w.heap.size) (by omega)
  have m11:=m1 (w.heap.size+1) (by omega)
  have m21:=m2 (w.heap.size+1) (by omega)
  have m12:=m1 (w.heap.size+1+1) (by omega)
  have m22:=m2 (w.heap.size+1+1) (by omega)
  have m13:=m1 (w.heap.size+1+1+1) (by omega)
  have m23:=m2 (w.heap.size+1+1+1) (by omega)
  have o1:=h1
  have o2:=h2
  obtain ⟨a1,q1,e1,_⟩:=h1.seg
  obtain ⟨a2,q2,e2,_⟩:=h2.seg
  subst e1 e2
  clear h1 h2 e
  go_enter Tryz.func45,Tryz.ntmps45
  obtain ⟨g,cap,hv,hlo,hlt,hcell,_⟩:=o2.open1 hjl
  simp at hv
  obtain ⟨rfl,rfl⟩:=hv
  generalize c.words.getD j 0=y at *
  have hj0:(0:Int)≤(j:Int):=by omega
  have hj1:(j:Int)<(c.words.length:Int):=by omega
  have hg0:g≠w.heap.size:=by omega
  have hg1:g≠w.heap.size+1:=by omega
  have hg2:g≠w.heap.size+1+1:=by omega
  have hg3:g≠w.heap.size+1+1+1:=by omega
  have hg4:g<w.heap.size+1:=by omega
  have hg5:g<w.heap.size+1+1:=by omega
  have hg6:g<w.heap.size+1+1+1:=by omega
  go_wp2_with fail;refine bHit w (by exact zB) fun bb=>?_;refine (sResting_any _ _ _).mono ?_;rintro _ w4 ⟨rfl,hbw4⟩;have hCw4:Below w.heap.size w w4:=bT bb hbw4;have hsw4:=hbw4.size;(try simp at hsw4);have zz:=q4 hbw4 (b:=w.heap.size);(try simp [go_sem] at zz);(try clear z_wppp x_wppp f_wppp l_wppp);(try clear z_wpp x_wpp f_wpp l_wpp);(try clear z_wp x_wp f_wp l_wp);(try clear z_w x_w f_w l_w);obtain ⟨z_wppp,z_wpp,z_wp,z_w⟩:=zz;obtain ⟨x_wppp,f_wppp,l_wppp⟩:=bO z_wppp;obtain ⟨x_wpp,f_wpp,l_wpp⟩:=bO z_wpp;obtain ⟨x_wp,f_wp,l_wp⟩:=bO z_wp;obtain ⟨x_w,f_w,l_w⟩:=bO z_w;clear hbw4 bb
  have s1:=own_below o1 hCw4
  have s2:=own_below o2 hCw4
  go_wp2_with fail;refine bHit w (by exact zB) fun bb=>?_;refine (D.out _ (by exact zO s1 o1) (by exact zO s2 o2)).mono ?_;rintro _ w3 ⟨⟨y1,y2,rfl,oY1,oY2,fY1,fY2⟩,hbw3⟩;have hCw3:Below w.heap.size w w3:=bT bb hbw3;have hsw3:=hbw3.size;(try simp at hsw3);have zz:=q4 hbw3 (b:=w.heap.size);(first|simp [go_sem,z_wppp,z_wpp,z_wp,z_w,l_w,l_wp,l_wpp,l_wppp] at zz|simp [go_sem] at zz|skip);(try clear z_wppp x_wppp f_wppp l_wppp);(try clear z_wpp x_wpp f_wpp l_wpp);(try clear z_wp x_wp f_wp l_wp);(try clear z_w x_w f_w l_w);obtain ⟨z_wppp,z_wpp,z_wp,z_w⟩:=zz;obtain ⟨x_wppp,f_wppp,l_wppp⟩:=bO z_wppp;obtain ⟨x_wpp,f_wpp,l_wpp⟩:=bO z_wpp;obtain ⟨x_wp,f_wp,l_wp⟩:=bO z_wp;obtain ⟨x_w,f_w,l_w⟩:=bO z_w;clear hbw3 bb
  have hoff1:∀ j,w.heap.size≤j→j<w.heap.size+1+1+1+1→y1.ownBlock≠some j:=fun j h1 h2=>fY1.off b1 h1 (by (try simp) <;> omega);have hoff2:∀ j,w.heap.size≤j→j<w.heap.size+1+1+1+1→y2.ownBlock≠some j:=fun j h1 h2=>fY2.off b2 h1 (by (try simp) <;> omega);have fr1:Fresh w _ y1:=fun j hj=>(fY1 j hj).imp id (fun h=>Nat.le_trans (by (try simp) <;> omega) h);have fr2:Fresh w _ y2:=fun j hj=>(fY2 j hj).imp id (fun h=>Nat.le_trans (by (try simp) <;> omega) h);obtain ⟨ya,yp,rfl,_⟩:=oY1.seg;obtain ⟨yb,yq,rfl,_⟩:=oY2.seg
  go_wp2
  refine bodyPost_ret (res_cct Tryz.results45 rfl (ldChan x.1 (.slice ya x.1.cells.length yp) (.slice yb x.1.words.length yq) (by simp [go_sem, *])) rfl (ldHand x.2.1 (by simp [go_sem, *]))) rfl ⟨⟨_,_,rfl,?_,?_,fr1,fr2⟩,onlB (by exact zB)⟩
  · exact zP oY1 oY1 hoff1
  · exact zP oY2 oY2 hoff2
set_option maxRecDepth 100000 in
set_option maxHeartbeats 4000000 in
theorem l9Park_r (c:Ch) (h:Ha) (v1 v2:Value) (lo:Nat) (w:World) (h1:OCells w lo v1 c.cells) (h2:OInts w lo v2 c.words) (hm0:1≤h.mine) (hm1:h.mine≤c.words.length) (hm80:c.words.length≤80) (hs:(wordAt c h.mine == 0)=false) (hs2:(wordAt c h.mine == 2)=false) (hs3:(h.code == 1)=false) :
    Calls Tryz.prog 45 #[.agg (cvals c v1 v2),.agg (hvals h)] w fun r w'=>StepO w w' lo v1 v2 (park9 c h) r:=by
  obtain ⟨j,hj⟩:∃ j:Nat,h.mine=(j:Int)+1:=⟨(h.mine - 1).toNat,by omega⟩
  have hjl:j<c.words.length:=by omega
  have hw0:wordAt c h.mine=c.words.getD j 0:=by simp [wordAt,hj]
  have e:park9 c h=done c ({ h with pos:=24,mine:=(j:Int)+1 }):=by rw [← hj];simp at hs hs2 hs3;simp [park9,hs,hs2,hs3]
  rw [e]
  rw [hw0] at hs hs2
  have D:=Lib.hid fun W=>l6Done_any c ({ h with pos:=24,mine:=(j:Int)+1 }) v1 v2 lo W
  generalize done c ({ h with pos:=24,mine:=(j:Int)+1 })=x at *
  have b1:=fun j (hj:v1.ownBlock=some j)=>(h1.lt j hj).2
  have b2:=fun j (hj:v2.ownBlock=some j)=>(h2.lt j hj).2
  have m1:∀ j,w.heap.size≤j→some j≠v1.ownBlock:=fun j hj e=>by have:=b1 _ e.symm;omega
  have m2:∀ j,w.heap.size≤j→some j≠v2.ownBlock:=fun j hj e=>by have:=b2 _ e.symm;omega
  have m10:=m1 (w.heap.size) (by omega)
  have m20:=m2 (w.heap.size) (by omega)
  have m11:=m1 (w.heap.size+1) (by omega)
  have m21:=m2 (w.heap.size+1) (by omega)
  have m12:=m1 (w.heap.size+1+1) (by omega)
  have m22:=m2 (w.heap.size+1+1) (by omega)
  have m13:=m1 (w.heap.size+1+1+1) (by omega)
  have m23:=m2 (w.heap.size+1+1+1) (by omega)
  have o1:=h1
  have o2:=h2
  obtain ⟨a1,q1,e1,_⟩:=h1.seg
  obtain ⟨a2,q2,e2,_⟩:=h2.seg
  subst e1 e2
  clear h1 h2 e
  go_enter Tryz.func45,Tryz.ntmps45
  obtain ⟨g,cap,hv,hlo,hlt,hcell,_⟩:=o2.open1 hjl
  simp at hv
  obtain ⟨rfl,rfl⟩:=hv
  generalize c.words.getD j 0=y at *
  have hj0:(0:Int)≤(j:Int):=by omega
  have hj1:(j:Int)<(c.words.length:Int):=by omega
  have hg0:g≠w.heap.size:=by omega
  have hg1:g≠w.heap.size+1:=by omega
  have hg2:g≠w.heap.size+1+1:=by omega
  have hg3:g≠w.heap.size+1+1+1:=by omega
  have hg4:g<w.heap.size+1:=by omega
  have hg5:g<w.heap.size+1+1:=by omega
  have hg6:g<w.heap.size+1+1+1:=by omega
  go_wp2_with fail;refine bHit w (by exact zB) fun bb=>?_;refine (D.out _ (by exact zO o1 o1) (by exact zO o2 o2)).mono ?_;rintro _ w3 ⟨⟨y1,y2,rfl,oY1,oY2,fY1,fY2⟩,hbw3⟩;have hCw3:Below w.heap.size w w3:=bT bb hbw3;have hsw3:=hbw3.size;(try simp at hsw3);have zz:=q4 hbw3 (b:=w.heap.size);(try simp [go_sem] at zz);(try clear z_wppp x_wppp f_wppp l_wppp);(try clear z_wpp x_wpp f_wpp l_wpp);(try clear z_wp x_wp f_wp l_wp);(try clear z_w x_w f_w l_w);obtain ⟨z_wppp,z_wpp,z_wp,z_w⟩:=zz;obtain ⟨x_wppp,f_wppp,l_wppp⟩:=bO z_wppp;obtain ⟨x_wpp,f_wpp,l_wpp⟩:=bO z_wpp;obtain ⟨x_wp,f_wp,l_wp⟩:=bO z_wp;obtain ⟨x_w,f_w,l_w⟩:=bO z_w;clear hbw3 bb
  have hoff1:∀ j,w.heap.size≤j→j<w.heap.size+1+1+1+1→y1.ownBlock≠some j:=fun j h1 h2=>fY1.off b1 h1 (by (try simp) <;> omega);have hoff2:∀ j,w.heap.size≤j→j<w.heap.size+1+1+1+1→y2.ownBlock≠some j:=fun j h1 h2=>fY2.off b2 h1 (by (try simp) <;> omega);have fr1:Fresh w _ y1:=fun j hj=>(fY1 j hj).imp id (fun h=>Nat.le_trans (by (try simp) <;> omega) h);have fr2:Fresh w _ y2:=fun j hj=>(fY2 j hj).imp id (fun h=>Nat.le_trans (by (try simp) <;> omega) h);obtain ⟨ya,yp,rfl,_⟩:=oY1.seg;obtain ⟨yb,yq,rfl,_⟩:=oY2.seg
  go_wp2
  refine bodyPost_ret (res_cct Tryz.results45 rfl (ldChan x.1 (.slice ya x.1.cells.length yp) (.slice yb x.1.words.length yq) (by simp [go_sem, *])) rfl (ldHand x.2.1 (by simp [go_sem, *]))) rfl ⟨⟨_,_,rfl,?_,?_,fr1,fr2⟩,onlB (by exact zB)⟩
  · exact zP oY1 oY1 hoff1
  · exact zP oY2 oY2 hoff2
theorem l9Park_any (c:Ch) (h:Ha) (v1 v2:Value) (lo:Nat) (w:World) (h1:OCells w lo v1 c.cells) (h2:OInts w lo v2 c.words) (hm0:1≤h.mine) (hm1:h.mine≤c.words.length) (hm80:c.words.length≤80) :
    Calls Tryz.prog 45 #[.agg (cvals c v1 v2),.agg (hvals h)] w fun r w'=>StepO w w' lo v1 v2 (park9 c h) r:=by
  by_cases s0:wordAt c h.mine=0
  · exact l9Park_0 c h v1 v2 lo w h1 h2 hm0 hm1 hm80 s0
  · by_cases s2:wordAt c h.mine=2
    · exact l9Park_2 c h v1 v2 lo w h1 h2 hm0 hm1 hm80 (by simpa using s0) (by simpa using s2)
    · by_cases s3:h.code=1
      · exact l9Park_s c h v1 v2 lo w h1 h2 hm0 hm1 hm80 (by simpa using s0) (by simpa using s2) (by simpa using s3)
      · exact l9Park_r c h v1 v2 lo w h1 h2 hm0 hm1 hm80 (by simpa using s0) (by simpa using s2) (by simpa using s3)
end Go.Proofs.YthfbnjfppjmgfaaGreat
set_option linter.unusedSimpArgs false
set_option linter.unusedVariables false
namespace Go.Proofs.YthfbnjfppjmgfaaGreat
open Go.RowKit
set_option linter.unusedSimpArgs false
attribute [local simp] bx_size
attribute [local go_sem ↓] zeroHand zeroChan toLHand toLChan toVHand toVChan storeHand storeChan storeHandC storeChanC
set_option maxRecDepth 100000 in
set_option maxHeartbeats 2000000 in
theorem l6Call_any (c:Ch) (h:Ha) (a b:Option Addr) (p q:Nat) (w:World) (h1:Seg w w.heap.size a c.cells.length 3 (cellF c.cells)) (z1:a=none→p=0) (h2:Seg w w.heap.size b c.words.length 1 (intF c.words)) (z2:b=none→q=0) (m1:c.cells.length≤1099511627776) (m2:c.words.length≤1099511627776) :
    Calls Tryz.prog 33 #[.agg (cvals c (.slice a c.cells.length p) (.slice b c.words.length q)),.agg (hvals h)] w fun r w'=>(∃ v1 v2,r=.returned (.tuple #[.agg (cvals c v1 v2),.agg (hvals (call6 c h).2)])∧OCells w' w.heap.size v1 c.cells∧OInts w' w.heap.size v2 (tellC c h.wait 1).words)∧Below w.heap.size w w':=by
  have H1:=Lib.hid h1
  have H2:=Lib.hid h2
  have Z1:=Lib.hid z1
  have Z2:=Lib.hid z2
  clear h1 h2 z1 z2
  cases ht:tellB c h.wait 1 with
  | true =>
    have e:(call6 c h).2={ h with pos:=8 }:=by simp [call6,ht]
    rw [e]
    go_enter Tryz.func33,Tryz.ntmps33
    go_wp2_with fail;refine bHit w (by exact zB) fun bb=>?_;refine (wTold_any c h.wait 1 a b p q _ ((H1.out.below bb).more bb.size) Z1.out ((H2.out.below bb).more bb.size) Z2.out m1 m2).mono ?_;rintro _ w1 ⟨⟨v1,v2,rfl,o1,o2⟩,hbw1⟩;have hCw1:Below w.heap.size w w1:=bT bb hbw1;have hsw1:=hbw1.size;(try simp at hsw1);have zz:=q4 hbw1 (b:=w.heap.size);(try simp [go_sem] at zz);(try clear z_wppp x_wppp f_wppp l_wppp);(try clear z_wpp x_wpp f_wpp l_wpp);(try clear z_wp x_wp f_wp l_wp);(try clear z_w x_w f_w l_w);obtain ⟨z_wppp,z_wpp,z_wp,z_w⟩:=zz;obtain ⟨x_wppp,f_wppp,l_wppp⟩:=bO z_wppp;obtain ⟨x_wpp,f_wpp,l_wpp⟩:=bO z_wpp;obtain ⟨x_wp,f_wp,l_wp⟩:=bO z_wp;obtain ⟨x_w,f_w,l_w⟩:=bO z_w;clear hbw1 bb
    rw [ht]
    try simp at o1 o2
    obtain ⟨a1,q1,rfl,_⟩:=o1.seg
    obtain ⟨a2,q2,rfl,_⟩:=o2.seg
    go_wp2
    go_region
    go_wp2
    all_goals (refine bodyPost_ret (res_cc Tryz.results33 rfl (ldChan c (.slice a1 c.cells.length q1) (.slice a2 (tellC c h.wait 1).words.length q2) (by simp [go_sem, *])) rfl (ldHand { h with pos:=8 } (by simp [go_sem, *] <;> rfl))) rfl ⟨⟨_,_,rfl,own_lo (lo:=w.heap.size+1+1+1+1) ?_ (by omega),own_lo (lo:=w.heap.size+1+1+1+1) ?_ (by omega)⟩,by exact zB⟩)
    · exact zO o1 o1
    · exact zO o2 o2
  | false =>
    have e:(call6 c h).2=anew h:=by simp [call6,ht]
    rw [e]
    go_enter Tryz.func33,Tryz.ntmps33
    go_wp2_with fail;refine bHit w (by exact zB) fun bb=>?_;refine (wTold_any c h.wait 1 a b p q _ ((H1.out.below bb).more bb.size) Z1.out ((H2.out.below bb).more bb.size) Z2.out m1 m2).mono ?_;rintro _ w1 ⟨⟨v1,v2,rfl,o1,o2⟩,hbw1⟩;have hCw1:Below w.heap.size w w1:=bT bb hbw1;have hsw1:=hbw1.size;(try simp at hsw1);have zz:=q4 hbw1 (b:=w.heap.size);(try simp [go_sem] at zz);(try clear z_wppp x_wppp f_wppp l_wppp);(try clear z_wpp x_wpp f_wpp l_wpp);(try clear z_wp x_wp f_wp l_wp);(try clear z_w x_w f_w l_w);obtain ⟨z_wppp,z_wpp,z_wp,z_w⟩:=zz;obtain ⟨x_wppp,f_wppp,l_wppp⟩:=bO z_wppp;obtain ⟨x_wpp,f_wpp,l_wpp⟩:=bO z_wpp;obtain ⟨x_wp,f_wp,l_wp⟩:=bO z_wp;obtain ⟨x_w,f_w,l_w⟩:=bO z_w;clear hbw1 bb
    rw [ht]
    try simp at o1 o2
    obtain ⟨a1,q1,rfl,_⟩:=o1.seg
    obtain ⟨a2,q2,rfl,_⟩:=o2.seg
    go_wp2_with fail
    go_region_with (go_at_call 39;refine bHit w (by exact zB) fun bb=>?_;refine bHit w1 (by exact zB) fun bk=>?_;refine (l6Anew_any _ _).mono ?_;rintro _ w2 ⟨rfl,hbw2⟩;have hCw2:Below w.heap.size w w2:=bT bb hbw2;have hsw2:=hbw2.size;(try simp at hsw2);have zz:=And.intro (hQ hbw2 (b:=w1.heap.size)) <| And.intro (hQ hbw2 (b:=w.heap.size+1+1+1)) <| And.intro (hQ hbw2 (b:=w.heap.size+1+1)) <| And.intro (hQ hbw2 (b:=w.heap.size+1)) <| hQ hbw2 (b:=w.heap.size);(first|simp [go_sem,z_wppp,z_wpp,z_wp,z_w,l_w,l_wp,l_wpp,l_wppp] at zz|simp [go_sem] at zz|skip);(try clear z_w1 x_w1 f_w1 l_w1);(try clear z_wppp x_wppp f_wppp l_wppp);(try clear z_wpp x_wpp f_wpp l_wpp);(try clear z_wp x_wp f_wp l_wp);(try clear z_w x_w f_w l_w);obtain ⟨z_w1,z_wppp,z_wpp,z_wp,z_w⟩:=zz;obtain ⟨x_w1,f_w1,l_w1⟩:=bO z_w1;obtain ⟨x_wppp,f_wppp,l_wppp⟩:=bO z_wppp;obtain ⟨x_wpp,f_wpp,l_wpp⟩:=bO z_wpp;obtain ⟨x_wp,f_wp,l_wp⟩:=bO z_wp;obtain ⟨x_w,f_w,l_w⟩:=bO z_w;have hKw2:Below w1.heap.size w1 w2:=bT bk hbw2;clear hbw2 bb bk)
    all_goals (go_wp2_with fail)
    all_goals (have p1:=own_below o1 hKw2;have p2:=own_below o2 hKw2)
    all_goals (refine bodyPost_ret (res_cc Tryz.results33 rfl (ldChan c (.slice a1 c.cells.length q1) (.slice a2 (tellC c h.wait 1).words.length q2) (by simp [go_sem, *])) rfl (ldHand (anew h) (by simp [go_sem, *] <;> rfl))) rfl ⟨⟨_,_,rfl,own_lo (lo:=w.heap.size+1+1+1+1) ?_ (by omega),own_lo (lo:=w.heap.size+1+1+1+1) ?_ (by omega)⟩,by exact zB⟩)
    all_goals first|(repeat first|with_reducible exact p1|with_reducible refine oAl ?_ _|with_reducible refine oDr ?_|((with_reducible first|refine own_store ?_ ?_ _|refine own_box ?_ ?_);rotate_left;focus first|(refine own_ne o1 ?_;(try dsimp only);omega)|(refine own_ne' o1 ?_;(try dsimp only);omega)))|skip
    all_goals first|(repeat first|with_reducible exact p2|with_reducible refine oAl ?_ _|with_reducible refine oDr ?_|((with_reducible first|refine own_store ?_ ?_ _|refine own_box ?_ ?_);rotate_left;focus first|(refine own_ne o2 ?_;(try dsimp only);omega)|(refine own_ne' o2 ?_;(try dsimp only);omega)))|skip
end Go.Proofs.YthfbnjfppjmgfaaGreat
set_option linter.unusedSimpArgs false
set_option linter.unusedVariables false
namespace Go.Proofs.YthfbnjfppjmgfaaGreat
open Go.RowKit
set_option linter.unusedSimpArgs false
attribute [local simp] bx_size
attribute [local go_sem ↓] zeroHand zeroChan toLHand toLChan toVHand toVChan storeHand storeChan storeHandC storeChanC
theorem Fresh.off2 {w:World} {v v':Value} {lim b:Nat} (h:Fresh w v v') (hv:∀ j,v.ownBlock=some j→lim≤j) (h2:b<lim) (h3:lim≤w.heap.size):v'.ownBlock≠some b:=fun e=>by
  rcases h b e with h|h
  · have:=hv b h;omega
  · omega
theorem Fresh.up {w:World} {v v':Value} {lim n:Nat} (h:Fresh w v v') (hv:∀ j,v.ownBlock=some j→lim≤j) (h1:n≤lim) (h2:n≤w.heap.size) (j:Nat) (hj:v'.ownBlock=some j):n≤j:=by
  rcases h j hj with h|h
  · have:=hv j h;omega
  · omega
/-- What a step answers that takes a channel as it lies. -/
def StepN (w w':World) (x:St) (r:Ending):Prop:=StepR w w' w.heap.size (.slice none 0 0) (.slice none 0 0) x r∧Below w.heap.size w w'
theorem stepOk_yes {c:Ch} {h:Ha} {f t k:Int} (e:stepOk c h f t k=true):chanOk c=true∧handOk h=true∧f≤h.pos∧h.pos≤t:=by
  simp [stepOk,inB] at e
  exact ⟨e.1,e.2.1,e.2.2.1.1,e.2.2.1.2⟩
theorem chan_40 {c:Ch} (e:chanOk c=true):c.cells.length=40∧c.words.length≤80:=by
  simp [chanOk,chanHead] at e
  omega
theorem hand_cell {h:Ha} (e:handOk h=true):0≤h.cell∧h.cell≤39:=by
  simp [handOk,handB,inB] at e
  omega
set_option maxRecDepth 100000 in
set_option maxHeartbeats 2000000 in
theorem sSend_no (c:Ch) (h:Ha) (a b:Option Addr) (p q:Nat) (w:World) (h1:Seg w w.heap.size a c.cells.length 3 (cellF c.cells)) (h2:Seg w w.heap.size b c.words.length 1 (intF c.words)) (hk:stepOk c h 1 8 1=false) :
    Calls Tryz.prog 19 #[.agg (cvals c (.slice a c.cells.length p) (.slice b c.words.length q)),.agg (hvals h)] w fun r w'=>StepN w w' (sendStep c h) r:=by
  have e:sendStep c h=nothing:=by simp [sendStep,hk]
  rw [e]
  have H1:=Lib.hid h1
  have H2:=Lib.hid h2
  have T:=Lib.hid fun W=>l6None_any W w.heap.size (.slice none 0 0) (.slice none 0 0)
  generalize nothing=x at *
  clear h1 h2 e
  have d1:∀ j,(Value.slice none 0 0).ownBlock=some j→w.heap.size+1+1+1+1≤j:=fun j hj=>by cases hj
  have d2:=d1
  go_enter Tryz.func19,Tryz.ntmps19
  go_wp2_with fail;refine bHit w (by exact zB) fun bb=>?_;refine (l6Ok_any c h 1 8 1 a b p q _ ((H1.out.below bb).more bb.size) ((H2.out.below bb).more bb.size)).mono ?_;rintro _ w1 ⟨rfl,hbw1⟩;have hCw1:Below w.heap.size w w1:=bT bb hbw1;have hsw1:=hbw1.size;(try simp at hsw1);have zz:=q4 hbw1 (b:=w.heap.size);(try simp [go_sem] at zz);(try clear z_wppp x_wppp f_wppp l_wppp);(try clear z_wpp x_wpp f_wpp l_wpp);(try clear z_wp x_wp f_wp l_wp);(try clear z_w x_w f_w l_w);obtain ⟨z_wppp,z_wpp,z_wp,z_w⟩:=zz;obtain ⟨x_wppp,f_wppp,l_wppp⟩:=bO z_wppp;obtain ⟨x_wpp,f_wpp,l_wpp⟩:=bO z_wpp;obtain ⟨x_wp,f_wp,l_wp⟩:=bO z_wp;obtain ⟨x_w,f_w,l_w⟩:=bO z_w;clear hbw1 bb
  rw [hk]
  go_wp2_with fail;refine bHit w (by exact zB) fun bb=>?_;refine (T.out _).mono ?_;rintro _ w2 ⟨⟨y1,y2,rfl,oY1,oY2,fY1,fY2⟩,hbw2⟩;have hCw2:Below w.heap.size w w2:=bT bb hbw2;have hsw2:=hbw2.size;(try simp at hsw2);have zz:=q4 hbw2 (b:=w.heap.size);(first|simp [go_sem,z_wppp,z_wpp,z_wp,z_w,l_w,l_wp,l_wpp,l_wppp] at zz|simp [go_sem] at zz|skip);(try clear z_wppp x_wppp f_wppp l_wppp);(try clear z_wpp x_wpp f_wpp l_wpp);(try clear z_wp x_wp f_wp l_wp);(try clear z_w x_w f_w l_w);obtain ⟨z_wppp,z_wpp,z_wp,z_w⟩:=zz;obtain ⟨x_wppp,f_wppp,l_wppp⟩:=bO z_wppp;obtain ⟨x_wpp,f_wpp,l_wpp⟩:=bO z_wpp;obtain ⟨x_wp,f_wp,l_wp⟩:=bO z_wp;obtain ⟨x_w,f_w,l_w⟩:=bO z_w;clear hbw2 bb
  have hoff1:∀ j,w.heap.size≤j→j<w.heap.size+1+1+1+1→y1.ownBlock≠some j:=fun j _ h2=>fY1.off2 d1 h2 (by (try simp) <;> omega);have hoff2:∀ j,w.heap.size≤j→j<w.heap.size+1+1+1+1→y2.ownBlock≠some j:=fun j _ h2=>fY2.off2 d2 h2 (by (try simp) <;> omega);have fr1:Fresh w (.slice none 0 0) y1:=fun j hj=>.inr (fY1.up d1 (by (try simp) <;> omega) (by (try simp) <;> omega) j hj);have fr2:Fresh w (.slice none 0 0) y2:=fun j hj=>.inr (fY2.up d2 (by (try simp) <;> omega) (by (try simp) <;> omega) j hj);obtain ⟨ya,yp,rfl,_⟩:=oY1.seg;obtain ⟨yb,yq,rfl,_⟩:=oY2.seg
  go_wp2
  refine bodyPost_ret (res_cct Tryz.results19 rfl (ldChan x.1 (.slice ya x.1.cells.length yp) (.slice yb x.1.words.length yq) (by simp [go_sem, *])) rfl (ldHand x.2.1 (by simp [go_sem, *]))) rfl ⟨⟨_,_,rfl,?_,?_,fr1,fr2⟩,by exact zB⟩
  · exact zP oY1 oY1 hoff1
  · exact zP oY2 oY2 hoff2
set_option maxRecDepth 100000 in
set_option maxHeartbeats 2000000 in
theorem sSend_4 (c:Ch) (h:Ha) (a b:Option Addr) (p q:Nat) (w:World) (h1:Seg w w.heap.size a c.cells.length 3 (cellF c.cells)) (z1:a=none→p=0) (h2:Seg w w.heap.size b c.words.length 1 (intF c.words)) (z2:b=none→q=0) (hk:stepOk c h 1 8 1=true) (hp0:h.pos=4) :
    Calls Tryz.prog 19 #[.agg (cvals c (.slice a c.cells.length p) (.slice b c.words.length q)),.agg (hvals h)] w fun r w'=>StepN w w' (sendStep c h) r:=by
  have e:sendStep c h=done c { h with fin:=c.fin,pos:=5 }:=by simp [sendStep,hk,hp0]
  rw [e]
  obtain ⟨k1,k2,_,_⟩:=stepOk_yes hk
  obtain ⟨n1,n2⟩:=chan_40 k1
  have m1:c.cells.length≤1099511627776:=by omega
  have m2:c.words.length≤1099511627776:=by omega
  have H1:=Lib.hid h1
  have H2:=Lib.hid h2
  have Z1:=Lib.hid z1
  have Z2:=Lib.hid z2
  have D:=Lib.hid fun v1 v2 W=>l6Done_any c { h with fin:=c.fin,pos:=5 } v1 v2 w.heap.size W
  generalize done c { h with fin:=c.fin,pos:=5 }=x at *
  clear h1 h2 z1 z2 e k1 k2 n1 n2
  go_enter Tryz.func19,Tryz.ntmps19
  go_wp2_with fail;refine bHit w (by exact zB) fun bb=>?_;refine (l6Ok_any c h 1 8 1 a b p q _ ((H1.out.below bb).more bb.size) ((H2.out.below bb).more bb.size)).mono ?_;rintro _ w1 ⟨rfl,hbw1⟩;have hCw1:Below w.heap.size w w1:=bT bb hbw1;have hsw1:=hbw1.size;(try simp at hsw1);have zz:=q4 hbw1 (b:=w.heap.size);(try simp [go_sem] at zz);(try clear z_wppp x_wppp f_wppp l_wppp);(try clear z_wpp x_wpp f_wpp l_wpp);(try clear z_wp x_wp f_wp l_wp);(try clear z_w x_w f_w l_w);obtain ⟨z_wppp,z_wpp,z_wp,z_w⟩:=zz;obtain ⟨x_wppp,f_wppp,l_wppp⟩:=bO z_wppp;obtain ⟨x_wpp,f_wpp,l_wpp⟩:=bO z_wpp;obtain ⟨x_wp,f_wp,l_wp⟩:=bO z_wp;obtain ⟨x_w,f_w,l_w⟩:=bO z_w;clear hbw1 bb
  rw [hk]
  go_wp2_with fail;refine bHit w (by exact zB) fun bb=>?_;refine (wCopy_any c a b p q _ ((H1.out.below bb).more bb.size) Z1.out ((H2.out.below bb).more bb.size) Z2.out m1 m2).mono ?_;rintro _ w2 ⟨⟨v1,v2,rfl,o1,o2⟩,hbw2⟩;have hCw2:Below w.heap.size w w2:=bT bb hbw2;have hsw2:=hbw2.size;(try simp at hsw2);have zz:=q4 hbw2 (b:=w.heap.size);(first|simp [go_sem,z_wppp,z_wpp,z_wp,z_w,l_w,l_wp,l_wpp,l_wppp] at zz|simp [go_sem] at zz|skip);(try clear z_wppp x_wppp f_wppp l_wppp);(try clear z_wpp x_wpp f_wpp l_wpp);(try clear z_wp x_wp f_wp l_wp);(try clear z_w x_w f_w l_w);obtain ⟨z_wppp,z_wpp,z_wp,z_w⟩:=zz;obtain ⟨x_wppp,f_wppp,l_wppp⟩:=bO z_wppp;obtain ⟨x_wpp,f_wpp,l_wpp⟩:=bO z_wpp;obtain ⟨x_wp,f_wp,l_wp⟩:=bO z_wp;obtain ⟨x_w,f_w,l_w⟩:=bO z_w;clear hbw2 bb
  have d1:∀ j,v1.ownBlock=some j→w.heap.size+1+1+1+1≤j:=fun j hj=>by have:=(o1.lt j hj).1;omega
  have d2:∀ j,v2.ownBlock=some j→w.heap.size+1+1+1+1≤j:=fun j hj=>by have:=(o2.lt j hj).1;omega
  have p1:=own_lo (lo':=w.heap.size) o1 (by omega)
  have p2:=own_lo (lo':=w.heap.size) o2 (by omega)
  obtain ⟨a1,q1,rfl,_⟩:=o1.seg
  obtain ⟨a2,q2,rfl,_⟩:=o2.seg
  go_wp2_with fail;refine bHit w (by exact zB) fun bb=>?_;refine (D.out _ _ _ (by exact zO p1 o1) (by exact zO p2 o2)).mono ?_;rintro _ w3 ⟨⟨y1,y2,rfl,oY1,oY2,fY1,fY2⟩,hbw3⟩;have hCw3:Below w.heap.size w w3:=bT bb hbw3;have hsw3:=hbw3.size;(try simp at hsw3);have zz:=q4 hbw3 (b:=w.heap.size);(first|simp [go_sem,z_wppp,z_wpp,z_wp,z_w,l_w,l_wp,l_wpp,l_wppp] at zz|simp [go_sem] at zz|skip);(try clear z_wppp x_wppp f_wppp l_wppp);(try clear z_wpp x_wpp f_wpp l_wpp);(try clear z_wp x_wp f_wp l_wp);(try clear z_w x_w f_w l_w);obtain ⟨z_wppp,z_wpp,z_wp,z_w⟩:=zz;obtain ⟨x_wppp,f_wppp,l_wppp⟩:=bO z_wppp;obtain ⟨x_wpp,f_wpp,l_wpp⟩:=bO z_wpp;obtain ⟨x_wp,f_wp,l_wp⟩:=bO z_wp;obtain ⟨x_w,f_w,l_w⟩:=bO z_w;clear hbw3 bb
  have hoff1:∀ j,w.heap.size≤j→j<w.heap.size+1+1+1+1→y1.ownBlock≠some j:=fun j _ h2=>fY1.off2 d1 h2 (by (try simp) <;> omega);have hoff2:∀ j,w.heap.size≤j→j<w.heap.size+1+1+1+1→y2.ownBlock≠some j:=fun j _ h2=>fY2.off2 d2 h2 (by (try simp) <;> omega);have fr1:Fresh w (.slice none 0 0) y1:=fun j hj=>.inr (fY1.up d1 (by (try simp) <;> omega) (by (try simp) <;> omega) j hj);have fr2:Fresh w (.slice none 0 0) y2:=fun j hj=>.inr (fY2.up d2 (by (try simp) <;> omega) (by (try simp) <;> omega) j hj);obtain ⟨ya,yp,rfl,_⟩:=oY1.seg;obtain ⟨yb,yq,rfl,_⟩:=oY2.seg
  go_wp2
  refine bodyPost_ret (res_cct Tryz.results19 rfl (ldChan x.1 (.slice ya x.1.cells.length yp) (.slice yb x.1.words.length yq) (by simp [go_sem, *])) rfl (ldHand x.2.1 (by simp [go_sem, *]))) rfl ⟨⟨_,_,rfl,?_,?_,fr1,fr2⟩,by exact zB⟩
  · exact zP oY1 oY1 hoff1
  · exact zP oY2 oY2 hoff2
set_option maxRecDepth 100000 in
set_option maxHeartbeats 2000000 in
theorem sSend_5 (c:Ch) (h:Ha) (a b:Option Addr) (p q:Nat) (w:World) (h1:Seg w w.heap.size a c.cells.length 3 (cellF c.cells)) (z1:a=none→p=0) (h2:Seg w w.heap.size b c.words.length 1 (intF c.words)) (z2:b=none→q=0) (hk:stepOk c h 1 8 1=true) (hp0:h.pos=5) :
    Calls Tryz.prog 19 #[.agg (cvals c (.slice a c.cells.length p) (.slice b c.words.length q)),.agg (hvals h)] w fun r w'=>StepN w w' (sendStep c h) r:=by
  have e:sendStep c h=done c { h with come:=c.got,pos:=6 }:=by simp [sendStep,hk,hp0]
  rw [e]
  obtain ⟨k1,k2,_,_⟩:=stepOk_yes hk
  obtain ⟨n1,n2⟩:=chan_40 k1
  have m1:c.cells.length≤1099511627776:=by omega
  have m2:c.words.length≤1099511627776:=by omega
  have H1:=Lib.hid h1
  have H2:=Lib.hid h2
  have Z1:=Lib.hid z1
  have Z2:=Lib.hid z2
  have D:=Lib.hid fun v1 v2 W=>l6Done_any c { h with come:=c.got,pos:=6 } v1 v2 w.heap.size W
  generalize done c { h with come:=c.got,pos:=6 }=x at *
  clear h1 h2 z1 z2 e k1 k2 n1 n2
  go_enter Tryz.func19,Tryz.ntmps19
  go_wp2_with fail;refine bHit w (by exact zB) fun bb=>?_;refine (l6Ok_any c h 1 8 1 a b p q _ ((H1.out.below bb).more bb.size) ((H2.out.below bb).more bb.size)).mono ?_;rintro _ w1 ⟨rfl,hbw1⟩;have hCw1:Below w.heap.size w w1:=bT bb hbw1;have hsw1:=hbw1.size;(try simp at hsw1);have zz:=q4 hbw1 (b:=w.heap.size);(try simp [go_sem] at zz);(try clear z_wppp x_wppp f_wppp l_wppp);(try clear z_wpp x_wpp f_wpp l_wpp);(try clear z_wp x_wp f_wp l_wp);(try clear z_w x_w f_w l_w);obtain ⟨z_wppp,z_wpp,z_wp,z_w⟩:=zz;obtain ⟨x_wppp,f_wppp,l_wppp⟩:=bO z_wppp;obtain ⟨x_wpp,f_wpp,l_wpp⟩:=bO z_wpp;obtain ⟨x_wp,f_wp,l_wp⟩:=bO z_wp;obtain ⟨x_w,f_w,l_w⟩:=bO z_w;clear hbw1 bb
  rw [hk]
  go_wp2_with fail;refine bHit w (by exact zB) fun bb=>?_;refine (wCopy_any c a b p q _ ((H1.out.below bb).more bb.size) Z1.out ((H2.out.below bb).more bb.size) Z2.out m1 m2).mono ?_;rintro _ w2 ⟨⟨v1,v2,rfl,o1,o2⟩,hbw2⟩;have hCw2:Below w.heap.size w w2:=bT bb hbw2;have hsw2:=hbw2.size;(try simp at hsw2);have zz:=q4 hbw2 (b:=w.heap.size);(first|simp [go_sem,z_wppp,z_wpp,z_wp,z_w,l_w,l_wp,l_wpp,l_wppp] at zz|simp [go_sem] at zz|skip);(try clear z_wppp x_wppp f_wppp l_wppp);(try clear z_wpp x_wpp f_wpp l_wpp);(try clear z_wp x_wp f_wp l_wp);(try clear z_w x_w f_w l_w);obtain ⟨z_wppp,z_wpp,z_wp,z_w⟩:=zz;obtain ⟨x_wppp,f_wppp,l_wppp⟩:=bO z_wppp;obtain ⟨x_wpp,f_wpp,l_wpp⟩:=bO z_wpp;obtain ⟨x_wp,f_wp,l_wp⟩:=bO z_wp;obtain ⟨x_w,f_w,l_w⟩:=bO z_w;clear hbw2 bb
  have d1:∀ j,v1.ownBlock=some j→w.heap.size+1+1+1+1≤j:=fun j hj=>by have:=(o1.lt j hj).1;omega
  have d2:∀ j,v2.ownBlock=some j→w.heap.size+1+1+1+1≤j:=fun j hj=>by have:=(o2.lt j hj).1;omega
  have p1:=own_lo (lo':=w.heap.size) o1 (by omega)
  have p2:=own_lo (lo':=w.heap.size) o2 (by omega)
  obtain ⟨a1,q1,rfl,_⟩:=o1.seg
  obtain ⟨a2,q2,rfl,_⟩:=o2.seg
  go_wp2_with fail;refine bHit w (by exact zB) fun bb=>?_;refine (D.out _ _ _ (by exact zO p1 o1) (by exact zO p2 o2)).mono ?_;rintro _ w3 ⟨⟨y1,y2,rfl,oY1,oY2,fY1,fY2⟩,hbw3⟩;have hCw3:Below w.heap.size w w3:=bT bb hbw3;have hsw3:=hbw3.size;(try simp at hsw3);have zz:=q4 hbw3 (b:=w.heap.size);(first|simp [go_sem,z_wppp,z_wpp,z_wp,z_w,l_w,l_wp,l_wpp,l_wppp] at zz|simp [go_sem] at zz|skip);(try clear z_wppp x_wppp f_wppp l_wppp);(try clear z_wpp x_wpp f_wpp l_wpp);(try clear z_wp x_wp f_wp l_wp);(try clear z_w x_w f_w l_w);obtain ⟨z_wppp,z_wpp,z_wp,z_w⟩:=zz;obtain ⟨x_wppp,f_wppp,l_wppp⟩:=bO z_wppp;obtain ⟨x_wpp,f_wpp,l_wpp⟩:=bO z_wpp;obtain ⟨x_wp,f_wp,l_wp⟩:=bO z_wp;obtain ⟨x_w,f_w,l_w⟩:=bO z_w;clear hbw3 bb
  have hoff1:∀ j,w.heap.size≤j→j<w.heap.size+1+1+1+1→y1.ownBlock≠some j:=fun j _ h2=>fY1.off2 d1 h2 (by (try simp) <;> omega);have hoff2:∀ j,w.heap.size≤j→j<w.heap.size+1+1+1+1→y2.ownBlock≠some j:=fun j _ h2=>fY2.off2 d2 h2 (by (try simp) <;> omega);have fr1:Fresh w (.slice none 0 0) y1:=fun j hj=>.inr (fY1.up d1 (by (try simp) <;> omega) (by (try simp) <;> omega) j hj);have fr2:Fresh w (.slice none 0 0) y2:=fun j hj=>.inr (fY2.up d2 (by (try simp) <;> omega) (by (try simp) <;> omega) j hj);obtain ⟨ya,yp,rfl,_⟩:=oY1.seg;obtain ⟨yb,yq,rfl,_⟩:=oY2.seg
  go_wp2
  refine bodyPost_ret (res_cct Tryz.results19 rfl (ldChan x.1 (.slice ya x.1.cells.length yp) (.slice yb x.1.words.length yq) (by simp [go_sem, *])) rfl (ldHand x.2.1 (by simp [go_sem, *]))) rfl ⟨⟨_,_,rfl,?_,?_,fr1,fr2⟩,by exact zB⟩
  · exact zP oY1 oY1 hoff1
  · exact zP oY2 oY2 hoff2
set_option maxRecDepth 100000 in
set_option maxHeartbeats 2000000 in
theorem sSend_1b (c:Ch) (h:Ha) (a b:Option Addr) (p q:Nat) (w:World) (h1:Seg w w.heap.size a c.cells.length 3 (cellF c.cells)) (z1:a=none→p=0) (h2:Seg w w.heap.size b c.words.length 1 (intF c.words)) (z2:b=none→q=0) (hk:stepOk c h 1 8 1=true) (hp0:h.pos=1) (hs:¬ c.sent=40) (hsr:0≤c.sent∧c.sent≤40) :
    Calls Tryz.prog 19 #[.agg (cvals c (.slice a c.cells.length p) (.slice b c.words.length q)),.agg (hvals h)] w fun r w'=>StepN w w' (sendStep c h) r:=by
  have e:sendStep c h=done { c with sent:=c.sent+1 } { h with cell:=c.sent,pos:=2 }:=by simp [sendStep,hk,hp0,send1,hs]
  rw [e]
  obtain ⟨k1,k2,_,_⟩:=stepOk_yes hk
  obtain ⟨n1,n2⟩:=chan_40 k1
  have m1:c.cells.length≤1099511627776:=by omega
  have m2:c.words.length≤1099511627776:=by omega
  have H1:=Lib.hid h1
  have H2:=Lib.hid h2
  have Z1:=Lib.hid z1
  have Z2:=Lib.hid z2
  have D:=Lib.hid fun v1 v2 W=>l6Done_any { c with sent:=c.sent+1 } { h with cell:=c.sent,pos:=2 } v1 v2 w.heap.size W
  generalize done { c with sent:=c.sent+1 } { h with cell:=c.sent,pos:=2 }=x at *
  clear h1 h2 z1 z2 e k1 k2 n1 n2
  go_enter Tryz.func19,Tryz.ntmps19
  go_wp2_with fail;refine bHit w (by exact zB) fun bb=>?_;refine (l6Ok_any c h 1 8 1 a b p q _ ((H1.out.below bb).more bb.size) ((H2.out.below bb).more bb.size)).mono ?_;rintro _ w1 ⟨rfl,hbw1⟩;have hCw1:Below w.heap.size w w1:=bT bb hbw1;have hsw1:=hbw1.size;(try simp at hsw1);have zz:=q4 hbw1 (b:=w.heap.size);(try simp [go_sem] at zz);(try clear z_wppp x_wppp f_wppp l_wppp);(try clear z_wpp x_wpp f_wpp l_wpp);(try clear z_wp x_wp f_wp l_wp);(try clear z_w x_w f_w l_w);obtain ⟨z_wppp,z_wpp,z_wp,z_w⟩:=zz;obtain ⟨x_wppp,f_wppp,l_wppp⟩:=bO z_wppp;obtain ⟨x_wpp,f_wpp,l_wpp⟩:=bO z_wpp;obtain ⟨x_wp,f_wp,l_wp⟩:=bO z_wp;obtain ⟨x_w,f_w,l_w⟩:=bO z_w;clear hbw1 bb
  rw [hk]
  go_wp2_with fail;refine bHit w (by exact zB) fun bb=>?_;refine (wCopy_any c a b p q _ ((H1.out.below bb).more bb.size) Z1.out ((H2.out.below bb).more bb.size) Z2.out m1 m2).mono ?_;rintro _ w2 ⟨⟨v1,v2,rfl,o1,o2⟩,hbw2⟩;have hCw2:Below w.heap.size w w2:=bT bb hbw2;have hsw2:=hbw2.size;(try simp at hsw2);have zz:=q4 hbw2 (b:=w.heap.size);(first|simp [go_sem,z_wppp,z_wpp,z_wp,z_w,l_w,l_wp,l_wpp,l_wppp] at zz|simp [go_sem] at zz|skip);(try clear z_wppp x_wppp f_wppp l_wppp);(try clear z_wpp x_wpp f_wpp l_wpp);(try clear z_wp x_wp f_wp l_wp);(try clear z_w x_w f_w l_w);obtain ⟨z_wppp,z_wpp,z_wp,z_w⟩:=zz;obtain ⟨x_wppp,f_wppp,l_wppp⟩:=bO z_wppp;obtain ⟨x_wpp,f_wpp,l_wpp⟩:=bO z_wpp;obtain ⟨x_wp,f_wp,l_wp⟩:=bO z_wp;obtain ⟨x_w,f_w,l_w⟩:=bO z_w;clear hbw2 bb
  have d1:∀ j,v1.ownBlock=some j→w.heap.size+1+1+1+1≤j:=fun j hj=>by have:=(o1.lt j hj).1;omega
  have d2:∀ j,v2.ownBlock=some j→w.heap.size+1+1+1+1≤j:=fun j hj=>by have:=(o2.lt j hj).1;omega
  have p1:=own_lo (lo':=w.heap.size) o1 (by omega)
  have p2:=own_lo (lo':=w.heap.size) o2 (by omega)
  obtain ⟨a1,q1,rfl,_⟩:=o1.seg
  obtain ⟨a2,q2,rfl,_⟩:=o2.seg
  have hs0:¬ c.sent=40:=hs
  have hsb:0≤c.sent∧c.sent≤40:=hsr
  go_wp2_with fail;refine bHit w (by exact zB) fun bb=>?_;refine (D.out _ _ _ (by exact zO p1 o1) (by exact zO p2 o2)).mono ?_;rintro _ w3 ⟨⟨y1,y2,rfl,oY1,oY2,fY1,fY2⟩,hbw3⟩;have hCw3:Below w.heap.size w w3:=bT bb hbw3;have hsw3:=hbw3.size;(try simp at hsw3);have zz:=q4 hbw3 (b:=w.heap.size);(first|simp [go_sem,z_wppp,z_wpp,z_wp,z_w,l_w,l_wp,l_wpp,l_wppp] at zz|simp [go_sem] at zz|skip);(try clear z_wppp x_wppp f_wppp l_wppp);(try clear z_wpp x_wpp f_wpp l_wpp);(try clear z_wp x_wp f_wp l_wp);(try clear z_w x_w f_w l_w);obtain ⟨z_wppp,z_wpp,z_wp,z_w⟩:=zz;obtain ⟨x_wppp,f_wppp,l_wppp⟩:=bO z_wppp;obtain ⟨x_wpp,f_wpp,l_wpp⟩:=bO z_wpp;obtain ⟨x_wp,f_wp,l_wp⟩:=bO z_wp;obtain ⟨x_w,f_w,l_w⟩:=bO z_w;clear hbw3 bb
  have hoff1:∀ j,w.heap.size≤j→j<w.heap.size+1+1+1+1→y1.ownBlock≠some j:=fun j _ h2=>fY1.off2 d1 h2 (by (try simp) <;> omega);have hoff2:∀ j,w.heap.size≤j→j<w.heap.size+1+1+1+1→y2.ownBlock≠some j:=fun j _ h2=>fY2.off2 d2 h2 (by (try simp) <;> omega);have fr1:Fresh w (.slice none 0 0) y1:=fun j hj=>.inr (fY1.up d1 (by (try simp) <;> omega) (by (try simp) <;> omega) j hj);have fr2:Fresh w (.slice none 0 0) y2:=fun j hj=>.inr (fY2.up d2 (by (try simp) <;> omega) (by (try simp) <;> omega) j hj);obtain ⟨ya,yp,rfl,_⟩:=oY1.seg;obtain ⟨yb,yq,rfl,_⟩:=oY2.seg
  go_wp2
  refine bodyPost_ret (res_cct Tryz.results19 rfl (ldChan x.1 (.slice ya x.1.cells.length yp) (.slice yb x.1.words.length yq) (by simp [go_sem, *])) rfl (ldHand x.2.1 (by simp [go_sem, *]))) rfl ⟨⟨_,_,rfl,?_,?_,fr1,fr2⟩,by exact zB⟩
  · exact zP oY1 oY1 hoff1
  · exact zP oY2 oY2 hoff2
end Go.Proofs.YthfbnjfppjmgfaaGreat
set_option linter.unusedSimpArgs false
set_option linter.unusedVariables false
namespace Go.Proofs.YthfbnjfppjmgfaaGreat
open Go.RowKit
set_option linter.unusedSimpArgs false
attribute [local simp] bx_size
attribute [local go_sem ↓] zeroHand zeroChan toLHand toLChan toVHand toVChan storeHand storeChan storeHandC storeChanC
theorem state_ints (c:Ch) (i st:Int) (a b:Value):cvals (stateC c i st) a b=cvals c a b:=rfl
theorem state_words (c:Ch) (i st:Int):(stateC c i st).words=c.words:=rfl
theorem hand_grow {h:Ha} (e:handOk h=true):0≤h.grow∧h.grow≤39:=by
  simp [handOk,handB,inB] at e
  omega
set_option maxRecDepth 100000 in
set_option maxHeartbeats 2000000 in
theorem sSend_8 (c:Ch) (h:Ha) (a b:Option Addr) (p q:Nat) (w:World) (h1:Seg w w.heap.size a c.cells.length 3 (cellF c.cells)) (z1:a=none→p=0) (h2:Seg w w.heap.size b c.words.length 1 (intF c.words)) (z2:b=none→q=0) (hk:stepOk c h 1 8 1=true) (hp0:h.pos=8) :
    Calls Tryz.prog 19 #[.agg (cvals c (.slice a c.cells.length p) (.slice b c.words.length q)),.agg (hvals h)] w fun r w'=>StepN w w' (sendStep c h) r:=by
  obtain ⟨k1,k2,_,_⟩:=stepOk_yes hk
  obtain ⟨n1,n2⟩:=chan_40 k1
  have m1:c.cells.length≤1099511627776:=by omega
  have m2:c.words.length≤1099511627776:=by omega
  have H1:=Lib.hid h1
  have H2:=Lib.hid h2
  have Z1:=Lib.hid z1
  have Z2:=Lib.hid z2
  obtain ⟨c1,c2⟩:=hand_cell k2
  obtain ⟨i,hci⟩:∃ i:Nat,h.cell=(i:Int):=⟨h.cell.toNat,by omega⟩
  have hi:i<c.cells.length:=by omega
  have e:sendStep c h=done (stateC c i 7) (resting 1 0):=by simp [sendStep,hk,hp0,hci]
  rw [e]
  have ST:=Lib.hid fun v1 v2 W=>wState_any c i 7 v1 v2 w.heap.size W
  have D:=fun v1 v2 W=>l6Done_any (stateC c i 7) (resting 1 0) v1 v2 w.heap.size W
  simp only [state_ints,state_words] at D
  generalize done (stateC c i 7) (resting 1 0)=x at *
  replace D:=Lib.hid D
  clear h1 h2 z1 z2 e k1 k2 n1 n2 c1 c2
  go_enter Tryz.func19,Tryz.ntmps19
  go_wp2_with fail;refine bHit w (by exact zB) fun bb=>?_;refine (l6Ok_any c h 1 8 1 a b p q _ ((H1.out.below bb).more bb.size) ((H2.out.below bb).more bb.size)).mono ?_;rintro _ w1 ⟨rfl,hbw1⟩;have hCw1:Below w.heap.size w w1:=bT bb hbw1;have hsw1:=hbw1.size;(try simp at hsw1);have zz:=q4 hbw1 (b:=w.heap.size);(try simp [go_sem] at zz);(try clear z_wppp x_wppp f_wppp l_wppp);(try clear z_wpp x_wpp f_wpp l_wpp);(try clear z_wp x_wp f_wp l_wp);(try clear z_w x_w f_w l_w);obtain ⟨z_wppp,z_wpp,z_wp,z_w⟩:=zz;obtain ⟨x_wppp,f_wppp,l_wppp⟩:=bO z_wppp;obtain ⟨x_wpp,f_wpp,l_wpp⟩:=bO z_wpp;obtain ⟨x_wp,f_wp,l_wp⟩:=bO z_wp;obtain ⟨x_w,f_w,l_w⟩:=bO z_w;clear hbw1 bb
  rw [hk]
  go_wp2_with fail;refine bHit w (by exact zB) fun bb=>?_;refine (wCopy_any c a b p q _ ((H1.out.below bb).more bb.size) Z1.out ((H2.out.below bb).more bb.size) Z2.out m1 m2).mono ?_;rintro _ w2 ⟨⟨v1,v2,rfl,o1,o2⟩,hbw2⟩;have hCw2:Below w.heap.size w w2:=bT bb hbw2;have hsw2:=hbw2.size;(try simp at hsw2);have zz:=q4 hbw2 (b:=w.heap.size);(first|simp [go_sem,z_wppp,z_wpp,z_wp,z_w,l_w,l_wp,l_wpp,l_wppp] at zz|simp [go_sem] at zz|skip);(try clear z_wppp x_wppp f_wppp l_wppp);(try clear z_wpp x_wpp f_wpp l_wpp);(try clear z_wp x_wp f_wp l_wp);(try clear z_w x_w f_w l_w);obtain ⟨z_wppp,z_wpp,z_wp,z_w⟩:=zz;obtain ⟨x_wppp,f_wppp,l_wppp⟩:=bO z_wppp;obtain ⟨x_wpp,f_wpp,l_wpp⟩:=bO z_wpp;obtain ⟨x_wp,f_wp,l_wp⟩:=bO z_wp;obtain ⟨x_w,f_w,l_w⟩:=bO z_w;clear hbw2 bb
  have d1:∀ j,v1.ownBlock=some j→w.heap.size+1+1+1+1≤j:=fun j hj=>by have:=(o1.lt j hj).1;omega
  have d2:∀ j,v2.ownBlock=some j→w.heap.size+1+1+1+1≤j:=fun j hj=>by have:=(o2.lt j hj).1;omega
  have p1:=own_lo (lo':=w.heap.size) o1 (by omega)
  have p2:=own_lo (lo':=w.heap.size) o2 (by omega)
  obtain ⟨a1,q1,rfl,_⟩:=o1.seg
  obtain ⟨a2,q2,rfl,_⟩:=o2.seg
  have nw:∀ j,(j<w.heap.size+1+1+1+1∨w2.heap.size≤j)→some j≠(Value.slice a1 c.cells.length q1).ownBlock:=fun j hj e=>by have:=d1 _ e.symm;have:=(o1.lt _ e.symm).2;omega
  have nw0:=nw (w.heap.size) (by omega)
  have nw1:=nw (w.heap.size+1) (by omega)
  have nw2:=nw (w.heap.size+1+1) (by omega)
  have nw3:=nw (w.heap.size+1+1+1) (by omega)
  have nwo:=nw w2.heap.size (by omega)
  go_wp2_with fail
  refine (ST.out _ _ _ (by exact zO p1 o1) (by exact zO p2 o2) hi).mono ?_
  rintro _ w4 ⟨rfl,s1,s2,hgw4⟩
  have hsw4:=hgw4.size;(try (simp at hsw4));have zz:=And.intro (grHp hgw4 (b:=w2.heap.size) (by (try simp) <;> omega) (by assumption)) <| And.intro (grHp hgw4 (b:=w.heap.size+1+1+1) (by (try simp) <;> omega) (by assumption)) <| And.intro (grHp hgw4 (b:=w.heap.size+1+1) (by (try simp) <;> omega) (by assumption)) <| And.intro (grHp hgw4 (b:=w.heap.size+1) (by (try simp) <;> omega) (by assumption)) <| grHp hgw4 (b:=w.heap.size) (by (try simp) <;> omega) (by assumption);(first|simp [go_sem,z_wppp,z_wpp,z_wp,z_w,l_w,l_wp,l_wpp,l_wppp] at zz|simp [go_sem] at zz|skip);(try clear z_w2 x_w2 f_w2 l_w2);(try clear z_wppp x_wppp f_wppp l_wppp);(try clear z_wpp x_wpp f_wpp l_wpp);(try clear z_wp x_wp f_wp l_wp);(try clear z_w x_w f_w l_w);obtain ⟨z_w2,z_wppp,z_wpp,z_wp,z_w⟩:=zz;obtain ⟨x_w2,f_w2,l_w2⟩:=bO z_w2;obtain ⟨x_wppp,f_wppp,l_wppp⟩:=bO z_wppp;obtain ⟨x_wpp,f_wpp,l_wpp⟩:=bO z_wpp;obtain ⟨x_wp,f_wp,l_wp⟩:=bO z_wp;obtain ⟨x_w,f_w,l_w⟩:=bO z_w
  have hCw4:Below w.heap.size w w4:=bOwn (by exact zB) hgw4 (by (try simp) <;> omega) (fun k hk=>by have:=d1 k hk;omega)
  clear hgw4
  go_wp2_with fail;refine bHit w (by exact zB) fun bb=>?_;refine bHit w4 (by exact zB) fun bk=>?_;refine (sResting_any _ _ _).mono ?_;rintro _ w5 ⟨rfl,hbw5⟩;have hCw5:Below w.heap.size w w5:=bT bb hbw5;have hsw5:=hbw5.size;(try simp at hsw5);have zz:=q4 hbw5 (b:=w.heap.size);(first|simp [go_sem,z_wppp,z_wpp,z_wp,z_w,l_w,l_wp,l_wpp,l_wppp] at zz|simp [go_sem] at zz|skip);(try clear z_wppp x_wppp f_wppp l_wppp);(try clear z_wpp x_wpp f_wpp l_wpp);(try clear z_wp x_wp f_wp l_wp);(try clear z_w x_w f_w l_w);obtain ⟨z_wppp,z_wpp,z_wp,z_w⟩:=zz;obtain ⟨x_wppp,f_wppp,l_wppp⟩:=bO z_wppp;obtain ⟨x_wpp,f_wpp,l_wpp⟩:=bO z_wpp;obtain ⟨x_wp,f_wp,l_wp⟩:=bO z_wp;obtain ⟨x_w,f_w,l_w⟩:=bO z_w;have hKw5:Below w4.heap.size w4 w5:=bT bk hbw5;clear hbw5 bb bk
  have r1:=own_below s1 hKw5
  have r2:=own_below s2 hKw5
  go_wp2_with fail;refine bHit w (by exact zB) fun bb=>?_;refine (D.out _ _ _ (by exact zO r1 o1) (by exact zO r2 o2)).mono ?_;rintro _ w3 ⟨⟨y1,y2,rfl,oY1,oY2,fY1,fY2⟩,hbw3⟩;have hCw3:Below w.heap.size w w3:=bT bb hbw3;have hsw3:=hbw3.size;(try simp at hsw3);have zz:=q4 hbw3 (b:=w.heap.size);(first|simp [go_sem,z_wppp,z_wpp,z_wp,z_w,l_w,l_wp,l_wpp,l_wppp] at zz|simp [go_sem] at zz|skip);(try clear z_wppp x_wppp f_wppp l_wppp);(try clear z_wpp x_wpp f_wpp l_wpp);(try clear z_wp x_wp f_wp l_wp);(try clear z_w x_w f_w l_w);obtain ⟨z_wppp,z_wpp,z_wp,z_w⟩:=zz;obtain ⟨x_wppp,f_wppp,l_wppp⟩:=bO z_wppp;obtain ⟨x_wpp,f_wpp,l_wpp⟩:=bO z_wpp;obtain ⟨x_wp,f_wp,l_wp⟩:=bO z_wp;obtain ⟨x_w,f_w,l_w⟩:=bO z_w;clear hbw3 bb
  have hoff1:∀ j,w.heap.size≤j→j<w.heap.size+1+1+1+1→y1.ownBlock≠some j:=fun j _ h2=>fY1.off2 d1 h2 (by (try simp) <;> omega);have hoff2:∀ j,w.heap.size≤j→j<w.heap.size+1+1+1+1→y2.ownBlock≠some j:=fun j _ h2=>fY2.off2 d2 h2 (by (try simp) <;> omega);have fr1:Fresh w (.slice none 0 0) y1:=fun j hj=>.inr (fY1.up d1 (by (try simp) <;> omega) (by (try simp) <;> omega) j hj);have fr2:Fresh w (.slice none 0 0) y2:=fun j hj=>.inr (fY2.up d2 (by (try simp) <;> omega) (by (try simp) <;> omega) j hj);obtain ⟨ya,yp,rfl,_⟩:=oY1.seg;obtain ⟨yb,yq,rfl,_⟩:=oY2.seg
  go_wp2
  refine bodyPost_ret (res_cct Tryz.results19 rfl (ldChan x.1 (.slice ya x.1.cells.length yp) (.slice yb x.1.words.length yq) (by simp [go_sem, *])) rfl (ldHand x.2.1 (by simp [go_sem, *]))) rfl ⟨⟨_,_,rfl,?_,?_,fr1,fr2⟩,by exact zB⟩
  · exact zP oY1 oY1 hoff1
  · exact zP oY2 oY2 hoff2
end Go.Proofs.YthfbnjfppjmgfaaGreat
