/-
  The beginning of growing, of the reference model, on hands and channels that are kept whole; lists lie in memory and hold at most 2 ^ 40 elements.
  Pulling a cell in chapter 8 of the reference model, on hands and channels that are kept whole; lists lie in memory and hold at most 2 ^ 40 elements.
  Steps of growing of the reference model, all cases, on hands and channels that are kept whole; lists lie in memory and hold at most 2 ^ 40 elements.
  A step of the reference model, on hands and channels that are kept whole; lists lie in memory and hold at most 2 ^ 40 elements.
  A drawn region by an invariant: what has come up is a function to Bool, what lies in the slots a function to values; each operation is carried out once, whatever came up before it; no condition.
  Boxes of a call's own, by what points at them; no condition.
  What the program's steps of chapters 7 and 8 compute where the document has a cell's Waiter stay, as plain functions; no condition.
  Whether a step waits: alike for a step of the document and for one of the program, which leaves a cell's Waiter where the document says so; no condition.
-/
import Derived.Test.YthfbnjfppjmgfaaGreatP07
import Derived.BigRegion
import Derived.Test.YthfbnjfppjmgfaaGreatP06
import Derived.Test.YthfbnjfppjmgfaaGreatP11
import Derived.Test.YthfbnjfppjmgfaaGreatP09
import Derived.Test.YthfbnjfppjmgfaaGreatP10
import Derived.Test.YthfbnjfppjmgfaaGreatP01
import Derived.Deep.RegionHeld3
set_option linter.unusedSimpArgs false
set_option linter.unusedVariables false
namespace Go.Proofs.YthfbnjfppjmgfaaGreat
open Go.RowKit
set_option linter.unusedSimpArgs false
attribute [local simp] bx_size
attribute [local go_sem ↓] zeroHand zeroChan toLHand toLChan toVHand toVChan storeHand storeChan storeHandC storeChanC
theorem begin_cells (c:Ch) (h:Ha):(begin8 c h).1.cells=c.cells:=by unfold begin8;split <;> rfl
theorem begin_words (c:Ch) (h:Ha):(begin8 c h).1.words=c.words:=by unfold begin8;split <;> rfl
set_option maxRecDepth 100000 in
set_option maxHeartbeats 2000000 in
theorem l8Begin_any (c:Ch) (h:Ha) (a1 a2:Option Addr) (n1 n2 q1 q2:Nat) (w:World) (hf:0≤c.fin∧c.fin≤40) :
    Calls Tryz.prog 40 #[.agg (cvals c (.slice a1 n1 q1) (.slice a2 n2 q2)),.agg (hvals h)] w fun r w'=>r=.returned (.tuple #[.agg (cvals (begin8 c h).1 (.slice a1 n1 q1) (.slice a2 n2 q2)),.agg (hvals (begin8 c h).2)])∧Below w.heap.size w w':=by
  by_cases hc:c.cap=0∨c.fin=40
  · rw [show begin8 c h=(c,grown8 h) by unfold begin8;rw [if_pos (by simpa using hc)]]
    have hc2:(c.cap == 0)=true∨((c.cap == 0)=false∧(c.fin == 40)=true):=by
      by_cases h0:c.cap=0
      · exact .inl (by simpa using h0)
      · exact .inr ⟨by simpa using h0,by simpa [h0] using hc⟩
    clear hc
    rcases hc2 with hc2|⟨hc2,hc3⟩
    all_goals go_enter Tryz.func40,Tryz.ntmps40
    all_goals go_wp2_with fail
    all_goals go_region_with (first|((go_at_call 41;refine bHit w (by exact zB) fun bb=>?_;refine (l8Grown_any _ _).mono ?_;rintro _ w1 ⟨rfl,hbw1⟩;have hCw1:Below w.heap.size w w1:=bT bb hbw1;have hsw1:=hbw1.size;(try simp at hsw1);have zz:=q4 hbw1 (b:=w.heap.size);(try simp [go_sem] at zz);(try clear z_wppp x_wppp f_wppp l_wppp);(try clear z_wpp x_wpp f_wpp l_wpp);(try clear z_wp x_wp f_wp l_wp);(try clear z_w x_w f_w l_w);obtain ⟨z_wppp,z_wpp,z_wp,z_w⟩:=zz;obtain ⟨x_wppp,f_wppp,l_wppp⟩:=bO z_wppp;obtain ⟨x_wpp,f_wpp,l_wpp⟩:=bO z_wpp;obtain ⟨x_wp,f_wp,l_wp⟩:=bO z_wp;obtain ⟨x_w,f_w,l_w⟩:=bO z_w;have hKw1:Below w.heap.size w w1:=hCw1;clear hbw1 bb)))
    all_goals go_wp2
    all_goals exact bodyPost_ret (res_cc Tryz.results40 rfl (ldChan c (.slice a1 n1 q1) (.slice a2 n2 q2) (by simp [go_sem, *])) rfl (ldHand (grown8 h) (by simp [go_sem, *]))) rfl ⟨rfl,by exact zB⟩
  · have hc0:(c.cap == 0)=false:=by simp;omega
    have hc1:(c.fin == 40)=false:=by simp;omega
    rw [show begin8 c h=({ c with fin:=c.fin+1 },{ h with grow:=c.fin,pos:=17 }) by unfold begin8;rw [if_neg (by simpa using hc)]]
    clear hc
    go_enter Tryz.func40,Tryz.ntmps40
    go_wp2_with fail
    go_region
    all_goals go_wp2
    all_goals exact bodyPost_ret (res_cc Tryz.results40 rfl (ldChan { c with fin:=c.fin+1 } (.slice a1 n1 q1) (.slice a2 n2 q2) (by simp [go_sem, *] <;> rfl)) rfl (ldHand { h with grow:=c.fin,pos:=17 } (by simp [go_sem, *] <;> rfl))) rfl ⟨rfl,by exact zB⟩
end Go.Proofs.YthfbnjfppjmgfaaGreat
set_option linter.unusedSimpArgs false
set_option linter.unusedVariables false
namespace Go.Proofs.YthfbnjfppjmgfaaGreat
open Go.RowKit
set_option linter.unusedSimpArgs false
attribute [local simp] bx_size
attribute [local go_sem ↓] zeroHand zeroChan toLHand toLChan toVHand toVChan storeHand storeChan storeHandC storeChanC
set_option maxRecDepth 100000 in
set_option maxHeartbeats 4000000 in
theorem l8Pull_st (c:Ch) (h:Ha) (v1 v2:Value) (lo:Nat) (w:World) (h1:OCells w lo v1 c.cells) (h2:OInts w lo v2 c.words) (hc0:0≤h.grow) (hc1:h.grow<c.cells.length) (hs:(h.seen == 3)=true) (hs2:(h.seen == 0)=false) (ht:turnCB c h.grow h.seen 6 h.wait=true) :
    Calls Tryz.prog 43 #[.agg (cvals c v1 v2),.agg (hvals h)] w fun r w'=>StepO w w' lo v1 v2 (pull8 c h) r:=by
  obtain ⟨i,hci⟩:∃ i:Nat,h.grow=(i:Int):=⟨h.grow.toNat,by omega⟩
  have hi:i<c.cells.length:=by omega
  have ht2:turnCB c i h.seen 6 h.wait=true:=by rw [← ht,hci]
  have e:pull8 c h=done (turnC c i h.seen 6 h.wait) ({ h with pos:=20,grow:=(i:Int) }):=by simp at hs hs2;simp [pull8,turn8,hs,hs2,hci] at ht2 ⊢;simp [ht2]
  rw [e]
  have T:=Lib.hid fun W a b=>wTurn_any c i h.seen 6 h.wait v1 v2 lo W a b hi
  have D:=Lib.hid fun W=>l6Done_any (turnC c i h.seen 6 h.wait) ({ h with pos:=20,grow:=(i:Int) }) v1 v2 lo W
  generalize done (turnC c i h.seen 6 h.wait) ({ h with pos:=20,grow:=(i:Int) })=x at *
  rw [ht2] at T
  have b1:=fun j (hj:v1.ownBlock=some j)=>(h1.lt j hj).2
  have b2:=fun j (hj:v2.ownBlock=some j)=>(h2.lt j hj).2
  have m1:∀ j,w.heap.size≤j→some j≠v1.ownBlock:=fun j hj e=>by have:=b1 _ e.symm;omega
  have m2:∀ j,w.heap.size≤j→some j≠v2.ownBlock:=fun j hj e=>by have:=b2 _ e.symm;omega
  have m10:=m1 (w.heap.size) (by omega)
  have m20:=m2 (w.heap.size) (by omega)
  have m11:=m1 (w.heap.size+1) (by omega)
  have m21:=m2 (w.heap.size+1) (by omega)
  have m12:=m1 (w.heap.size+1+1) (by omega)
  have m22:=m2 (w.heap.size+1+1) (by omega)
  have m13:=m1 (w.heap.size+1+1+1) (by omega)
  have m23:=m2 (w.heap.size+1+1+1) (by omega)
  have o1:=h1
  have o2:=h2
  obtain ⟨a1,q1,e1,_⟩:=h1.seg
  obtain ⟨a2,q2,e2,_⟩:=h2.seg
  subst e1 e2
  clear h1 h2 e ht
  go_enter Tryz.func43,Tryz.ntmps43
  go_wp2_with fail;refine bHit w (by exact zB) fun bb=>?_;refine (l8Grown_any _ _).mono ?_;rintro _ w4 ⟨rfl,hbw4⟩;have hCw4:Below w.heap.size w w4:=bT bb hbw4;have hsw4:=hbw4.size;(try simp at hsw4);have zz:=q4 hbw4 (b:=w.heap.size);(try simp [go_sem] at zz);(try clear z_wppp x_wppp f_wppp l_wppp);(try clear z_wpp x_wpp f_wpp l_wpp);(try clear z_wp x_wp f_wp l_wp);(try clear z_w x_w f_w l_w);obtain ⟨z_wppp,z_wpp,z_wp,z_w⟩:=zz;obtain ⟨x_wppp,f_wppp,l_wppp⟩:=bO z_wppp;obtain ⟨x_wpp,f_wpp,l_wpp⟩:=bO z_wpp;obtain ⟨x_wp,f_wp,l_wp⟩:=bO z_wp;obtain ⟨x_w,f_w,l_w⟩:=bO z_w;clear hbw4 bb
  have o3:=own_below o1 hCw4
  have o4:=own_below o2 hCw4
  have m14:=m1 w4.heap.size (by omega)
  have m24:=m2 w4.heap.size (by omega)
  have l_w4:w4.heap.size<w4.heap.size+1:=by omega
  have k0:w.heap.size<w4.heap.size:=by omega
  have k1:w.heap.size+1<w4.heap.size:=by omega
  have k2:w.heap.size+1+1<w4.heap.size:=by omega
  have k3:w.heap.size+1+1+1<w4.heap.size:=by omega
  go_wp2_with fail;refine (T.out _ (by exact zO o3 o1) (by exact zO o4 o2)).mono ?_;rintro _ w1 ⟨rfl,p1,p2,hgw1⟩;have hsw1:=hgw1.size;(try (simp at hsw1));have zz:=And.intro (grHp hgw1 (b:=w4.heap.size) (by (try simp) <;> omega) (by assumption)) <| And.intro (grHp hgw1 (b:=w.heap.size+1+1+1) (by (try simp) <;> omega) (by assumption)) <| And.intro (grHp hgw1 (b:=w.heap.size+1+1) (by (try simp) <;> omega) (by assumption)) <| And.intro (grHp hgw1 (b:=w.heap.size+1) (by (try simp) <;> omega) (by assumption)) <| grHp hgw1 (b:=w.heap.size) (by (try simp) <;> omega) (by assumption);(first|simp [go_sem,z_wppp,z_wpp,z_wp,z_w,l_w,l_w4,l_wp,l_wpp,l_wppp,k0,k1,k2,k3] at zz|simp [go_sem] at zz|skip);(try clear z_w4 x_w4 f_w4 l_w4);(try clear z_wppp x_wppp f_wppp l_wppp);(try clear z_wpp x_wpp f_wpp l_wpp);(try clear z_wp x_wp f_wp l_wp);(try clear z_w x_w f_w l_w);obtain ⟨z_w4,z_wppp,z_wpp,z_wp,z_w⟩:=zz;obtain ⟨x_w4,f_w4,l_w4⟩:=bO z_w4;obtain ⟨x_wppp,f_wppp,l_wppp⟩:=bO z_wppp;obtain ⟨x_wpp,f_wpp,l_wpp⟩:=bO z_wpp;obtain ⟨x_wp,f_wp,l_wp⟩:=bO z_wp;obtain ⟨x_w,f_w,l_w⟩:=bO z_w;have hGw1:=grB (w:=w) (by exact zB) hgw1;clear hgw1
  have hO1:Onl (Value.slice a1 c.cells.length q1).ownBlock (Value.slice a2 c.words.length q2).ownBlock w w1:=onl1 hGw1
  clear k0 k1 k2 k3
  have k0:w.heap.size<w1.heap.size:=by omega
  have k1:w.heap.size+1<w1.heap.size:=by omega
  have k2:w.heap.size+1+1<w1.heap.size:=by omega
  have k3:w.heap.size+1+1+1<w1.heap.size:=by omega
  have k4:w4.heap.size<w1.heap.size:=by omega
  have r1:OCells w1 lo (.slice a1 c.cells.length q1) (turnC c i h.seen 6 h.wait).cells:=p1
  have r2:OInts w1 lo (.slice a2 c.words.length q2) (turnC c i h.seen 6 h.wait).words:=p2
  go_wp2_with fail
  refine (D.out _ (by exact zO r1 o1) (by exact zO r2 o2)).mono ?_
  rintro _ w3 ⟨⟨y1,y2,rfl,oY1,oY2,fY1,fY2⟩,hbw3⟩
  have hO3:Onl (Value.slice a1 c.cells.length q1).ownBlock (Value.slice a2 c.words.length q2).ownBlock w w3:=onlT (by (repeat (first|with_reducible assumption|with_reducible refine oA ?_|with_reducible refine oD ?_|((with_reducible refine oX ?_ ?_);rotate_left;(focus ((try dsimp only);(try simp);(try omega))))|((with_reducible refine oS ?_ ?_);rotate_left;(focus ((try dsimp only);(try simp);(try omega))))))) (onlB hbw3)
  have hsw3:=hbw3.size;(try simp at hsw3);have zz:=q4 hbw3 (b:=w.heap.size);(first|simp [go_sem,z_wppp,z_wpp,z_wp,z_w,l_w,l_wp,l_wpp,l_wppp,k0,k1,k2,k3,k4] at zz|simp [go_sem] at zz|skip);(try clear z_wppp x_wppp f_wppp l_wppp);(try clear z_wpp x_wpp f_wpp l_wpp);(try clear z_wp x_wp f_wp l_wp);(try clear z_w x_w f_w l_w);obtain ⟨z_wppp,z_wpp,z_wp,z_w⟩:=zz;obtain ⟨x_wppp,f_wppp,l_wppp⟩:=bO z_wppp;obtain ⟨x_wpp,f_wpp,l_wpp⟩:=bO z_wpp;obtain ⟨x_wp,f_wp,l_wp⟩:=bO z_wp;obtain ⟨x_w,f_w,l_w⟩:=bO z_w;clear hbw3
  have hoff1:∀ j,w.heap.size≤j→j<w.heap.size+1+1+1+1→y1.ownBlock≠some j:=fun j h1 h2=>fY1.off b1 h1 (by (try simp) <;> omega);have hoff2:∀ j,w.heap.size≤j→j<w.heap.size+1+1+1+1→y2.ownBlock≠some j:=fun j h1 h2=>fY2.off b2 h1 (by (try simp) <;> omega);have fr1:Fresh w _ y1:=fun j hj=>(fY1 j hj).imp id (fun h=>Nat.le_trans (by (try simp) <;> omega) h);have fr2:Fresh w _ y2:=fun j hj=>(fY2 j hj).imp id (fun h=>Nat.le_trans (by (try simp) <;> omega) h);obtain ⟨ya,yp,rfl,_⟩:=oY1.seg;obtain ⟨yb,yq,rfl,_⟩:=oY2.seg
  go_wp2
  refine bodyPost_ret (res_cct Tryz.results43 rfl (ldChan x.1 (.slice ya x.1.cells.length yp) (.slice yb x.1.words.length yq) (by simp [go_sem, *])) rfl (ldHand x.2.1 (by simp [go_sem, *]))) rfl ⟨⟨_,_,rfl,?_,?_,fr1,fr2⟩,by (repeat (first|with_reducible assumption|with_reducible refine oA ?_|with_reducible refine oD ?_|((with_reducible refine oX ?_ ?_);rotate_left;(focus ((try dsimp only);(try simp);(try omega))))|((with_reducible refine oS ?_ ?_);rotate_left;(focus ((try dsimp only);(try simp);(try omega))))))⟩
  · exact zP oY1 oY1 hoff1
  · exact zP oY2 oY2 hoff2
set_option maxRecDepth 100000 in
set_option maxHeartbeats 4000000 in
theorem l8Pull_sf (c:Ch) (h:Ha) (v1 v2:Value) (lo:Nat) (w:World) (h1:OCells w lo v1 c.cells) (h2:OInts w lo v2 c.words) (hc0:0≤h.grow) (hc1:h.grow<c.cells.length) (hs:(h.seen == 3)=true) (hs2:(h.seen == 0)=false) (ht:turnCB c h.grow h.seen 6 h.wait=false) :
    Calls Tryz.prog 43 #[.agg (cvals c v1 v2),.agg (hvals h)] w fun r w'=>StepO w w' lo v1 v2 (pull8 c h) r:=by
  obtain ⟨i,hci⟩:∃ i:Nat,h.grow=(i:Int):=⟨h.grow.toNat,by omega⟩
  have hi:i<c.cells.length:=by omega
  have ht2:turnCB c i h.seen 6 h.wait=false:=by rw [← ht,hci]
  have e:pull8 c h=done (turnC c i h.seen 6 h.wait) ({ h with pos:=18,grow:=(i:Int) }):=by simp at hs hs2;simp [pull8,turn8,hs,hs2,hci] at ht2 ⊢;simp [ht2]
  rw [e]
  have T:=Lib.hid fun W a b=>wTurn_any c i h.seen 6 h.wait v1 v2 lo W a b hi
  have D:=Lib.hid fun W=>l6Done_any (turnC c i h.seen 6 h.wait) ({ h with pos:=18,grow:=(i:Int) }) v1 v2 lo W
  generalize done (turnC c i h.seen 6 h.wait) ({ h with pos:=18,grow:=(i:Int) })=x at *
  rw [ht2] at T
  have b1:=fun j (hj:v1.ownBlock=some j)=>(h1.lt j hj).2
  have b2:=fun j (hj:v2.ownBlock=some j)=>(h2.lt j hj).2
  have m1:∀ j,w.heap.size≤j→some j≠v1.ownBlock:=fun j hj e=>by have:=b1 _ e.symm;omega
  have m2:∀ j,w.heap.size≤j→some j≠v2.ownBlock:=fun j hj e=>by have:=b2 _ e.symm;omega
  have m10:=m1 (w.heap.size) (by omega)
  have m20:=m2 (w.heap.size) (by omega)
  have m11:=m1 (w.heap.size+1) (by omega)
  have m21:=m2 (w.heap.size+1) (by omega)
  have m12:=m1 (w.heap.size+1+1) (by omega)
  have m22:=m2 (w.heap.size+1+1) (by omega)
  have m13:=m1 (w.heap.size+1+1+1) (by omega)
  have m23:=m2 (w.heap.size+1+1+1) (by omega)
  have o1:=h1
  have o2:=h2
  obtain ⟨a1,q1,e1,_⟩:=h1.seg
  obtain ⟨a2,q2,e2,_⟩:=h2.seg
  subst e1 e2
  clear h1 h2 e ht
  go_enter Tryz.func43,Tryz.ntmps43
  go_wp2_with fail;refine bHit w (by exact zB) fun bb=>?_;refine (l8Grown_any _ _).mono ?_;rintro _ w4 ⟨rfl,hbw4⟩;have hCw4:Below w.heap.size w w4:=bT bb hbw4;have hsw4:=hbw4.size;(try simp at hsw4);have zz:=q4 hbw4 (b:=w.heap.size);(try simp [go_sem] at zz);(try clear z_wppp x_wppp f_wppp l_wppp);(try clear z_wpp x_wpp f_wpp l_wpp);(try clear z_wp x_wp f_wp l_wp);(try clear z_w x_w f_w l_w);obtain ⟨z_wppp,z_wpp,z_wp,z_w⟩:=zz;obtain ⟨x_wppp,f_wppp,l_wppp⟩:=bO z_wppp;obtain ⟨x_wpp,f_wpp,l_wpp⟩:=bO z_wpp;obtain ⟨x_wp,f_wp,l_wp⟩:=bO z_wp;obtain ⟨x_w,f_w,l_w⟩:=bO z_w;clear hbw4 bb
  have o3:=own_below o1 hCw4
  have o4:=own_below o2 hCw4
  have m14:=m1 w4.heap.size (by omega)
  have m24:=m2 w4.heap.size (by omega)
  have l_w4:w4.heap.size<w4.heap.size+1:=by omega
  have k0:w.heap.size<w4.heap.size:=by omega
  have k1:w.heap.size+1<w4.heap.size:=by omega
  have k2:w.heap.size+1+1<w4.heap.size:=by omega
  have k3:w.heap.size+1+1+1<w4.heap.size:=by omega
  go_wp2_with fail;refine (T.out _ (by exact zO o3 o1) (by exact zO o4 o2)).mono ?_;rintro _ w1 ⟨rfl,p1,p2,hgw1⟩;have hsw1:=hgw1.size;(try (simp at hsw1));have zz:=And.intro (grHp hgw1 (b:=w4.heap.size) (by (try simp) <;> omega) (by assumption)) <| And.intro (grHp hgw1 (b:=w.heap.size+1+1+1) (by (try simp) <;> omega) (by assumption)) <| And.intro (grHp hgw1 (b:=w.heap.size+1+1) (by (try simp) <;> omega) (by assumption)) <| And.intro (grHp hgw1 (b:=w.heap.size+1) (by (try simp) <;> omega) (by assumption)) <| grHp hgw1 (b:=w.heap.size) (by (try simp) <;> omega) (by assumption);(first|simp [go_sem,z_wppp,z_wpp,z_wp,z_w,l_w,l_w4,l_wp,l_wpp,l_wppp,k0,k1,k2,k3] at zz|simp [go_sem] at zz|skip);(try clear z_w4 x_w4 f_w4 l_w4);(try clear z_wppp x_wppp f_wppp l_wppp);(try clear z_wpp x_wpp f_wpp l_wpp);(try clear z_wp x_wp f_wp l_wp);(try clear z_w x_w f_w l_w);obtain ⟨z_w4,z_wppp,z_wpp,z_wp,z_w⟩:=zz;obtain ⟨x_w4,f_w4,l_w4⟩:=bO z_w4;obtain ⟨x_wppp,f_wppp,l_wppp⟩:=bO z_wppp;obtain ⟨x_wpp,f_wpp,l_wpp⟩:=bO z_wpp;obtain ⟨x_wp,f_wp,l_wp⟩:=bO z_wp;obtain ⟨x_w,f_w,l_w⟩:=bO z_w;have hGw1:=grB (w:=w) (by exact zB) hgw1;clear hgw1
  have hO1:Onl (Value.slice a1 c.cells.length q1).ownBlock (Value.slice a2 c.words.length q2).ownBlock w w1:=onl1 hGw1
  clear k0 k1 k2 k3
  have k0:w.heap.size<w1.heap.size:=by omega
  have k1:w.heap.size+1<w1.heap.size:=by omega
  have k2:w.heap.size+1+1<w1.heap.size:=by omega
  have k3:w.heap.size+1+1+1<w1.heap.size:=by omega
  have k4:w4.heap.size<w1.heap.size:=by omega
  have r1:OCells w1 lo (.slice a1 c.cells.length q1) (turnC c i h.seen 6 h.wait).cells:=p1
  have r2:OInts w1 lo (.slice a2 c.words.length q2) (turnC c i h.seen 6 h.wait).words:=p2
  go_wp2_with fail
  refine (D.out _ (by exact zO r1 o1) (by exact zO r2 o2)).mono ?_
  rintro _ w3 ⟨⟨y1,y2,rfl,oY1,oY2,fY1,fY2⟩,hbw3⟩
  have hO3:Onl (Value.slice a1 c.cells.length q1).ownBlock (Value.slice a2 c.words.length q2).ownBlock w w3:=onlT (by (repeat (first|with_reducible assumption|with_reducible refine oA ?_|with_reducible refine oD ?_|((with_reducible refine oX ?_ ?_);rotate_left;(focus ((try dsimp only);(try simp);(try omega))))|((with_reducible refine oS ?_ ?_);rotate_left;(focus ((try dsimp only);(try simp);(try omega))))))) (onlB hbw3)
  have hsw3:=hbw3.size;(try simp at hsw3);have zz:=q4 hbw3 (b:=w.heap.size);(first|simp [go_sem,z_wppp,z_wpp,z_wp,z_w,l_w,l_wp,l_wpp,l_wppp,k0,k1,k2,k3,k4] at zz|simp [go_sem] at zz|skip);(try clear z_wppp x_wppp f_wppp l_wppp);(try clear z_wpp x_wpp f_wpp l_wpp);(try clear z_wp x_wp f_wp l_wp);(try clear z_w x_w f_w l_w);obtain ⟨z_wppp,z_wpp,z_wp,z_w⟩:=zz;obtain ⟨x_wppp,f_wppp,l_wppp⟩:=bO z_wppp;obtain ⟨x_wpp,f_wpp,l_wpp⟩:=bO z_wpp;obtain ⟨x_wp,f_wp,l_wp⟩:=bO z_wp;obtain ⟨x_w,f_w,l_w⟩:=bO z_w;clear hbw3
  have hoff1:∀ j,w.heap.size≤j→j<w.heap.size+1+1+1+1→y1.ownBlock≠some j:=fun j h1 h2=>fY1.off b1 h1 (by (try simp) <;> omega);have hoff2:∀ j,w.heap.size≤j→j<w.heap.size+1+1+1+1→y2.ownBlock≠some j:=fun j h1 h2=>fY2.off b2 h1 (by (try simp) <;> omega);have fr1:Fresh w _ y1:=fun j hj=>(fY1 j hj).imp id (fun h=>Nat.le_trans (by (try simp) <;> omega) h);have fr2:Fresh w _ y2:=fun j hj=>(fY2 j hj).imp id (fun h=>Nat.le_trans (by (try simp) <;> omega) h);obtain ⟨ya,yp,rfl,_⟩:=oY1.seg;obtain ⟨yb,yq,rfl,_⟩:=oY2.seg
  go_wp2
  refine bodyPost_ret (res_cct Tryz.results43 rfl (ldChan x.1 (.slice ya x.1.cells.length yp) (.slice yb x.1.words.length yq) (by simp [go_sem, *])) rfl (ldHand x.2.1 (by simp [go_sem, *]))) rfl ⟨⟨_,_,rfl,?_,?_,fr1,fr2⟩,by (repeat (first|with_reducible assumption|with_reducible refine oA ?_|with_reducible refine oD ?_|((with_reducible refine oX ?_ ?_);rotate_left;(focus ((try dsimp only);(try simp);(try omega))))|((with_reducible refine oS ?_ ?_);rotate_left;(focus ((try dsimp only);(try simp);(try omega))))))⟩
  · exact zP oY1 oY1 hoff1
  · exact zP oY2 oY2 hoff2
set_option maxRecDepth 100000 in
set_option maxHeartbeats 4000000 in
theorem l8Pull_nt (c:Ch) (h:Ha) (v1 v2:Value) (lo:Nat) (w:World) (h1:OCells w lo v1 c.cells) (h2:OInts w lo v2 c.words) (hc0:0≤h.grow) (hc1:h.grow<c.cells.length) (hs:(h.seen == 3)=false) (hs2:(h.seen == 0)=true) (ht:turnCB c h.grow h.seen 1 0=true) :
    Calls Tryz.prog 43 #[.agg (cvals c v1 v2),.agg (hvals h)] w fun r w'=>StepO w w' lo v1 v2 (pull8 c h) r:=by
  obtain ⟨i,hci⟩:∃ i:Nat,h.grow=(i:Int):=⟨h.grow.toNat,by omega⟩
  have hi:i<c.cells.length:=by omega
  have ht2:turnCB c i h.seen 1 0=true:=by rw [← ht,hci]
  have e:pull8 c h=done (turnC c i h.seen 1 0) (grown8 h):=by simp at hs hs2;simp [pull8,turn8,hs,hs2,hci] at ht2 ⊢;simp [ht2]
  rw [e]
  have T:=Lib.hid fun W a b=>wTurn_any c i h.seen 1 0 v1 v2 lo W a b hi
  have D:=Lib.hid fun W=>l6Done_any (turnC c i h.seen 1 0) (grown8 h) v1 v2 lo W
  generalize done (turnC c i h.seen 1 0) (grown8 h)=x at *
  rw [ht2] at T
  have b1:=fun j (hj:v1.ownBlock=some j)=>(h1.lt j hj).2
  have b2:=fun j (hj:v2.ownBlock=some j)=>(h2.lt j hj).2
  have m1:∀ j,w.heap.size≤j→some j≠v1.ownBlock:=fun j hj e=>by have:=b1 _ e.symm;omega
  have m2:∀ j,w.heap.size≤j→some j≠v2.ownBlock:=fun j hj e=>by have:=b2 _ e.symm;omega
  have m10:=m1 (w.heap.size) (by omega)
  have m20:=m2 (w.heap.size) (by omega)
  have m11:=m1 (w.heap.size+1) (by omega)
  have m21:=m2 (w.heap.size+1) (by omega)
  have m12:=m1 (w.heap.size+1+1) (by omega)
  have m22:=m2 (w.heap.size+1+1) (by omega)
  have m13:=m1 (w.heap.size+1+1+1) (by omega)
  have m23:=m2 (w.heap.size+1+1+1) (by omega)
  have o1:=h1
  have o2:=h2
  obtain ⟨a1,q1,e1,_⟩:=h1.seg
  obtain ⟨a2,q2,e2,_⟩:=h2.seg
  subst e1 e2
  clear h1 h2 e ht
  go_enter Tryz.func43,Tryz.ntmps43
  go_wp2_with fail;refine bHit w (by exact zB) fun bb=>?_;refine (l8Grown_any _ _).mono ?_;rintro _ w4 ⟨rfl,hbw4⟩;have hCw4:Below w.heap.size w w4:=bT bb hbw4;have hsw4:=hbw4.size;(try simp at hsw4);have zz:=q4 hbw4 (b:=w.heap.size);(try simp [go_sem] at zz);(try clear z_wppp x_wppp f_wppp l_wppp);(try clear z_wpp x_wpp f_wpp l_wpp);(try clear z_wp x_wp f_wp l_wp);(try clear z_w x_w f_w l_w);obtain ⟨z_wppp,z_wpp,z_wp,z_w⟩:=zz;obtain ⟨x_wppp,f_wppp,l_wppp⟩:=bO z_wppp;obtain ⟨x_wpp,f_wpp,l_wpp⟩:=bO z_wpp;obtain ⟨x_wp,f_wp,l_wp⟩:=bO z_wp;obtain ⟨x_w,f_w,l_w⟩:=bO z_w;clear hbw4 bb
  have o3:=own_below o1 hCw4
  have o4:=own_below o2 hCw4
  have m14:=m1 w4.heap.size (by omega)
  have m24:=m2 w4.heap.size (by omega)
  have l_w4:w4.heap.size<w4.heap.size+1:=by omega
  have k0:w.heap.size<w4.heap.size:=by omega
  have k1:w.heap.size+1<w4.heap.size:=by omega
  have k2:w.heap.size+1+1<w4.heap.size:=by omega
  have k3:w.heap.size+1+1+1<w4.heap.size:=by omega
  go_wp2_with fail;refine (T.out _ (by exact zO o3 o1) (by exact zO o4 o2)).mono ?_;rintro _ w1 ⟨rfl,p1,p2,hgw1⟩;have hsw1:=hgw1.size;(try (simp at hsw1));have zz:=And.intro (grHp hgw1 (b:=w4.heap.size) (by (try simp) <;> omega) (by assumption)) <| And.intro (grHp hgw1 (b:=w.heap.size+1+1+1) (by (try simp) <;> omega) (by assumption)) <| And.intro (grHp hgw1 (b:=w.heap.size+1+1) (by (try simp) <;> omega) (by assumption)) <| And.intro (grHp hgw1 (b:=w.heap.size+1) (by (try simp) <;> omega) (by assumption)) <| grHp hgw1 (b:=w.heap.size) (by (try simp) <;> omega) (by assumption);(first|simp [go_sem,z_wppp,z_wpp,z_wp,z_w,l_w,l_w4,l_wp,l_wpp,l_wppp,k0,k1,k2,k3] at zz|simp [go_sem] at zz|skip);(try clear z_w4 x_w4 f_w4 l_w4);(try clear z_wppp x_wppp f_wppp l_wppp);(try clear z_wpp x_wpp f_wpp l_wpp);(try clear z_wp x_wp f_wp l_wp);(try clear z_w x_w f_w l_w);obtain ⟨z_w4,z_wppp,z_wpp,z_wp,z_w⟩:=zz;obtain ⟨x_w4,f_w4,l_w4⟩:=bO z_w4;obtain ⟨x_wppp,f_wppp,l_wppp⟩:=bO z_wppp;obtain ⟨x_wpp,f_wpp,l_wpp⟩:=bO z_wpp;obtain ⟨x_wp,f_wp,l_wp⟩:=bO z_wp;obtain ⟨x_w,f_w,l_w⟩:=bO z_w;have hGw1:=grB (w:=w) (by exact zB) hgw1;clear hgw1
  have hO1:Onl (Value.slice a1 c.cells.length q1).ownBlock (Value.slice a2 c.words.length q2).ownBlock w w1:=onl1 hGw1
  clear k0 k1 k2 k3
  have k0:w.heap.size<w1.heap.size:=by omega
  have k1:w.heap.size+1<w1.heap.size:=by omega
  have k2:w.heap.size+1+1<w1.heap.size:=by omega
  have k3:w.heap.size+1+1+1<w1.heap.size:=by omega
  have k4:w4.heap.size<w1.heap.size:=by omega
  have r1:OCells w1 lo (.slice a1 c.cells.length q1) (turnC c i h.seen 1 0).cells:=p1
  have r2:OInts w1 lo (.slice a2 c.words.length q2) (turnC c i h.seen 1 0).words:=p2
  go_wp2_with fail
  refine (D.out _ (by exact zO r1 o1) (by exact zO r2 o2)).mono ?_
  rintro _ w3 ⟨⟨y1,y2,rfl,oY1,oY2,fY1,fY2⟩,hbw3⟩
  have hO3:Onl (Value.slice a1 c.cells.length q1).ownBlock (Value.slice a2 c.words.length q2).ownBlock w w3:=onlT (by (repeat (first|with_reducible assumption|with_reducible refine oA ?_|with_reducible refine oD ?_|((with_reducible refine oX ?_ ?_);rotate_left;(focus ((try dsimp only);(try simp);(try omega))))|((with_reducible refine oS ?_ ?_);rotate_left;(focus ((try dsimp only);(try simp);(try omega))))))) (onlB hbw3)
  have hsw3:=hbw3.size;(try simp at hsw3);have zz:=q4 hbw3 (b:=w.heap.size);(first|simp [go_sem,z_wppp,z_wpp,z_wp,z_w,l_w,l_wp,l_wpp,l_wppp,k0,k1,k2,k3,k4] at zz|simp [go_sem] at zz|skip);(try clear z_wppp x_wppp f_wppp l_wppp);(try clear z_wpp x_wpp f_wpp l_wpp);(try clear z_wp x_wp f_wp l_wp);(try clear z_w x_w f_w l_w);obtain ⟨z_wppp,z_wpp,z_wp,z_w⟩:=zz;obtain ⟨x_wppp,f_wppp,l_wppp⟩:=bO z_wppp;obtain ⟨x_wpp,f_wpp,l_wpp⟩:=bO z_wpp;obtain ⟨x_wp,f_wp,l_wp⟩:=bO z_wp;obtain ⟨x_w,f_w,l_w⟩:=bO z_w;clear hbw3
  have hoff1:∀ j,w.heap.size≤j→j<w.heap.size+1+1+1+1→y1.ownBlock≠some j:=fun j h1 h2=>fY1.off b1 h1 (by (try simp) <;> omega);have hoff2:∀ j,w.heap.size≤j→j<w.heap.size+1+1+1+1→y2.ownBlock≠some j:=fun j h1 h2=>fY2.off b2 h1 (by (try simp) <;> omega);have fr1:Fresh w _ y1:=fun j hj=>(fY1 j hj).imp id (fun h=>Nat.le_trans (by (try simp) <;> omega) h);have fr2:Fresh w _ y2:=fun j hj=>(fY2 j hj).imp id (fun h=>Nat.le_trans (by (try simp) <;> omega) h);obtain ⟨ya,yp,rfl,_⟩:=oY1.seg;obtain ⟨yb,yq,rfl,_⟩:=oY2.seg
  go_wp2
  refine bodyPost_ret (res_cct Tryz.results43 rfl (ldChan x.1 (.slice ya x.1.cells.length yp) (.slice yb x.1.words.length yq) (by simp [go_sem, *])) rfl (ldHand x.2.1 (by simp [go_sem, *]))) rfl ⟨⟨_,_,rfl,?_,?_,fr1,fr2⟩,by (repeat (first|with_reducible assumption|with_reducible refine oA ?_|with_reducible refine oD ?_|((with_reducible refine oX ?_ ?_);rotate_left;(focus ((try dsimp only);(try simp);(try omega))))|((with_reducible refine oS ?_ ?_);rotate_left;(focus ((try dsimp only);(try simp);(try omega))))))⟩
  · exact zP oY1 oY1 hoff1
  · exact zP oY2 oY2 hoff2
set_option maxRecDepth 100000 in
set_option maxHeartbeats 4000000 in
theorem l8Pull_nf (c:Ch) (h:Ha) (v1 v2:Value) (lo:Nat) (w:World) (h1:OCells w lo v1 c.cells) (h2:OInts w lo v2 c.words) (hc0:0≤h.grow) (hc1:h.grow<c.cells.length) (hs:(h.seen == 3)=false) (hs2:(h.seen == 0)=true) (ht:turnCB c h.grow h.seen 1 0=false) :
    Calls Tryz.prog 43 #[.agg (cvals c v1 v2),.agg (hvals h)] w fun r w'=>StepO w w' lo v1 v2 (pull8 c h) r:=by
  obtain ⟨i,hci⟩:∃ i:Nat,h.grow=(i:Int):=⟨h.grow.toNat,by omega⟩
  have hi:i<c.cells.length:=by omega
  have ht2:turnCB c i h.seen 1 0=false:=by rw [← ht,hci]
  have e:pull8 c h=done (turnC c i h.seen 1 0) ({ h with pos:=18,grow:=(i:Int) }):=by simp at hs hs2;simp [pull8,turn8,hs,hs2,hci] at ht2 ⊢;simp [ht2]
  rw [e]
  have T:=Lib.hid fun W a b=>wTurn_any c i h.seen 1 0 v1 v2 lo W a b hi
  have D:=Lib.hid fun W=>l6Done_any (turnC c i h.seen 1 0) ({ h with pos:=18,grow:=(i:Int) }) v1 v2 lo W
  generalize done (turnC c i h.seen 1 0) ({ h with pos:=18,grow:=(i:Int) })=x at *
  rw [ht2] at T
  have b1:=fun j (hj:v1.ownBlock=some j)=>(h1.lt j hj).2
  have b2:=fun j (hj:v2.ownBlock=some j)=>(h2.lt j hj).2
  have m1:∀ j,w.heap.size≤j→some j≠v1.ownBlock:=fun j hj e=>by have:=b1 _ e.symm;omega
  have m2:∀ j,w.heap.size≤j→some j≠v2.ownBlock:=fun j hj e=>by have:=b2 _ e.symm;omega
  have m10:=m1 (w.heap.size) (by omega)
  have m20:=m2 (w.heap.size) (by omega)
  have m11:=m1 (w.heap.size+1) (by omega)
  have m21:=m2 (w.heap.size+1) (by omega)
  have m12:=m1 (w.heap.size+1+1) (by omega)
  have m22:=m2 (w.heap.size+1+1) (by omega)
  have m13:=m1 (w.heap.size+1+1+1) (by omega)
  have m23:=m2 (w.heap.size+1+1+1) (by omega)
  have o1:=h1
  have o2:=h2
  obtain ⟨a1,q1,e1,_⟩:=h1.seg
  obtain ⟨a2,q2,e2,_⟩:=h2.seg
  subst e1 e2
  clear h1 h2 e ht
  go_enter Tryz.func43,Tryz.ntmps43
  go_wp2_with fail;refine bHit w (by exact zB) fun bb=>?_;refine (l8Grown_any _ _).mono ?_;rintro _ w4 ⟨rfl,hbw4⟩;have hCw4:Below w.heap.size w w4:=bT bb hbw4;have hsw4:=hbw4.size;(try simp at hsw4);have zz:=q4 hbw4 (b:=w.heap.size);(try simp [go_sem] at zz);(try clear z_wppp x_wppp f_wppp l_wppp);(try clear z_wpp x_wpp f_wpp l_wpp);(try clear z_wp x_wp f_wp l_wp);(try clear z_w x_w f_w l_w);obtain ⟨z_wppp,z_wpp,z_wp,z_w⟩:=zz;obtain ⟨x_wppp,f_wppp,l_wppp⟩:=bO z_wppp;obtain ⟨x_wpp,f_wpp,l_wpp⟩:=bO z_wpp;obtain ⟨x_wp,f_wp,l_wp⟩:=bO z_wp;obtain ⟨x_w,f_w,l_w⟩:=bO z_w;clear hbw4 bb
  have o3:=own_below o1 hCw4
  have o4:=own_below o2 hCw4
  have m14:=m1 w4.heap.size (by omega)
  have m24:=m2 w4.heap.size (by omega)
  have l_w4:w4.heap.size<w4.heap.size+1:=by omega
  have k0:w.heap.size<w4.heap.size:=by omega
  have k1:w.heap.size+1<w4.heap.size:=by omega
  have k2:w.heap.size+1+1<w4.heap.size:=by omega
  have k3:w.heap.size+1+1+1<w4.heap.size:=by omega
  go_wp2_with fail;refine (T.out _ (by exact zO o3 o1) (by exact zO o4 o2)).mono ?_;rintro _ w1 ⟨rfl,p1,p2,hgw1⟩;have hsw1:=hgw1.size;(try (simp at hsw1));have zz:=And.intro (grHp hgw1 (b:=w4.heap.size) (by (try simp) <;> omega) (by assumption)) <| And.intro (grHp hgw1 (b:=w.heap.size+1+1+1) (by (try simp) <;> omega) (by assumption)) <| And.intro (grHp hgw1 (b:=w.heap.size+1+1) (by (try simp) <;> omega) (by assumption)) <| And.intro (grHp hgw1 (b:=w.heap.size+1) (by (try simp) <;> omega) (by assumption)) <| grHp hgw1 (b:=w.heap.size) (by (try simp) <;> omega) (by assumption);(first|simp [go_sem,z_wppp,z_wpp,z_wp,z_w,l_w,l_w4,l_wp,l_wpp,l_wppp,k0,k1,k2,k3] at zz|simp [go_sem] at zz|skip);(try clear z_w4 x_w4 f_w4 l_w4);(try clear z_wppp x_wppp f_wppp l_wppp);(try clear z_wpp x_wpp f_wpp l_wpp);(try clear z_wp x_wp f_wp l_wp);(try clear z_w x_w f_w l_w);obtain ⟨z_w4,z_wppp,z_wpp,z_wp,z_w⟩:=zz;obtain ⟨x_w4,f_w4,l_w4⟩:=bO z_w4;obtain ⟨x_wppp,f_wppp,l_wppp⟩:=bO z_wppp;obtain ⟨x_wpp,f_wpp,l_wpp⟩:=bO z_wpp;obtain ⟨x_wp,f_wp,l_wp⟩:=bO z_wp;obtain ⟨x_w,f_w,l_w⟩:=bO z_w;have hGw1:=grB (w:=w) (by exact zB) hgw1;clear hgw1
  have hO1:Onl (Value.slice a1 c.cells.length q1).ownBlock (Value.slice a2 c.words.length q2).ownBlock w w1:=onl1 hGw1
  clear k0 k1 k2 k3
  have k0:w.heap.size<w1.heap.size:=by omega
  have k1:w.heap.size+1<w1.heap.size:=by omega
  have k2:w.heap.size+1+1<w1.heap.size:=by omega
  have k3:w.heap.size+1+1+1<w1.heap.size:=by omega
  have k4:w4.heap.size<w1.heap.size:=by omega
  have r1:OCells w1 lo (.slice a1 c.cells.length q1) (turnC c i h.seen 1 0).cells:=p1
  have r2:OInts w1 lo (.slice a2 c.words.length q2) (turnC c i h.seen 1 0).words:=p2
  go_wp2_with fail
  refine (D.out _ (by exact zO r1 o1) (by exact zO r2 o2)).mono ?_
  rintro _ w3 ⟨⟨y1,y2,rfl,oY1,oY2,fY1,fY2⟩,hbw3⟩
  have hO3:Onl (Value.slice a1 c.cells.length q1).ownBlock (Value.slice a2 c.words.length q2).ownBlock w w3:=onlT (by (repeat (first|with_reducible assumption|with_reducible refine oA ?_|with_reducible refine oD ?_|((with_reducible refine oX ?_ ?_);rotate_left;(focus ((try dsimp only);(try simp);(try omega))))|((with_reducible refine oS ?_ ?_);rotate_left;(focus ((try dsimp only);(try simp);(try omega))))))) (onlB hbw3)
  have hsw3:=hbw3.size;(try simp at hsw3);have zz:=q4 hbw3 (b:=w.heap.size);(first|simp [go_sem,z_wppp,z_wpp,z_wp,z_w,l_w,l_wp,l_wpp,l_wppp,k0,k1,k2,k3,k4] at zz|simp [go_sem] at zz|skip);(try clear z_wppp x_wppp f_wppp l_wppp);(try clear z_wpp x_wpp f_wpp l_wpp);(try clear z_wp x_wp f_wp l_wp);(try clear z_w x_w f_w l_w);obtain ⟨z_wppp,z_wpp,z_wp,z_w⟩:=zz;obtain ⟨x_wppp,f_wppp,l_wppp⟩:=bO z_wppp;obtain ⟨x_wpp,f_wpp,l_wpp⟩:=bO z_wpp;obtain ⟨x_wp,f_wp,l_wp⟩:=bO z_wp;obtain ⟨x_w,f_w,l_w⟩:=bO z_w;clear hbw3
  have hoff1:∀ j,w.heap.size≤j→j<w.heap.size+1+1+1+1→y1.ownBlock≠some j:=fun j h1 h2=>fY1.off b1 h1 (by (try simp) <;> omega);have hoff2:∀ j,w.heap.size≤j→j<w.heap.size+1+1+1+1→y2.ownBlock≠some j:=fun j h1 h2=>fY2.off b2 h1 (by (try simp) <;> omega);have fr1:Fresh w _ y1:=fun j hj=>(fY1 j hj).imp id (fun h=>Nat.le_trans (by (try simp) <;> omega) h);have fr2:Fresh w _ y2:=fun j hj=>(fY2 j hj).imp id (fun h=>Nat.le_trans (by (try simp) <;> omega) h);obtain ⟨ya,yp,rfl,_⟩:=oY1.seg;obtain ⟨yb,yq,rfl,_⟩:=oY2.seg
  go_wp2
  refine bodyPost_ret (res_cct Tryz.results43 rfl (ldChan x.1 (.slice ya x.1.cells.length yp) (.slice yb x.1.words.length yq) (by simp [go_sem, *])) rfl (ldHand x.2.1 (by simp [go_sem, *]))) rfl ⟨⟨_,_,rfl,?_,?_,fr1,fr2⟩,by (repeat (first|with_reducible assumption|with_reducible refine oA ?_|with_reducible refine oD ?_|((with_reducible refine oX ?_ ?_);rotate_left;(focus ((try dsimp only);(try simp);(try omega))))|((with_reducible refine oS ?_ ?_);rotate_left;(focus ((try dsimp only);(try simp);(try omega))))))⟩
  · exact zP oY1 oY1 hoff1
  · exact zP oY2 oY2 hoff2
set_option maxRecDepth 100000 in
set_option maxHeartbeats 4000000 in
theorem l8Pull_no (c:Ch) (h:Ha) (v1 v2:Value) (lo:Nat) (w:World) (h1:OCells w lo v1 c.cells) (h2:OInts w lo v2 c.words) (hs:(h.seen == 3)=false) (hs2:(h.seen == 0)=false) :
    Calls Tryz.prog 43 #[.agg (cvals c v1 v2),.agg (hvals h)] w fun r w'=>StepO w w' lo v1 v2 (pull8 c h) r:=by
  have e:pull8 c h=nothing:=by simp at hs hs2;simp [pull8,hs,hs2]
  rw [e]
  have T:=Lib.hid (l6None_any · lo v1 v2)
  generalize nothing=x at *
  have b1:=fun j (hj:v1.ownBlock=some j)=>(h1.lt j hj).2
  have b2:=fun j (hj:v2.ownBlock=some j)=>(h2.lt j hj).2
  have m1:∀ j,w.heap.size≤j→some j≠v1.ownBlock:=fun j hj e=>by have:=b1 _ e.symm;omega
  have m2:∀ j,w.heap.size≤j→some j≠v2.ownBlock:=fun j hj e=>by have:=b2 _ e.symm;omega
  have m10:=m1 (w.heap.size) (by omega)
  have m20:=m2 (w.heap.size) (by omega)
  have m11:=m1 (w.heap.size+1) (by omega)
  have m21:=m2 (w.heap.size+1) (by omega)
  have m12:=m1 (w.heap.size+1+1) (by omega)
  have m22:=m2 (w.heap.size+1+1) (by omega)
  have m13:=m1 (w.heap.size+1+1+1) (by omega)
  have m23:=m2 (w.heap.size+1+1+1) (by omega)
  have o1:=h1
  have o2:=h2
  obtain ⟨a1,q1,e1,_⟩:=h1.seg
  obtain ⟨a2,q2,e2,_⟩:=h2.seg
  subst e1 e2
  clear h1 h2 e
  go_enter Tryz.func43,Tryz.ntmps43
  go_wp2_with fail;refine bHit w (by exact zB) fun bb=>?_;refine (l8Grown_any _ _).mono ?_;rintro _ w4 ⟨rfl,hbw4⟩;have hCw4:Below w.heap.size w w4:=bT bb hbw4;have hsw4:=hbw4.size;(try simp at hsw4);have zz:=q4 hbw4 (b:=w.heap.size);(try simp [go_sem] at zz);(try clear z_wppp x_wppp f_wppp l_wppp);(try clear z_wpp x_wpp f_wpp l_wpp);(try clear z_wp x_wp f_wp l_wp);(try clear z_w x_w f_w l_w);obtain ⟨z_wppp,z_wpp,z_wp,z_w⟩:=zz;obtain ⟨x_wppp,f_wppp,l_wppp⟩:=bO z_wppp;obtain ⟨x_wpp,f_wpp,l_wpp⟩:=bO z_wpp;obtain ⟨x_wp,f_wp,l_wp⟩:=bO z_wp;obtain ⟨x_w,f_w,l_w⟩:=bO z_w;clear hbw4 bb
  go_wp2_with fail;refine bHit w (by exact zB) fun bb=>?_;refine (T.out _).mono ?_;rintro _ w1 ⟨⟨y1,y2,rfl,oY1,oY2,fY1,fY2⟩,hbw1⟩;have hCw1:Below w.heap.size w w1:=bT bb hbw1;have hsw1:=hbw1.size;(try simp at hsw1);have zz:=q4 hbw1 (b:=w.heap.size);(first|simp [go_sem,z_wppp,z_wpp,z_wp,z_w,l_w,l_wp,l_wpp,l_wppp] at zz|simp [go_sem] at zz|skip);(try clear z_wppp x_wppp f_wppp l_wppp);(try clear z_wpp x_wpp f_wpp l_wpp);(try clear z_wp x_wp f_wp l_wp);(try clear z_w x_w f_w l_w);obtain ⟨z_wppp,z_wpp,z_wp,z_w⟩:=zz;obtain ⟨x_wppp,f_wppp,l_wppp⟩:=bO z_wppp;obtain ⟨x_wpp,f_wpp,l_wpp⟩:=bO z_wpp;obtain ⟨x_wp,f_wp,l_wp⟩:=bO z_wp;obtain ⟨x_w,f_w,l_w⟩:=bO z_w;clear hbw1 bb
  have hoff1:∀ j,w.heap.size≤j→j<w.heap.size+1+1+1+1→y1.ownBlock≠some j:=fun j h1 h2=>fY1.off b1 h1 (by (try simp) <;> omega);have hoff2:∀ j,w.heap.size≤j→j<w.heap.size+1+1+1+1→y2.ownBlock≠some j:=fun j h1 h2=>fY2.off b2 h1 (by (try simp) <;> omega);have fr1:Fresh w _ y1:=fun j hj=>(fY1 j hj).imp id (fun h=>Nat.le_trans (by (try simp) <;> omega) h);have fr2:Fresh w _ y2:=fun j hj=>(fY2 j hj).imp id (fun h=>Nat.le_trans (by (try simp) <;> omega) h);obtain ⟨ya,yp,rfl,_⟩:=oY1.seg;obtain ⟨yb,yq,rfl,_⟩:=oY2.seg
  go_wp2
  refine bodyPost_ret (res_cct Tryz.results43 rfl (ldChan x.1 (.slice ya x.1.cells.length yp) (.slice yb x.1.words.length yq) (by simp [go_sem, *])) rfl (ldHand x.2.1 (by simp [go_sem, *]))) rfl ⟨⟨_,_,rfl,?_,?_,fr1,fr2⟩,onlB (by exact zB)⟩
  · exact zP oY1 oY1 hoff1
  · exact zP oY2 oY2 hoff2
theorem l8Pull_any (c:Ch) (h:Ha) (v1 v2:Value) (lo:Nat) (w:World) (h1:OCells w lo v1 c.cells) (h2:OInts w lo v2 c.words) (hc0:0≤h.grow) (hc1:h.grow<c.cells.length) :
    Calls Tryz.prog 43 #[.agg (cvals c v1 v2),.agg (hvals h)] w fun r w'=>StepO w w' lo v1 v2 (pull8 c h) r:=by
  by_cases s3:h.seen=3
  · cases ht:turnCB c h.grow h.seen 6 h.wait with
    | true=>exact l8Pull_st c h v1 v2 lo w h1 h2 hc0 hc1 (by simpa using s3) (by simp [s3]) ht
    | false=>exact l8Pull_sf c h v1 v2 lo w h1 h2 hc0 hc1 (by simpa using s3) (by simp [s3]) ht
  · by_cases s0:h.seen=0
    · cases ht:turnCB c h.grow h.seen 1 0 with
      | true=>exact l8Pull_nt c h v1 v2 lo w h1 h2 hc0 hc1 (by simpa using s3) (by simpa using s0) ht
      | false=>exact l8Pull_nf c h v1 v2 lo w h1 h2 hc0 hc1 (by simpa using s3) (by simpa using s0) ht
    · exact l8Pull_no c h v1 v2 lo w h1 h2 (by simpa using s3) (by simpa using s0)
end Go.Proofs.YthfbnjfppjmgfaaGreat
set_option linter.unusedSimpArgs false
set_option linter.unusedVariables false
namespace Go.Proofs.YthfbnjfppjmgfaaGreat
open Go.RowKit
set_option linter.unusedSimpArgs false
attribute [local simp] bx_size
attribute [local go_sem ↓] zeroHand zeroChan toLHand toLChan toVHand toVChan storeHand storeChan storeHandC storeChanC
set_option maxRecDepth 100000 in
set_option maxHeartbeats 2000000 in
theorem sGrow_16 (c:Ch) (h:Ha) (a b:Option Addr) (p q:Nat) (w:World) (h1:Seg w w.heap.size a c.cells.length 3 (cellF c.cells)) (z1:a=none→p=0) (h2:Seg w w.heap.size b c.words.length 1 (intF c.words)) (z2:b=none→q=0) (hk:stepOk c h 16 22 2=true) (hp0:h.pos=16) :
    Calls Tryz.prog 21 #[.agg (cvals c (.slice a c.cells.length p) (.slice b c.words.length q)),.agg (hvals h)] w fun r w'=>StepN w w' (growStep c h) r:=by
  obtain ⟨k1,k2,_,_⟩:=stepOk_yes hk
  obtain ⟨n1,n2⟩:=chan_40 k1
  have m1:c.cells.length≤1099511627776:=by omega
  have m2:c.words.length≤1099511627776:=by omega
  have H1:=Lib.hid h1
  have H2:=Lib.hid h2
  have Z1:=Lib.hid z1
  have Z2:=Lib.hid z2
  have e:growStep c h=done (begin8 c h).1 (begin8 c h).2:=by simp [growStep,hk,hp0]
  rw [e]
  have hfin:0≤c.fin∧c.fin≤40:=chan_fin k1
  have K:=fun a1 a2 n1 n2 q1 q2 W=>l8Begin_any c h a1 a2 n1 n2 q1 q2 W hfin
  have D:=fun v1 v2 W=>l6Done_any (begin8 c h).1 (begin8 c h).2 v1 v2 w.heap.size W
  rw [begin_cells,begin_words] at D
  generalize done (begin8 c h).1 (begin8 c h).2=x at *
  generalize (begin8 c h).1=cb at *
  generalize (begin8 c h).2=hb at *
  replace K:=Lib.hid K
  replace D:=Lib.hid D
  clear h1 h2 z1 z2 e k1 k2 n1 n2
  go_enter Tryz.func21,Tryz.ntmps21
  go_wp2_with fail;refine bHit w (by exact zB) fun bb=>?_;refine (l6Ok_any c h 16 22 2 a b p q _ ((H1.out.below bb).more bb.size) ((H2.out.below bb).more bb.size)).mono ?_;rintro _ w1 ⟨rfl,hbw1⟩;have hCw1:Below w.heap.size w w1:=bT bb hbw1;have hsw1:=hbw1.size;(try simp at hsw1);have zz:=q4 hbw1 (b:=w.heap.size);(try simp [go_sem] at zz);(try clear z_wppp x_wppp f_wppp l_wppp);(try clear z_wpp x_wpp f_wpp l_wpp);(try clear z_wp x_wp f_wp l_wp);(try clear z_w x_w f_w l_w);obtain ⟨z_wppp,z_wpp,z_wp,z_w⟩:=zz;obtain ⟨x_wppp,f_wppp,l_wppp⟩:=bO z_wppp;obtain ⟨x_wpp,f_wpp,l_wpp⟩:=bO z_wpp;obtain ⟨x_wp,f_wp,l_wp⟩:=bO z_wp;obtain ⟨x_w,f_w,l_w⟩:=bO z_w;clear hbw1 bb
  rw [hk]
  go_wp2_with fail;refine bHit w (by exact zB) fun bb=>?_;refine (wCopy_any c a b p q _ ((H1.out.below bb).more bb.size) Z1.out ((H2.out.below bb).more bb.size) Z2.out m1 m2).mono ?_;rintro _ w2 ⟨⟨v1,v2,rfl,o1,o2⟩,hbw2⟩;have hCw2:Below w.heap.size w w2:=bT bb hbw2;have hsw2:=hbw2.size;(try simp at hsw2);have zz:=q4 hbw2 (b:=w.heap.size);(first|simp [go_sem,z_wppp,z_wpp,z_wp,z_w,l_w,l_wp,l_wpp,l_wppp] at zz|simp [go_sem] at zz|skip);(try clear z_wppp x_wppp f_wppp l_wppp);(try clear z_wpp x_wpp f_wpp l_wpp);(try clear z_wp x_wp f_wp l_wp);(try clear z_w x_w f_w l_w);obtain ⟨z_wppp,z_wpp,z_wp,z_w⟩:=zz;obtain ⟨x_wppp,f_wppp,l_wppp⟩:=bO z_wppp;obtain ⟨x_wpp,f_wpp,l_wpp⟩:=bO z_wpp;obtain ⟨x_wp,f_wp,l_wp⟩:=bO z_wp;obtain ⟨x_w,f_w,l_w⟩:=bO z_w;clear hbw2 bb
  have d1:∀ j,v1.ownBlock=some j→w.heap.size+1+1+1+1≤j:=fun j hj=>by have:=(o1.lt j hj).1;omega
  have d2:∀ j,v2.ownBlock=some j→w.heap.size+1+1+1+1≤j:=fun j hj=>by have:=(o2.lt j hj).1;omega
  have p1:=own_lo (lo':=w.heap.size) o1 (by omega)
  have p2:=own_lo (lo':=w.heap.size) o2 (by omega)
  obtain ⟨a1,q1,rfl,_⟩:=o1.seg
  obtain ⟨a2,q2,rfl,_⟩:=o2.seg
  have k0:w.heap.size<w2.heap.size:=by omega
  have k1:w.heap.size+1<w2.heap.size:=by omega
  have k2:w.heap.size+1+1<w2.heap.size:=by omega
  have k3:w.heap.size+1+1+1<w2.heap.size:=by omega
  go_wp2_with fail;refine bHit w (by exact zB) fun bb=>?_;refine bHit w2 (by exact zB) fun bk=>?_;refine (K.out _ _ _ _ _ _ _).mono ?_;rintro _ w4 ⟨rfl,hbw4⟩;have hCw4:Below w.heap.size w w4:=bT bb hbw4;have hsw4:=hbw4.size;(try simp at hsw4);have zz:=And.intro (hQ hbw4 (b:=w2.heap.size)) <| And.intro (hQ hbw4 (b:=w.heap.size+1+1+1)) <| And.intro (hQ hbw4 (b:=w.heap.size+1+1)) <| And.intro (hQ hbw4 (b:=w.heap.size+1)) <| hQ hbw4 (b:=w.heap.size);(first|simp [go_sem,z_wppp,z_wpp,z_wp,z_w,l_w,l_wp,l_wpp,l_wppp,k0,k1,k2,k3] at zz|simp [go_sem] at zz|skip);(try clear z_w2 x_w2 f_w2 l_w2);(try clear z_wppp x_wppp f_wppp l_wppp);(try clear z_wpp x_wpp f_wpp l_wpp);(try clear z_wp x_wp f_wp l_wp);(try clear z_w x_w f_w l_w);obtain ⟨z_w2,z_wppp,z_wpp,z_wp,z_w⟩:=zz;obtain ⟨x_w2,f_w2,l_w2⟩:=bO z_w2;obtain ⟨x_wppp,f_wppp,l_wppp⟩:=bO z_wppp;obtain ⟨x_wpp,f_wpp,l_wpp⟩:=bO z_wpp;obtain ⟨x_wp,f_wp,l_wp⟩:=bO z_wp;obtain ⟨x_w,f_w,l_w⟩:=bO z_w;have hKw4:Below w2.heap.size w2 w4:=bT bk hbw4;clear hbw4 bb bk
  have s1:=own_below p1 hKw4
  have s2:=own_below p2 hKw4
  go_wp2_with fail;refine bHit w (by exact zB) fun bb=>?_;refine (D.out _ _ _ (by exact zO s1 o1) (by exact zO s2 o2)).mono ?_;rintro _ w3 ⟨⟨y1,y2,rfl,oY1,oY2,fY1,fY2⟩,hbw3⟩;have hCw3:Below w.heap.size w w3:=bT bb hbw3;have hsw3:=hbw3.size;(try simp at hsw3);have zz:=q4 hbw3 (b:=w.heap.size);(first|simp [go_sem,z_wppp,z_wpp,z_wp,z_w,l_w,l_wp,l_wpp,l_wppp,k0,k1,k2,k3] at zz|simp [go_sem] at zz|skip);(try clear z_wppp x_wppp f_wppp l_wppp);(try clear z_wpp x_wpp f_wpp l_wpp);(try clear z_wp x_wp f_wp l_wp);(try clear z_w x_w f_w l_w);obtain ⟨z_wppp,z_wpp,z_wp,z_w⟩:=zz;obtain ⟨x_wppp,f_wppp,l_wppp⟩:=bO z_wppp;obtain ⟨x_wpp,f_wpp,l_wpp⟩:=bO z_wpp;obtain ⟨x_wp,f_wp,l_wp⟩:=bO z_wp;obtain ⟨x_w,f_w,l_w⟩:=bO z_w;clear hbw3 bb
  have hoff1:∀ j,w.heap.size≤j→j<w.heap.size+1+1+1+1→y1.ownBlock≠some j:=fun j _ h2=>fY1.off2 d1 h2 (by (try simp) <;> omega);have hoff2:∀ j,w.heap.size≤j→j<w.heap.size+1+1+1+1→y2.ownBlock≠some j:=fun j _ h2=>fY2.off2 d2 h2 (by (try simp) <;> omega);have fr1:Fresh w (.slice none 0 0) y1:=fun j hj=>.inr (fY1.up d1 (by (try simp) <;> omega) (by (try simp) <;> omega) j hj);have fr2:Fresh w (.slice none 0 0) y2:=fun j hj=>.inr (fY2.up d2 (by (try simp) <;> omega) (by (try simp) <;> omega) j hj);obtain ⟨ya,yp,rfl,_⟩:=oY1.seg;obtain ⟨yb,yq,rfl,_⟩:=oY2.seg
  go_wp2
  refine bodyPost_ret (res_cct Tryz.results21 rfl (ldChan x.1 (.slice ya x.1.cells.length yp) (.slice yb x.1.words.length yq) (by simp [go_sem, *])) rfl (ldHand x.2.1 (by simp [go_sem, *]))) rfl ⟨⟨_,_,rfl,?_,?_,fr1,fr2⟩,by exact zB⟩
  · exact zP oY1 oY1 hoff1
  · exact zP oY2 oY2 hoff2
set_option maxRecDepth 100000 in
set_option maxHeartbeats 2000000 in
theorem sGrow_19 (c:Ch) (h:Ha) (a b:Option Addr) (p q:Nat) (w:World) (h1:Seg w w.heap.size a c.cells.length 3 (cellF c.cells)) (z1:a=none→p=0) (h2:Seg w w.heap.size b c.words.length 1 (intF c.words)) (z2:b=none→q=0) (hk:stepOk c h 16 22 2=true) (hp0:h.pos=19) :
    Calls Tryz.prog 21 #[.agg (cvals c (.slice a c.cells.length p) (.slice b c.words.length q)),.agg (hvals h)] w fun r w'=>StepN w w' (growStep c h) r:=by
  obtain ⟨k1,k2,_,_⟩:=stepOk_yes hk
  obtain ⟨n1,n2⟩:=chan_40 k1
  have m1:c.cells.length≤1099511627776:=by omega
  have m2:c.words.length≤1099511627776:=by omega
  have H1:=Lib.hid h1
  have H2:=Lib.hid h2
  have Z1:=Lib.hid z1
  have Z2:=Lib.hid z2
  obtain ⟨c1,c2⟩:=hand_grow k2
  have e:growStep c h=pull8 c h:=by simp [growStep,hk,hp0]
  rw [e]
  have D:=Lib.hid fun v1 v2 W x1 x2=>l8Pull_any c h v1 v2 w.heap.size W x1 x2 c1 (by omega)
  generalize pull8 c h=x at *
  clear h1 h2 z1 z2 e k1 k2 n1 n2 c1 c2
  go_enter Tryz.func21,Tryz.ntmps21
  go_wp2_with fail;refine bHit w (by exact zB) fun bb=>?_;refine (l6Ok_any c h 16 22 2 a b p q _ ((H1.out.below bb).more bb.size) ((H2.out.below bb).more bb.size)).mono ?_;rintro _ w1 ⟨rfl,hbw1⟩;have hCw1:Below w.heap.size w w1:=bT bb hbw1;have hsw1:=hbw1.size;(try simp at hsw1);have zz:=q4 hbw1 (b:=w.heap.size);(try simp [go_sem] at zz);(try clear z_wppp x_wppp f_wppp l_wppp);(try clear z_wpp x_wpp f_wpp l_wpp);(try clear z_wp x_wp f_wp l_wp);(try clear z_w x_w f_w l_w);obtain ⟨z_wppp,z_wpp,z_wp,z_w⟩:=zz;obtain ⟨x_wppp,f_wppp,l_wppp⟩:=bO z_wppp;obtain ⟨x_wpp,f_wpp,l_wpp⟩:=bO z_wpp;obtain ⟨x_wp,f_wp,l_wp⟩:=bO z_wp;obtain ⟨x_w,f_w,l_w⟩:=bO z_w;clear hbw1 bb
  rw [hk]
  go_wp2_with fail;refine bHit w (by exact zB) fun bb=>?_;refine (wCopy_any c a b p q _ ((H1.out.below bb).more bb.size) Z1.out ((H2.out.below bb).more bb.size) Z2.out m1 m2).mono ?_;rintro _ w2 ⟨⟨v1,v2,rfl,o1,o2⟩,hbw2⟩;have hCw2:Below w.heap.size w w2:=bT bb hbw2;have hsw2:=hbw2.size;(try simp at hsw2);have zz:=q4 hbw2 (b:=w.heap.size);(first|simp [go_sem,z_wppp,z_wpp,z_wp,z_w,l_w,l_wp,l_wpp,l_wppp] at zz|simp [go_sem] at zz|skip);(try clear z_wppp x_wppp f_wppp l_wppp);(try clear z_wpp x_wpp f_wpp l_wpp);(try clear z_wp x_wp f_wp l_wp);(try clear z_w x_w f_w l_w);obtain ⟨z_wppp,z_wpp,z_wp,z_w⟩:=zz;obtain ⟨x_wppp,f_wppp,l_wppp⟩:=bO z_wppp;obtain ⟨x_wpp,f_wpp,l_wpp⟩:=bO z_wpp;obtain ⟨x_wp,f_wp,l_wp⟩:=bO z_wp;obtain ⟨x_w,f_w,l_w⟩:=bO z_w;clear hbw2 bb
  have d1:∀ j,v1.ownBlock=some j→w.heap.size+1+1+1+1≤j:=fun j hj=>by have:=(o1.lt j hj).1;omega
  have d2:∀ j,v2.ownBlock=some j→w.heap.size+1+1+1+1≤j:=fun j hj=>by have:=(o2.lt j hj).1;omega
  have p1:=own_lo (lo':=w.heap.size) o1 (by omega)
  have p2:=own_lo (lo':=w.heap.size) o2 (by omega)
  obtain ⟨a1,q1,rfl,_⟩:=o1.seg
  obtain ⟨a2,q2,rfl,_⟩:=o2.seg
  have m3:∀ j,j<w.heap.size+1+1+1+1→some j≠(Value.slice a1 c.cells.length q1).ownBlock:=fun j hj e=>by have:=d1 _ e.symm;omega
  have m4:∀ j,j<w.heap.size+1+1+1+1→some j≠(Value.slice a2 c.words.length q2).ownBlock:=fun j hj e=>by have:=d2 _ e.symm;omega
  have m10:=m3 (w.heap.size) (by omega)
  have m20:=m4 (w.heap.size) (by omega)
  have m11:=m3 (w.heap.size+1) (by omega)
  have m21:=m4 (w.heap.size+1) (by omega)
  have m12:=m3 (w.heap.size+1+1) (by omega)
  have m22:=m4 (w.heap.size+1+1) (by omega)
  have m13:=m3 (w.heap.size+1+1+1) (by omega)
  have m23:=m4 (w.heap.size+1+1+1) (by omega)
  go_wp2_with fail
  refine (D.out _ _ _ (by exact zO p1 o1) (by exact zO p2 o2)).mono ?_
  rintro _ w3 ⟨⟨y1,y2,rfl,oY1,oY2,fY1,fY2⟩,hO⟩
  have hB3:Below w.heap.size w w3:=bOnl (by exact zB) hO (fun j hj=>by have:=d1 j hj;omega) (fun j hj=>by have:=d2 j hj;omega)
  have hsw3:=hO.2.2.2.1;(try (simp at hsw3));have zz:=And.intro (onlHp hO (i:=w.heap.size+1+1+1) (by (try simp) <;> omega) (by assumption) (by assumption)) <| And.intro (onlHp hO (i:=w.heap.size+1+1) (by (try simp) <;> omega) (by assumption) (by assumption)) <| And.intro (onlHp hO (i:=w.heap.size+1) (by (try simp) <;> omega) (by assumption) (by assumption)) <| onlHp hO (i:=w.heap.size) (by (try simp) <;> omega) (by assumption) (by assumption);(first|simp [go_sem,z_wppp,z_wpp,z_wp,z_w,l_w,l_wp,l_wpp,l_wppp] at zz|simp [go_sem] at zz|skip);(try clear z_wppp x_wppp f_wppp l_wppp);(try clear z_wpp x_wpp f_wpp l_wpp);(try clear z_wp x_wp f_wp l_wp);(try clear z_w x_w f_w l_w);obtain ⟨z_wppp,z_wpp,z_wp,z_w⟩:=zz;obtain ⟨x_wppp,f_wppp,l_wppp⟩:=bO z_wppp;obtain ⟨x_wpp,f_wpp,l_wpp⟩:=bO z_wpp;obtain ⟨x_wp,f_wp,l_wp⟩:=bO z_wp;obtain ⟨x_w,f_w,l_w⟩:=bO z_w
  clear hO
  have hoff1:∀ j,w.heap.size≤j→j<w.heap.size+1+1+1+1→y1.ownBlock≠some j:=fun j _ h2=>fY1.off2 d1 h2 (by (try simp) <;> omega);have hoff2:∀ j,w.heap.size≤j→j<w.heap.size+1+1+1+1→y2.ownBlock≠some j:=fun j _ h2=>fY2.off2 d2 h2 (by (try simp) <;> omega);have fr1:Fresh w (.slice none 0 0) y1:=fun j hj=>.inr (fY1.up d1 (by (try simp) <;> omega) (by (try simp) <;> omega) j hj);have fr2:Fresh w (.slice none 0 0) y2:=fun j hj=>.inr (fY2.up d2 (by (try simp) <;> omega) (by (try simp) <;> omega) j hj);obtain ⟨ya,yp,rfl,_⟩:=oY1.seg;obtain ⟨yb,yq,rfl,_⟩:=oY2.seg
  go_wp2
  refine bodyPost_ret (res_cct Tryz.results21 rfl (ldChan x.1 (.slice ya x.1.cells.length yp) (.slice yb x.1.words.length yq) (by simp [go_sem, *])) rfl (ldHand x.2.1 (by simp [go_sem, *]))) rfl ⟨⟨_,_,rfl,?_,?_,fr1,fr2⟩,by exact zB⟩
  · exact zP oY1 oY1 hoff1
  · exact zP oY2 oY2 hoff2
theorem sGrowStep_any (c:Ch) (h:Ha) (a b:Option Addr) (p q:Nat) (w:World) (h1:Seg w w.heap.size a c.cells.length 3 (cellF c.cells)) (z1:a=none→p=0) (h2:Seg w w.heap.size b c.words.length 1 (intF c.words)) (z2:b=none→q=0) :
    Calls Tryz.prog 21 #[.agg (cvals c (.slice a c.cells.length p) (.slice b c.words.length q)),.agg (hvals h)] w fun r w'=>StepN w w' (growStep c h) r:=by
  cases hk:stepOk c h 16 22 2 with
  | false=>exact sGrow_no c h a b p q w h1 h2 hk
  | true =>
    obtain ⟨k1,_,k3,k4⟩:=stepOk_yes hk
    have hp:h.pos=16∨h.pos=17∨h.pos=18∨h.pos=19∨h.pos=20∨h.pos=21∨h.pos=22:=by omega
    rcases hp with hp|hp|hp|hp|hp|hp|hp
    · exact sGrow_16 c h a b p q w h1 z1 h2 z2 hk hp
    · by_cases hs:c.sent≤h.grow
      · exact sGrow_17a c h a b p q w h1 z1 h2 z2 hk hp hs
      · exact sGrow_17b c h a b p q w h1 z1 h2 z2 hk hp hs
    · by_cases hs:(cellAt c h.grow).s=5
      · exact sGrow_18a c h a b p q w h1 z1 h2 z2 hk hp hs
      · exact sGrow_18b c h a b p q w h1 z1 h2 z2 hk hp (by simpa using hs)
    · exact sGrow_19 c h a b p q w h1 z1 h2 z2 hk hp
    · cases ht:tellB c h.wait 1 with
      | true=>exact sGrow_20a c h a b p q w h1 z1 h2 z2 hk hp ht
      | false=>exact sGrow_20b c h a b p q w h1 z1 h2 z2 hk hp ht
    · exact sGrow_21 c h a b p q w h1 z1 h2 z2 hk hp
    · exact sGrow_22 c h a b p q w h1 z1 h2 z2 hk hp
end Go.Proofs.YthfbnjfppjmgfaaGreat
set_option linter.unusedSimpArgs false
set_option linter.unusedVariables false
namespace Go.Proofs.YthfbnjfppjmgfaaGreat
open Go.RowKit
set_option linter.unusedSimpArgs false
attribute [local simp] bx_size
attribute [local go_sem ↓] zeroHand zeroChan toLHand toLChan toVHand toVChan storeHand storeChan storeHandC storeChanC
set_option maxRecDepth 100000 in
set_option maxHeartbeats 2000000 in
theorem sStep_s (c:Ch) (h:Ha) (a b:Option Addr) (p q:Nat) (w:World) (h1:Seg w w.heap.size a c.cells.length 3 (cellF c.cells)) (z1:a=none→p=0) (h2:Seg w w.heap.size b c.words.length 1 (intF c.words)) (z2:b=none→q=0) (hp1:1≤h.pos) (hp2:h.pos≤8) :
    Calls Tryz.prog 12 #[.agg (cvals c (.slice a c.cells.length p) (.slice b c.words.length q)),.agg (hvals h)] w fun r w'=>StepN w w' (stepC c h) r:=by
  have e:stepC c h=sendStep c h:=by simp [stepC,inB,hp1,hp2]
  rw [e]
  have H1:=Lib.hid h1
  have H2:=Lib.hid h2
  have Z1:=Lib.hid z1
  have Z2:=Lib.hid z2
  have T:=Lib.hid fun W=>sSendStep_any c h a b p q W
  generalize sendStep c h=x at *
  clear h1 h2 z1 z2 e
  have d1:∀ j,(Value.slice none 0 0).ownBlock=some j→w.heap.size+1+1+1+1≤j:=fun j hj=>by cases hj
  have d2:=d1
  go_enter Tryz.func12,Tryz.ntmps12
  go_wp2_with fail;refine bHit w (by exact zB) fun bb=>?_;refine (T.out _ ((H1.out.below bb).more bb.size) Z1.out ((H2.out.below bb).more bb.size) Z2.out).mono ?_;rintro _ w2 ⟨⟨y1,y2,rfl,oY1,oY2,fY1,fY2⟩,hbw2⟩;have hCw2:Below w.heap.size w w2:=bT bb hbw2;have hsw2:=hbw2.size;(try simp at hsw2);have zz:=q4 hbw2 (b:=w.heap.size);(try simp [go_sem] at zz);(try clear z_wppp x_wppp f_wppp l_wppp);(try clear z_wpp x_wpp f_wpp l_wpp);(try clear z_wp x_wp f_wp l_wp);(try clear z_w x_w f_w l_w);obtain ⟨z_wppp,z_wpp,z_wp,z_w⟩:=zz;obtain ⟨x_wppp,f_wppp,l_wppp⟩:=bO z_wppp;obtain ⟨x_wpp,f_wpp,l_wpp⟩:=bO z_wpp;obtain ⟨x_wp,f_wp,l_wp⟩:=bO z_wp;obtain ⟨x_w,f_w,l_w⟩:=bO z_w;clear hbw2 bb
  replace oY1:OCells w2 w.heap.size y1 x.1.cells:=own_lo (lo':=w.heap.size) oY1 (by (try simp) <;> omega)
  replace oY2:OInts w2 w.heap.size y2 x.1.words:=own_lo (lo':=w.heap.size) oY2 (by (try simp) <;> omega)
  have hoff1:∀ j,w.heap.size≤j→j<w.heap.size+1+1+1+1→y1.ownBlock≠some j:=fun j _ h2=>fY1.off2 d1 h2 (by (try simp) <;> omega);have hoff2:∀ j,w.heap.size≤j→j<w.heap.size+1+1+1+1→y2.ownBlock≠some j:=fun j _ h2=>fY2.off2 d2 h2 (by (try simp) <;> omega);have fr1:Fresh w (.slice none 0 0) y1:=fun j hj=>.inr (fY1.up d1 (by (try simp) <;> omega) (by (try simp) <;> omega) j hj);have fr2:Fresh w (.slice none 0 0) y2:=fun j hj=>.inr (fY2.up d2 (by (try simp) <;> omega) (by (try simp) <;> omega) j hj);obtain ⟨ya,yp,rfl,_⟩:=oY1.seg;obtain ⟨yb,yq,rfl,_⟩:=oY2.seg
  go_wp2
  refine bodyPost_ret (res_cct Tryz.results12 rfl (ldChan x.1 (.slice ya x.1.cells.length yp) (.slice yb x.1.words.length yq) (by simp [go_sem, *])) rfl (ldHand x.2.1 (by simp [go_sem, *]))) rfl ⟨⟨_,_,rfl,?_,?_,fr1,fr2⟩,by exact zB⟩
  · exact zP oY1 oY1 hoff1
  · exact zP oY2 oY2 hoff2
set_option maxRecDepth 100000 in
set_option maxHeartbeats 2000000 in
theorem sStep_r (c:Ch) (h:Ha) (a b:Option Addr) (p q:Nat) (w:World) (h1:Seg w w.heap.size a c.cells.length 3 (cellF c.cells)) (z1:a=none→p=0) (h2:Seg w w.heap.size b c.words.length 1 (intF c.words)) (z2:b=none→q=0) (hp1:9≤h.pos) (hp2:h.pos≤15) :
    Calls Tryz.prog 12 #[.agg (cvals c (.slice a c.cells.length p) (.slice b c.words.length q)),.agg (hvals h)] w fun r w'=>StepN w w' (stepC c h) r:=by
  have e:stepC c h=recvStep c h:=by rw [stepC,if_neg (by simp [inB];omega),if_pos (by simp [inB];omega)]
  rw [e]
  have l1:1≤h.pos:=by omega
  have u8:¬ h.pos≤8:=by omega
  have H1:=Lib.hid h1
  have H2:=Lib.hid h2
  have Z1:=Lib.hid z1
  have Z2:=Lib.hid z2
  have T:=Lib.hid fun W=>sRecvStep_any c h a b p q W
  generalize recvStep c h=x at *
  clear h1 h2 z1 z2 e
  have d1:∀ j,(Value.slice none 0 0).ownBlock=some j→w.heap.size+1+1+1+1≤j:=fun j hj=>by cases hj
  have d2:=d1
  go_enter Tryz.func12,Tryz.ntmps12
  go_wp2_with fail;refine bHit w (by exact zB) fun bb=>?_;refine (T.out _ ((H1.out.below bb).more bb.size) Z1.out ((H2.out.below bb).more bb.size) Z2.out).mono ?_;rintro _ w2 ⟨⟨y1,y2,rfl,oY1,oY2,fY1,fY2⟩,hbw2⟩;have hCw2:Below w.heap.size w w2:=bT bb hbw2;have hsw2:=hbw2.size;(try simp at hsw2);have zz:=q4 hbw2 (b:=w.heap.size);(try simp [go_sem] at zz);(try clear z_wppp x_wppp f_wppp l_wppp);(try clear z_wpp x_wpp f_wpp l_wpp);(try clear z_wp x_wp f_wp l_wp);(try clear z_w x_w f_w l_w);obtain ⟨z_wppp,z_wpp,z_wp,z_w⟩:=zz;obtain ⟨x_wppp,f_wppp,l_wppp⟩:=bO z_wppp;obtain ⟨x_wpp,f_wpp,l_wpp⟩:=bO z_wpp;obtain ⟨x_wp,f_wp,l_wp⟩:=bO z_wp;obtain ⟨x_w,f_w,l_w⟩:=bO z_w;clear hbw2 bb
  replace oY1:OCells w2 w.heap.size y1 x.1.cells:=own_lo (lo':=w.heap.size) oY1 (by (try simp) <;> omega)
  replace oY2:OInts w2 w.heap.size y2 x.1.words:=own_lo (lo':=w.heap.size) oY2 (by (try simp) <;> omega)
  have hoff1:∀ j,w.heap.size≤j→j<w.heap.size+1+1+1+1→y1.ownBlock≠some j:=fun j _ h2=>fY1.off2 d1 h2 (by (try simp) <;> omega);have hoff2:∀ j,w.heap.size≤j→j<w.heap.size+1+1+1+1→y2.ownBlock≠some j:=fun j _ h2=>fY2.off2 d2 h2 (by (try simp) <;> omega);have fr1:Fresh w (.slice none 0 0) y1:=fun j hj=>.inr (fY1.up d1 (by (try simp) <;> omega) (by (try simp) <;> omega) j hj);have fr2:Fresh w (.slice none 0 0) y2:=fun j hj=>.inr (fY2.up d2 (by (try simp) <;> omega) (by (try simp) <;> omega) j hj);obtain ⟨ya,yp,rfl,_⟩:=oY1.seg;obtain ⟨yb,yq,rfl,_⟩:=oY2.seg
  go_wp2
  refine bodyPost_ret (res_cct Tryz.results12 rfl (ldChan x.1 (.slice ya x.1.cells.length yp) (.slice yb x.1.words.length yq) (by simp [go_sem, *])) rfl (ldHand x.2.1 (by simp [go_sem, *]))) rfl ⟨⟨_,_,rfl,?_,?_,fr1,fr2⟩,by exact zB⟩
  · exact zP oY1 oY1 hoff1
  · exact zP oY2 oY2 hoff2
set_option maxRecDepth 100000 in
set_option maxHeartbeats 2000000 in
theorem sStep_g (c:Ch) (h:Ha) (a b:Option Addr) (p q:Nat) (w:World) (h1:Seg w w.heap.size a c.cells.length 3 (cellF c.cells)) (z1:a=none→p=0) (h2:Seg w w.heap.size b c.words.length 1 (intF c.words)) (z2:b=none→q=0) (hp1:16≤h.pos) (hp2:h.pos≤22) :
    Calls Tryz.prog 12 #[.agg (cvals c (.slice a c.cells.length p) (.slice b c.words.length q)),.agg (hvals h)] w fun r w'=>StepN w w' (stepC c h) r:=by
  have e:stepC c h=growStep c h:=by rw [stepC,if_neg (by simp [inB];omega),if_neg (by simp [inB];omega),if_pos (by simp [inB];omega)]
  rw [e]
  have l1:1≤h.pos:=by omega
  have l9:9≤h.pos:=by omega
  have u8:¬ h.pos≤8:=by omega
  have u15:¬ h.pos≤15:=by omega
  have H1:=Lib.hid h1
  have H2:=Lib.hid h2
  have Z1:=Lib.hid z1
  have Z2:=Lib.hid z2
  have T:=Lib.hid fun W=>sGrowStep_any c h a b p q W
  generalize growStep c h=x at *
  clear h1 h2 z1 z2 e
  have d1:∀ j,(Value.slice none 0 0).ownBlock=some j→w.heap.size+1+1+1+1≤j:=fun j hj=>by cases hj
  have d2:=d1
  go_enter Tryz.func12,Tryz.ntmps12
  go_wp2_with fail;refine bHit w (by exact zB) fun bb=>?_;refine (T.out _ ((H1.out.below bb).more bb.size) Z1.out ((H2.out.below bb).more bb.size) Z2.out).mono ?_;rintro _ w2 ⟨⟨y1,y2,rfl,oY1,oY2,fY1,fY2⟩,hbw2⟩;have hCw2:Below w.heap.size w w2:=bT bb hbw2;have hsw2:=hbw2.size;(try simp at hsw2);have zz:=q4 hbw2 (b:=w.heap.size);(try simp [go_sem] at zz);(try clear z_wppp x_wppp f_wppp l_wppp);(try clear z_wpp x_wpp f_wpp l_wpp);(try clear z_wp x_wp f_wp l_wp);(try clear z_w x_w f_w l_w);obtain ⟨z_wppp,z_wpp,z_wp,z_w⟩:=zz;obtain ⟨x_wppp,f_wppp,l_wppp⟩:=bO z_wppp;obtain ⟨x_wpp,f_wpp,l_wpp⟩:=bO z_wpp;obtain ⟨x_wp,f_wp,l_wp⟩:=bO z_wp;obtain ⟨x_w,f_w,l_w⟩:=bO z_w;clear hbw2 bb
  replace oY1:OCells w2 w.heap.size y1 x.1.cells:=own_lo (lo':=w.heap.size) oY1 (by (try simp) <;> omega)
  replace oY2:OInts w2 w.heap.size y2 x.1.words:=own_lo (lo':=w.heap.size) oY2 (by (try simp) <;> omega)
  have hoff1:∀ j,w.heap.size≤j→j<w.heap.size+1+1+1+1→y1.ownBlock≠some j:=fun j _ h2=>fY1.off2 d1 h2 (by (try simp) <;> omega);have hoff2:∀ j,w.heap.size≤j→j<w.heap.size+1+1+1+1→y2.ownBlock≠some j:=fun j _ h2=>fY2.off2 d2 h2 (by (try simp) <;> omega);have fr1:Fresh w (.slice none 0 0) y1:=fun j hj=>.inr (fY1.up d1 (by (try simp) <;> omega) (by (try simp) <;> omega) j hj);have fr2:Fresh w (.slice none 0 0) y2:=fun j hj=>.inr (fY2.up d2 (by (try simp) <;> omega) (by (try simp) <;> omega) j hj);obtain ⟨ya,yp,rfl,_⟩:=oY1.seg;obtain ⟨yb,yq,rfl,_⟩:=oY2.seg
  go_wp2
  refine bodyPost_ret (res_cct Tryz.results12 rfl (ldChan x.1 (.slice ya x.1.cells.length yp) (.slice yb x.1.words.length yq) (by simp [go_sem, *])) rfl (ldHand x.2.1 (by simp [go_sem, *]))) rfl ⟨⟨_,_,rfl,?_,?_,fr1,fr2⟩,by exact zB⟩
  · exact zP oY1 oY1 hoff1
  · exact zP oY2 oY2 hoff2
set_option maxRecDepth 100000 in
set_option maxHeartbeats 2000000 in
theorem sStep_p (c:Ch) (h:Ha) (a b:Option Addr) (p q:Nat) (w:World) (h1:Seg w w.heap.size a c.cells.length 3 (cellF c.cells)) (z1:a=none→p=0) (h2:Seg w w.heap.size b c.words.length 1 (intF c.words)) (z2:b=none→q=0) (hp1:23≤h.pos) :
    Calls Tryz.prog 12 #[.agg (cvals c (.slice a c.cells.length p) (.slice b c.words.length q)),.agg (hvals h)] w fun r w'=>StepN w w' (stepC c h) r:=by
  have e:stepC c h=parkStep c h:=by rw [stepC,if_neg (by simp [inB];omega),if_neg (by simp [inB];omega),if_neg (by simp [inB];omega)]
  rw [e]
  have l1:1≤h.pos:=by omega
  have l9:9≤h.pos:=by omega
  have l16:16≤h.pos:=by omega
  have u8:¬ h.pos≤8:=by omega
  have u15:¬ h.pos≤15:=by omega
  have u22:¬ h.pos≤22:=by omega
  have H1:=Lib.hid h1
  have H2:=Lib.hid h2
  have Z1:=Lib.hid z1
  have Z2:=Lib.hid z2
  have T:=Lib.hid fun W=>sParkStep_any c h a b p q W
  generalize parkStep c h=x at *
  clear h1 h2 z1 z2 e
  have d1:∀ j,(Value.slice none 0 0).ownBlock=some j→w.heap.size+1+1+1+1≤j:=fun j hj=>by cases hj
  have d2:=d1
  go_enter Tryz.func12,Tryz.ntmps12
  go_wp2_with fail;refine bHit w (by exact zB) fun bb=>?_;refine (T.out _ ((H1.out.below bb).more bb.size) Z1.out ((H2.out.below bb).more bb.size) Z2.out).mono ?_;rintro _ w2 ⟨⟨y1,y2,rfl,oY1,oY2,fY1,fY2⟩,hbw2⟩;have hCw2:Below w.heap.size w w2:=bT bb hbw2;have hsw2:=hbw2.size;(try simp at hsw2);have zz:=q4 hbw2 (b:=w.heap.size);(try simp [go_sem] at zz);(try clear z_wppp x_wppp f_wppp l_wppp);(try clear z_wpp x_wpp f_wpp l_wpp);(try clear z_wp x_wp f_wp l_wp);(try clear z_w x_w f_w l_w);obtain ⟨z_wppp,z_wpp,z_wp,z_w⟩:=zz;obtain ⟨x_wppp,f_wppp,l_wppp⟩:=bO z_wppp;obtain ⟨x_wpp,f_wpp,l_wpp⟩:=bO z_wpp;obtain ⟨x_wp,f_wp,l_wp⟩:=bO z_wp;obtain ⟨x_w,f_w,l_w⟩:=bO z_w;clear hbw2 bb
  replace oY1:OCells w2 w.heap.size y1 x.1.cells:=own_lo (lo':=w.heap.size) oY1 (by (try simp) <;> omega)
  replace oY2:OInts w2 w.heap.size y2 x.1.words:=own_lo (lo':=w.heap.size) oY2 (by (try simp) <;> omega)
  have hoff1:∀ j,w.heap.size≤j→j<w.heap.size+1+1+1+1→y1.ownBlock≠some j:=fun j _ h2=>fY1.off2 d1 h2 (by (try simp) <;> omega);have hoff2:∀ j,w.heap.size≤j→j<w.heap.size+1+1+1+1→y2.ownBlock≠some j:=fun j _ h2=>fY2.off2 d2 h2 (by (try simp) <;> omega);have fr1:Fresh w (.slice none 0 0) y1:=fun j hj=>.inr (fY1.up d1 (by (try simp) <;> omega) (by (try simp) <;> omega) j hj);have fr2:Fresh w (.slice none 0 0) y2:=fun j hj=>.inr (fY2.up d2 (by (try simp) <;> omega) (by (try simp) <;> omega) j hj);obtain ⟨ya,yp,rfl,_⟩:=oY1.seg;obtain ⟨yb,yq,rfl,_⟩:=oY2.seg
  go_wp2
  refine bodyPost_ret (res_cct Tryz.results12 rfl (ldChan x.1 (.slice ya x.1.cells.length yp) (.slice yb x.1.words.length yq) (by simp [go_sem, *])) rfl (ldHand x.2.1 (by simp [go_sem, *]))) rfl ⟨⟨_,_,rfl,?_,?_,fr1,fr2⟩,by exact zB⟩
  · exact zP oY1 oY1 hoff1
  · exact zP oY2 oY2 hoff2
set_option maxRecDepth 100000 in
set_option maxHeartbeats 2000000 in
theorem sStep_n (c:Ch) (h:Ha) (a b:Option Addr) (p q:Nat) (w:World) (h1:Seg w w.heap.size a c.cells.length 3 (cellF c.cells)) (z1:a=none→p=0) (h2:Seg w w.heap.size b c.words.length 1 (intF c.words)) (z2:b=none→q=0) (hp1:h.pos≤0) :
    Calls Tryz.prog 12 #[.agg (cvals c (.slice a c.cells.length p) (.slice b c.words.length q)),.agg (hvals h)] w fun r w'=>StepN w w' (stepC c h) r:=by
  have e:stepC c h=parkStep c h:=by rw [stepC,if_neg (by simp [inB];omega),if_neg (by simp [inB];omega),if_neg (by simp [inB];omega)]
  rw [e]
  have l1:¬ 1≤h.pos:=by omega
  have l9:¬ 9≤h.pos:=by omega
  have l16:¬ 16≤h.pos:=by omega
  have H1:=Lib.hid h1
  have H2:=Lib.hid h2
  have Z1:=Lib.hid z1
  have Z2:=Lib.hid z2
  have T:=Lib.hid fun W=>sParkStep_any c h a b p q W
  generalize parkStep c h=x at *
  clear h1 h2 z1 z2 e
  have d1:∀ j,(Value.slice none 0 0).ownBlock=some j→w.heap.size+1+1+1+1≤j:=fun j hj=>by cases hj
  have d2:=d1
  go_enter Tryz.func12,Tryz.ntmps12
  go_wp2_with fail;refine bHit w (by exact zB) fun bb=>?_;refine (T.out _ ((H1.out.below bb).more bb.size) Z1.out ((H2.out.below bb).more bb.size) Z2.out).mono ?_;rintro _ w2 ⟨⟨y1,y2,rfl,oY1,oY2,fY1,fY2⟩,hbw2⟩;have hCw2:Below w.heap.size w w2:=bT bb hbw2;have hsw2:=hbw2.size;(try simp at hsw2);have zz:=q4 hbw2 (b:=w.heap.size);(try simp [go_sem] at zz);(try clear z_wppp x_wppp f_wppp l_wppp);(try clear z_wpp x_wpp f_wpp l_wpp);(try clear z_wp x_wp f_wp l_wp);(try clear z_w x_w f_w l_w);obtain ⟨z_wppp,z_wpp,z_wp,z_w⟩:=zz;obtain ⟨x_wppp,f_wppp,l_wppp⟩:=bO z_wppp;obtain ⟨x_wpp,f_wpp,l_wpp⟩:=bO z_wpp;obtain ⟨x_wp,f_wp,l_wp⟩:=bO z_wp;obtain ⟨x_w,f_w,l_w⟩:=bO z_w;clear hbw2 bb
  replace oY1:OCells w2 w.heap.size y1 x.1.cells:=own_lo (lo':=w.heap.size) oY1 (by (try simp) <;> omega)
  replace oY2:OInts w2 w.heap.size y2 x.1.words:=own_lo (lo':=w.heap.size) oY2 (by (try simp) <;> omega)
  have hoff1:∀ j,w.heap.size≤j→j<w.heap.size+1+1+1+1→y1.ownBlock≠some j:=fun j _ h2=>fY1.off2 d1 h2 (by (try simp) <;> omega);have hoff2:∀ j,w.heap.size≤j→j<w.heap.size+1+1+1+1→y2.ownBlock≠some j:=fun j _ h2=>fY2.off2 d2 h2 (by (try simp) <;> omega);have fr1:Fresh w (.slice none 0 0) y1:=fun j hj=>.inr (fY1.up d1 (by (try simp) <;> omega) (by (try simp) <;> omega) j hj);have fr2:Fresh w (.slice none 0 0) y2:=fun j hj=>.inr (fY2.up d2 (by (try simp) <;> omega) (by (try simp) <;> omega) j hj);obtain ⟨ya,yp,rfl,_⟩:=oY1.seg;obtain ⟨yb,yq,rfl,_⟩:=oY2.seg
  go_wp2
  refine bodyPost_ret (res_cct Tryz.results12 rfl (ldChan x.1 (.slice ya x.1.cells.length yp) (.slice yb x.1.words.length yq) (by simp [go_sem, *])) rfl (ldHand x.2.1 (by simp [go_sem, *]))) rfl ⟨⟨_,_,rfl,?_,?_,fr1,fr2⟩,by exact zB⟩
  · exact zP oY1 oY1 hoff1
  · exact zP oY2 oY2 hoff2
theorem sStep_any (c:Ch) (h:Ha) (a b:Option Addr) (p q:Nat) (w:World) (h1:Seg w w.heap.size a c.cells.length 3 (cellF c.cells)) (z1:a=none→p=0) (h2:Seg w w.heap.size b c.words.length 1 (intF c.words)) (z2:b=none→q=0) :
    Calls Tryz.prog 12 #[.agg (cvals c (.slice a c.cells.length p) (.slice b c.words.length q)),.agg (hvals h)] w fun r w'=>StepN w w' (stepC c h) r:=by
  have hp:h.pos≤0∨(1≤h.pos∧h.pos≤8)∨(9≤h.pos∧h.pos≤15)∨(16≤h.pos∧h.pos≤22)∨23≤h.pos:=by omega
  rcases hp with hp|⟨hp,hq⟩|⟨hp,hq⟩|⟨hp,hq⟩|hp
  · exact sStep_n c h a b p q w h1 z1 h2 z2 hp
  · exact sStep_s c h a b p q w h1 z1 h2 z2 hp hq
  · exact sStep_r c h a b p q w h1 z1 h2 z2 hp hq
  · exact sStep_g c h a b p q w h1 z1 h2 z2 hp hq
  · exact sStep_p c h a b p q w h1 z1 h2 z2 hp
end Go.Proofs.YthfbnjfppjmgfaaGreat
set_option linter.unusedSimpArgs false
set_option linter.unusedVariables false
namespace Go.Proofs.YthfbnjfppjmgfaaGreat
open Go.RowKit
def upd {α:Type} (f:Nat→α) (k:Nat) (v:α):Nat→α:=fun j=>cond (Nat.beq j k) v (f j)
theorem upd_at {α:Type} (f:Nat→α) (k j:Nat) (v:α):upd f k v j=if j=k then v else f j:=by
  unfold upd
  by_cases h:j=k
  · subst h;simp
  · have:Nat.beq j k=false:=by cases hb:Nat.beq j k with
      | false=>rfl
      | true=>exact absurd (Nat.eq_of_beq_eq_true hb) h
    simp [this,h]
theorem nU {b:Bool} {P:Prop} (e:b=false) (h:b=true):P:=by rw [e] at h;cases h
def fillA (t:Array Value):List Nat→(Nat→Value)→Array Value
  | [],_=>t
  | d :: ds,s=>(fillA t ds s).setIfInBounds d (s d)
def fill (a:Act) (ds:List Nat) (s:Nat→Value):Act:=⟨fillA a.tmps ds s,a.defers⟩
theorem fillA_size (t:Array Value) (ds:List Nat) (s:Nat→Value):(fillA t ds s).size=t.size:=by
  induction ds with
  | nil=>rfl
  | cons d ds ih=>simp [fillA,ih]
theorem fillA_get (t:Array Value) (ds:List Nat) (s:Nat→Value) (k:Nat):(fillA t ds s)[k]?=if k ∈ ds then (t[k]?).map (fun _=>s k) else t[k]?:=by
  induction ds with
  | nil=>simp [fillA]
  | cons d ds ih =>
    simp only [fillA,Array.getElem?_setIfInBounds,fillA_size]
    by_cases h:d=k
    · subst h
      by_cases hl:d<t.size
      · simp [hl]
      · simp [hl]
    · have h2:¬ k=d:=fun e=>h e.symm
      simp only [h,if_false,List.mem_cons,h2,false_or]
      exact ih
theorem fill_self (a:Act) (ds:List Nat):fill a ds (fun k=>a.tmps.getD k undef)=a:=by
  unfold fill
  have:fillA a.tmps ds (fun k=>a.tmps.getD k undef)=a.tmps:=by
    apply Array.ext_getElem?
    intro k
    rw [fillA_get]
    by_cases hl:k<a.tmps.size
    · simp [hl]
    · simp [hl]
  rw [this]
/-- How many have not come up yet. -/
def left (l:Nat→Bool):Nat→Nat
  | 0=>0
  | n+1=>left l n+cond (l n) 0 1
theorem left_far (l:Nat→Bool) (i n:Nat) (h:n≤i):left (upd l i true) n=left l n:=by
  induction n with
  | zero=>rfl
  | succ n ih =>
    have:upd l i true n=l n:=by rw [upd_at,if_neg (by omega)]
    simp [left,ih (by omega),this]
theorem left_upd (l:Nat→Bool) (i n:Nat) (h:i<n) (hi:l i=false):left (upd l i true) n+1=left l n:=by
  induction n with
  | zero=>omega
  | succ n ih =>
    by_cases e:i=n
    · subst e
      have:upd l i true i=true:=by rw [upd_at,if_pos rfl]
      simp [left,left_far l i i (Nat.le_refl _),this,hi]
    · have:upd l i true n=l n:=by rw [upd_at,if_neg (by omega)]
      have:=ih (by omega)
      simp only [left, *]
      omega
theorem left_zero (l:Nat→Bool) (n:Nat) (h:left l n=0):∀ i,i<n→l i=true:=by
  induction n with
  | zero=>intro i hi;omega
  | succ n ih =>
    intro i hi
    simp only [left] at h
    by_cases e:i=n
    · subst e
      cases hl:l i with
      | true=>rfl
      | false=>simp [hl] at h
    · exact ih (by omega) i (by omega)
/-- The lists of what must have come up before each, held against the region: each waits for earlier ones alone, and each that is listed is waited for, or one that is waited for waits for it. -/
def waitsOk (T:List (List Nat)):Nat→List Oper→Bool
  | _,[]=>true
  | i,o :: os=>(o.after.toList.all fun e=>!Region.binds .any e || Nat.blt e.on i) && ((T.getD i []).all fun t=>o.after.toList.any fun e=>Region.binds .any e && (Nat.beq e.on t || (T.getD e.on []).any fun u=>Nat.beq u t)) && waitsOk T (i+1) os
theorem waitsOk_at {T:List (List Nat)} {j:Nat} {o:Oper}:∀ (os:List Oper) (i:Nat),waitsOk T i os=true→os[j]?=some o →
    (∀ e ∈ o.after,Region.binds .any e=true→e.on<i+j)∧∀ t ∈ T.getD (i+j) [],∃ e ∈ o.after,Region.binds .any e=true∧(e.on=t∨t ∈ T.getD e.on []):=by
  induction j with
  | zero =>
    intro os i h ho
    cases os with
    | nil=>simp at ho
    | cons p os =>
      simp at ho
      subst ho
      simp only [waitsOk,Bool.and_eq_true] at h
      obtain ⟨⟨h1,h2⟩,_⟩:=h
      refine ⟨fun e he hb=>?_,fun t ht=>?_⟩
      · have:=List.all_eq_true.1 h1 e (by simpa using he)
        simp [hb] at this
        simpa [Nat.blt_eq] using this
      · have:=List.all_eq_true.1 h2 t (by simpa using ht)
        obtain ⟨e,he,h3⟩:=List.any_eq_true.1 this
        simp only [Bool.and_eq_true,Bool.or_eq_true] at h3
        refine ⟨e,by simpa using he,h3.1,?_⟩
        rcases h3.2 with h4|h4
        · exact .inl (Nat.eq_of_beq_eq_true h4)
        · obtain ⟨u,hu,h5⟩:=List.any_eq_true.1 h4
          exact .inr ((Nat.eq_of_beq_eq_true h5) ▸ hu)
  | succ j ih =>
    intro os i h ho
    cases os with
    | nil=>simp at ho
    | cons p os =>
      simp at ho
      simp only [waitsOk,Bool.and_eq_true] at h
      have:=ih os (i+1) h.2 ho
      rw [show i+(j+1)=i+1+j by omega]
      exact this
section
variable {P:Program} {ops:Array Oper} {Q:Exit→Act→World→Prop}
/-- One operation, whatever came up before it. -/
def StepAt (P:Program) (ops:Array Oper) (Q:Exit→Act→World→Prop) (T:List (List Nat)) (F:(Nat→Value)→Act) (Φ:(Nat→Bool)→(Nat→Value)→World→Prop) (i:Nat) (o:Oper):Prop :=
  ∀ (l:Nat→Bool) (s:Nat→Value) (w:World),l i=false→(∀ t,(T.getD i []).any (Nat.beq t)=true→l t=true)→(∀ j,(T.getD j []).any (Nat.beq i)=true→l j=false)→Φ l s w →
    ∀ K':Act→World→Prop,Shut (∀ s' a' w',a'=F s'→Φ (upd l i true) s' w'→K' a' w')→if Region.wanted o (yielded ops (F s).tmps)=true then Oper.wp P o (F s) w K' Q else K' ((F s).put o.dst undef) w
def Steps (P:Program) (ops:Array Oper) (Q:Exit→Act→World→Prop) (T:List (List Nat)) (F:(Nat→Value)→Act) (Φ:(Nat→Bool)→(Nat→Value)→World→Prop):Nat→List Oper→Prop
  | _,[]=>True
  | i,o :: os=>StepAt P ops Q T F Φ i o∧Steps P ops Q T F Φ (i+1) os
theorem Steps.at {T:List (List Nat)} {F:(Nat→Value)→Act} {Φ:(Nat→Bool)→(Nat→Value)→World→Prop} {j:Nat} {o:Oper}:∀ (os:List Oper) (i:Nat),Steps P ops Q T F Φ i os→os[j]?=some o→StepAt P ops Q T F Φ (i+j) o:=by
  induction j with
  | zero =>
    intro os i h ho
    cases os with
    | nil=>simp at ho
    | cons p os=>simp at ho;subst ho;exact h.1
  | succ j ih =>
    intro os i h ho
    cases os with
    | nil=>simp at ho
    | cons p os =>
      simp at ho
      have:=ih os (i+1) h.2 ho
      rw [show i+(j+1)=i+1+j by omega]
      exact this
theorem any_beq {L:List Nat} {t:Nat}:L.any (Nat.beq t)=true↔t ∈ L:=by
  rw [List.any_eq_true]
  constructor
  · rintro ⟨x,hx,he⟩
    exact (Nat.eq_of_beq_eq_true he) ▸ hx
  · intro h
    exact ⟨t,h,by simp⟩
theorem wpAny_inv {T:List (List Nat)} {F:(Nat→Value)→Act} {Φ:(Nat→Bool)→(Nat→Value)→World→Prop} (hT:waitsOk T 0 ops.toList=true) (hTl:Nat.ble T.length ops.size=true) (steps:Steps P ops Q T F Φ 0 ops.toList)
    (fin:∀ (l:Nat→Bool) (s:Nat→Value) (w:World),(∀ i,Nat.blt i ops.size=true→l i=true)→Φ l s w→Q .normal (F s) w) :
    ∀ (fuel:Nat) (listed:Array Bool) (l:Nat→Bool) (s:Nat→Value) (w:World),listed.size=ops.size→(∀ i,i<ops.size→listed[i]?=some (l i))→left l ops.size≤fuel →
      (∀ i e o,ops[i]?=some o→e ∈ o.after→Region.binds .any e=true→l i=true→l e.on=true)→Φ l s w→wpAny P .any ops Q fuel listed (F s) w:=by
  have W:∀ i o,ops[i]?=some o→(∀ e ∈ o.after,Region.binds .any e=true→e.on<i)∧∀ t ∈ T.getD i [],∃ e ∈ o.after,Region.binds .any e=true∧(e.on=t∨t ∈ T.getD e.on []):=by
    intro i o ho
    have:=waitsOk_at (j:=i) ops.toList 0 hT (by simpa using ho)
    simpa using this
  have up:∀ (l:Nat→Bool),(∀ i e o,ops[i]?=some o→e ∈ o.after→Region.binds .any e=true→l i=true→l e.on=true)→∀ n i,i<n→i<ops.size→l i=true→∀ t ∈ T.getD i [],l t=true:=by
    intro l hc n
    induction n with
    | zero=>intro i hi;omega
    | succ n ih =>
      intro i hi hs hl t ht
      have ho:ops[i]?=some ops[i]:=by simp [hs]
      obtain ⟨e,he,hb,h3⟩:=(W i _ ho).2 t ht
      have h1:=hc i e _ ho he hb hl
      have h2:=(W i _ ho).1 e he hb
      rcases h3 with h3|h3
      · exact h3 ▸ h1
      · exact ih e.on (by omega) (by omega) h1 t h3
  have all:∀ (listed:Array Bool) (l:Nat→Bool),listed.size=ops.size→(∀ i,i<ops.size→listed[i]?=some (l i))→Region.ready .any ops listed=[]→∀ n i,i<n→i<ops.size→l i=true:=by
    intro listed l hsz hl hr n
    induction n with
    | zero=>intro i hi;omega
    | succ n ih =>
      intro i hi hs
      cases hli:l i with
      | true=>rfl
      | false =>
        have ho:ops[i]?=some ops[i]:=by simp [hs]
        have hm:i ∈ Region.ready .any ops listed:=mem_ready.2 ⟨by simp [Array.getD_eq_getD_getElem?,hl i hs,hli],_,ho,fun e he hb=>by
          have h2:=(W i _ ho).1 e he hb
          have h3:=ih e.on (by omega) (by omega)
          simp [Array.getD_eq_getD_getElem?,hl e.on (by omega),h3]⟩
        rw [hr] at hm
        cases hm
  intro fuel
  induction fuel with
  | zero =>
    intro listed l s w hsz hl hf hc hΦ
    have h0:=left_zero l ops.size (by omega)
    refine ⟨?_,fin l s w (fun i hi=>h0 i (by simpa [Nat.blt_eq] using hi)) hΦ⟩
    apply List.eq_nil_iff_forall_not_mem.2
    intro i hi
    obtain ⟨h1,o,ho,_⟩:=mem_ready.1 hi
    have hs:i<ops.size:=(Array.getElem?_eq_some_iff.1 ho).1
    rw [Array.getD_eq_getD_getElem?,hl i hs,h0 i hs] at h1
    cases h1
  | succ fuel ih =>
    intro listed l s w hsz hl hf hc hΦ
    refine ⟨fun hr=>fin l s w (fun i hi=>all listed l hsz hl hr (i+1) i (by omega) (by simpa [Nat.blt_eq] using hi)) hΦ,fun i hi=>?_⟩
    obtain ⟨h1,o,ho,hall⟩:=mem_ready.1 hi
    have hs:i<ops.size:=(Array.getElem?_eq_some_iff.1 ho).1
    have hli:l i=false:=by
      rw [Array.getD_eq_getD_getElem?,hl i hs] at h1
      simpa using h1
    have hd:∀ e ∈ o.after,Region.binds .any e=true→l e.on=true:=fun e he hb=>by
      have h2:=hall e he hb
      have h3:=(W i o ho).1 e he hb
      rw [Array.getD_eq_getD_getElem?,hl e.on (by omega)] at h2
      simpa using h2
    have hst:=Steps.at (j:=i) ops.toList 0 steps (by simpa using ho)
    rw [Nat.zero_add] at hst
    refine wpOp_step ho fun K' hK=>hst l s w hli (fun t ht=>?_) (fun j hj=>?_) hΦ K' (fun s' a' w' ea hΦ'=>hK _ _ ?_)
    · obtain ⟨e,he,hb,h3⟩:=(W i o ho).2 t (any_beq.1 ht)
      rcases h3 with h3|h3
      · exact h3 ▸ hd e he hb
      · exact up l hc (e.on+1) e.on (by omega) (by have:=(W i o ho).1 e he hb;omega) (hd e he hb) t h3
    · have hj2:=any_beq.1 hj
      cases hlj:l j with
      | false=>rfl
      | true =>
        by_cases hjs:j<ops.size
        · have:=up l hc (j+1) j (by omega) hjs hlj i hj2
          rw [hli] at this
          cases this
        · have h5:=Nat.le_of_ble_eq_true hTl
          simp [List.getD_eq_getElem?_getD,List.getElem?_eq_none (show T.length≤j by omega)] at hj2
    · subst ea
      refine ih _ (upd l i true) s' w' (by simpa using hsz) (fun k hk=>?_) (by have:=left_upd l i ops.size hs hli;omega) (fun k e o2 ho2 he hb hk=>?_) hΦ'
      · rw [Array.getElem?_setIfInBounds,upd_at,hl k hk]
        by_cases e:i=k
        · subst e;simp [hsz,hs]
        · have e2:¬ k=i:=fun x=>e x.symm
          simp [e,e2]
      · rw [upd_at] at hk ⊢
        by_cases e1:e.on=i
        · simp [e1]
        · rw [if_neg e1]
          by_cases e2:k=i
          · subst e2
            rw [ho] at ho2
            obtain rfl:=Option.some.inj ho2
            exact hd e he hb
          · rw [if_neg e2] at hk
            exact hc k e o2 ho2 he hb hk
/-- A drawn region: the frame F by what lies in the slots, the invariant Φ by what has come up. -/
theorem wp_region_inv {id:Nat} {a:Act} {w:World} (T:List (List Nat)) (ds:List Nat) (Φ:(Nat→Bool)→(Nat→Value)→World→Prop) {F:(Nat→Value)→Act} (hm:P.follows .mixedOrders=true) (hT:waitsOk T 0 ops.toList=true) (hTl:Nat.ble T.length ops.size=true)
    (hF:∀ s,fill a ds s=F s) (h0:∀ s,Φ (fun _=>false) s w.drew) (steps:Steps P ops Q T F Φ 0 ops.toList)
    (fin:∀ (l:Nat→Bool) (s:Nat→Value) (w:World),(∀ i,Nat.blt i ops.size=true→l i=true)→Φ l s w→Q .normal (F s) w):(Code.region id ops true).wp P Q a w:=by
  refine wp_region_any hm ?_
  have:=wpAny_inv hT hTl steps fin ops.size (Array.replicate ops.size false) (fun _=>false) (fun k=>a.tmps.getD k undef) w.drew (by simp) (fun i hi=>by simp [hi]) (by
    generalize ops.size=n
    induction n with
    | zero=>simp [left]
    | succ n ih=>simp [left];exact ih) (fun i e o _ _ _ h=>by cases h) (h0 _)
  rw [← hF,fill_self] at this
  exact this
end
end Go.Proofs.YthfbnjfppjmgfaaGreat
set_option linter.unusedSimpArgs false
set_option linter.unusedVariables false
namespace Go.Proofs.YthfbnjfppjmgfaaGreat
open Go.RowKit
variable {w w':World} {v:Value} {lo b:Nat} {x y ys:Array Value} {T T':TypeId}
theorem belowAlloc (w:World) (o:Obj):Below w.heap.size w (w.alloc o):=(Below.refl _ _).alloc (Nat.le_refl _) o
theorem hpS (h:hp w b=some (.cells x T)) (hb:Below w.heap.size w w'):hp w' b=some (.cells x T):=(hpB hb (bO h).2.2).trans h
def IsBox (w:World) (v:Value) (lo:Nat) (x:Array Value) (T:TypeId):Prop:=∃ b,v=.pointer (some ⟨b,0,none⟩)∧lo≤b∧hp w b=some (.cells x T)
theorem IsBox.below (h:IsBox w v lo x T) (hb:Below w.heap.size w w'):IsBox w' v lo x T:=by
  obtain ⟨b,e,hl,hz⟩:=h
  exact ⟨b,e,hl,hpS hz hb⟩
theorem IsBox.new (h:lo≤w.heap.size):IsBox (w.alloc (.cells x T)) (.pointer (some ⟨w.heap.size,0,none⟩)) lo x T :=
  ⟨_,rfl,h,heap_alloc_new w _⟩
theorem hp_far (hz:hp w b=some (.cells y T')) {b':Nat} (h:hp w b'=some (.cells x T)) (hne:T≠T'):hp (setBox w b ys) b'=some (.cells x T):=by
  have:b'≠b:=by
    rintro rfl
    rw [hz] at h
    simp at h
    exact hne h.2.symm
  exact (bx_heap_ne this).trans h
theorem hp_set (hz:hp w b=some (.cells y T)):hp (setBox w b ys) b=some (.cells ys T):=by rw [bx_heap_at,hz];rfl
theorem IsBox.far (h:IsBox w v lo x T) (hz:hp w b=some (.cells y T')) (hne:T≠T'):IsBox (setBox w b ys) v lo x T:=by
  obtain ⟨b',e,hl,h⟩:=h
  exact ⟨b',e,hl,hp_far hz h hne⟩
theorem own_far {e:TypeId} {k m:Nat} {u:Value} {xs:List Value} (h:w.ownsRow lo e k u m xs) (hz:hp w b=some (.cells y T')) (hne:e≠T'):(setBox w b ys).ownsRow lo e k u m xs:=by
  refine own_box h fun e2=>?_
  rcases h.2 with ⟨rfl,_⟩|⟨g,cap,cur,rfl,_,hg,_⟩
  · cases e2
  · simp [Value.ownBlock] at e2
    subst e2
    unfold hp at hz
    rw [hz] at hg
    simp at hg
    exact hne hg.2.symm
theorem own_offs {e:TypeId} {k m:Nat} {u:Value} {xs:List Value} (h:w.ownsRow lo e k u m xs) (hz:hp w b=some (.cells y T')) (hne:e≠T'):∀ i,u.ownBlock=some i→i≠b:=by
  rintro i e2 rfl
  rcases h.2 with ⟨rfl,_⟩|⟨g,cap,cur,rfl,_,hg,_⟩
  · cases e2
  · simp [Value.ownBlock] at e2
    subst e2
    unfold hp at hz
    rw [hz] at hg
    simp at hg
    exact hne hg.2.symm
theorem Row.belowS {n k:Nat} {f:Nat→Nat→Value} (h:Row w b T n k f) (hb:Below w.heap.size w w'):Row w' b T n k f:=by
  obtain ⟨c,h1,h2⟩:=h
  exact ⟨c,(hb.block b (Array.getElem?_eq_some_iff.1 h1).1).trans h1,h2⟩
end Go.Proofs.YthfbnjfppjmgfaaGreat
set_option linter.unusedSimpArgs false
set_option linter.unusedVariables false
namespace Go.Proofs.YthfbnjfppjmgfaaGreat
def take7P (c:Ch) (h:Ha):St:=if h.seen == 3 then turn7 c h 5 (cellAt c h.cell).t { h with pos:=13 } else take7 c h
def recvStepP (c:Ch) (h:Ha):St:=if stepOk c h 9 15 2 && h.pos == 12 then take7P c h else recvStep c h
def pull8P (c:Ch) (h:Ha):St:=if h.seen == 3 then turn8 c h 6 (cellAt c h.grow).t { h with pos:=20 } else pull8 c h
def growStepP (c:Ch) (h:Ha):St:=if stepOk c h 16 22 2 && h.pos == 19 then pull8P c h else growStep c h
def stepP (c:Ch) (h:Ha):St :=
  if inB h.pos 1 8 then sendStep c h else if inB h.pos 9 15 then recvStepP c h else if inB h.pos 16 22 then growStepP c h else parkStep c h
/-- The cell turned, or not. -/
def tnS (c:Ch) (st wt:Int) (y z:Ha):St:=if turnCB c y.cell y.seen st wt then (turnC c y.cell y.seen st wt,y,true) else (c,z,true)
end Go.Proofs.YthfbnjfppjmgfaaGreat
set_option linter.unusedSimpArgs false
set_option linter.unusedVariables false
namespace Go.Proofs.YthfbnjfppjmgfaaGreat
def staysN (s:St):Bool:=!s.2.2 && decide (0<s.1.cells.length)
theorem stays_done (c:Ch) (h:Ha):staysN (done c h)=false:=by
  unfold staysN done
  split <;> simp [nothing,Ch.zero]
theorem stays_nothing:staysN nothing=false:=by simp [staysN,nothing,Ch.zero]
theorem stays_turn7 (c:Ch) (h:Ha) (a b:Int) (y:Ha):staysN (turn7 c h a b y)=false:=by
  unfold turn7
  split <;> exact stays_done _ _
theorem stays_turn8 (c:Ch) (h:Ha) (a b:Int) (y:Ha):staysN (turn8 c h a b y)=false:=by
  unfold turn8
  split <;> exact stays_done _ _
theorem stays_take7 (c:Ch) (h:Ha) (e:h.seen=3):staysN (take7 c h)=false:=by
  have e2:(h.seen == 2)=false:=by simp [e]
  have e3:(h.seen == 3)=true:=by simp [e]
  unfold take7
  rw [e2,e3]
  exact stays_turn7 _ _ _ _ _
theorem stays_pull8 (c:Ch) (h:Ha) (e:h.seen=3):staysN (pull8 c h)=false:=by
  have e3:(h.seen == 3)=true:=by simp [e]
  unfold pull8
  rw [e3]
  exact stays_turn8 _ _ _ _ _
theorem stays_takeP (c:Ch) (h:Ha):staysN (take7P c h)=staysN (take7 c h):=by
  unfold take7P
  split
  · rename_i e
    rw [stays_take7 c h (by simpa using e),stays_turn7]
  · rfl
theorem stays_pullP (c:Ch) (h:Ha):staysN (pull8P c h)=staysN (pull8 c h):=by
  unfold pull8P
  split
  · rename_i e
    rw [stays_pull8 c h (by simpa using e),stays_turn8]
  · rfl
theorem stays_recvP (c:Ch) (h:Ha):staysN (recvStepP c h)=staysN (recvStep c h):=by
  unfold recvStepP
  split
  · rename_i e
    rw [Bool.and_eq_true] at e
    have p:h.pos=12:=by simpa using e.2
    rw [stays_takeP]
    unfold recvStep
    rw [if_pos e.1]
    simp [p]
  · rfl
theorem stays_growP (c:Ch) (h:Ha):staysN (growStepP c h)=staysN (growStep c h):=by
  unfold growStepP
  split
  · rename_i e
    rw [Bool.and_eq_true] at e
    have p:h.pos=19:=by simpa using e.2
    rw [stays_pullP]
    unfold growStep
    rw [if_pos e.1]
    simp [p]
  · rfl
theorem stays_P (c:Ch) (h:Ha):staysN (stepP c h)=staysN (stepC c h):=by
  unfold stepP stepC
  split
  · rfl
  · split
    · exact stays_recvP c h
    · split
      · exact stays_growP c h
      · rfl
end Go.Proofs.YthfbnjfppjmgfaaGreat
