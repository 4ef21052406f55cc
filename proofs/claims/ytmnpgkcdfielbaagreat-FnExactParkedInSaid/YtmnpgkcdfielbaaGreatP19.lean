/-
  The beginning of growing, of the reference model, on hands and channels that are kept whole; lists lie in memory and hold at most 2 ^ 40 elements.
  Pulling a cell in chapter 8 of the reference model, on hands and channels that are kept whole; lists lie in memory and hold at most 2 ^ 40 elements.
  Steps of growing of the reference model, all cases, on hands and channels that are kept whole; lists lie in memory and hold at most 2 ^ 40 elements.
  A step of the reference model, on hands and channels that are kept whole; lists lie in memory and hold at most 2 ^ 40 elements.
  Whether a step of the reference waits, by the step's contract; lists lie in memory.
  What the document's functions of chapters 12, 13 and 16 compute of worlds, as plain functions on numbers and lists; no condition.
-/
import Derived.Test.YtmnpgkcdfielbaaGreatP10
import Derived.BigRegion
import Derived.Test.YtmnpgkcdfielbaaGreatP05
import Derived.Test.YtmnpgkcdfielbaaGreatP18
import Derived.Test.YtmnpgkcdfielbaaGreatP12
import Derived.Test.YtmnpgkcdfielbaaGreatP06
import Derived.Deep.RegionHeld3
import Derived.Deep.DeepCutAuto
import Derived.Test.YtmnpgkcdfielbaaGreatP14
set_option linter.unusedSimpArgs false
set_option linter.unusedVariables false
namespace Go.Proofs.YtmnpgkcdfielbaaGreat
open Go.RowKit
set_option linter.unusedSimpArgs false
attribute [local simp] bx_size
attribute [local go_sem ↓] zeroHand zeroChan toLHand toLChan toVHand toVChan storeHand storeChan storeHandC storeChanC
theorem begin_cells (c:Ch) (h:Ha):(begin8 c h).1.cells=c.cells:=by unfold begin8;split <;> rfl
theorem begin_words (c:Ch) (h:Ha):(begin8 c h).1.words=c.words:=by unfold begin8;split <;> rfl
set_option maxRecDepth 100000 in
set_option maxHeartbeats 2000000 in
theorem l8Begin_any (c:Ch) (h:Ha) (a1 a2:Option Addr) (n1 n2 q1 q2:Nat) (w:World) (hf:0≤c.fin∧c.fin≤40) :
    Calls Tryz.prog 95 #[.agg (cvals c (.slice a1 n1 q1) (.slice a2 n2 q2)),.agg (hvals h)] w fun r w'=>r=.returned (.tuple #[.agg (cvals (begin8 c h).1 (.slice a1 n1 q1) (.slice a2 n2 q2)),.agg (hvals (begin8 c h).2)])∧Below w.heap.size w w':=by
  by_cases hc:c.cap=0∨c.fin=40
  · rw [show begin8 c h=(c,grown8 h) by unfold begin8;rw [if_pos (by simpa using hc)]]
    have hc2:(c.cap == 0)=true∨((c.cap == 0)=false∧(c.fin == 40)=true):=by
      by_cases h0:c.cap=0
      · exact .inl (by simpa using h0)
      · exact .inr ⟨by simpa using h0,by simpa [h0] using hc⟩
    clear hc
    rcases hc2 with hc2|⟨hc2,hc3⟩
    all_goals go_enter Tryz.func95,Tryz.ntmps95
    all_goals go_wp2_with fail
    all_goals go_region_with (first|((go_at_call 96;refine bHit w (by exact zB) fun bb=>?_;refine (l8Grown_any _ _).mono ?_;rintro _ w1 ⟨rfl,hbw1⟩;have hCw1:Below w.heap.size w w1:=bT bb hbw1;have hsw1:=hbw1.size;(try simp at hsw1);have zz:=q4 hbw1 (b:=w.heap.size);(try simp [go_sem] at zz);(try clear z_wppp x_wppp f_wppp l_wppp);(try clear z_wpp x_wpp f_wpp l_wpp);(try clear z_wp x_wp f_wp l_wp);(try clear z_w x_w f_w l_w);obtain ⟨z_wppp,z_wpp,z_wp,z_w⟩:=zz;obtain ⟨x_wppp,f_wppp,l_wppp⟩:=bO z_wppp;obtain ⟨x_wpp,f_wpp,l_wpp⟩:=bO z_wpp;obtain ⟨x_wp,f_wp,l_wp⟩:=bO z_wp;obtain ⟨x_w,f_w,l_w⟩:=bO z_w;have hKw1:Below w.heap.size w w1:=hCw1;clear hbw1 bb)))
    all_goals go_wp2
    all_goals exact bodyPost_ret (res_cc Tryz.results95 rfl (ldChan c (.slice a1 n1 q1) (.slice a2 n2 q2) (by simp [go_sem, *])) rfl (ldHand (grown8 h) (by simp [go_sem, *]))) rfl ⟨rfl,by exact zB⟩
  · have hc0:(c.cap == 0)=false:=by simp;omega
    have hc1:(c.fin == 40)=false:=by simp;omega
    rw [show begin8 c h=({ c with fin:=c.fin+1 },{ h with grow:=c.fin,pos:=17 }) by unfold begin8;rw [if_neg (by simpa using hc)]]
    clear hc
    go_enter Tryz.func95,Tryz.ntmps95
    go_wp2_with fail
    go_region
    all_goals go_wp2
    all_goals exact bodyPost_ret (res_cc Tryz.results95 rfl (ldChan { c with fin:=c.fin+1 } (.slice a1 n1 q1) (.slice a2 n2 q2) (by simp [go_sem, *] <;> rfl)) rfl (ldHand { h with grow:=c.fin,pos:=17 } (by simp [go_sem, *] <;> rfl))) rfl ⟨rfl,by exact zB⟩
end Go.Proofs.YtmnpgkcdfielbaaGreat
set_option linter.unusedSimpArgs false
set_option linter.unusedVariables false
namespace Go.Proofs.YtmnpgkcdfielbaaGreat
open Go.RowKit
set_option linter.unusedSimpArgs false
attribute [local simp] bx_size
attribute [local go_sem ↓] zeroHand zeroChan toLHand toLChan toVHand toVChan storeHand storeChan storeHandC storeChanC
set_option maxRecDepth 100000 in
set_option maxHeartbeats 4000000 in
theorem l8Pull_st (c:Ch) (h:Ha) (v1 v2:Value) (lo:Nat) (w:World) (h1:OCells w lo v1 c.cells) (h2:OInts w lo v2 c.words) (hc0:0≤h.grow) (hc1:h.grow<c.cells.length) (hs:(h.seen == 3)=true) (hs2:(h.seen == 0)=false) (ht:turnCB c h.grow h.seen 6 h.wait=true) :
    Calls Tryz.prog 98 #[.agg (cvals c v1 v2),.agg (hvals h)] w fun r w'=>StepO w w' lo v1 v2 (pull8 c h) r:=by
  obtain ⟨i,hci⟩:∃ i:Nat,h.grow=(i:Int):=⟨h.grow.toNat,by omega⟩
  have hi:i<c.cells.length:=by omega
  have ht2:turnCB c i h.seen 6 h.wait=true:=by rw [← ht,hci]
  have e:pull8 c h=done (turnC c i h.seen 6 h.wait) ({ h with pos:=20,grow:=(i:Int) }):=by simp at hs hs2;simp [pull8,turn8,hs,hs2,hci] at ht2 ⊢;simp [ht2]
  rw [e]
  have T:=Lib.hid fun W a b=>wTurn_any c i h.seen 6 h.wait v1 v2 lo W a b hi
  have D:=Lib.hid fun W=>l6Done_any (turnC c i h.seen 6 h.wait) ({ h with pos:=20,grow:=(i:Int) }) v1 v2 lo W
  generalize done (turnC c i h.seen 6 h.wait) ({ h with pos:=20,grow:=(i:Int) })=x at *
  rw [ht2] at T
  have b1:=fun j (hj:v1.ownBlock=some j)=>(h1.lt j hj).2
  have b2:=fun j (hj:v2.ownBlock=some j)=>(h2.lt j hj).2
  have m1:∀ j,w.heap.size≤j→some j≠v1.ownBlock:=fun j hj e=>by have:=b1 _ e.symm;omega
  have m2:∀ j,w.heap.size≤j→some j≠v2.ownBlock:=fun j hj e=>by have:=b2 _ e.symm;omega
  have m10:=m1 (w.heap.size) (by omega)
  have m20:=m2 (w.heap.size) (by omega)
  have m11:=m1 (w.heap.size+1) (by omega)
  have m21:=m2 (w.heap.size+1) (by omega)
  have m12:=m1 (w.heap.size+1+1) (by omega)
  have m22:=m2 (w.heap.size+1+1) (by omega)
  have m13:=m1 (w.heap.size+1+1+1) (by omega)
  have m23:=m2 (w.heap.size+1+1+1) (by omega)
  have o1:=h1
  have o2:=h2
  obtain ⟨a1,q1,e1,_⟩:=h1.seg
  obtain ⟨a2,q2,e2,_⟩:=h2.seg
  subst e1 e2
  clear h1 h2 e ht
  go_enter Tryz.func98,Tryz.ntmps98
  go_wp2_with fail;refine bHit w (by exact zB) fun bb=>?_;refine (l8Grown_any _ _).mono ?_;rintro _ w4 ⟨rfl,hbw4⟩;have hCw4:Below w.heap.size w w4:=bT bb hbw4;have hsw4:=hbw4.size;(try simp at hsw4);have zz:=q4 hbw4 (b:=w.heap.size);(try simp [go_sem] at zz);(try clear z_wppp x_wppp f_wppp l_wppp);(try clear z_wpp x_wpp f_wpp l_wpp);(try clear z_wp x_wp f_wp l_wp);(try clear z_w x_w f_w l_w);obtain ⟨z_wppp,z_wpp,z_wp,z_w⟩:=zz;obtain ⟨x_wppp,f_wppp,l_wppp⟩:=bO z_wppp;obtain ⟨x_wpp,f_wpp,l_wpp⟩:=bO z_wpp;obtain ⟨x_wp,f_wp,l_wp⟩:=bO z_wp;obtain ⟨x_w,f_w,l_w⟩:=bO z_w;clear hbw4 bb
  have o3:=own_below o1 hCw4
  have o4:=own_below o2 hCw4
  have m14:=m1 w4.heap.size (by omega)
  have m24:=m2 w4.heap.size (by omega)
  have l_w4:w4.heap.size<w4.heap.size+1:=by omega
  have k0:w.heap.size<w4.heap.size:=by omega
  have k1:w.heap.size+1<w4.heap.size:=by omega
  have k2:w.heap.size+1+1<w4.heap.size:=by omega
  have k3:w.heap.size+1+1+1<w4.heap.size:=by omega
  go_wp2_with fail;refine (T.out _ (by exact zO o3 o1) (by exact zO o4 o2)).mono ?_;rintro _ w1 ⟨rfl,p1,p2,hgw1⟩;have hsw1:=hgw1.size;(try (simp at hsw1));have zz:=And.intro (grHp hgw1 (b:=w4.heap.size) (by (try simp) <;> omega) (by assumption)) <| And.intro (grHp hgw1 (b:=w.heap.size+1+1+1) (by (try simp) <;> omega) (by assumption)) <| And.intro (grHp hgw1 (b:=w.heap.size+1+1) (by (try simp) <;> omega) (by assumption)) <| And.intro (grHp hgw1 (b:=w.heap.size+1) (by (try simp) <;> omega) (by assumption)) <| grHp hgw1 (b:=w.heap.size) (by (try simp) <;> omega) (by assumption);(first|simp [go_sem,z_wppp,z_wpp,z_wp,z_w,l_w,l_w4,l_wp,l_wpp,l_wppp,k0,k1,k2,k3] at zz|simp [go_sem] at zz|skip);(try clear z_w4 x_w4 f_w4 l_w4);(try clear z_wppp x_wppp f_wppp l_wppp);(try clear z_wpp x_wpp f_wpp l_wpp);(try clear z_wp x_wp f_wp l_wp);(try clear z_w x_w f_w l_w);obtain ⟨z_w4,z_wppp,z_wpp,z_wp,z_w⟩:=zz;obtain ⟨x_w4,f_w4,l_w4⟩:=bO z_w4;obtain ⟨x_wppp,f_wppp,l_wppp⟩:=bO z_wppp;obtain ⟨x_wpp,f_wpp,l_wpp⟩:=bO z_wpp;obtain ⟨x_wp,f_wp,l_wp⟩:=bO z_wp;obtain ⟨x_w,f_w,l_w⟩:=bO z_w;have hGw1:=grB (w:=w) (by exact zB) hgw1;clear hgw1
  have hO1:Onl (Value.slice a1 c.cells.length q1).ownBlock (Value.slice a2 c.words.length q2).ownBlock w w1:=onl1 hGw1
  clear k0 k1 k2 k3
  have k0:w.heap.size<w1.heap.size:=by omega
  have k1:w.heap.size+1<w1.heap.size:=by omega
  have k2:w.heap.size+1+1<w1.heap.size:=by omega
  have k3:w.heap.size+1+1+1<w1.heap.size:=by omega
  have k4:w4.heap.size<w1.heap.size:=by omega
  have r1:OCells w1 lo (.slice a1 c.cells.length q1) (turnC c i h.seen 6 h.wait).cells:=p1
  have r2:OInts w1 lo (.slice a2 c.words.length q2) (turnC c i h.seen 6 h.wait).words:=p2
  go_wp2_with fail
  refine (D.out _ (by exact zO r1 o1) (by exact zO r2 o2)).mono ?_
  rintro _ w3 ⟨⟨y1,y2,rfl,oY1,oY2,fY1,fY2⟩,hbw3⟩
  have hO3:Onl (Value.slice a1 c.cells.length q1).ownBlock (Value.slice a2 c.words.length q2).ownBlock w w3:=onlT (by (repeat (first|with_reducible assumption|with_reducible refine oA ?_|with_reducible refine oD ?_|((with_reducible refine oX ?_ ?_);rotate_left;(focus ((try dsimp only);(try simp);(try omega))))|((with_reducible refine oS ?_ ?_);rotate_left;(focus ((try dsimp only);(try simp);(try omega))))))) (onlB hbw3)
  have hsw3:=hbw3.size;(try simp at hsw3);have zz:=q4 hbw3 (b:=w.heap.size);(first|simp [go_sem,z_wppp,z_wpp,z_wp,z_w,l_w,l_wp,l_wpp,l_wppp,k0,k1,k2,k3,k4] at zz|simp [go_sem] at zz|skip);(try clear z_wppp x_wppp f_wppp l_wppp);(try clear z_wpp x_wpp f_wpp l_wpp);(try clear z_wp x_wp f_wp l_wp);(try clear z_w x_w f_w l_w);obtain ⟨z_wppp,z_wpp,z_wp,z_w⟩:=zz;obtain ⟨x_wppp,f_wppp,l_wppp⟩:=bO z_wppp;obtain ⟨x_wpp,f_wpp,l_wpp⟩:=bO z_wpp;obtain ⟨x_wp,f_wp,l_wp⟩:=bO z_wp;obtain ⟨x_w,f_w,l_w⟩:=bO z_w;clear hbw3
  have hoff1:∀ j,w.heap.size≤j→j<w.heap.size+1+1+1+1→y1.ownBlock≠some j:=fun j h1 h2=>fY1.off b1 h1 (by (try simp) <;> omega);have hoff2:∀ j,w.heap.size≤j→j<w.heap.size+1+1+1+1→y2.ownBlock≠some j:=fun j h1 h2=>fY2.off b2 h1 (by (try simp) <;> omega);have fr1:Fresh w _ y1:=fun j hj=>(fY1 j hj).imp id (fun h=>Nat.le_trans (by (try simp) <;> omega) h);have fr2:Fresh w _ y2:=fun j hj=>(fY2 j hj).imp id (fun h=>Nat.le_trans (by (try simp) <;> omega) h);obtain ⟨ya,yp,rfl,_⟩:=oY1.seg;obtain ⟨yb,yq,rfl,_⟩:=oY2.seg
  go_wp2
  refine bodyPost_ret (res_cct Tryz.results98 rfl (ldChan x.1 (.slice ya x.1.cells.length yp) (.slice yb x.1.words.length yq) (by simp [go_sem, *])) rfl (ldHand x.2.1 (by simp [go_sem, *]))) rfl ⟨⟨_,_,rfl,?_,?_,fr1,fr2⟩,by (repeat (first|with_reducible assumption|with_reducible refine oA ?_|with_reducible refine oD ?_|((with_reducible refine oX ?_ ?_);rotate_left;(focus ((try dsimp only);(try simp);(try omega))))|((with_reducible refine oS ?_ ?_);rotate_left;(focus ((try dsimp only);(try simp);(try omega))))))⟩
  · exact zP oY1 oY1 hoff1
  · exact zP oY2 oY2 hoff2
set_option maxRecDepth 100000 in
set_option maxHeartbeats 4000000 in
theorem l8Pull_sf (c:Ch) (h:Ha) (v1 v2:Value) (lo:Nat) (w:World) (h1:OCells w lo v1 c.cells) (h2:OInts w lo v2 c.words) (hc0:0≤h.grow) (hc1:h.grow<c.cells.length) (hs:(h.seen == 3)=true) (hs2:(h.seen == 0)=false) (ht:turnCB c h.grow h.seen 6 h.wait=false) :
    Calls Tryz.prog 98 #[.agg (cvals c v1 v2),.agg (hvals h)] w fun r w'=>StepO w w' lo v1 v2 (pull8 c h) r:=by
  obtain ⟨i,hci⟩:∃ i:Nat,h.grow=(i:Int):=⟨h.grow.toNat,by omega⟩
  have hi:i<c.cells.length:=by omega
  have ht2:turnCB c i h.seen 6 h.wait=false:=by rw [← ht,hci]
  have e:pull8 c h=done (turnC c i h.seen 6 h.wait) ({ h with pos:=18,grow:=(i:Int) }):=by simp at hs hs2;simp [pull8,turn8,hs,hs2,hci] at ht2 ⊢;simp [ht2]
  rw [e]
  have T:=Lib.hid fun W a b=>wTurn_any c i h.seen 6 h.wait v1 v2 lo W a b hi
  have D:=Lib.hid fun W=>l6Done_any (turnC c i h.seen 6 h.wait) ({ h with pos:=18,grow:=(i:Int) }) v1 v2 lo W
  generalize done (turnC c i h.seen 6 h.wait) ({ h with pos:=18,grow:=(i:Int) })=x at *
  rw [ht2] at T
  have b1:=fun j (hj:v1.ownBlock=some j)=>(h1.lt j hj).2
  have b2:=fun j (hj:v2.ownBlock=some j)=>(h2.lt j hj).2
  have m1:∀ j,w.heap.size≤j→some j≠v1.ownBlock:=fun j hj e=>by have:=b1 _ e.symm;omega
  have m2:∀ j,w.heap.size≤j→some j≠v2.ownBlock:=fun j hj e=>by have:=b2 _ e.symm;omega
  have m10:=m1 (w.heap.size) (by omega)
  have m20:=m2 (w.heap.size) (by omega)
  have m11:=m1 (w.heap.size+1) (by omega)
  have m21:=m2 (w.heap.size+1) (by omega)
  have m12:=m1 (w.heap.size+1+1) (by omega)
  have m22:=m2 (w.heap.size+1+1) (by omega)
  have m13:=m1 (w.heap.size+1+1+1) (by omega)
  have m23:=m2 (w.heap.size+1+1+1) (by omega)
  have o1:=h1
  have o2:=h2
  obtain ⟨a1,q1,e1,_⟩:=h1.seg
  obtain ⟨a2,q2,e2,_⟩:=h2.seg
  subst e1 e2
  clear h1 h2 e ht
  go_enter Tryz.func98,Tryz.ntmps98
  go_wp2_with fail;refine bHit w (by exact zB) fun bb=>?_;refine (l8Grown_any _ _).mono ?_;rintro _ w4 ⟨rfl,hbw4⟩;have hCw4:Below w.heap.size w w4:=bT bb hbw4;have hsw4:=hbw4.size;(try simp at hsw4);have zz:=q4 hbw4 (b:=w.heap.size);(try simp [go_sem] at zz);(try clear z_wppp x_wppp f_wppp l_wppp);(try clear z_wpp x_wpp f_wpp l_wpp);(try clear z_wp x_wp f_wp l_wp);(try clear z_w x_w f_w l_w);obtain ⟨z_wppp,z_wpp,z_wp,z_w⟩:=zz;obtain ⟨x_wppp,f_wppp,l_wppp⟩:=bO z_wppp;obtain ⟨x_wpp,f_wpp,l_wpp⟩:=bO z_wpp;obtain ⟨x_wp,f_wp,l_wp⟩:=bO z_wp;obtain ⟨x_w,f_w,l_w⟩:=bO z_w;clear hbw4 bb
  have o3:=own_below o1 hCw4
  have o4:=own_below o2 hCw4
  have m14:=m1 w4.heap.size (by omega)
  have m24:=m2 w4.heap.size (by omega)
  have l_w4:w4.heap.size<w4.heap.size+1:=by omega
  have k0:w.heap.size<w4.heap.size:=by omega
  have k1:w.heap.size+1<w4.heap.size:=by omega
  have k2:w.heap.size+1+1<w4.heap.size:=by omega
  have k3:w.heap.size+1+1+1<w4.heap.size:=by omega
  go_wp2_with fail;refine (T.out _ (by exact zO o3 o1) (by exact zO o4 o2)).mono ?_;rintro _ w1 ⟨rfl,p1,p2,hgw1⟩;have hsw1:=hgw1.size;(try (simp at hsw1));have zz:=And.intro (grHp hgw1 (b:=w4.heap.size) (by (try simp) <;> omega) (by assumption)) <| And.intro (grHp hgw1 (b:=w.heap.size+1+1+1) (by (try simp) <;> omega) (by assumption)) <| And.intro (grHp hgw1 (b:=w.heap.size+1+1) (by (try simp) <;> omega) (by assumption)) <| And.intro (grHp hgw1 (b:=w.heap.size+1) (by (try simp) <;> omega) (by assumption)) <| grHp hgw1 (b:=w.heap.size) (by (try simp) <;> omega) (by assumption);(first|simp [go_sem,z_wppp,z_wpp,z_wp,z_w,l_w,l_w4,l_wp,l_wpp,l_wppp,k0,k1,k2,k3] at zz|simp [go_sem] at zz|skip);(try clear z_w4 x_w4 f_w4 l_w4);(try clear z_wppp x_wppp f_wppp l_wppp);(try clear z_wpp x_wpp f_wpp l_wpp);(try clear z_wp x_wp f_wp l_wp);(try clear z_w x_w f_w l_w);obtain ⟨z_w4,z_wppp,z_wpp,z_wp,z_w⟩:=zz;obtain ⟨x_w4,f_w4,l_w4⟩:=bO z_w4;obtain ⟨x_wppp,f_wppp,l_wppp⟩:=bO z_wppp;obtain ⟨x_wpp,f_wpp,l_wpp⟩:=bO z_wpp;obtain ⟨x_wp,f_wp,l_wp⟩:=bO z_wp;obtain ⟨x_w,f_w,l_w⟩:=bO z_w;have hGw1:=grB (w:=w) (by exact zB) hgw1;clear hgw1
  have hO1:Onl (Value.slice a1 c.cells.length q1).ownBlock (Value.slice a2 c.words.length q2).ownBlock w w1:=onl1 hGw1
  clear k0 k1 k2 k3
  have k0:w.heap.size<w1.heap.size:=by omega
  have k1:w.heap.size+1<w1.heap.size:=by omega
  have k2:w.heap.size+1+1<w1.heap.size:=by omega
  have k3:w.heap.size+1+1+1<w1.heap.size:=by omega
  have k4:w4.heap.size<w1.heap.size:=by omega
  have r1:OCells w1 lo (.slice a1 c.cells.length q1) (turnC c i h.seen 6 h.wait).cells:=p1
  have r2:OInts w1 lo (.slice a2 c.words.length q2) (turnC c i h.seen 6 h.wait).words:=p2
  go_wp2_with fail
  refine (D.out _ (by exact zO r1 o1) (by exact zO r2 o2)).mono ?_
  rintro _ w3 ⟨⟨y1,y2,rfl,oY1,oY2,fY1,fY2⟩,hbw3⟩
  have hO3:Onl (Value.slice a1 c.cells.length q1).ownBlock (Value.slice a2 c.words.length q2).ownBlock w w3:=onlT (by (repeat (first|with_reducible assumption|with_reducible refine oA ?_|with_reducible refine oD ?_|((with_reducible refine oX ?_ ?_);rotate_left;(focus ((try dsimp only);(try simp);(try omega))))|((with_reducible refine oS ?_ ?_);rotate_left;(focus ((try dsimp only);(try simp);(try omega))))))) (onlB hbw3)
  have hsw3:=hbw3.size;(try simp at hsw3);have zz:=q4 hbw3 (b:=w.heap.size);(first|simp [go_sem,z_wppp,z_wpp,z_wp,z_w,l_w,l_wp,l_wpp,l_wppp,k0,k1,k2,k3,k4] at zz|simp [go_sem] at zz|skip);(try clear z_wppp x_wppp f_wppp l_wppp);(try clear z_wpp x_wpp f_wpp l_wpp);(try clear z_wp x_wp f_wp l_wp);(try clear z_w x_w f_w l_w);obtain ⟨z_wppp,z_wpp,z_wp,z_w⟩:=zz;obtain ⟨x_wppp,f_wppp,l_wppp⟩:=bO z_wppp;obtain ⟨x_wpp,f_wpp,l_wpp⟩:=bO z_wpp;obtain ⟨x_wp,f_wp,l_wp⟩:=bO z_wp;obtain ⟨x_w,f_w,l_w⟩:=bO z_w;clear hbw3
  have hoff1:∀ j,w.heap.size≤j→j<w.heap.size+1+1+1+1→y1.ownBlock≠some j:=fun j h1 h2=>fY1.off b1 h1 (by (try simp) <;> omega);have hoff2:∀ j,w.heap.size≤j→j<w.heap.size+1+1+1+1→y2.ownBlock≠some j:=fun j h1 h2=>fY2.off b2 h1 (by (try simp) <;> omega);have fr1:Fresh w _ y1:=fun j hj=>(fY1 j hj).imp id (fun h=>Nat.le_trans (by (try simp) <;> omega) h);have fr2:Fresh w _ y2:=fun j hj=>(fY2 j hj).imp id (fun h=>Nat.le_trans (by (try simp) <;> omega) h);obtain ⟨ya,yp,rfl,_⟩:=oY1.seg;obtain ⟨yb,yq,rfl,_⟩:=oY2.seg
  go_wp2
  refine bodyPost_ret (res_cct Tryz.results98 rfl (ldChan x.1 (.slice ya x.1.cells.length yp) (.slice yb x.1.words.length yq) (by simp [go_sem, *])) rfl (ldHand x.2.1 (by simp [go_sem, *]))) rfl ⟨⟨_,_,rfl,?_,?_,fr1,fr2⟩,by (repeat (first|with_reducible assumption|with_reducible refine oA ?_|with_reducible refine oD ?_|((with_reducible refine oX ?_ ?_);rotate_left;(focus ((try dsimp only);(try simp);(try omega))))|((with_reducible refine oS ?_ ?_);rotate_left;(focus ((try dsimp only);(try simp);(try omega))))))⟩
  · exact zP oY1 oY1 hoff1
  · exact zP oY2 oY2 hoff2
set_option maxRecDepth 100000 in
set_option maxHeartbeats 4000000 in
theorem l8Pull_nt (c:Ch) (h:Ha) (v1 v2:Value) (lo:Nat) (w:World) (h1:OCells w lo v1 c.cells) (h2:OInts w lo v2 c.words) (hc0:0≤h.grow) (hc1:h.grow<c.cells.length) (hs:(h.seen == 3)=false) (hs2:(h.seen == 0)=true) (ht:turnCB c h.grow h.seen 1 0=true) :
    Calls Tryz.prog 98 #[.agg (cvals c v1 v2),.agg (hvals h)] w fun r w'=>StepO w w' lo v1 v2 (pull8 c h) r:=by
  obtain ⟨i,hci⟩:∃ i:Nat,h.grow=(i:Int):=⟨h.grow.toNat,by omega⟩
  have hi:i<c.cells.length:=by omega
  have ht2:turnCB c i h.seen 1 0=true:=by rw [← ht,hci]
  have e:pull8 c h=done (turnC c i h.seen 1 0) (grown8 h):=by simp at hs hs2;simp [pull8,turn8,hs,hs2,hci] at ht2 ⊢;simp [ht2]
  rw [e]
  have T:=Lib.hid fun W a b=>wTurn_any c i h.seen 1 0 v1 v2 lo W a b hi
  have D:=Lib.hid fun W=>l6Done_any (turnC c i h.seen 1 0) (grown8 h) v1 v2 lo W
  generalize done (turnC c i h.seen 1 0) (grown8 h)=x at *
  rw [ht2] at T
  have b1:=fun j (hj:v1.ownBlock=some j)=>(h1.lt j hj).2
  have b2:=fun j (hj:v2.ownBlock=some j)=>(h2.lt j hj).2
  have m1:∀ j,w.heap.size≤j→some j≠v1.ownBlock:=fun j hj e=>by have:=b1 _ e.symm;omega
  have m2:∀ j,w.heap.size≤j→some j≠v2.ownBlock:=fun j hj e=>by have:=b2 _ e.symm;omega
  have m10:=m1 (w.heap.size) (by omega)
  have m20:=m2 (w.heap.size) (by omega)
  have m11:=m1 (w.heap.size+1) (by omega)
  have m21:=m2 (w.heap.size+1) (by omega)
  have m12:=m1 (w.heap.size+1+1) (by omega)
  have m22:=m2 (w.heap.size+1+1) (by omega)
  have m13:=m1 (w.heap.size+1+1+1) (by omega)
  have m23:=m2 (w.heap.size+1+1+1) (by omega)
  have o1:=h1
  have o2:=h2
  obtain ⟨a1,q1,e1,_⟩:=h1.seg
  obtain ⟨a2,q2,e2,_⟩:=h2.seg
  subst e1 e2
  clear h1 h2 e ht
  go_enter Tryz.func98,Tryz.ntmps98
  go_wp2_with fail;refine bHit w (by exact zB) fun bb=>?_;refine (l8Grown_any _ _).mono ?_;rintro _ w4 ⟨rfl,hbw4⟩;have hCw4:Below w.heap.size w w4:=bT bb hbw4;have hsw4:=hbw4.size;(try simp at hsw4);have zz:=q4 hbw4 (b:=w.heap.size);(try simp [go_sem] at zz);(try clear z_wppp x_wppp f_wppp l_wppp);(try clear z_wpp x_wpp f_wpp l_wpp);(try clear z_wp x_wp f_wp l_wp);(try clear z_w x_w f_w l_w);obtain ⟨z_wppp,z_wpp,z_wp,z_w⟩:=zz;obtain ⟨x_wppp,f_wppp,l_wppp⟩:=bO z_wppp;obtain ⟨x_wpp,f_wpp,l_wpp⟩:=bO z_wpp;obtain ⟨x_wp,f_wp,l_wp⟩:=bO z_wp;obtain ⟨x_w,f_w,l_w⟩:=bO z_w;clear hbw4 bb
  have o3:=own_below o1 hCw4
  have o4:=own_below o2 hCw4
  have m14:=m1 w4.heap.size (by omega)
  have m24:=m2 w4.heap.size (by omega)
  have l_w4:w4.heap.size<w4.heap.size+1:=by omega
  have k0:w.heap.size<w4.heap.size:=by omega
  have k1:w.heap.size+1<w4.heap.size:=by omega
  have k2:w.heap.size+1+1<w4.heap.size:=by omega
  have k3:w.heap.size+1+1+1<w4.heap.size:=by omega
  go_wp2_with fail;refine (T.out _ (by exact zO o3 o1) (by exact zO o4 o2)).mono ?_;rintro _ w1 ⟨rfl,p1,p2,hgw1⟩;have hsw1:=hgw1.size;(try (simp at hsw1));have zz:=And.intro (grHp hgw1 (b:=w4.heap.size) (by (try simp) <;> omega) (by assumption)) <| And.intro (grHp hgw1 (b:=w.heap.size+1+1+1) (by (try simp) <;> omega) (by assumption)) <| And.intro (grHp hgw1 (b:=w.heap.size+1+1) (by (try simp) <;> omega) (by assumption)) <| And.intro (grHp hgw1 (b:=w.heap.size+1) (by (try simp) <;> omega) (by assumption)) <| grHp hgw1 (b:=w.heap.size) (by (try simp) <;> omega) (by assumption);(first|simp [go_sem,z_wppp,z_wpp,z_wp,z_w,l_w,l_w4,l_wp,l_wpp,l_wppp,k0,k1,k2,k3] at zz|simp [go_sem] at zz|skip);(try clear z_w4 x_w4 f_w4 l_w4);(try clear z_wppp x_wppp f_wppp l_wppp);(try clear z_wpp x_wpp f_wpp l_wpp);(try clear z_wp x_wp f_wp l_wp);(try clear z_w x_w f_w l_w);obtain ⟨z_w4,z_wppp,z_wpp,z_wp,z_w⟩:=zz;obtain ⟨x_w4,f_w4,l_w4⟩:=bO z_w4;obtain ⟨x_wppp,f_wppp,l_wppp⟩:=bO z_wppp;obtain ⟨x_wpp,f_wpp,l_wpp⟩:=bO z_wpp;obtain ⟨x_wp,f_wp,l_wp⟩:=bO z_wp;obtain ⟨x_w,f_w,l_w⟩:=bO z_w;have hGw1:=grB (w:=w) (by exact zB) hgw1;clear hgw1
  have hO1:Onl (Value.slice a1 c.cells.length q1).ownBlock (Value.slice a2 c.words.length q2).ownBlock w w1:=onl1 hGw1
  clear k0 k1 k2 k3
  have k0:w.heap.size<w1.heap.size:=by omega
  have k1:w.heap.size+1<w1.heap.size:=by omega
  have k2:w.heap.size+1+1<w1.heap.size:=by omega
  have k3:w.heap.size+1+1+1<w1.heap.size:=by omega
  have k4:w4.heap.size<w1.heap.size:=by omega
  have r1:OCells w1 lo (.slice a1 c.cells.length q1) (turnC c i h.seen 1 0).cells:=p1
  have r2:OInts w1 lo (.slice a2 c.words.length q2) (turnC c i h.seen 1 0).words:=p2
  go_wp2_with fail
  refine (D.out _ (by exact zO r1 o1) (by exact zO r2 o2)).mono ?_
  rintro _ w3 ⟨⟨y1,y2,rfl,oY1,oY2,fY1,fY2⟩,hbw3⟩
  have hO3:Onl (Value.slice a1 c.cells.length q1).ownBlock (Value.slice a2 c.words.length q2).ownBlock w w3:=onlT (by (repeat (first|with_reducible assumption|with_reducible refine oA ?_|with_reducible refine oD ?_|((with_reducible refine oX ?_ ?_);rotate_left;(focus ((try dsimp only);(try simp);(try omega))))|((with_reducible refine oS ?_ ?_);rotate_left;(focus ((try dsimp only);(try simp);(try omega))))))) (onlB hbw3)
  have hsw3:=hbw3.size;(try simp at hsw3);have zz:=q4 hbw3 (b:=w.heap.size);(first|simp [go_sem,z_wppp,z_wpp,z_wp,z_w,l_w,l_wp,l_wpp,l_wppp,k0,k1,k2,k3,k4] at zz|simp [go_sem] at zz|skip);(try clear z_wppp x_wppp f_wppp l_wppp);(try clear z_wpp x_wpp f_wpp l_wpp);(try clear z_wp x_wp f_wp l_wp);(try clear z_w x_w f_w l_w);obtain ⟨z_wppp,z_wpp,z_wp,z_w⟩:=zz;obtain ⟨x_wppp,f_wppp,l_wppp⟩:=bO z_wppp;obtain ⟨x_wpp,f_wpp,l_wpp⟩:=bO z_wpp;obtain ⟨x_wp,f_wp,l_wp⟩:=bO z_wp;obtain ⟨x_w,f_w,l_w⟩:=bO z_w;clear hbw3
  have hoff1:∀ j,w.heap.size≤j→j<w.heap.size+1+1+1+1→y1.ownBlock≠some j:=fun j h1 h2=>fY1.off b1 h1 (by (try simp) <;> omega);have hoff2:∀ j,w.heap.size≤j→j<w.heap.size+1+1+1+1→y2.ownBlock≠some j:=fun j h1 h2=>fY2.off b2 h1 (by (try simp) <;> omega);have fr1:Fresh w _ y1:=fun j hj=>(fY1 j hj).imp id (fun h=>Nat.le_trans (by (try simp) <;> omega) h);have fr2:Fresh w _ y2:=fun j hj=>(fY2 j hj).imp id (fun h=>Nat.le_trans (by (try simp) <;> omega) h);obtain ⟨ya,yp,rfl,_⟩:=oY1.seg;obtain ⟨yb,yq,rfl,_⟩:=oY2.seg
  go_wp2
  refine bodyPost_ret (res_cct Tryz.results98 rfl (ldChan x.1 (.slice ya x.1.cells.length yp) (.slice yb x.1.words.length yq) (by simp [go_sem, *])) rfl (ldHand x.2.1 (by simp [go_sem, *]))) rfl ⟨⟨_,_,rfl,?_,?_,fr1,fr2⟩,by (repeat (first|with_reducible assumption|with_reducible refine oA ?_|with_reducible refine oD ?_|((with_reducible refine oX ?_ ?_);rotate_left;(focus ((try dsimp only);(try simp);(try omega))))|((with_reducible refine oS ?_ ?_);rotate_left;(focus ((try dsimp only);(try simp);(try omega))))))⟩
  · exact zP oY1 oY1 hoff1
  · exact zP oY2 oY2 hoff2
set_option maxRecDepth 100000 in
set_option maxHeartbeats 4000000 in
theorem l8Pull_nf (c:Ch) (h:Ha) (v1 v2:Value) (lo:Nat) (w:World) (h1:OCells w lo v1 c.cells) (h2:OInts w lo v2 c.words) (hc0:0≤h.grow) (hc1:h.grow<c.cells.length) (hs:(h.seen == 3)=false) (hs2:(h.seen == 0)=true) (ht:turnCB c h.grow h.seen 1 0=false) :
    Calls Tryz.prog 98 #[.agg (cvals c v1 v2),.agg (hvals h)] w fun r w'=>StepO w w' lo v1 v2 (pull8 c h) r:=by
  obtain ⟨i,hci⟩:∃ i:Nat,h.grow=(i:Int):=⟨h.grow.toNat,by omega⟩
  have hi:i<c.cells.length:=by omega
  have ht2:turnCB c i h.seen 1 0=false:=by rw [← ht,hci]
  have e:pull8 c h=done (turnC c i h.seen 1 0) ({ h with pos:=18,grow:=(i:Int) }):=by simp at hs hs2;simp [pull8,turn8,hs,hs2,hci] at ht2 ⊢;simp [ht2]
  rw [e]
  have T:=Lib.hid fun W a b=>wTurn_any c i h.seen 1 0 v1 v2 lo W a b hi
  have D:=Lib.hid fun W=>l6Done_any (turnC c i h.seen 1 0) ({ h with pos:=18,grow:=(i:Int) }) v1 v2 lo W
  generalize done (turnC c i h.seen 1 0) ({ h with pos:=18,grow:=(i:Int) })=x at *
  rw [ht2] at T
  have b1:=fun j (hj:v1.ownBlock=some j)=>(h1.lt j hj).2
  have b2:=fun j (hj:v2.ownBlock=some j)=>(h2.lt j hj).2
  have m1:∀ j,w.heap.size≤j→some j≠v1.ownBlock:=fun j hj e=>by have:=b1 _ e.symm;omega
  have m2:∀ j,w.heap.size≤j→some j≠v2.ownBlock:=fun j hj e=>by have:=b2 _ e.symm;omega
  have m10:=m1 (w.heap.size) (by omega)
  have m20:=m2 (w.heap.size) (by omega)
  have m11:=m1 (w.heap.size+1) (by omega)
  have m21:=m2 (w.heap.size+1) (by omega)
  have m12:=m1 (w.heap.size+1+1) (by omega)
  have m22:=m2 (w.heap.size+1+1) (by omega)
  have m13:=m1 (w.heap.size+1+1+1) (by omega)
  have m23:=m2 (w.heap.size+1+1+1) (by omega)
  have o1:=h1
  have o2:=h2
  obtain ⟨a1,q1,e1,_⟩:=h1.seg
  obtain ⟨a2,q2,e2,_⟩:=h2.seg
  subst e1 e2
  clear h1 h2 e ht
  go_enter Tryz.func98,Tryz.ntmps98
  go_wp2_with fail;refine bHit w (by exact zB) fun bb=>?_;refine (l8Grown_any _ _).mono ?_;rintro _ w4 ⟨rfl,hbw4⟩;have hCw4:Below w.heap.size w w4:=bT bb hbw4;have hsw4:=hbw4.size;(try simp at hsw4);have zz:=q4 hbw4 (b:=w.heap.size);(try simp [go_sem] at zz);(try clear z_wppp x_wppp f_wppp l_wppp);(try clear z_wpp x_wpp f_wpp l_wpp);(try clear z_wp x_wp f_wp l_wp);(try clear z_w x_w f_w l_w);obtain ⟨z_wppp,z_wpp,z_wp,z_w⟩:=zz;obtain ⟨x_wppp,f_wppp,l_wppp⟩:=bO z_wppp;obtain ⟨x_wpp,f_wpp,l_wpp⟩:=bO z_wpp;obtain ⟨x_wp,f_wp,l_wp⟩:=bO z_wp;obtain ⟨x_w,f_w,l_w⟩:=bO z_w;clear hbw4 bb
  have o3:=own_below o1 hCw4
  have o4:=own_below o2 hCw4
  have m14:=m1 w4.heap.size (by omega)
  have m24:=m2 w4.heap.size (by omega)
  have l_w4:w4.heap.size<w4.heap.size+1:=by omega
  have k0:w.heap.size<w4.heap.size:=by omega
  have k1:w.heap.size+1<w4.heap.size:=by omega
  have k2:w.heap.size+1+1<w4.heap.size:=by omega
  have k3:w.heap.size+1+1+1<w4.heap.size:=by omega
  go_wp2_with fail;refine (T.out _ (by exact zO o3 o1) (by exact zO o4 o2)).mono ?_;rintro _ w1 ⟨rfl,p1,p2,hgw1⟩;have hsw1:=hgw1.size;(try (simp at hsw1));have zz:=And.intro (grHp hgw1 (b:=w4.heap.size) (by (try simp) <;> omega) (by assumption)) <| And.intro (grHp hgw1 (b:=w.heap.size+1+1+1) (by (try simp) <;> omega) (by assumption)) <| And.intro (grHp hgw1 (b:=w.heap.size+1+1) (by (try simp) <;> omega) (by assumption)) <| And.intro (grHp hgw1 (b:=w.heap.size+1) (by (try simp) <;> omega) (by assumption)) <| grHp hgw1 (b:=w.heap.size) (by (try simp) <;> omega) (by assumption);(first|simp [go_sem,z_wppp,z_wpp,z_wp,z_w,l_w,l_w4,l_wp,l_wpp,l_wppp,k0,k1,k2,k3] at zz|simp [go_sem] at zz|skip);(try clear z_w4 x_w4 f_w4 l_w4);(try clear z_wppp x_wppp f_wppp l_wppp);(try clear z_wpp x_wpp f_wpp l_wpp);(try clear z_wp x_wp f_wp l_wp);(try clear z_w x_w f_w l_w);obtain ⟨z_w4,z_wppp,z_wpp,z_wp,z_w⟩:=zz;obtain ⟨x_w4,f_w4,l_w4⟩:=bO z_w4;obtain ⟨x_wppp,f_wppp,l_wppp⟩:=bO z_wppp;obtain ⟨x_wpp,f_wpp,l_wpp⟩:=bO z_wpp;obtain ⟨x_wp,f_wp,l_wp⟩:=bO z_wp;obtain ⟨x_w,f_w,l_w⟩:=bO z_w;have hGw1:=grB (w:=w) (by exact zB) hgw1;clear hgw1
  have hO1:Onl (Value.slice a1 c.cells.length q1).ownBlock (Value.slice a2 c.words.length q2).ownBlock w w1:=onl1 hGw1
  clear k0 k1 k2 k3
  have k0:w.heap.size<w1.heap.size:=by omega
  have k1:w.heap.size+1<w1.heap.size:=by omega
  have k2:w.heap.size+1+1<w1.heap.size:=by omega
  have k3:w.heap.size+1+1+1<w1.heap.size:=by omega
  have k4:w4.heap.size<w1.heap.size:=by omega
  have r1:OCells w1 lo (.slice a1 c.cells.length q1) (turnC c i h.seen 1 0).cells:=p1
  have r2:OInts w1 lo (.slice a2 c.words.length q2) (turnC c i h.seen 1 0).words:=p2
  go_wp2_with fail
  refine (D.out _ (by exact zO r1 o1) (by exact zO r2 o2)).mono ?_
  rintro _ w3 ⟨⟨y1,y2,rfl,oY1,oY2,fY1,fY2⟩,hbw3⟩
  have hO3:Onl (Value.slice a1 c.cells.length q1).ownBlock (Value.slice a2 c.words.length q2).ownBlock w w3:=onlT (by (repeat (first|with_reducible assumption|with_reducible refine oA ?_|with_reducible refine oD ?_|((with_reducible refine oX ?_ ?_);rotate_left;(focus ((try dsimp only);(try simp);(try omega))))|((with_reducible refine oS ?_ ?_);rotate_left;(focus ((try dsimp only);(try simp);(try omega))))))) (onlB hbw3)
  have hsw3:=hbw3.size;(try simp at hsw3);have zz:=q4 hbw3 (b:=w.heap.size);(first|simp [go_sem,z_wppp,z_wpp,z_wp,z_w,l_w,l_wp,l_wpp,l_wppp,k0,k1,k2,k3,k4] at zz|simp [go_sem] at zz|skip);(try clear z_wppp x_wppp f_wppp l_wppp);(try clear z_wpp x_wpp f_wpp l_wpp);(try clear z_wp x_wp f_wp l_wp);(try clear z_w x_w f_w l_w);obtain ⟨z_wppp,z_wpp,z_wp,z_w⟩:=zz;obtain ⟨x_wppp,f_wppp,l_wppp⟩:=bO z_wppp;obtain ⟨x_wpp,f_wpp,l_wpp⟩:=bO z_wpp;obtain ⟨x_wp,f_wp,l_wp⟩:=bO z_wp;obtain ⟨x_w,f_w,l_w⟩:=bO z_w;clear hbw3
  have hoff1:∀ j,w.heap.size≤j→j<w.heap.size+1+1+1+1→y1.ownBlock≠some j:=fun j h1 h2=>fY1.off b1 h1 (by (try simp) <;> omega);have hoff2:∀ j,w.heap.size≤j→j<w.heap.size+1+1+1+1→y2.ownBlock≠some j:=fun j h1 h2=>fY2.off b2 h1 (by (try simp) <;> omega);have fr1:Fresh w _ y1:=fun j hj=>(fY1 j hj).imp id (fun h=>Nat.le_trans (by (try simp) <;> omega) h);have fr2:Fresh w _ y2:=fun j hj=>(fY2 j hj).imp id (fun h=>Nat.le_trans (by (try simp) <;> omega) h);obtain ⟨ya,yp,rfl,_⟩:=oY1.seg;obtain ⟨yb,yq,rfl,_⟩:=oY2.seg
  go_wp2
  refine bodyPost_ret (res_cct Tryz.results98 rfl (ldChan x.1 (.slice ya x.1.cells.length yp) (.slice yb x.1.words.length yq) (by simp [go_sem, *])) rfl (ldHand x.2.1 (by simp [go_sem, *]))) rfl ⟨⟨_,_,rfl,?_,?_,fr1,fr2⟩,by (repeat (first|with_reducible assumption|with_reducible refine oA ?_|with_reducible refine oD ?_|((with_reducible refine oX ?_ ?_);rotate_left;(focus ((try dsimp only);(try simp);(try omega))))|((with_reducible refine oS ?_ ?_);rotate_left;(focus ((try dsimp only);(try simp);(try omega))))))⟩
  · exact zP oY1 oY1 hoff1
  · exact zP oY2 oY2 hoff2
set_option maxRecDepth 100000 in
set_option maxHeartbeats 4000000 in
theorem l8Pull_no (c:Ch) (h:Ha) (v1 v2:Value) (lo:Nat) (w:World) (h1:OCells w lo v1 c.cells) (h2:OInts w lo v2 c.words) (hs:(h.seen == 3)=false) (hs2:(h.seen == 0)=false) :
    Calls Tryz.prog 98 #[.agg (cvals c v1 v2),.agg (hvals h)] w fun r w'=>StepO w w' lo v1 v2 (pull8 c h) r:=by
  have e:pull8 c h=nothing:=by simp at hs hs2;simp [pull8,hs,hs2]
  rw [e]
  have T:=Lib.hid (l6None_any · lo v1 v2)
  generalize nothing=x at *
  have b1:=fun j (hj:v1.ownBlock=some j)=>(h1.lt j hj).2
  have b2:=fun j (hj:v2.ownBlock=some j)=>(h2.lt j hj).2
  have m1:∀ j,w.heap.size≤j→some j≠v1.ownBlock:=fun j hj e=>by have:=b1 _ e.symm;omega
  have m2:∀ j,w.heap.size≤j→some j≠v2.ownBlock:=fun j hj e=>by have:=b2 _ e.symm;omega
  have m10:=m1 (w.heap.size) (by omega)
  have m20:=m2 (w.heap.size) (by omega)
  have m11:=m1 (w.heap.size+1) (by omega)
  have m21:=m2 (w.heap.size+1) (by omega)
  have m12:=m1 (w.heap.size+1+1) (by omega)
  have m22:=m2 (w.heap.size+1+1) (by omega)
  have m13:=m1 (w.heap.size+1+1+1) (by omega)
  have m23:=m2 (w.heap.size+1+1+1) (by omega)
  have o1:=h1
  have o2:=h2
  obtain ⟨a1,q1,e1,_⟩:=h1.seg
  obtain ⟨a2,q2,e2,_⟩:=h2.seg
  subst e1 e2
  clear h1 h2 e
  go_enter Tryz.func98,Tryz.ntmps98
  go_wp2_with fail;refine bHit w (by exact zB) fun bb=>?_;refine (l8Grown_any _ _).mono ?_;rintro _ w4 ⟨rfl,hbw4⟩;have hCw4:Below w.heap.size w w4:=bT bb hbw4;have hsw4:=hbw4.size;(try simp at hsw4);have zz:=q4 hbw4 (b:=w.heap.size);(try simp [go_sem] at zz);(try clear z_wppp x_wppp f_wppp l_wppp);(try clear z_wpp x_wpp f_wpp l_wpp);(try clear z_wp x_wp f_wp l_wp);(try clear z_w x_w f_w l_w);obtain ⟨z_wppp,z_wpp,z_wp,z_w⟩:=zz;obtain ⟨x_wppp,f_wppp,l_wppp⟩:=bO z_wppp;obtain ⟨x_wpp,f_wpp,l_wpp⟩:=bO z_wpp;obtain ⟨x_wp,f_wp,l_wp⟩:=bO z_wp;obtain ⟨x_w,f_w,l_w⟩:=bO z_w;clear hbw4 bb
  go_wp2_with fail;refine bHit w (by exact zB) fun bb=>?_;refine (T.out _).mono ?_;rintro _ w1 ⟨⟨y1,y2,rfl,oY1,oY2,fY1,fY2⟩,hbw1⟩;have hCw1:Below w.heap.size w w1:=bT bb hbw1;have hsw1:=hbw1.size;(try simp at hsw1);have zz:=q4 hbw1 (b:=w.heap.size);(first|simp [go_sem,z_wppp,z_wpp,z_wp,z_w,l_w,l_wp,l_wpp,l_wppp] at zz|simp [go_sem] at zz|skip);(try clear z_wppp x_wppp f_wppp l_wppp);(try clear z_wpp x_wpp f_wpp l_wpp);(try clear z_wp x_wp f_wp l_wp);(try clear z_w x_w f_w l_w);obtain ⟨z_wppp,z_wpp,z_wp,z_w⟩:=zz;obtain ⟨x_wppp,f_wppp,l_wppp⟩:=bO z_wppp;obtain ⟨x_wpp,f_wpp,l_wpp⟩:=bO z_wpp;obtain ⟨x_wp,f_wp,l_wp⟩:=bO z_wp;obtain ⟨x_w,f_w,l_w⟩:=bO z_w;clear hbw1 bb
  have hoff1:∀ j,w.heap.size≤j→j<w.heap.size+1+1+1+1→y1.ownBlock≠some j:=fun j h1 h2=>fY1.off b1 h1 (by (try simp) <;> omega);have hoff2:∀ j,w.heap.size≤j→j<w.heap.size+1+1+1+1→y2.ownBlock≠some j:=fun j h1 h2=>fY2.off b2 h1 (by (try simp) <;> omega);have fr1:Fresh w _ y1:=fun j hj=>(fY1 j hj).imp id (fun h=>Nat.le_trans (by (try simp) <;> omega) h);have fr2:Fresh w _ y2:=fun j hj=>(fY2 j hj).imp id (fun h=>Nat.le_trans (by (try simp) <;> omega) h);obtain ⟨ya,yp,rfl,_⟩:=oY1.seg;obtain ⟨yb,yq,rfl,_⟩:=oY2.seg
  go_wp2
  refine bodyPost_ret (res_cct Tryz.results98 rfl (ldChan x.1 (.slice ya x.1.cells.length yp) (.slice yb x.1.words.length yq) (by simp [go_sem, *])) rfl (ldHand x.2.1 (by simp [go_sem, *]))) rfl ⟨⟨_,_,rfl,?_,?_,fr1,fr2⟩,onlB (by exact zB)⟩
  · exact zP oY1 oY1 hoff1
  · exact zP oY2 oY2 hoff2
theorem l8Pull_any (c:Ch) (h:Ha) (v1 v2:Value) (lo:Nat) (w:World) (h1:OCells w lo v1 c.cells) (h2:OInts w lo v2 c.words) (hc0:0≤h.grow) (hc1:h.grow<c.cells.length) :
    Calls Tryz.prog 98 #[.agg (cvals c v1 v2),.agg (hvals h)] w fun r w'=>StepO w w' lo v1 v2 (pull8 c h) r:=by
  by_cases s3:h.seen=3
  · cases ht:turnCB c h.grow h.seen 6 h.wait with
    | true=>exact l8Pull_st c h v1 v2 lo w h1 h2 hc0 hc1 (by simpa using s3) (by simp [s3]) ht
    | false=>exact l8Pull_sf c h v1 v2 lo w h1 h2 hc0 hc1 (by simpa using s3) (by simp [s3]) ht
  · by_cases s0:h.seen=0
    · cases ht:turnCB c h.grow h.seen 1 0 with
      | true=>exact l8Pull_nt c h v1 v2 lo w h1 h2 hc0 hc1 (by simpa using s3) (by simpa using s0) ht
      | false=>exact l8Pull_nf c h v1 v2 lo w h1 h2 hc0 hc1 (by simpa using s3) (by simpa using s0) ht
    · exact l8Pull_no c h v1 v2 lo w h1 h2 (by simpa using s3) (by simpa using s0)
end Go.Proofs.YtmnpgkcdfielbaaGreat
set_option linter.unusedSimpArgs false
set_option linter.unusedVariables false
namespace Go.Proofs.YtmnpgkcdfielbaaGreat
open Go.RowKit
set_option linter.unusedSimpArgs false
attribute [local simp] bx_size
attribute [local go_sem ↓] zeroHand zeroChan toLHand toLChan toVHand toVChan storeHand storeChan storeHandC storeChanC
set_option maxRecDepth 100000 in
set_option maxHeartbeats 2000000 in
theorem sGrow_16 (c:Ch) (h:Ha) (a b:Option Addr) (p q:Nat) (w:World) (h1:Seg w w.heap.size a c.cells.length 3 (cellF c.cells)) (z1:a=none→p=0) (h2:Seg w w.heap.size b c.words.length 1 (intF c.words)) (z2:b=none→q=0) (hk:stepOk c h 16 22 2=true) (hp0:h.pos=16) :
    Calls Tryz.prog 72 #[.agg (cvals c (.slice a c.cells.length p) (.slice b c.words.length q)),.agg (hvals h)] w fun r w'=>StepN w w' (growStep c h) r:=by
  obtain ⟨k1,k2,_,_⟩:=stepOk_yes hk
  obtain ⟨n1,n2⟩:=chan_40 k1
  have m1:c.cells.length≤1099511627776:=by omega
  have m2:c.words.length≤1099511627776:=by omega
  have H1:=Lib.hid h1
  have H2:=Lib.hid h2
  have Z1:=Lib.hid z1
  have Z2:=Lib.hid z2
  have e:growStep c h=done (begin8 c h).1 (begin8 c h).2:=by simp [growStep,hk,hp0]
  rw [e]
  have hfin:0≤c.fin∧c.fin≤40:=chan_fin k1
  have K:=fun a1 a2 n1 n2 q1 q2 W=>l8Begin_any c h a1 a2 n1 n2 q1 q2 W hfin
  have D:=fun v1 v2 W=>l6Done_any (begin8 c h).1 (begin8 c h).2 v1 v2 w.heap.size W
  rw [begin_cells,begin_words] at D
  generalize done (begin8 c h).1 (begin8 c h).2=x at *
  generalize (begin8 c h).1=cb at *
  generalize (begin8 c h).2=hb at *
  replace K:=Lib.hid K
  replace D:=Lib.hid D
  clear h1 h2 z1 z2 e k1 k2 n1 n2
  go_enter Tryz.func72,Tryz.ntmps72
  go_wp2_with fail;refine bHit w (by exact zB) fun bb=>?_;refine (l6Ok_any c h 16 22 2 a b p q _ ((H1.out.below bb).more bb.size) ((H2.out.below bb).more bb.size)).mono ?_;rintro _ w1 ⟨rfl,hbw1⟩;have hCw1:Below w.heap.size w w1:=bT bb hbw1;have hsw1:=hbw1.size;(try simp at hsw1);have zz:=q4 hbw1 (b:=w.heap.size);(try simp [go_sem] at zz);(try clear z_wppp x_wppp f_wppp l_wppp);(try clear z_wpp x_wpp f_wpp l_wpp);(try clear z_wp x_wp f_wp l_wp);(try clear z_w x_w f_w l_w);obtain ⟨z_wppp,z_wpp,z_wp,z_w⟩:=zz;obtain ⟨x_wppp,f_wppp,l_wppp⟩:=bO z_wppp;obtain ⟨x_wpp,f_wpp,l_wpp⟩:=bO z_wpp;obtain ⟨x_wp,f_wp,l_wp⟩:=bO z_wp;obtain ⟨x_w,f_w,l_w⟩:=bO z_w;clear hbw1 bb
  rw [hk]
  go_wp2_with fail;refine bHit w (by exact zB) fun bb=>?_;refine (wCopy_any c a b p q _ ((H1.out.below bb).more bb.size) Z1.out ((H2.out.below bb).more bb.size) Z2.out m1 m2).mono ?_;rintro _ w2 ⟨⟨v1,v2,rfl,o1,o2⟩,hbw2⟩;have hCw2:Below w.heap.size w w2:=bT bb hbw2;have hsw2:=hbw2.size;(try simp at hsw2);have zz:=q4 hbw2 (b:=w.heap.size);(first|simp [go_sem,z_wppp,z_wpp,z_wp,z_w,l_w,l_wp,l_wpp,l_wppp] at zz|simp [go_sem] at zz|skip);(try clear z_wppp x_wppp f_wppp l_wppp);(try clear z_wpp x_wpp f_wpp l_wpp);(try clear z_wp x_wp f_wp l_wp);(try clear z_w x_w f_w l_w);obtain ⟨z_wppp,z_wpp,z_wp,z_w⟩:=zz;obtain ⟨x_wppp,f_wppp,l_wppp⟩:=bO z_wppp;obtain ⟨x_wpp,f_wpp,l_wpp⟩:=bO z_wpp;obtain ⟨x_wp,f_wp,l_wp⟩:=bO z_wp;obtain ⟨x_w,f_w,l_w⟩:=bO z_w;clear hbw2 bb
  have d1:∀ j,v1.ownBlock=some j→w.heap.size+1+1+1+1≤j:=fun j hj=>by have:=(o1.lt j hj).1;omega
  have d2:∀ j,v2.ownBlock=some j→w.heap.size+1+1+1+1≤j:=fun j hj=>by have:=(o2.lt j hj).1;omega
  have p1:=own_lo (lo':=w.heap.size) o1 (by omega)
  have p2:=own_lo (lo':=w.heap.size) o2 (by omega)
  obtain ⟨a1,q1,rfl,_⟩:=o1.seg
  obtain ⟨a2,q2,rfl,_⟩:=o2.seg
  have k0:w.heap.size<w2.heap.size:=by omega
  have k1:w.heap.size+1<w2.heap.size:=by omega
  have k2:w.heap.size+1+1<w2.heap.size:=by omega
  have k3:w.heap.size+1+1+1<w2.heap.size:=by omega
  go_wp2_with fail;refine bHit w (by exact zB) fun bb=>?_;refine bHit w2 (by exact zB) fun bk=>?_;refine (K.out _ _ _ _ _ _ _).mono ?_;rintro _ w4 ⟨rfl,hbw4⟩;have hCw4:Below w.heap.size w w4:=bT bb hbw4;have hsw4:=hbw4.size;(try simp at hsw4);have zz:=And.intro (hQ hbw4 (b:=w2.heap.size)) <| And.intro (hQ hbw4 (b:=w.heap.size+1+1+1)) <| And.intro (hQ hbw4 (b:=w.heap.size+1+1)) <| And.intro (hQ hbw4 (b:=w.heap.size+1)) <| hQ hbw4 (b:=w.heap.size);(first|simp [go_sem,z_wppp,z_wpp,z_wp,z_w,l_w,l_wp,l_wpp,l_wppp,k0,k1,k2,k3] at zz|simp [go_sem] at zz|skip);(try clear z_w2 x_w2 f_w2 l_w2);(try clear z_wppp x_wppp f_wppp l_wppp);(try clear z_wpp x_wpp f_wpp l_wpp);(try clear z_wp x_wp f_wp l_wp);(try clear z_w x_w f_w l_w);obtain ⟨z_w2,z_wppp,z_wpp,z_wp,z_w⟩:=zz;obtain ⟨x_w2,f_w2,l_w2⟩:=bO z_w2;obtain ⟨x_wppp,f_wppp,l_wppp⟩:=bO z_wppp;obtain ⟨x_wpp,f_wpp,l_wpp⟩:=bO z_wpp;obtain ⟨x_wp,f_wp,l_wp⟩:=bO z_wp;obtain ⟨x_w,f_w,l_w⟩:=bO z_w;have hKw4:Below w2.heap.size w2 w4:=bT bk hbw4;clear hbw4 bb bk
  have s1:=own_below p1 hKw4
  have s2:=own_below p2 hKw4
  go_wp2_with fail;refine bHit w (by exact zB) fun bb=>?_;refine (D.out _ _ _ (by exact zO s1 o1) (by exact zO s2 o2)).mono ?_;rintro _ w3 ⟨⟨y1,y2,rfl,oY1,oY2,fY1,fY2⟩,hbw3⟩;have hCw3:Below w.heap.size w w3:=bT bb hbw3;have hsw3:=hbw3.size;(try simp at hsw3);have zz:=q4 hbw3 (b:=w.heap.size);(first|simp [go_sem,z_wppp,z_wpp,z_wp,z_w,l_w,l_wp,l_wpp,l_wppp,k0,k1,k2,k3] at zz|simp [go_sem] at zz|skip);(try clear z_wppp x_wppp f_wppp l_wppp);(try clear z_wpp x_wpp f_wpp l_wpp);(try clear z_wp x_wp f_wp l_wp);(try clear z_w x_w f_w l_w);obtain ⟨z_wppp,z_wpp,z_wp,z_w⟩:=zz;obtain ⟨x_wppp,f_wppp,l_wppp⟩:=bO z_wppp;obtain ⟨x_wpp,f_wpp,l_wpp⟩:=bO z_wpp;obtain ⟨x_wp,f_wp,l_wp⟩:=bO z_wp;obtain ⟨x_w,f_w,l_w⟩:=bO z_w;clear hbw3 bb
  have hoff1:∀ j,w.heap.size≤j→j<w.heap.size+1+1+1+1→y1.ownBlock≠some j:=fun j _ h2=>fY1.off2 d1 h2 (by (try simp) <;> omega);have hoff2:∀ j,w.heap.size≤j→j<w.heap.size+1+1+1+1→y2.ownBlock≠some j:=fun j _ h2=>fY2.off2 d2 h2 (by (try simp) <;> omega);have fr1:Fresh w (.slice none 0 0) y1:=fun j hj=>.inr (fY1.up d1 (by (try simp) <;> omega) (by (try simp) <;> omega) j hj);have fr2:Fresh w (.slice none 0 0) y2:=fun j hj=>.inr (fY2.up d2 (by (try simp) <;> omega) (by (try simp) <;> omega) j hj);obtain ⟨ya,yp,rfl,_⟩:=oY1.seg;obtain ⟨yb,yq,rfl,_⟩:=oY2.seg
  go_wp2
  refine bodyPost_ret (res_cct Tryz.results72 rfl (ldChan x.1 (.slice ya x.1.cells.length yp) (.slice yb x.1.words.length yq) (by simp [go_sem, *])) rfl (ldHand x.2.1 (by simp [go_sem, *]))) rfl ⟨⟨_,_,rfl,?_,?_,fr1,fr2⟩,by exact zB⟩
  · exact zP oY1 oY1 hoff1
  · exact zP oY2 oY2 hoff2
set_option maxRecDepth 100000 in
set_option maxHeartbeats 2000000 in
theorem sGrow_19 (c:Ch) (h:Ha) (a b:Option Addr) (p q:Nat) (w:World) (h1:Seg w w.heap.size a c.cells.length 3 (cellF c.cells)) (z1:a=none→p=0) (h2:Seg w w.heap.size b c.words.length 1 (intF c.words)) (z2:b=none→q=0) (hk:stepOk c h 16 22 2=true) (hp0:h.pos=19) :
    Calls Tryz.prog 72 #[.agg (cvals c (.slice a c.cells.length p) (.slice b c.words.length q)),.agg (hvals h)] w fun r w'=>StepN w w' (growStep c h) r:=by
  obtain ⟨k1,k2,_,_⟩:=stepOk_yes hk
  obtain ⟨n1,n2⟩:=chan_40 k1
  have m1:c.cells.length≤1099511627776:=by omega
  have m2:c.words.length≤1099511627776:=by omega
  have H1:=Lib.hid h1
  have H2:=Lib.hid h2
  have Z1:=Lib.hid z1
  have Z2:=Lib.hid z2
  obtain ⟨c1,c2⟩:=hand_grow k2
  have e:growStep c h=pull8 c h:=by simp [growStep,hk,hp0]
  rw [e]
  have D:=Lib.hid fun v1 v2 W x1 x2=>l8Pull_any c h v1 v2 w.heap.size W x1 x2 c1 (by omega)
  generalize pull8 c h=x at *
  clear h1 h2 z1 z2 e k1 k2 n1 n2 c1 c2
  go_enter Tryz.func72,Tryz.ntmps72
  go_wp2_with fail;refine bHit w (by exact zB) fun bb=>?_;refine (l6Ok_any c h 16 22 2 a b p q _ ((H1.out.below bb).more bb.size) ((H2.out.below bb).more bb.size)).mono ?_;rintro _ w1 ⟨rfl,hbw1⟩;have hCw1:Below w.heap.size w w1:=bT bb hbw1;have hsw1:=hbw1.size;(try simp at hsw1);have zz:=q4 hbw1 (b:=w.heap.size);(try simp [go_sem] at zz);(try clear z_wppp x_wppp f_wppp l_wppp);(try clear z_wpp x_wpp f_wpp l_wpp);(try clear z_wp x_wp f_wp l_wp);(try clear z_w x_w f_w l_w);obtain ⟨z_wppp,z_wpp,z_wp,z_w⟩:=zz;obtain ⟨x_wppp,f_wppp,l_wppp⟩:=bO z_wppp;obtain ⟨x_wpp,f_wpp,l_wpp⟩:=bO z_wpp;obtain ⟨x_wp,f_wp,l_wp⟩:=bO z_wp;obtain ⟨x_w,f_w,l_w⟩:=bO z_w;clear hbw1 bb
  rw [hk]
  go_wp2_with fail;refine bHit w (by exact zB) fun bb=>?_;refine (wCopy_any c a b p q _ ((H1.out.below bb).more bb.size) Z1.out ((H2.out.below bb).more bb.size) Z2.out m1 m2).mono ?_;rintro _ w2 ⟨⟨v1,v2,rfl,o1,o2⟩,hbw2⟩;have hCw2:Below w.heap.size w w2:=bT bb hbw2;have hsw2:=hbw2.size;(try simp at hsw2);have zz:=q4 hbw2 (b:=w.heap.size);(first|simp [go_sem,z_wppp,z_wpp,z_wp,z_w,l_w,l_wp,l_wpp,l_wppp] at zz|simp [go_sem] at zz|skip);(try clear z_wppp x_wppp f_wppp l_wppp);(try clear z_wpp x_wpp f_wpp l_wpp);(try clear z_wp x_wp f_wp l_wp);(try clear z_w x_w f_w l_w);obtain ⟨z_wppp,z_wpp,z_wp,z_w⟩:=zz;obtain ⟨x_wppp,f_wppp,l_wppp⟩:=bO z_wppp;obtain ⟨x_wpp,f_wpp,l_wpp⟩:=bO z_wpp;obtain ⟨x_wp,f_wp,l_wp⟩:=bO z_wp;obtain ⟨x_w,f_w,l_w⟩:=bO z_w;clear hbw2 bb
  have d1:∀ j,v1.ownBlock=some j→w.heap.size+1+1+1+1≤j:=fun j hj=>by have:=(o1.lt j hj).1;omega
  have d2:∀ j,v2.ownBlock=some j→w.heap.size+1+1+1+1≤j:=fun j hj=>by have:=(o2.lt j hj).1;omega
  have p1:=own_lo (lo':=w.heap.size) o1 (by omega)
  have p2:=own_lo (lo':=w.heap.size) o2 (by omega)
  obtain ⟨a1,q1,rfl,_⟩:=o1.seg
  obtain ⟨a2,q2,rfl,_⟩:=o2.seg
  have m3:∀ j,j<w.heap.size+1+1+1+1→some j≠(Value.slice a1 c.cells.length q1).ownBlock:=fun j hj e=>by have:=d1 _ e.symm;omega
  have m4:∀ j,j<w.heap.size+1+1+1+1→some j≠(Value.slice a2 c.words.length q2).ownBlock:=fun j hj e=>by have:=d2 _ e.symm;omega
  have m10:=m3 (w.heap.size) (by omega)
  have m20:=m4 (w.heap.size) (by omega)
  have m11:=m3 (w.heap.size+1) (by omega)
  have m21:=m4 (w.heap.size+1) (by omega)
  have m12:=m3 (w.heap.size+1+1) (by omega)
  have m22:=m4 (w.heap.size+1+1) (by omega)
  have m13:=m3 (w.heap.size+1+1+1) (by omega)
  have m23:=m4 (w.heap.size+1+1+1) (by omega)
  go_wp2_with fail
  refine (D.out _ _ _ (by exact zO p1 o1) (by exact zO p2 o2)).mono ?_
  rintro _ w3 ⟨⟨y1,y2,rfl,oY1,oY2,fY1,fY2⟩,hO⟩
  have hB3:Below w.heap.size w w3:=bOnl (by exact zB) hO (fun j hj=>by have:=d1 j hj;omega) (fun j hj=>by have:=d2 j hj;omega)
  have hsw3:=hO.2.2.2.1;(try (simp at hsw3));have zz:=And.intro (onlHp hO (i:=w.heap.size+1+1+1) (by (try simp) <;> omega) (by assumption) (by assumption)) <| And.intro (onlHp hO (i:=w.heap.size+1+1) (by (try simp) <;> omega) (by assumption) (by assumption)) <| And.intro (onlHp hO (i:=w.heap.size+1) (by (try simp) <;> omega) (by assumption) (by assumption)) <| onlHp hO (i:=w.heap.size) (by (try simp) <;> omega) (by assumption) (by assumption);(first|simp [go_sem,z_wppp,z_wpp,z_wp,z_w,l_w,l_wp,l_wpp,l_wppp] at zz|simp [go_sem] at zz|skip);(try clear z_wppp x_wppp f_wppp l_wppp);(try clear z_wpp x_wpp f_wpp l_wpp);(try clear z_wp x_wp f_wp l_wp);(try clear z_w x_w f_w l_w);obtain ⟨z_wppp,z_wpp,z_wp,z_w⟩:=zz;obtain ⟨x_wppp,f_wppp,l_wppp⟩:=bO z_wppp;obtain ⟨x_wpp,f_wpp,l_wpp⟩:=bO z_wpp;obtain ⟨x_wp,f_wp,l_wp⟩:=bO z_wp;obtain ⟨x_w,f_w,l_w⟩:=bO z_w
  clear hO
  have hoff1:∀ j,w.heap.size≤j→j<w.heap.size+1+1+1+1→y1.ownBlock≠some j:=fun j _ h2=>fY1.off2 d1 h2 (by (try simp) <;> omega);have hoff2:∀ j,w.heap.size≤j→j<w.heap.size+1+1+1+1→y2.ownBlock≠some j:=fun j _ h2=>fY2.off2 d2 h2 (by (try simp) <;> omega);have fr1:Fresh w (.slice none 0 0) y1:=fun j hj=>.inr (fY1.up d1 (by (try simp) <;> omega) (by (try simp) <;> omega) j hj);have fr2:Fresh w (.slice none 0 0) y2:=fun j hj=>.inr (fY2.up d2 (by (try simp) <;> omega) (by (try simp) <;> omega) j hj);obtain ⟨ya,yp,rfl,_⟩:=oY1.seg;obtain ⟨yb,yq,rfl,_⟩:=oY2.seg
  go_wp2
  refine bodyPost_ret (res_cct Tryz.results72 rfl (ldChan x.1 (.slice ya x.1.cells.length yp) (.slice yb x.1.words.length yq) (by simp [go_sem, *])) rfl (ldHand x.2.1 (by simp [go_sem, *]))) rfl ⟨⟨_,_,rfl,?_,?_,fr1,fr2⟩,by exact zB⟩
  · exact zP oY1 oY1 hoff1
  · exact zP oY2 oY2 hoff2
theorem sGrowStep_any (c:Ch) (h:Ha) (a b:Option Addr) (p q:Nat) (w:World) (h1:Seg w w.heap.size a c.cells.length 3 (cellF c.cells)) (z1:a=none→p=0) (h2:Seg w w.heap.size b c.words.length 1 (intF c.words)) (z2:b=none→q=0) :
    Calls Tryz.prog 72 #[.agg (cvals c (.slice a c.cells.length p) (.slice b c.words.length q)),.agg (hvals h)] w fun r w'=>StepN w w' (growStep c h) r:=by
  cases hk:stepOk c h 16 22 2 with
  | false=>exact sGrow_no c h a b p q w h1 h2 hk
  | true =>
    obtain ⟨k1,_,k3,k4⟩:=stepOk_yes hk
    have hp:h.pos=16∨h.pos=17∨h.pos=18∨h.pos=19∨h.pos=20∨h.pos=21∨h.pos=22:=by omega
    rcases hp with hp|hp|hp|hp|hp|hp|hp
    · exact sGrow_16 c h a b p q w h1 z1 h2 z2 hk hp
    · by_cases hs:c.sent≤h.grow
      · exact sGrow_17a c h a b p q w h1 z1 h2 z2 hk hp hs
      · exact sGrow_17b c h a b p q w h1 z1 h2 z2 hk hp hs
    · by_cases hs:(cellAt c h.grow).s=5
      · exact sGrow_18a c h a b p q w h1 z1 h2 z2 hk hp hs
      · exact sGrow_18b c h a b p q w h1 z1 h2 z2 hk hp (by simpa using hs)
    · exact sGrow_19 c h a b p q w h1 z1 h2 z2 hk hp
    · cases ht:tellB c h.wait 1 with
      | true=>exact sGrow_20a c h a b p q w h1 z1 h2 z2 hk hp ht
      | false=>exact sGrow_20b c h a b p q w h1 z1 h2 z2 hk hp ht
    · exact sGrow_21 c h a b p q w h1 z1 h2 z2 hk hp
    · exact sGrow_22 c h a b p q w h1 z1 h2 z2 hk hp
end Go.Proofs.YtmnpgkcdfielbaaGreat
set_option linter.unusedSimpArgs false
set_option linter.unusedVariables false
namespace Go.Proofs.YtmnpgkcdfielbaaGreat
open Go.RowKit
set_option linter.unusedSimpArgs false
attribute [local simp] bx_size
attribute [local go_sem ↓] zeroHand zeroChan toLHand toLChan toVHand toVChan storeHand storeChan storeHandC storeChanC
set_option maxRecDepth 100000 in
set_option maxHeartbeats 2000000 in
theorem sStep_s (c:Ch) (h:Ha) (a b:Option Addr) (p q:Nat) (w:World) (h1:Seg w w.heap.size a c.cells.length 3 (cellF c.cells)) (z1:a=none→p=0) (h2:Seg w w.heap.size b c.words.length 1 (intF c.words)) (z2:b=none→q=0) (hp1:1≤h.pos) (hp2:h.pos≤8) :
    Calls Tryz.prog 58 #[.agg (cvals c (.slice a c.cells.length p) (.slice b c.words.length q)),.agg (hvals h)] w fun r w'=>StepN w w' (stepC c h) r:=by
  have e:stepC c h=sendStep c h:=by simp [stepC,inB,hp1,hp2]
  rw [e]
  have H1:=Lib.hid h1
  have H2:=Lib.hid h2
  have Z1:=Lib.hid z1
  have Z2:=Lib.hid z2
  have T:=Lib.hid fun W=>sSendStep_any c h a b p q W
  generalize sendStep c h=x at *
  clear h1 h2 z1 z2 e
  have d1:∀ j,(Value.slice none 0 0).ownBlock=some j→w.heap.size+1+1+1+1≤j:=fun j hj=>by cases hj
  have d2:=d1
  go_enter Tryz.func58,Tryz.ntmps58
  go_wp2_with fail;refine bHit w (by exact zB) fun bb=>?_;refine (T.out _ ((H1.out.below bb).more bb.size) Z1.out ((H2.out.below bb).more bb.size) Z2.out).mono ?_;rintro _ w2 ⟨⟨y1,y2,rfl,oY1,oY2,fY1,fY2⟩,hbw2⟩;have hCw2:Below w.heap.size w w2:=bT bb hbw2;have hsw2:=hbw2.size;(try simp at hsw2);have zz:=q4 hbw2 (b:=w.heap.size);(try simp [go_sem] at zz);(try clear z_wppp x_wppp f_wppp l_wppp);(try clear z_wpp x_wpp f_wpp l_wpp);(try clear z_wp x_wp f_wp l_wp);(try clear z_w x_w f_w l_w);obtain ⟨z_wppp,z_wpp,z_wp,z_w⟩:=zz;obtain ⟨x_wppp,f_wppp,l_wppp⟩:=bO z_wppp;obtain ⟨x_wpp,f_wpp,l_wpp⟩:=bO z_wpp;obtain ⟨x_wp,f_wp,l_wp⟩:=bO z_wp;obtain ⟨x_w,f_w,l_w⟩:=bO z_w;clear hbw2 bb
  replace oY1:OCells w2 w.heap.size y1 x.1.cells:=own_lo (lo':=w.heap.size) oY1 (by (try simp) <;> omega)
  replace oY2:OInts w2 w.heap.size y2 x.1.words:=own_lo (lo':=w.heap.size) oY2 (by (try simp) <;> omega)
  have hoff1:∀ j,w.heap.size≤j→j<w.heap.size+1+1+1+1→y1.ownBlock≠some j:=fun j _ h2=>fY1.off2 d1 h2 (by (try simp) <;> omega);have hoff2:∀ j,w.heap.size≤j→j<w.heap.size+1+1+1+1→y2.ownBlock≠some j:=fun j _ h2=>fY2.off2 d2 h2 (by (try simp) <;> omega);have fr1:Fresh w (.slice none 0 0) y1:=fun j hj=>.inr (fY1.up d1 (by (try simp) <;> omega) (by (try simp) <;> omega) j hj);have fr2:Fresh w (.slice none 0 0) y2:=fun j hj=>.inr (fY2.up d2 (by (try simp) <;> omega) (by (try simp) <;> omega) j hj);obtain ⟨ya,yp,rfl,_⟩:=oY1.seg;obtain ⟨yb,yq,rfl,_⟩:=oY2.seg
  go_wp2
  refine bodyPost_ret (res_cct Tryz.results58 rfl (ldChan x.1 (.slice ya x.1.cells.length yp) (.slice yb x.1.words.length yq) (by simp [go_sem, *])) rfl (ldHand x.2.1 (by simp [go_sem, *]))) rfl ⟨⟨_,_,rfl,?_,?_,fr1,fr2⟩,by exact zB⟩
  · exact zP oY1 oY1 hoff1
  · exact zP oY2 oY2 hoff2
set_option maxRecDepth 100000 in
set_option maxHeartbeats 2000000 in
theorem sStep_r (c:Ch) (h:Ha) (a b:Option Addr) (p q:Nat) (w:World) (h1:Seg w w.heap.size a c.cells.length 3 (cellF c.cells)) (z1:a=none→p=0) (h2:Seg w w.heap.size b c.words.length 1 (intF c.words)) (z2:b=none→q=0) (hp1:9≤h.pos) (hp2:h.pos≤15) :
    Calls Tryz.prog 58 #[.agg (cvals c (.slice a c.cells.length p) (.slice b c.words.length q)),.agg (hvals h)] w fun r w'=>StepN w w' (stepC c h) r:=by
  have e:stepC c h=recvStep c h:=by rw [stepC,if_neg (by simp [inB];omega),if_pos (by simp [inB];omega)]
  rw [e]
  have l1:1≤h.pos:=by omega
  have u8:¬ h.pos≤8:=by omega
  have H1:=Lib.hid h1
  have H2:=Lib.hid h2
  have Z1:=Lib.hid z1
  have Z2:=Lib.hid z2
  have T:=Lib.hid fun W=>sRecvStep_any c h a b p q W
  generalize recvStep c h=x at *
  clear h1 h2 z1 z2 e
  have d1:∀ j,(Value.slice none 0 0).ownBlock=some j→w.heap.size+1+1+1+1≤j:=fun j hj=>by cases hj
  have d2:=d1
  go_enter Tryz.func58,Tryz.ntmps58
  go_wp2_with fail;refine bHit w (by exact zB) fun bb=>?_;refine (T.out _ ((H1.out.below bb).more bb.size) Z1.out ((H2.out.below bb).more bb.size) Z2.out).mono ?_;rintro _ w2 ⟨⟨y1,y2,rfl,oY1,oY2,fY1,fY2⟩,hbw2⟩;have hCw2:Below w.heap.size w w2:=bT bb hbw2;have hsw2:=hbw2.size;(try simp at hsw2);have zz:=q4 hbw2 (b:=w.heap.size);(try simp [go_sem] at zz);(try clear z_wppp x_wppp f_wppp l_wppp);(try clear z_wpp x_wpp f_wpp l_wpp);(try clear z_wp x_wp f_wp l_wp);(try clear z_w x_w f_w l_w);obtain ⟨z_wppp,z_wpp,z_wp,z_w⟩:=zz;obtain ⟨x_wppp,f_wppp,l_wppp⟩:=bO z_wppp;obtain ⟨x_wpp,f_wpp,l_wpp⟩:=bO z_wpp;obtain ⟨x_wp,f_wp,l_wp⟩:=bO z_wp;obtain ⟨x_w,f_w,l_w⟩:=bO z_w;clear hbw2 bb
  replace oY1:OCells w2 w.heap.size y1 x.1.cells:=own_lo (lo':=w.heap.size) oY1 (by (try simp) <;> omega)
  replace oY2:OInts w2 w.heap.size y2 x.1.words:=own_lo (lo':=w.heap.size) oY2 (by (try simp) <;> omega)
  have hoff1:∀ j,w.heap.size≤j→j<w.heap.size+1+1+1+1→y1.ownBlock≠some j:=fun j _ h2=>fY1.off2 d1 h2 (by (try simp) <;> omega);have hoff2:∀ j,w.heap.size≤j→j<w.heap.size+1+1+1+1→y2.ownBlock≠some j:=fun j _ h2=>fY2.off2 d2 h2 (by (try simp) <;> omega);have fr1:Fresh w (.slice none 0 0) y1:=fun j hj=>.inr (fY1.up d1 (by (try simp) <;> omega) (by (try simp) <;> omega) j hj);have fr2:Fresh w (.slice none 0 0) y2:=fun j hj=>.inr (fY2.up d2 (by (try simp) <;> omega) (by (try simp) <;> omega) j hj);obtain ⟨ya,yp,rfl,_⟩:=oY1.seg;obtain ⟨yb,yq,rfl,_⟩:=oY2.seg
  go_wp2
  refine bodyPost_ret (res_cct Tryz.results58 rfl (ldChan x.1 (.slice ya x.1.cells.length yp) (.slice yb x.1.words.length yq) (by simp [go_sem, *])) rfl (ldHand x.2.1 (by simp [go_sem, *]))) rfl ⟨⟨_,_,rfl,?_,?_,fr1,fr2⟩,by exact zB⟩
  · exact zP oY1 oY1 hoff1
  · exact zP oY2 oY2 hoff2
set_option maxRecDepth 100000 in
set_option maxHeartbeats 2000000 in
theorem sStep_g (c:Ch) (h:Ha) (a b:Option Addr) (p q:Nat) (w:World) (h1:Seg w w.heap.size a c.cells.length 3 (cellF c.cells)) (z1:a=none→p=0) (h2:Seg w w.heap.size b c.words.length 1 (intF c.words)) (z2:b=none→q=0) (hp1:16≤h.pos) (hp2:h.pos≤22) :
    Calls Tryz.prog 58 #[.agg (cvals c (.slice a c.cells.length p) (.slice b c.words.length q)),.agg (hvals h)] w fun r w'=>StepN w w' (stepC c h) r:=by
  have e:stepC c h=growStep c h:=by rw [stepC,if_neg (by simp [inB];omega),if_neg (by simp [inB];omega),if_pos (by simp [inB];omega)]
  rw [e]
  have l1:1≤h.pos:=by omega
  have l9:9≤h.pos:=by omega
  have u8:¬ h.pos≤8:=by omega
  have u15:¬ h.pos≤15:=by omega
  have H1:=Lib.hid h1
  have H2:=Lib.hid h2
  have Z1:=Lib.hid z1
  have Z2:=Lib.hid z2
  have T:=Lib.hid fun W=>sGrowStep_any c h a b p q W
  generalize growStep c h=x at *
  clear h1 h2 z1 z2 e
  have d1:∀ j,(Value.slice none 0 0).ownBlock=some j→w.heap.size+1+1+1+1≤j:=fun j hj=>by cases hj
  have d2:=d1
  go_enter Tryz.func58,Tryz.ntmps58
  go_wp2_with fail;refine bHit w (by exact zB) fun bb=>?_;refine (T.out _ ((H1.out.below bb).more bb.size) Z1.out ((H2.out.below bb).more bb.size) Z2.out).mono ?_;rintro _ w2 ⟨⟨y1,y2,rfl,oY1,oY2,fY1,fY2⟩,hbw2⟩;have hCw2:Below w.heap.size w w2:=bT bb hbw2;have hsw2:=hbw2.size;(try simp at hsw2);have zz:=q4 hbw2 (b:=w.heap.size);(try simp [go_sem] at zz);(try clear z_wppp x_wppp f_wppp l_wppp);(try clear z_wpp x_wpp f_wpp l_wpp);(try clear z_wp x_wp f_wp l_wp);(try clear z_w x_w f_w l_w);obtain ⟨z_wppp,z_wpp,z_wp,z_w⟩:=zz;obtain ⟨x_wppp,f_wppp,l_wppp⟩:=bO z_wppp;obtain ⟨x_wpp,f_wpp,l_wpp⟩:=bO z_wpp;obtain ⟨x_wp,f_wp,l_wp⟩:=bO z_wp;obtain ⟨x_w,f_w,l_w⟩:=bO z_w;clear hbw2 bb
  replace oY1:OCells w2 w.heap.size y1 x.1.cells:=own_lo (lo':=w.heap.size) oY1 (by (try simp) <;> omega)
  replace oY2:OInts w2 w.heap.size y2 x.1.words:=own_lo (lo':=w.heap.size) oY2 (by (try simp) <;> omega)
  have hoff1:∀ j,w.heap.size≤j→j<w.heap.size+1+1+1+1→y1.ownBlock≠some j:=fun j _ h2=>fY1.off2 d1 h2 (by (try simp) <;> omega);have hoff2:∀ j,w.heap.size≤j→j<w.heap.size+1+1+1+1→y2.ownBlock≠some j:=fun j _ h2=>fY2.off2 d2 h2 (by (try simp) <;> omega);have fr1:Fresh w (.slice none 0 0) y1:=fun j hj=>.inr (fY1.up d1 (by (try simp) <;> omega) (by (try simp) <;> omega) j hj);have fr2:Fresh w (.slice none 0 0) y2:=fun j hj=>.inr (fY2.up d2 (by (try simp) <;> omega) (by (try simp) <;> omega) j hj);obtain ⟨ya,yp,rfl,_⟩:=oY1.seg;obtain ⟨yb,yq,rfl,_⟩:=oY2.seg
  go_wp2
  refine bodyPost_ret (res_cct Tryz.results58 rfl (ldChan x.1 (.slice ya x.1.cells.length yp) (.slice yb x.1.words.length yq) (by simp [go_sem, *])) rfl (ldHand x.2.1 (by simp [go_sem, *]))) rfl ⟨⟨_,_,rfl,?_,?_,fr1,fr2⟩,by exact zB⟩
  · exact zP oY1 oY1 hoff1
  · exact zP oY2 oY2 hoff2
set_option maxRecDepth 100000 in
set_option maxHeartbeats 2000000 in
theorem sStep_p (c:Ch) (h:Ha) (a b:Option Addr) (p q:Nat) (w:World) (h1:Seg w w.heap.size a c.cells.length 3 (cellF c.cells)) (z1:a=none→p=0) (h2:Seg w w.heap.size b c.words.length 1 (intF c.words)) (z2:b=none→q=0) (hp1:23≤h.pos) :
    Calls Tryz.prog 58 #[.agg (cvals c (.slice a c.cells.length p) (.slice b c.words.length q)),.agg (hvals h)] w fun r w'=>StepN w w' (stepC c h) r:=by
  have e:stepC c h=parkStep c h:=by rw [stepC,if_neg (by simp [inB];omega),if_neg (by simp [inB];omega),if_neg (by simp [inB];omega)]
  rw [e]
  have l1:1≤h.pos:=by omega
  have l9:9≤h.pos:=by omega
  have l16:16≤h.pos:=by omega
  have u8:¬ h.pos≤8:=by omega
  have u15:¬ h.pos≤15:=by omega
  have u22:¬ h.pos≤22:=by omega
  have H1:=Lib.hid h1
  have H2:=Lib.hid h2
  have Z1:=Lib.hid z1
  have Z2:=Lib.hid z2
  have T:=Lib.hid fun W=>sParkStep_any c h a b p q W
  generalize parkStep c h=x at *
  clear h1 h2 z1 z2 e
  have d1:∀ j,(Value.slice none 0 0).ownBlock=some j→w.heap.size+1+1+1+1≤j:=fun j hj=>by cases hj
  have d2:=d1
  go_enter Tryz.func58,Tryz.ntmps58
  go_wp2_with fail;refine bHit w (by exact zB) fun bb=>?_;refine (T.out _ ((H1.out.below bb).more bb.size) Z1.out ((H2.out.below bb).more bb.size) Z2.out).mono ?_;rintro _ w2 ⟨⟨y1,y2,rfl,oY1,oY2,fY1,fY2⟩,hbw2⟩;have hCw2:Below w.heap.size w w2:=bT bb hbw2;have hsw2:=hbw2.size;(try simp at hsw2);have zz:=q4 hbw2 (b:=w.heap.size);(try simp [go_sem] at zz);(try clear z_wppp x_wppp f_wppp l_wppp);(try clear z_wpp x_wpp f_wpp l_wpp);(try clear z_wp x_wp f_wp l_wp);(try clear z_w x_w f_w l_w);obtain ⟨z_wppp,z_wpp,z_wp,z_w⟩:=zz;obtain ⟨x_wppp,f_wppp,l_wppp⟩:=bO z_wppp;obtain ⟨x_wpp,f_wpp,l_wpp⟩:=bO z_wpp;obtain ⟨x_wp,f_wp,l_wp⟩:=bO z_wp;obtain ⟨x_w,f_w,l_w⟩:=bO z_w;clear hbw2 bb
  replace oY1:OCells w2 w.heap.size y1 x.1.cells:=own_lo (lo':=w.heap.size) oY1 (by (try simp) <;> omega)
  replace oY2:OInts w2 w.heap.size y2 x.1.words:=own_lo (lo':=w.heap.size) oY2 (by (try simp) <;> omega)
  have hoff1:∀ j,w.heap.size≤j→j<w.heap.size+1+1+1+1→y1.ownBlock≠some j:=fun j _ h2=>fY1.off2 d1 h2 (by (try simp) <;> omega);have hoff2:∀ j,w.heap.size≤j→j<w.heap.size+1+1+1+1→y2.ownBlock≠some j:=fun j _ h2=>fY2.off2 d2 h2 (by (try simp) <;> omega);have fr1:Fresh w (.slice none 0 0) y1:=fun j hj=>.inr (fY1.up d1 (by (try simp) <;> omega) (by (try simp) <;> omega) j hj);have fr2:Fresh w (.slice none 0 0) y2:=fun j hj=>.inr (fY2.up d2 (by (try simp) <;> omega) (by (try simp) <;> omega) j hj);obtain ⟨ya,yp,rfl,_⟩:=oY1.seg;obtain ⟨yb,yq,rfl,_⟩:=oY2.seg
  go_wp2
  refine bodyPost_ret (res_cct Tryz.results58 rfl (ldChan x.1 (.slice ya x.1.cells.length yp) (.slice yb x.1.words.length yq) (by simp [go_sem, *])) rfl (ldHand x.2.1 (by simp [go_sem, *]))) rfl ⟨⟨_,_,rfl,?_,?_,fr1,fr2⟩,by exact zB⟩
  · exact zP oY1 oY1 hoff1
  · exact zP oY2 oY2 hoff2
set_option maxRecDepth 100000 in
set_option maxHeartbeats 2000000 in
theorem sStep_n (c:Ch) (h:Ha) (a b:Option Addr) (p q:Nat) (w:World) (h1:Seg w w.heap.size a c.cells.length 3 (cellF c.cells)) (z1:a=none→p=0) (h2:Seg w w.heap.size b c.words.length 1 (intF c.words)) (z2:b=none→q=0) (hp1:h.pos≤0) :
    Calls Tryz.prog 58 #[.agg (cvals c (.slice a c.cells.length p) (.slice b c.words.length q)),.agg (hvals h)] w fun r w'=>StepN w w' (stepC c h) r:=by
  have e:stepC c h=parkStep c h:=by rw [stepC,if_neg (by simp [inB];omega),if_neg (by simp [inB];omega),if_neg (by simp [inB];omega)]
  rw [e]
  have l1:¬ 1≤h.pos:=by omega
  have l9:¬ 9≤h.pos:=by omega
  have l16:¬ 16≤h.pos:=by omega
  have H1:=Lib.hid h1
  have H2:=Lib.hid h2
  have Z1:=Lib.hid z1
  have Z2:=Lib.hid z2
  have T:=Lib.hid fun W=>sParkStep_any c h a b p q W
  generalize parkStep c h=x at *
  clear h1 h2 z1 z2 e
  have d1:∀ j,(Value.slice none 0 0).ownBlock=some j→w.heap.size+1+1+1+1≤j:=fun j hj=>by cases hj
  have d2:=d1
  go_enter Tryz.func58,Tryz.ntmps58
  go_wp2_with fail;refine bHit w (by exact zB) fun bb=>?_;refine (T.out _ ((H1.out.below bb).more bb.size) Z1.out ((H2.out.below bb).more bb.size) Z2.out).mono ?_;rintro _ w2 ⟨⟨y1,y2,rfl,oY1,oY2,fY1,fY2⟩,hbw2⟩;have hCw2:Below w.heap.size w w2:=bT bb hbw2;have hsw2:=hbw2.size;(try simp at hsw2);have zz:=q4 hbw2 (b:=w.heap.size);(try simp [go_sem] at zz);(try clear z_wppp x_wppp f_wppp l_wppp);(try clear z_wpp x_wpp f_wpp l_wpp);(try clear z_wp x_wp f_wp l_wp);(try clear z_w x_w f_w l_w);obtain ⟨z_wppp,z_wpp,z_wp,z_w⟩:=zz;obtain ⟨x_wppp,f_wppp,l_wppp⟩:=bO z_wppp;obtain ⟨x_wpp,f_wpp,l_wpp⟩:=bO z_wpp;obtain ⟨x_wp,f_wp,l_wp⟩:=bO z_wp;obtain ⟨x_w,f_w,l_w⟩:=bO z_w;clear hbw2 bb
  replace oY1:OCells w2 w.heap.size y1 x.1.cells:=own_lo (lo':=w.heap.size) oY1 (by (try simp) <;> omega)
  replace oY2:OInts w2 w.heap.size y2 x.1.words:=own_lo (lo':=w.heap.size) oY2 (by (try simp) <;> omega)
  have hoff1:∀ j,w.heap.size≤j→j<w.heap.size+1+1+1+1→y1.ownBlock≠some j:=fun j _ h2=>fY1.off2 d1 h2 (by (try simp) <;> omega);have hoff2:∀ j,w.heap.size≤j→j<w.heap.size+1+1+1+1→y2.ownBlock≠some j:=fun j _ h2=>fY2.off2 d2 h2 (by (try simp) <;> omega);have fr1:Fresh w (.slice none 0 0) y1:=fun j hj=>.inr (fY1.up d1 (by (try simp) <;> omega) (by (try simp) <;> omega) j hj);have fr2:Fresh w (.slice none 0 0) y2:=fun j hj=>.inr (fY2.up d2 (by (try simp) <;> omega) (by (try simp) <;> omega) j hj);obtain ⟨ya,yp,rfl,_⟩:=oY1.seg;obtain ⟨yb,yq,rfl,_⟩:=oY2.seg
  go_wp2
  refine bodyPost_ret (res_cct Tryz.results58 rfl (ldChan x.1 (.slice ya x.1.cells.length yp) (.slice yb x.1.words.length yq) (by simp [go_sem, *])) rfl (ldHand x.2.1 (by simp [go_sem, *]))) rfl ⟨⟨_,_,rfl,?_,?_,fr1,fr2⟩,by exact zB⟩
  · exact zP oY1 oY1 hoff1
  · exact zP oY2 oY2 hoff2
theorem sStep_any (c:Ch) (h:Ha) (a b:Option Addr) (p q:Nat) (w:World) (h1:Seg w w.heap.size a c.cells.length 3 (cellF c.cells)) (z1:a=none→p=0) (h2:Seg w w.heap.size b c.words.length 1 (intF c.words)) (z2:b=none→q=0) :
    Calls Tryz.prog 58 #[.agg (cvals c (.slice a c.cells.length p) (.slice b c.words.length q)),.agg (hvals h)] w fun r w'=>StepN w w' (stepC c h) r:=by
  have hp:h.pos≤0∨(1≤h.pos∧h.pos≤8)∨(9≤h.pos∧h.pos≤15)∨(16≤h.pos∧h.pos≤22)∨23≤h.pos:=by omega
  rcases hp with hp|⟨hp,hq⟩|⟨hp,hq⟩|⟨hp,hq⟩|hp
  · exact sStep_n c h a b p q w h1 z1 h2 z2 hp
  · exact sStep_s c h a b p q w h1 z1 h2 z2 hp hq
  · exact sStep_r c h a b p q w h1 z1 h2 z2 hp hq
  · exact sStep_g c h a b p q w h1 z1 h2 z2 hp hq
  · exact sStep_p c h a b p q w h1 z1 h2 z2 hp
end Go.Proofs.YtmnpgkcdfielbaaGreat
set_option linter.unusedSimpArgs false
set_option linter.unusedVariables false
namespace Go.Proofs.YtmnpgkcdfielbaaGreat
open Go.RowKit
set_option linter.unusedSimpArgs false
attribute [local simp] bx_size
attribute [local go_sem ↓] zeroHand zeroChan toLHand toLChan toVHand toVChan storeHand storeChan storeHandC storeChanC
set_option maxRecDepth 100000 in
set_option maxHeartbeats 4000000 in
/-- Whether a step of the reference waits. -/
theorem sStays_via (x:St) (c:Ch) (h:Ha) (a b:Option Addr) (p q:Nat) (w:World) (h1:Seg w w.heap.size a c.cells.length 3 (cellF c.cells)) (z1:a=none→p=0) (h2:Seg w w.heap.size b c.words.length 1 (intF c.words)) (z2:b=none→q=0)
    (hs:∀ (a b:Option Addr) (p q:Nat) (w:World),Seg w w.heap.size a c.cells.length 3 (cellF c.cells)→(a=none→p=0)→Seg w w.heap.size b c.words.length 1 (intF c.words)→(b=none→q=0)→Calls Tryz.prog 58 #[.agg (cvals c (.slice a c.cells.length p) (.slice b c.words.length q)),.agg (hvals h)] w fun r w'=>StepN w w' x r) :
    Calls Tryz.prog 38 #[.agg (cvals c (.slice a c.cells.length p) (.slice b c.words.length q)),.agg (hvals h)] w fun r w'=>r=.returned (.bool (staysN x))∧Below w.heap.size w w':=by
  have H1:=Lib.hid h1
  have H2:=Lib.hid h2
  have Z1:=Lib.hid z1
  have Z2:=Lib.hid z2
  have HS:=Lib.hid hs
  clear h1 h2 z1 z2 hs
  go_enter Tryz.func38,Tryz.ntmps38
  go_wp2_with fail;refine bHit w (by exact zB) fun bb=>?_;refine (HS.out _ _ _ _ _ ((H1.out.below bb).more bb.size) Z1.out ((H2.out.below bb).more bb.size) Z2.out).mono ?_;rintro _ w9 ⟨⟨y1,y2,rfl,oY1,oY2,fY1,fY2⟩,hbw9⟩;have hCw9:Below w.heap.size w w9:=bT bb hbw9;have hsw9:=hbw9.size;(try simp at hsw9);have zz:=And.intro (hQ hbw9 (b:=w.heap.size+1)) <| hQ hbw9 (b:=w.heap.size);(try simp [go_sem] at zz);(try clear z_wp x_wp f_wp l_wp);(try clear z_w x_w f_w l_w);obtain ⟨z_wp,z_w⟩:=zz;obtain ⟨x_wp,f_wp,l_wp⟩:=bO z_wp;obtain ⟨x_w,f_w,l_w⟩:=bO z_w;clear hbw9 bb
  obtain ⟨ya,yp,rfl,_⟩:=oY1.seg
  obtain ⟨yb,yq,rfl,_⟩:=oY2.seg
  cases hx:x.2.2 with
  | true =>
    go_wp2
    go_ret
    exact ⟨by simp [staysN,hx],by exact zB⟩
  | false =>
    go_wp2
    go_ret
    exact ⟨by simp [staysN,hx],by exact zB⟩
end Go.Proofs.YtmnpgkcdfielbaaGreat
set_option linter.unusedSimpArgs false
set_option linter.unusedVariables false
namespace Go.Proofs.YtmnpgkcdfielbaaGreat
/-- A task is parked, and waits. -/
def parkB (x:Wo) (i:Nat):Bool:=(handAt x (i:Int)).pos == 23 && staysN (stepC x.ch (handAt x (i:Int)))
def parkTo (x:Wo):Nat→List Int
  | 0=>[]
  | k+1=>if parkB x k then parkTo x k ++ [(k:Int)] else parkTo x k
def parkedIn (x:Wo):List Int:=if worldOk x then parkTo x x.hands.length else []
end Go.Proofs.YtmnpgkcdfielbaaGreat
