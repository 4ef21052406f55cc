/-
  Laying what is sent into a cell, of the reference model, on hands and channels that are kept whole; lists lie in memory and hold at most 2 ^ 40 elements.
  The program's touches of sending that write into a cell: laying, keeping; on hands and channels that are kept whole; the lists are the call's own.
  The program's waiting to send and its calling, by what they hand on; on hands and channels that are kept whole; the lists are the call's own.
  The last step of sending of the reference model, on hands and channels that are kept whole; lists lie in memory and hold at most 2 ^ 40 elements.
  The reference model's looks at a cell of chapters 7 and 8, on hands and channels that are kept whole; lists lie in memory.
  Calling, among the reference model's steps of sending, on hands and channels that are kept whole; lists lie in memory and hold at most 2 ^ 40 elements.
-/
import Derived.Test.YtmnpgkcdfielbaaGreatP05
import Derived.Test.YtmnpgkcdfielbaaGreatP04
import Derived.Deep.RegionLaw
import Derived.Test.YtmnpgkcdfielbaaGreatP09
import Derived.Test.YtmnpgkcdfielbaaGreatP06
set_option linter.unusedSimpArgs false
set_option linter.unusedVariables false
namespace Go.Proofs.YtmnpgkcdfielbaaGreat
open Go.RowKit
set_option linter.unusedSimpArgs false
attribute [local simp] bx_size
attribute [local go_sem ↓] zeroHand zeroChan toLHand toLChan toVHand toVChan storeHand storeChan storeHandC storeChanC
theorem lay_ints (c:Ch) (i m:Int) (a b:Value):cvals (layC c i m) a b=cvals c a b:=rfl
theorem lay_words (c:Ch) (i m:Int):(layC c i m).words=c.words:=rfl
set_option maxRecDepth 100000 in
set_option maxHeartbeats 2000000 in
theorem sSend_2 (c:Ch) (h:Ha) (a b:Option Addr) (p q:Nat) (w:World) (h1:Seg w w.heap.size a c.cells.length 3 (cellF c.cells)) (z1:a=none→p=0) (h2:Seg w w.heap.size b c.words.length 1 (intF c.words)) (z2:b=none→q=0) (hk:stepOk c h 1 8 1=true) (hp0:h.pos=2) :
    Calls Tryz.prog 70 #[.agg (cvals c (.slice a c.cells.length p) (.slice b c.words.length q)),.agg (hvals h)] w fun r w'=>StepN w w' (sendStep c h) r:=by
  obtain ⟨k1,k2,_,_⟩:=stepOk_yes hk
  obtain ⟨n1,n2⟩:=chan_40 k1
  have m1:c.cells.length≤1099511627776:=by omega
  have m2:c.words.length≤1099511627776:=by omega
  have H1:=Lib.hid h1
  have H2:=Lib.hid h2
  have Z1:=Lib.hid z1
  have Z2:=Lib.hid z2
  obtain ⟨c1,c2⟩:=hand_cell k2
  obtain ⟨i,hci⟩:∃ i:Nat,h.cell=(i:Int):=⟨h.cell.toNat,by omega⟩
  have hi:i<c.cells.length:=by omega
  have e:sendStep c h=done (layC c i h.elem) { h with pos:=3,cell:=(i:Int) }:=by simp [sendStep,hk,hp0,hci,send2] <;> rfl
  rw [e]
  have D:=fun v1 v2 W=>l6Done_any (layC c i h.elem) { h with pos:=3,cell:=(i:Int) } v1 v2 w.heap.size W
  have hlc:(layC c i h.elem).cells=c.cells.set i ⟨(c.cells.getD i ⟨0,0,0⟩).s,laidF (c.cells.getD i ⟨0,0,0⟩).s (c.cells.getD i ⟨0,0,0⟩).e (c.cells.getD i ⟨0,0,0⟩).t h.elem,(c.cells.getD i ⟨0,0,0⟩).t⟩:=by simp [layC,setAt,cellAt]
  rw [hlc] at D
  simp only [lay_ints,lay_words] at D
  generalize done (layC c i h.elem) { h with pos:=3,cell:=(i:Int) }=x at *
  clear hlc
  replace D:=Lib.hid D
  clear h1 h2 z1 z2 e k1 k2 n1 n2 c1 c2
  go_enter Tryz.func70,Tryz.ntmps70
  go_wp2_with fail;refine bHit w (by exact zB) fun bb=>?_;refine (l6Ok_any c h 1 8 1 a b p q _ ((H1.out.below bb).more bb.size) ((H2.out.below bb).more bb.size)).mono ?_;rintro _ w1 ⟨rfl,hbw1⟩;have hCw1:Below w.heap.size w w1:=bT bb hbw1;have hsw1:=hbw1.size;(try simp at hsw1);have zz:=q4 hbw1 (b:=w.heap.size);(try simp [go_sem] at zz);(try clear z_wppp x_wppp f_wppp l_wppp);(try clear z_wpp x_wpp f_wpp l_wpp);(try clear z_wp x_wp f_wp l_wp);(try clear z_w x_w f_w l_w);obtain ⟨z_wppp,z_wpp,z_wp,z_w⟩:=zz;obtain ⟨x_wppp,f_wppp,l_wppp⟩:=bO z_wppp;obtain ⟨x_wpp,f_wpp,l_wpp⟩:=bO z_wpp;obtain ⟨x_wp,f_wp,l_wp⟩:=bO z_wp;obtain ⟨x_w,f_w,l_w⟩:=bO z_w;clear hbw1 bb
  rw [hk]
  go_wp2_with fail;refine bHit w (by exact zB) fun bb=>?_;refine (wCopy_any c a b p q _ ((H1.out.below bb).more bb.size) Z1.out ((H2.out.below bb).more bb.size) Z2.out m1 m2).mono ?_;rintro _ w2 ⟨⟨v1,v2,rfl,o1,o2⟩,hbw2⟩;have hCw2:Below w.heap.size w w2:=bT bb hbw2;have hsw2:=hbw2.size;(try simp at hsw2);have zz:=q4 hbw2 (b:=w.heap.size);(first|simp [go_sem,z_wppp,z_wpp,z_wp,z_w,l_w,l_wp,l_wpp,l_wppp] at zz|simp [go_sem] at zz|skip);(try clear z_wppp x_wppp f_wppp l_wppp);(try clear z_wpp x_wpp f_wpp l_wpp);(try clear z_wp x_wp f_wp l_wp);(try clear z_w x_w f_w l_w);obtain ⟨z_wppp,z_wpp,z_wp,z_w⟩:=zz;obtain ⟨x_wppp,f_wppp,l_wppp⟩:=bO z_wppp;obtain ⟨x_wpp,f_wpp,l_wpp⟩:=bO z_wpp;obtain ⟨x_wp,f_wp,l_wp⟩:=bO z_wp;obtain ⟨x_w,f_w,l_w⟩:=bO z_w;clear hbw2 bb
  have d1:∀ j,v1.ownBlock=some j→w.heap.size+1+1+1+1≤j:=fun j hj=>by have:=(o1.lt j hj).1;omega
  have d2:∀ j,v2.ownBlock=some j→w.heap.size+1+1+1+1≤j:=fun j hj=>by have:=(o2.lt j hj).1;omega
  have p1:=own_lo (lo':=w.heap.size) o1 (by omega)
  have p2:=own_lo (lo':=w.heap.size) o2 (by omega)
  obtain ⟨a1,q1,rfl,_⟩:=o1.seg
  obtain ⟨a2,q2,rfl,_⟩:=o2.seg
  have nw:∀ j,(j<w.heap.size+1+1+1+1∨w2.heap.size≤j)→some j≠(Value.slice a1 c.cells.length q1).ownBlock:=fun j hj e=>by have:=d1 _ e.symm;have:=(o1.lt _ e.symm).2;omega
  have nw0:=nw (w.heap.size) (by omega)
  have nw1:=nw (w.heap.size+1) (by omega)
  have nw2:=nw (w.heap.size+1+1) (by omega)
  have nw3:=nw (w.heap.size+1+1+1) (by omega)
  have nwo:=nw w2.heap.size (by omega)
  have k0:w.heap.size<w2.heap.size:=by omega
  have k1:w.heap.size+1<w2.heap.size:=by omega
  have k2:w.heap.size+1+1<w2.heap.size:=by omega
  have k3:w.heap.size+1+1+1<w2.heap.size:=by omega
  obtain ⟨g,cap,hv,hlo,hlt,hcell,hfr⟩:=o1.open1 hi
  simp at hv
  obtain ⟨rfl,rfl⟩:=hv
  have HO:=Lib.hid o1
  have HP:=Lib.hid p1
  generalize c.cells.getD i ⟨0,0,0⟩=x0 at *
  obtain ⟨s,e,t⟩:=x0
  have g0:=hcell 0 (by omega)
  have g1:=hcell 1 (by omega)
  have g2:=hcell 2 (by omega)
  simp only [C3.val,Nat.add_zero] at g0 g1 g2
  have hi0:(0:Int)≤(i:Int):=by omega
  have hi1:(i:Int)<(c.cells.length:Int):=by omega
  have hng:∀ j,(j<w.heap.size+1+1+1+1∨w2.heap.size≤j)→g≠j:=fun j hj e=>nw j hj (by simp [Value.ownBlock,e])
  have ng0:=hng w.heap.size (by omega)
  have ng1:=hng (w.heap.size+1) (by omega)
  have ng2:=hng (w.heap.size+1+1) (by omega)
  have ng3:=hng (w.heap.size+1+1+1) (by omega)
  have ngo:=hng w2.heap.size (by omega)
  have hg2:=OCells.ne o1 o2 g (by simp [Value.ownBlock])
  clear hcell o1 p1
  go_wp2_with fail
  refine wp_region_held_drew (S:=fun w'=>w'.cell? ⟨w2.heap.size,4,none⟩=some (.slice (some ⟨g,0,none⟩) c.cells.length q1)∧w'.cell? ⟨w.heap.size+1,3,none⟩=some (.int .i64 i)∧w'.cell? ⟨w.heap.size+1,2,none⟩=some (.int .i64 h.elem)) (by kernel_rfl) (by simp [*,go_sem]) (fun hS0=>?_)
  refine wpAnyH_take (i:=0) (oi:=⟨some 43,_,_,_,_,_⟩) (v:=?_) rfl (by kernel_rfl) (by kernel_rfl) (by kernel_rfl) (fun _ _ _ h=>h) (Or.inl ⟨by rfl,?_⟩) (by assumption) ?_;rotate_left;(focus (intro w' hSw;(try dsimp only at hSw);go_simp;(try with_reducible rfl)));(try rotate_left);(try simp only [Act.put,List.setIfInBounds_toArray,List.set_cons_zero,List.set_cons_succ])
  refine wpAnyH_take (i:=1) (oi:=⟨some 44,_,_,_,_,_⟩) (v:=?_) rfl (by kernel_rfl) (by kernel_rfl) (by kernel_rfl) (fun _ _ _ h=>h) (Or.inl ⟨by rfl,?_⟩) (by assumption) ?_;rotate_left;(focus (intro w' hSw;(try dsimp only at hSw);go_simp;(try with_reducible rfl)));(try rotate_left);(try simp only [Act.put,List.setIfInBounds_toArray,List.set_cons_zero,List.set_cons_succ])
  refine wpAnyH_take (i:=2) (oi:=⟨some 45,_,_,_,_,_⟩) (v:=?_) rfl (by kernel_rfl) (by kernel_rfl) (by kernel_rfl) (fun _ _ _ h=>h) (Or.inl ⟨by rfl,?_⟩) (by assumption) ?_;rotate_left;(focus (intro w' hSw;(try dsimp only at hSw);go_simp;(try with_reducible rfl)));(try rotate_left);(try simp only [Act.put,List.setIfInBounds_toArray,List.set_cons_zero,List.set_cons_succ])
  refine wpAnyH_take (i:=3) (oi:=⟨some 46,_,_,_,_,_⟩) (v:=?_) rfl (by kernel_rfl) (by kernel_rfl) (by kernel_rfl) (fun _ _ _ h=>h) (Or.inl ⟨by rfl,?_⟩) (by assumption) ?_;rotate_left;(focus (intro w' hSw;(try dsimp only at hSw);go_simp;(try with_reducible rfl)));(try rotate_left);(try simp only [Act.put,List.setIfInBounds_toArray,List.set_cons_zero,List.set_cons_succ])
  refine wpAnyH_take (i:=4) (oi:=⟨some 47,_,_,_,_,_⟩) (v:=?_) rfl (by kernel_rfl) (by kernel_rfl) (by kernel_rfl) (fun _ _ _ h=>h) (Or.inl ⟨by rfl,?_⟩) (by assumption) ?_;rotate_left;(focus (intro w' hSw;(try dsimp only at hSw);go_simp;(try with_reducible rfl)));(try rotate_left);(try simp only [Act.put,List.setIfInBounds_toArray,List.set_cons_zero,List.set_cons_succ])
  refine wpAnyH_take (i:=5) (oi:=⟨some 48,_,_,_,_,_⟩) (v:=?_) rfl (by kernel_rfl) (by kernel_rfl) (by kernel_rfl) (fun _ _ _ h=>h) (Or.inl ⟨by rfl,?_⟩) (by assumption) ?_;rotate_left;(focus (intro w' hSw;(try dsimp only at hSw);go_simp;(try with_reducible rfl)));(try rotate_left);(try simp only [Act.put,List.setIfInBounds_toArray,List.set_cons_zero,List.set_cons_succ])
  refine wpAnyH_take (i:=6) (oi:=⟨some 49,_,_,_,_,_⟩) (v:=?_) rfl (by kernel_rfl) (by kernel_rfl) (by kernel_rfl) (fun _ _ _ h=>h) (Or.inl ⟨by rfl,?_⟩) (by assumption) ?_;rotate_left;(focus (intro w' hSw;(try dsimp only at hSw);go_simp;(try with_reducible rfl)));(try rotate_left);(try simp only [Act.put,List.setIfInBounds_toArray,List.set_cons_zero,List.set_cons_succ])
  refine wpAnyH_take (i:=7) (oi:=⟨some 50,_,_,_,_,_⟩) (v:=?_) rfl (by kernel_rfl) (by kernel_rfl) (by kernel_rfl) (fun _ _ _ h=>h) (Or.inl ⟨by rfl,?_⟩) (by assumption) ?_;rotate_left;(focus (intro w' hSw;(try dsimp only at hSw);go_simp;(try with_reducible rfl)));(try rotate_left);(try simp only [Act.put,List.setIfInBounds_toArray,List.set_cons_zero,List.set_cons_succ])
  refine wpAnyH_take (i:=8) (oi:=⟨some 51,_,_,_,_,_⟩) (v:=?_) rfl (by kernel_rfl) (by kernel_rfl) (by kernel_rfl) (fun _ _ _ h=>h) (Or.inl ⟨by rfl,?_⟩) (by assumption) ?_;rotate_left;(focus (intro w' hSw;(try dsimp only at hSw);go_simp;(try with_reducible rfl)));(try rotate_left);(try simp only [Act.put,List.setIfInBounds_toArray,List.set_cons_zero,List.set_cons_succ])
  refine wpAnyH_take (i:=10) (oi:=⟨some 53,_,_,_,_,_⟩) (v:=?_) rfl (by kernel_rfl) (by kernel_rfl) (by kernel_rfl) (fun _ _ _ h=>h) (Or.inl ⟨by rfl,?_⟩) (by assumption) ?_;rotate_left;(focus (intro w' hSw;(try dsimp only at hSw);go_simp;(try with_reducible rfl)));(try rotate_left);(try simp only [Act.put,List.setIfInBounds_toArray,List.set_cons_zero,List.set_cons_succ])
  refine wpAnyH_take (i:=11) (oi:=⟨some 54,_,_,_,_,_⟩) (v:=?_) rfl (by kernel_rfl) (by kernel_rfl) (by kernel_rfl) (fun _ _ _ h=>h) (Or.inl ⟨by rfl,?_⟩) (by assumption) ?_;rotate_left;(focus (intro w' hSw;(try dsimp only at hSw);go_simp;(try with_reducible rfl)));(try rotate_left);(try simp only [Act.put,List.setIfInBounds_toArray,List.set_cons_zero,List.set_cons_succ])
  refine wpAnyH_take (i:=12) (oi:=⟨some 55,_,_,_,_,_⟩) (v:=?_) rfl (by kernel_rfl) (by kernel_rfl) (by kernel_rfl) (fun _ _ _ h=>h) (Or.inl ⟨by rfl,?_⟩) (by assumption) ?_;rotate_left;(focus (intro w' hSw;(try dsimp only at hSw);go_simp;(try with_reducible rfl)));(try rotate_left);(try simp only [Act.put,List.setIfInBounds_toArray,List.set_cons_zero,List.set_cons_succ])
  refine wpAnyH_ready (rs:=[9]) (by kernel_rfl) (by simp) ?_
  refine AllReadyH.cons (o:=⟨some 52,_,_,_,_,_⟩) rfl (fun K hK=>?_) AllReadyH.nil
  go_simp
  refine hK.out _ _ hS0 (fun hS9=>?_)
  clear hK
  (try simp only [Act.put,List.setIfInBounds_toArray,List.set_cons_zero,List.set_cons_succ])
  refine wpAnyH_ready (rs:=[13]) (by kernel_rfl) (by simp) ?_
  refine AllReadyH.cons (o:=⟨some 56,_,_,_,_,_⟩) rfl (fun K hK=>?_) AllReadyH.nil
  go_simp
  go_at_call 85
  refine (sLaid_any s e t h.elem _).mono ?_
  rintro _ w4 ⟨rfl,hbw4⟩
  have hCw4:Below w.heap.size w w4:=bT (by exact zB) hbw4
  have hKw4:Below w2.heap.size w2 w4:=bT (by exact zB) hbw4
  have y0:=(hKw4.cell (p:=⟨g,i*3,none⟩) hlt).trans g0
  have y1:=(hKw4.cell (p:=⟨g,i*3+1,none⟩) hlt).trans g1
  have y2:=(hKw4.cell (p:=⟨g,i*3+2,none⟩) hlt).trans g2
  have yf:=fun o=>(hKw4.frozen (p:=⟨g,o,none⟩) hlt).trans (hfr o)
  have hsw4:=hbw4.size;(try simp at hsw4);have zz:=And.intro (hQ hbw4 (b:=w2.heap.size)) <| And.intro (hQ hbw4 (b:=w.heap.size+1+1+1)) <| And.intro (hQ hbw4 (b:=w.heap.size+1+1)) <| And.intro (hQ hbw4 (b:=w.heap.size+1)) <| hQ hbw4 (b:=w.heap.size);(first|simp [go_sem,z_wppp,z_wpp,z_wp,z_w,l_w,l_wp,l_wpp,l_wppp,k0,k1,k2,k3] at zz|simp [go_sem] at zz|skip);(try clear z_w2 x_w2 f_w2 l_w2);(try clear z_wppp x_wppp f_wppp l_wppp);(try clear z_wpp x_wpp f_wpp l_wpp);(try clear z_wp x_wp f_wp l_wp);(try clear z_w x_w f_w l_w);obtain ⟨z_w2,z_wppp,z_wpp,z_wp,z_w⟩:=zz;obtain ⟨x_w2,f_w2,l_w2⟩:=bO z_w2;obtain ⟨x_wppp,f_wppp,l_wppp⟩:=bO z_wppp;obtain ⟨x_wpp,f_wpp,l_wpp⟩:=bO z_wpp;obtain ⟨x_wp,f_wp,l_wp⟩:=bO z_wp;obtain ⟨x_w,f_w,l_w⟩:=bO z_w;clear hbw4
  refine hK.out _ _ (by simp [*,go_sem]) (fun hS4=>?_)
  clear hK
  (try simp only [Act.put,List.setIfInBounds_toArray,List.set_cons_zero,List.set_cons_succ])
  refine wpAnyH_take (i:=14) (oi:=⟨some 57,_,_,_,_,_⟩) (v:=?_) rfl (by kernel_rfl) (by kernel_rfl) (by kernel_rfl) (fun _ _ _ h=>h) (Or.inl ⟨by rfl,?_⟩) (by assumption) ?_;rotate_left;(focus (intro w' hSw;(try dsimp only at hSw);go_simp;(try with_reducible rfl)));(try rotate_left);(try simp only [Act.put,List.setIfInBounds_toArray,List.set_cons_zero,List.set_cons_succ])
  refine wpAnyH_ready (rs:=[15]) (by kernel_rfl) (by simp) ?_
  refine AllReadyH.cons (o:=⟨none,_,_,_,_,_⟩) rfl (fun K hK=>?_) AllReadyH.nil
  go_simp
  refine hK.out _ _ (by simp [*,go_sem]) (fun hS5=>?_)
  clear hK
  (try simp only [Act.put,List.setIfInBounds_toArray,List.set_cons_zero,List.set_cons_succ])
  refine wpAnyH_done (by kernel_rfl) ?_ _
  obtain ⟨w5,hw5⟩:∃ w5,w5=((w4.setCell ⟨g,i*3,none⟩ (.int .i64 s)).setCell ⟨g,i*3+1,none⟩ (.int .i64 (laidF s e t h.elem))).setCell ⟨g,i*3+2,none⟩ (.int .i64 t):=⟨_,rfl⟩
  have r1:OCells w5 w1.heap.size (.slice (some ⟨g,0,none⟩) c.cells.length q1) (c.cells.set i ⟨s,laidF s e t h.elem,t⟩):=by rw [hw5];simpa using OCells.set (own_below HO.out hKw4) hi ⟨s,laidF s e t h.elem,t⟩
  have r2:OInts w5 w1.heap.size (.slice a2 c.words.length q2) c.words:=by rw [hw5];exact own_store (own_store (own_store (own_below o2 hKw4) hg2 _) hg2 _) hg2 _
  have hgw5:w4.grownBy w5 (Value.slice (some ⟨g,0,none⟩) c.cells.length q1).ownBlock:=by rw [hw5];exact gS (gS (gS (gR _ _) (.inl rfl)) (.inl rfl)) (.inl rfl)
  rw [← hw5]
  clear hw5
  have hsw5:=hgw5.size;(try (simp at hsw5));have zz:=And.intro (grHp hgw5 (b:=w2.heap.size) (by (try simp) <;> omega) (by assumption)) <| And.intro (grHp hgw5 (b:=w.heap.size+1+1+1) (by (try simp) <;> omega) (by assumption)) <| And.intro (grHp hgw5 (b:=w.heap.size+1+1) (by (try simp) <;> omega) (by assumption)) <| And.intro (grHp hgw5 (b:=w.heap.size+1) (by (try simp) <;> omega) (by assumption)) <| grHp hgw5 (b:=w.heap.size) (by (try simp) <;> omega) (by assumption);(first|simp [go_sem,z_w2,z_wppp,z_wpp,z_wp,z_w,l_w,l_w2,l_wp,l_wpp,l_wppp,k0,k1,k2,k3] at zz|simp [go_sem] at zz|skip);(try clear z_w2 x_w2 f_w2 l_w2);(try clear z_wppp x_wppp f_wppp l_wppp);(try clear z_wpp x_wpp f_wpp l_wpp);(try clear z_wp x_wp f_wp l_wp);(try clear z_w x_w f_w l_w);obtain ⟨z_w2,z_wppp,z_wpp,z_wp,z_w⟩:=zz;obtain ⟨x_w2,f_w2,l_w2⟩:=bO z_w2;obtain ⟨x_wppp,f_wppp,l_wppp⟩:=bO z_wppp;obtain ⟨x_wpp,f_wpp,l_wpp⟩:=bO z_wpp;obtain ⟨x_wp,f_wp,l_wp⟩:=bO z_wp;obtain ⟨x_w,f_w,l_w⟩:=bO z_w
  have hCw5:Below w.heap.size w w5:=bOwn hCw4 hgw5 (by omega) (fun k hk=>by have:=d1 k hk;omega)
  clear hgw5 y0 y1 y2 yf hS0 hS9 hS4 hS5
  have s1:=own_lo (lo':=w.heap.size) r1 (by omega)
  have s2:=own_lo (lo':=w.heap.size) r2 (by omega)
  go_wp2_with fail;refine bHit w (by exact zB) fun bb=>?_;refine (D.out _ _ _ (by exact zO s1 r1) (by exact zO s2 r2)).mono ?_;rintro _ w3 ⟨⟨y1,y2,rfl,oY1,oY2,fY1,fY2⟩,hbw3⟩;have hCw3:Below w.heap.size w w3:=bT bb hbw3;have hsw3:=hbw3.size;(try simp at hsw3);have zz:=q4 hbw3 (b:=w.heap.size);(first|simp [go_sem,z_wppp,z_wpp,z_wp,z_w,l_w,l_wp,l_wpp,l_wppp,k0,k1,k2,k3] at zz|simp [go_sem] at zz|skip);(try clear z_wppp x_wppp f_wppp l_wppp);(try clear z_wpp x_wpp f_wpp l_wpp);(try clear z_wp x_wp f_wp l_wp);(try clear z_w x_w f_w l_w);obtain ⟨z_wppp,z_wpp,z_wp,z_w⟩:=zz;obtain ⟨x_wppp,f_wppp,l_wppp⟩:=bO z_wppp;obtain ⟨x_wpp,f_wpp,l_wpp⟩:=bO z_wpp;obtain ⟨x_wp,f_wp,l_wp⟩:=bO z_wp;obtain ⟨x_w,f_w,l_w⟩:=bO z_w;clear hbw3 bb
  have hoff1:∀ j,w.heap.size≤j→j<w.heap.size+1+1+1+1→y1.ownBlock≠some j:=fun j _ h2=>fY1.off2 d1 h2 (by (try simp) <;> omega);have hoff2:∀ j,w.heap.size≤j→j<w.heap.size+1+1+1+1→y2.ownBlock≠some j:=fun j _ h2=>fY2.off2 d2 h2 (by (try simp) <;> omega);have fr1:Fresh w (.slice none 0 0) y1:=fun j hj=>.inr (fY1.up d1 (by (try simp) <;> omega) (by (try simp) <;> omega) j hj);have fr2:Fresh w (.slice none 0 0) y2:=fun j hj=>.inr (fY2.up d2 (by (try simp) <;> omega) (by (try simp) <;> omega) j hj);obtain ⟨ya,yp,rfl,_⟩:=oY1.seg;obtain ⟨yb,yq,rfl,_⟩:=oY2.seg
  go_wp2
  refine bodyPost_ret (res_cct Tryz.results70 rfl (ldChan x.1 (.slice ya x.1.cells.length yp) (.slice yb x.1.words.length yq) (by simp [go_sem, *])) rfl (ldHand x.2.1 (by simp [go_sem, *]))) rfl ⟨⟨_,_,rfl,?_,?_,fr1,fr2⟩,by exact zB⟩
  · exact zP oY1 oY1 hoff1
  · exact zP oY2 oY2 hoff2
end Go.Proofs.YtmnpgkcdfielbaaGreat
set_option linter.unusedSimpArgs false
set_option linter.unusedVariables false
namespace Go.Proofs.YtmnpgkcdfielbaaGreat
open Go.RowKit
set_option linter.unusedSimpArgs false
attribute [local simp] bx_size
attribute [local go_sem ↓] zeroHand zeroChan toLHand toLChan toVHand toVChan storeHand storeChan storeHandC storeChanC
end Go.Proofs.YtmnpgkcdfielbaaGreat
set_option linter.unusedSimpArgs false
set_option linter.unusedVariables false
namespace Go.Proofs.YtmnpgkcdfielbaaGreat
open Go.RowKit
set_option linter.unusedSimpArgs false
attribute [local simp] bx_size
attribute [local go_sem ↓] zeroHand zeroChan toLHand toLChan toVHand toVChan storeHand storeChan storeHandC storeChanC
end Go.Proofs.YtmnpgkcdfielbaaGreat
set_option linter.unusedSimpArgs false
set_option linter.unusedVariables false
namespace Go.Proofs.YtmnpgkcdfielbaaGreat
open Go.RowKit
set_option linter.unusedSimpArgs false
attribute [local simp] bx_size
attribute [local go_sem ↓] zeroHand zeroChan toLHand toLChan toVHand toVChan storeHand storeChan storeHandC storeChanC
theorem state_ints (c:Ch) (i st:Int) (a b:Value):cvals (stateC c i st) a b=cvals c a b:=rfl
theorem state_words (c:Ch) (i st:Int):(stateC c i st).words=c.words:=rfl
theorem hand_grow {h:Ha} (e:handOk h=true):0≤h.grow∧h.grow≤39:=by
  simp [handOk,handB,inB] at e
  omega
set_option maxRecDepth 100000 in
set_option maxHeartbeats 2000000 in
theorem sSend_8 (c:Ch) (h:Ha) (a b:Option Addr) (p q:Nat) (w:World) (h1:Seg w w.heap.size a c.cells.length 3 (cellF c.cells)) (z1:a=none→p=0) (h2:Seg w w.heap.size b c.words.length 1 (intF c.words)) (z2:b=none→q=0) (hk:stepOk c h 1 8 1=true) (hp0:h.pos=8) :
    Calls Tryz.prog 70 #[.agg (cvals c (.slice a c.cells.length p) (.slice b c.words.length q)),.agg (hvals h)] w fun r w'=>StepN w w' (sendStep c h) r:=by
  obtain ⟨k1,k2,_,_⟩:=stepOk_yes hk
  obtain ⟨n1,n2⟩:=chan_40 k1
  have m1:c.cells.length≤1099511627776:=by omega
  have m2:c.words.length≤1099511627776:=by omega
  have H1:=Lib.hid h1
  have H2:=Lib.hid h2
  have Z1:=Lib.hid z1
  have Z2:=Lib.hid z2
  obtain ⟨c1,c2⟩:=hand_cell k2
  obtain ⟨i,hci⟩:∃ i:Nat,h.cell=(i:Int):=⟨h.cell.toNat,by omega⟩
  have hi:i<c.cells.length:=by omega
  have e:sendStep c h=done (stateC c i 7) (resting 1 0):=by simp [sendStep,hk,hp0,hci]
  rw [e]
  have ST:=Lib.hid fun v1 v2 W=>wState_any c i 7 v1 v2 w.heap.size W
  have D:=fun v1 v2 W=>l6Done_any (stateC c i 7) (resting 1 0) v1 v2 w.heap.size W
  simp only [state_ints,state_words] at D
  generalize done (stateC c i 7) (resting 1 0)=x at *
  replace D:=Lib.hid D
  clear h1 h2 z1 z2 e k1 k2 n1 n2 c1 c2
  go_enter Tryz.func70,Tryz.ntmps70
  go_wp2_with fail;refine bHit w (by exact zB) fun bb=>?_;refine (l6Ok_any c h 1 8 1 a b p q _ ((H1.out.below bb).more bb.size) ((H2.out.below bb).more bb.size)).mono ?_;rintro _ w1 ⟨rfl,hbw1⟩;have hCw1:Below w.heap.size w w1:=bT bb hbw1;have hsw1:=hbw1.size;(try simp at hsw1);have zz:=q4 hbw1 (b:=w.heap.size);(try simp [go_sem] at zz);(try clear z_wppp x_wppp f_wppp l_wppp);(try clear z_wpp x_wpp f_wpp l_wpp);(try clear z_wp x_wp f_wp l_wp);(try clear z_w x_w f_w l_w);obtain ⟨z_wppp,z_wpp,z_wp,z_w⟩:=zz;obtain ⟨x_wppp,f_wppp,l_wppp⟩:=bO z_wppp;obtain ⟨x_wpp,f_wpp,l_wpp⟩:=bO z_wpp;obtain ⟨x_wp,f_wp,l_wp⟩:=bO z_wp;obtain ⟨x_w,f_w,l_w⟩:=bO z_w;clear hbw1 bb
  rw [hk]
  go_wp2_with fail;refine bHit w (by exact zB) fun bb=>?_;refine (wCopy_any c a b p q _ ((H1.out.below bb).more bb.size) Z1.out ((H2.out.below bb).more bb.size) Z2.out m1 m2).mono ?_;rintro _ w2 ⟨⟨v1,v2,rfl,o1,o2⟩,hbw2⟩;have hCw2:Below w.heap.size w w2:=bT bb hbw2;have hsw2:=hbw2.size;(try simp at hsw2);have zz:=q4 hbw2 (b:=w.heap.size);(first|simp [go_sem,z_wppp,z_wpp,z_wp,z_w,l_w,l_wp,l_wpp,l_wppp] at zz|simp [go_sem] at zz|skip);(try clear z_wppp x_wppp f_wppp l_wppp);(try clear z_wpp x_wpp f_wpp l_wpp);(try clear z_wp x_wp f_wp l_wp);(try clear z_w x_w f_w l_w);obtain ⟨z_wppp,z_wpp,z_wp,z_w⟩:=zz;obtain ⟨x_wppp,f_wppp,l_wppp⟩:=bO z_wppp;obtain ⟨x_wpp,f_wpp,l_wpp⟩:=bO z_wpp;obtain ⟨x_wp,f_wp,l_wp⟩:=bO z_wp;obtain ⟨x_w,f_w,l_w⟩:=bO z_w;clear hbw2 bb
  have d1:∀ j,v1.ownBlock=some j→w.heap.size+1+1+1+1≤j:=fun j hj=>by have:=(o1.lt j hj).1;omega
  have d2:∀ j,v2.ownBlock=some j→w.heap.size+1+1+1+1≤j:=fun j hj=>by have:=(o2.lt j hj).1;omega
  have p1:=own_lo (lo':=w.heap.size) o1 (by omega)
  have p2:=own_lo (lo':=w.heap.size) o2 (by omega)
  obtain ⟨a1,q1,rfl,_⟩:=o1.seg
  obtain ⟨a2,q2,rfl,_⟩:=o2.seg
  have nw:∀ j,(j<w.heap.size+1+1+1+1∨w2.heap.size≤j)→some j≠(Value.slice a1 c.cells.length q1).ownBlock:=fun j hj e=>by have:=d1 _ e.symm;have:=(o1.lt _ e.symm).2;omega
  have nw0:=nw (w.heap.size) (by omega)
  have nw1:=nw (w.heap.size+1) (by omega)
  have nw2:=nw (w.heap.size+1+1) (by omega)
  have nw3:=nw (w.heap.size+1+1+1) (by omega)
  have nwo:=nw w2.heap.size (by omega)
  go_wp2_with fail
  refine (ST.out _ _ _ (by exact zO p1 o1) (by exact zO p2 o2) hi).mono ?_
  rintro _ w4 ⟨rfl,s1,s2,hgw4⟩
  have hsw4:=hgw4.size;(try (simp at hsw4));have zz:=And.intro (grHp hgw4 (b:=w2.heap.size) (by (try simp) <;> omega) (by assumption)) <| And.intro (grHp hgw4 (b:=w.heap.size+1+1+1) (by (try simp) <;> omega) (by assumption)) <| And.intro (grHp hgw4 (b:=w.heap.size+1+1) (by (try simp) <;> omega) (by assumption)) <| And.intro (grHp hgw4 (b:=w.heap.size+1) (by (try simp) <;> omega) (by assumption)) <| grHp hgw4 (b:=w.heap.size) (by (try simp) <;> omega) (by assumption);(first|simp [go_sem,z_wppp,z_wpp,z_wp,z_w,l_w,l_wp,l_wpp,l_wppp] at zz|simp [go_sem] at zz|skip);(try clear z_w2 x_w2 f_w2 l_w2);(try clear z_wppp x_wppp f_wppp l_wppp);(try clear z_wpp x_wpp f_wpp l_wpp);(try clear z_wp x_wp f_wp l_wp);(try clear z_w x_w f_w l_w);obtain ⟨z_w2,z_wppp,z_wpp,z_wp,z_w⟩:=zz;obtain ⟨x_w2,f_w2,l_w2⟩:=bO z_w2;obtain ⟨x_wppp,f_wppp,l_wppp⟩:=bO z_wppp;obtain ⟨x_wpp,f_wpp,l_wpp⟩:=bO z_wpp;obtain ⟨x_wp,f_wp,l_wp⟩:=bO z_wp;obtain ⟨x_w,f_w,l_w⟩:=bO z_w
  have hCw4:Below w.heap.size w w4:=bOwn (by exact zB) hgw4 (by (try simp) <;> omega) (fun k hk=>by have:=d1 k hk;omega)
  clear hgw4
  go_wp2_with fail;refine bHit w (by exact zB) fun bb=>?_;refine bHit w4 (by exact zB) fun bk=>?_;refine (sResting_any _ _ _).mono ?_;rintro _ w5 ⟨rfl,hbw5⟩;have hCw5:Below w.heap.size w w5:=bT bb hbw5;have hsw5:=hbw5.size;(try simp at hsw5);have zz:=q4 hbw5 (b:=w.heap.size);(first|simp [go_sem,z_wppp,z_wpp,z_wp,z_w,l_w,l_wp,l_wpp,l_wppp] at zz|simp [go_sem] at zz|skip);(try clear z_wppp x_wppp f_wppp l_wppp);(try clear z_wpp x_wpp f_wpp l_wpp);(try clear z_wp x_wp f_wp l_wp);(try clear z_w x_w f_w l_w);obtain ⟨z_wppp,z_wpp,z_wp,z_w⟩:=zz;obtain ⟨x_wppp,f_wppp,l_wppp⟩:=bO z_wppp;obtain ⟨x_wpp,f_wpp,l_wpp⟩:=bO z_wpp;obtain ⟨x_wp,f_wp,l_wp⟩:=bO z_wp;obtain ⟨x_w,f_w,l_w⟩:=bO z_w;have hKw5:Below w4.heap.size w4 w5:=bT bk hbw5;clear hbw5 bb bk
  have r1:=own_below s1 hKw5
  have r2:=own_below s2 hKw5
  go_wp2_with fail;refine bHit w (by exact zB) fun bb=>?_;refine (D.out _ _ _ (by exact zO r1 o1) (by exact zO r2 o2)).mono ?_;rintro _ w3 ⟨⟨y1,y2,rfl,oY1,oY2,fY1,fY2⟩,hbw3⟩;have hCw3:Below w.heap.size w w3:=bT bb hbw3;have hsw3:=hbw3.size;(try simp at hsw3);have zz:=q4 hbw3 (b:=w.heap.size);(first|simp [go_sem,z_wppp,z_wpp,z_wp,z_w,l_w,l_wp,l_wpp,l_wppp] at zz|simp [go_sem] at zz|skip);(try clear z_wppp x_wppp f_wppp l_wppp);(try clear z_wpp x_wpp f_wpp l_wpp);(try clear z_wp x_wp f_wp l_wp);(try clear z_w x_w f_w l_w);obtain ⟨z_wppp,z_wpp,z_wp,z_w⟩:=zz;obtain ⟨x_wppp,f_wppp,l_wppp⟩:=bO z_wppp;obtain ⟨x_wpp,f_wpp,l_wpp⟩:=bO z_wpp;obtain ⟨x_wp,f_wp,l_wp⟩:=bO z_wp;obtain ⟨x_w,f_w,l_w⟩:=bO z_w;clear hbw3 bb
  have hoff1:∀ j,w.heap.size≤j→j<w.heap.size+1+1+1+1→y1.ownBlock≠some j:=fun j _ h2=>fY1.off2 d1 h2 (by (try simp) <;> omega);have hoff2:∀ j,w.heap.size≤j→j<w.heap.size+1+1+1+1→y2.ownBlock≠some j:=fun j _ h2=>fY2.off2 d2 h2 (by (try simp) <;> omega);have fr1:Fresh w (.slice none 0 0) y1:=fun j hj=>.inr (fY1.up d1 (by (try simp) <;> omega) (by (try simp) <;> omega) j hj);have fr2:Fresh w (.slice none 0 0) y2:=fun j hj=>.inr (fY2.up d2 (by (try simp) <;> omega) (by (try simp) <;> omega) j hj);obtain ⟨ya,yp,rfl,_⟩:=oY1.seg;obtain ⟨yb,yq,rfl,_⟩:=oY2.seg
  go_wp2
  refine bodyPost_ret (res_cct Tryz.results70 rfl (ldChan x.1 (.slice ya x.1.cells.length yp) (.slice yb x.1.words.length yq) (by simp [go_sem, *])) rfl (ldHand x.2.1 (by simp [go_sem, *]))) rfl ⟨⟨_,_,rfl,?_,?_,fr1,fr2⟩,by exact zB⟩
  · exact zP oY1 oY1 hoff1
  · exact zP oY2 oY2 hoff2
end Go.Proofs.YtmnpgkcdfielbaaGreat
set_option linter.unusedSimpArgs false
set_option linter.unusedVariables false
namespace Go.Proofs.YtmnpgkcdfielbaaGreat
open Go.RowKit
set_option linter.unusedSimpArgs false
attribute [local simp] bx_size
attribute [local go_sem ↓] zeroHand zeroChan toLHand toLChan toVHand toVChan storeHand storeChan storeHandC storeChanC
set_option maxRecDepth 100000 in
theorem l7Grow_any (h:Ha) (t:Int) (w:World):Calls Tryz.prog 93 #[.agg (hvals h),.int .i64 t] w fun r w'=>r=.returned (.agg (hvals (grow7 h t)))∧Below w.heap.size w w':=by
  go_enter Tryz.func93,Tryz.ntmps93
  go_wp2
  refine bodyPost_ret (res_c Tryz.results93 rfl (ldHand (grow7 h t) (by simp [go_sem] <;> rfl))) rfl ⟨rfl,by exact zB⟩
set_option maxRecDepth 100000 in
set_option maxHeartbeats 1000000 in
theorem l8Grown_any (h:Ha) (w:World):Calls Tryz.prog 96 #[.agg (hvals h)] w fun r w'=>r=.returned (.agg (hvals (grown8 h)))∧Below w.heap.size w w':=by
  by_cases h0:h.nxt=0
  · rw [show grown8 h=resting 2 h.out by simp [grown8,h0]]
    go_enter Tryz.func96,Tryz.ntmps96
    go_wp2_with fail;refine bHit w (by exact zB) fun bb=>?_;refine (sResting_any 2 h.out _).mono ?_;rintro _ w1 ⟨rfl,hbw1⟩;have hCw1:Below w.heap.size w w1:=bT bb hbw1;have hsw1:=hbw1.size;(try simp at hsw1);have zz:=And.intro (hQ hbw1 (b:=w.heap.size+1)) <| hQ hbw1 (b:=w.heap.size);(try simp [go_sem] at zz);(try clear z_wp x_wp f_wp l_wp);(try clear z_w x_w f_w l_w);obtain ⟨z_wp,z_w⟩:=zz;obtain ⟨x_wp,f_wp,l_wp⟩:=bO z_wp;obtain ⟨x_w,f_w,l_w⟩:=bO z_w;clear hbw1 bb
    go_wp2
    refine bodyPost_ret (res_c Tryz.results96 rfl (ldHand (resting 2 h.out) (by simp [go_sem, *] <;> rfl))) rfl ⟨rfl,by exact zB⟩
  · by_cases h1:h.nxt=1
    · rw [show grown8 h={ h with pos:=23 } by simp [grown8,h1]]
      go_enter Tryz.func96,Tryz.ntmps96
      go_wp2
      refine bodyPost_ret (res_c Tryz.results96 rfl (ldHand { h with pos:=23 } (by simp [go_sem, *] <;> first|rfl|simp [*]))) rfl ⟨rfl,by exact zB⟩
    · rw [show grown8 h=anew h by simp [grown8,h0,h1]]
      have n0:(h.nxt == 0)=false:=by simpa using h0
      have n1:(h.nxt == 1)=false:=by simpa using h1
      clear h0 h1
      go_enter Tryz.func96,Tryz.ntmps96
      go_wp2_with fail;refine bHit w (by exact zB) fun bb=>?_;refine (l6Anew_any h _).mono ?_;rintro _ w1 ⟨rfl,hbw1⟩;have hCw1:Below w.heap.size w w1:=bT bb hbw1;have hsw1:=hbw1.size;(try simp at hsw1);have zz:=And.intro (hQ hbw1 (b:=w.heap.size+1)) <| hQ hbw1 (b:=w.heap.size);(try simp [go_sem] at zz);(try clear z_wp x_wp f_wp l_wp);(try clear z_w x_w f_w l_w);obtain ⟨z_wp,z_w⟩:=zz;obtain ⟨x_wp,f_wp,l_wp⟩:=bO z_wp;obtain ⟨x_w,f_w,l_w⟩:=bO z_w;clear hbw1 bb
      go_wp2
      refine bodyPost_ret (res_c Tryz.results96 rfl (ldHand (anew h) (by simp [go_sem, *] <;> rfl))) rfl ⟨rfl,by exact zB⟩
theorem view7_at {c:Ch} {h:Ha} {x:C3} (hx:cellAt c h.cell=x) (n:Int) (hn:x.s=n) :
    view7 c h=if n == 0 then ({ viewAs h x with pos:=11 },true) else if n == 1 then ({ viewAs h x with pos:=11 },true) else if n == 2 then ({ viewAs h x with pos:=12 },true) else if n == 3 then ({ viewAs h x with pos:=12 },true) else if n == 9 then (anew (viewAs h x),true) else (viewAs h x,false):=by
  subst hn;subst hx;rfl
set_option maxRecDepth 100000 in
set_option maxHeartbeats 2000000 in
theorem l7View_any (c:Ch) (h:Ha) (a b:Option Addr) (p q:Nat) (w:World) (h1:Seg w w.heap.size a c.cells.length 3 (cellF c.cells)) (hc0:0≤h.cell) (hc1:h.cell<c.cells.length) :
    Calls Tryz.prog 90 #[.agg (cvals c (.slice a c.cells.length p) (.slice b c.words.length q)),.agg (hvals h)] w fun r w'=>r=.returned (.tuple #[.agg (hvals (view7 c h).1),.bool (view7 c h).2])∧Below w.heap.size w w':=by
  obtain ⟨i,hci⟩:∃ i:Nat,h.cell=(i:Int):=⟨h.cell.toNat,by omega⟩
  have hi:i<c.cells.length:=by omega
  obtain ⟨bb,bo,rfl,hb,hcell⟩:∃ b' o,a=some ⟨b',o,none⟩∧b'<w.heap.size∧Hid (∀ j,j<3→w.cell? ⟨b',o+i*3+j,none⟩=some ((c.cells.getD i ⟨0,0,0⟩).val j)):=by
    rcases h1 with h0|⟨b',o',e,h1,h2⟩
    · omega
    · exact ⟨b',o',e,h1,fun j hj=>by simpa [cellF] using h2 i j hi hj⟩
  clear h1
  have c0:=hcell.out 0 (by omega)
  have c1:=hcell.out 1 (by omega)
  have c2:=hcell.out 2 (by omega)
  have hx:Hid (cellAt c h.cell=c.cells.getD i ⟨0,0,0⟩):=by simp [cellAt,Hid,hci]
  clear hcell
  generalize c.cells.getD i ⟨0,0,0⟩=x at *
  obtain ⟨s,e,t⟩:=x
  simp only [C3.val,Nat.add_zero] at c0 c1 c2
  have hi0:(0:Int)≤(i:Int):=by omega
  have hi1:(i:Int)<(c.cells.length:Int):=by omega
  have hb1:bb<w.heap.size+1:=by omega
  have hb2:bb<w.heap.size+1+1:=by omega
  have hb3:bb<w.heap.size+1+1+1:=by omega
  have hne:bb≠w.heap.size:=by omega
  have hne1:bb≠w.heap.size+1:=by omega
  have hne2:bb≠w.heap.size+1+1:=by omega
  have hne3:bb≠w.heap.size+1+1+1:=by omega
  by_cases hn:s=0∨s=1∨s=2∨s=3∨s=9
  · rcases hn with rfl|rfl|rfl|rfl|rfl
    · rw [show view7 c h=({ viewAs h ⟨0,e,t⟩ with pos:=11 },true) from view7_at hx.out 0 rfl]
      go_enter Tryz.func90,Tryz.ntmps90
      go_wp2
      refine bodyPost_ret (res_ct Tryz.results90 rfl (ldHand ({ viewAs h ⟨0,e,t⟩ with pos:=11 }) (by simp [go_sem, *] <;> first|rfl|simp [viewAs,anew,hci]))) rfl ⟨rfl,by exact zB⟩
    · rw [show view7 c h=({ viewAs h ⟨1,e,t⟩ with pos:=11 },true) from view7_at hx.out 1 rfl]
      go_enter Tryz.func90,Tryz.ntmps90
      go_wp2
      refine bodyPost_ret (res_ct Tryz.results90 rfl (ldHand ({ viewAs h ⟨1,e,t⟩ with pos:=11 }) (by simp [go_sem, *] <;> first|rfl|simp [viewAs,anew,hci]))) rfl ⟨rfl,by exact zB⟩
    · rw [show view7 c h=({ viewAs h ⟨2,e,t⟩ with pos:=12 },true) from view7_at hx.out 2 rfl]
      go_enter Tryz.func90,Tryz.ntmps90
      go_wp2
      refine bodyPost_ret (res_ct Tryz.results90 rfl (ldHand ({ viewAs h ⟨2,e,t⟩ with pos:=12 }) (by simp [go_sem, *] <;> first|rfl|simp [viewAs,anew,hci]))) rfl ⟨rfl,by exact zB⟩
    · rw [show view7 c h=({ viewAs h ⟨3,e,t⟩ with pos:=12 },true) from view7_at hx.out 3 rfl]
      go_enter Tryz.func90,Tryz.ntmps90
      go_wp2
      refine bodyPost_ret (res_ct Tryz.results90 rfl (ldHand ({ viewAs h ⟨3,e,t⟩ with pos:=12 }) (by simp [go_sem, *] <;> first|rfl|simp [viewAs,anew,hci]))) rfl ⟨rfl,by exact zB⟩
    · rw [show view7 c h=(anew (viewAs h ⟨9,e,t⟩),true) from view7_at hx.out 9 rfl]
      go_enter Tryz.func90,Tryz.ntmps90
      go_wp2_with fail;refine bHit w (by exact zB) fun bb=>?_;refine (l6Anew_any _ _).mono ?_;rintro _ w1 ⟨rfl,hbw1⟩;have hCw1:Below w.heap.size w w1:=bT bb hbw1;have hsw1:=hbw1.size;(try simp at hsw1);have zz:=And.intro (hQ hbw1 (b:=w.heap.size+1+1)) <| And.intro (hQ hbw1 (b:=w.heap.size+1)) <| hQ hbw1 (b:=w.heap.size);(try simp [go_sem] at zz);(try clear z_wpp x_wpp f_wpp l_wpp);(try clear z_wp x_wp f_wp l_wp);(try clear z_w x_w f_w l_w);obtain ⟨z_wpp,z_wp,z_w⟩:=zz;obtain ⟨x_wpp,f_wpp,l_wpp⟩:=bO z_wpp;obtain ⟨x_wp,f_wp,l_wp⟩:=bO z_wp;obtain ⟨x_w,f_w,l_w⟩:=bO z_w;clear hbw1 bb
      go_wp2
      refine bodyPost_ret (res_ct Tryz.results90 rfl (ldHand (anew (viewAs h ⟨9,e,t⟩)) (by simp [go_sem, *] <;> first|rfl|simp [viewAs,anew,hci]))) rfl ⟨rfl,by exact zB⟩
  · have n0:(s == 0)=false:=by simp;omega
    have n1:(s == 1)=false:=by simp;omega
    have n2:(s == 2)=false:=by simp;omega
    have n3:(s == 3)=false:=by simp;omega
    have n9:(s == 9)=false:=by simp;omega
    rw [show view7 c h=(viewAs h ⟨s,e,t⟩,false) from by rw [view7_at hx.out s rfl,n0,n1,n2,n3,n9];rfl]
    clear hn
    go_enter Tryz.func90,Tryz.ntmps90
    go_wp2
    refine bodyPost_ret (res_ct Tryz.results90 rfl (ldHand (viewAs h ⟨s,e,t⟩) (by simp [go_sem, *] <;> first|rfl|simp [viewAs,anew,hci]))) rfl ⟨rfl,by exact zB⟩
theorem meet8_at {c:Ch} {h:Ha} {x:C3} (hx:cellAt c h.grow=x) (n:Int) (hn:x.s=n) :
    meet8 c h=if n == 0 then { seenAs h x with pos:=19 } else if n == 3 then { seenAs h x with pos:=19 } else if n == 9 then { seenAs h x with pos:=16 } else grown8 (seenAs h x):=by
  subst hn;subst hx;rfl
set_option maxRecDepth 100000 in
set_option maxHeartbeats 2000000 in
theorem l8Meet_any (c:Ch) (h:Ha) (a b:Option Addr) (p q:Nat) (w:World) (h1:Seg w w.heap.size a c.cells.length 3 (cellF c.cells)) (hc0:0≤h.grow) (hc1:h.grow<c.cells.length) :
    Calls Tryz.prog 97 #[.agg (cvals c (.slice a c.cells.length p) (.slice b c.words.length q)),.agg (hvals h)] w fun r w'=>r=.returned (.agg (hvals (meet8 c h)))∧Below w.heap.size w w':=by
  obtain ⟨i,hci⟩:∃ i:Nat,h.grow=(i:Int):=⟨h.grow.toNat,by omega⟩
  have hi:i<c.cells.length:=by omega
  obtain ⟨bb,bo,rfl,hb,hcell⟩:∃ b' o,a=some ⟨b',o,none⟩∧b'<w.heap.size∧Hid (∀ j,j<3→w.cell? ⟨b',o+i*3+j,none⟩=some ((c.cells.getD i ⟨0,0,0⟩).val j)):=by
    rcases h1 with h0|⟨b',o',e,h1,h2⟩
    · omega
    · exact ⟨b',o',e,h1,fun j hj=>by simpa [cellF] using h2 i j hi hj⟩
  clear h1
  have c0:=hcell.out 0 (by omega)
  have c2:=hcell.out 2 (by omega)
  have hx:Hid (cellAt c h.grow=c.cells.getD i ⟨0,0,0⟩):=by simp [cellAt,Hid,hci]
  clear hcell
  generalize c.cells.getD i ⟨0,0,0⟩=x at *
  obtain ⟨s,e,t⟩:=x
  simp only [C3.val,Nat.add_zero] at c0 c2
  have hi0:(0:Int)≤(i:Int):=by omega
  have hi1:(i:Int)<(c.cells.length:Int):=by omega
  have hb1:bb<w.heap.size+1:=by omega
  have hb2:bb<w.heap.size+1+1:=by omega
  have hb3:bb<w.heap.size+1+1+1:=by omega
  have hne:bb≠w.heap.size:=by omega
  have hne1:bb≠w.heap.size+1:=by omega
  have hne2:bb≠w.heap.size+1+1:=by omega
  have hne3:bb≠w.heap.size+1+1+1:=by omega
  by_cases hn:s=0∨s=3∨s=9
  · rcases hn with rfl|rfl|rfl
    · rw [show meet8 c h={ seenAs h ⟨0,e,t⟩ with pos:=19 } from meet8_at hx.out 0 rfl]
      go_enter Tryz.func97,Tryz.ntmps97
      go_wp2
      refine bodyPost_ret (res_c Tryz.results97 rfl (ldHand ({ seenAs h ⟨0,e,t⟩ with pos:=19 }) (by simp [go_sem, *] <;> first|rfl|simp [seenAs,anew,hci]))) rfl ⟨rfl,by exact zB⟩
    · rw [show meet8 c h={ seenAs h ⟨3,e,t⟩ with pos:=19 } from meet8_at hx.out 3 rfl]
      go_enter Tryz.func97,Tryz.ntmps97
      go_wp2
      refine bodyPost_ret (res_c Tryz.results97 rfl (ldHand ({ seenAs h ⟨3,e,t⟩ with pos:=19 }) (by simp [go_sem, *] <;> first|rfl|simp [seenAs,anew,hci]))) rfl ⟨rfl,by exact zB⟩
    · rw [show meet8 c h={ seenAs h ⟨9,e,t⟩ with pos:=16 } from meet8_at hx.out 9 rfl]
      go_enter Tryz.func97,Tryz.ntmps97
      go_wp2
      refine bodyPost_ret (res_c Tryz.results97 rfl (ldHand ({ seenAs h ⟨9,e,t⟩ with pos:=16 }) (by simp [go_sem, *] <;> first|rfl|simp [seenAs,anew,hci]))) rfl ⟨rfl,by exact zB⟩
  · have n0:(s == 0)=false:=by simp;omega
    have n3:(s == 3)=false:=by simp;omega
    have n9:(s == 9)=false:=by simp;omega
    rw [show meet8 c h=grown8 (seenAs h ⟨s,e,t⟩) from by rw [meet8_at hx.out s rfl,n0,n3,n9];rfl]
    clear hn
    go_enter Tryz.func97,Tryz.ntmps97
    go_wp2_with fail;refine bHit w (by exact zB) fun bb=>?_;refine (l8Grown_any _ _).mono ?_;rintro _ w1 ⟨rfl,hbw1⟩;have hCw1:Below w.heap.size w w1:=bT bb hbw1;have hsw1:=hbw1.size;(try simp at hsw1);have zz:=And.intro (hQ hbw1 (b:=w.heap.size+1+1)) <| And.intro (hQ hbw1 (b:=w.heap.size+1)) <| hQ hbw1 (b:=w.heap.size);(try simp [go_sem] at zz);(try clear z_wpp x_wpp f_wpp l_wpp);(try clear z_wp x_wp f_wp l_wp);(try clear z_w x_w f_w l_w);obtain ⟨z_wpp,z_wp,z_w⟩:=zz;obtain ⟨x_wpp,f_wpp,l_wpp⟩:=bO z_wpp;obtain ⟨x_wp,f_wp,l_wp⟩:=bO z_wp;obtain ⟨x_w,f_w,l_w⟩:=bO z_w;clear hbw1 bb
    go_wp2
    refine bodyPost_ret (res_c Tryz.results97 rfl (ldHand (grown8 (seenAs h ⟨s,e,t⟩)) (by simp [go_sem, *] <;> first|rfl|simp [seenAs,anew,hci]))) rfl ⟨rfl,by exact zB⟩
end Go.Proofs.YtmnpgkcdfielbaaGreat
set_option linter.unusedSimpArgs false
set_option linter.unusedVariables false
namespace Go.Proofs.YtmnpgkcdfielbaaGreat
open Go.RowKit
set_option linter.unusedSimpArgs false
attribute [local simp] bx_size
attribute [local go_sem ↓] zeroHand zeroChan toLHand toLChan toVHand toVChan storeHand storeChan storeHandC storeChanC
theorem tell_ints (c:Ch) (v x:Int) (a b:Value):cvals (tellC c v x) a b=cvals c a b:=by unfold tellC;split <;> rfl
theorem tell_cells (c:Ch) (v x:Int):(tellC c v x).cells=c.cells:=by unfold tellC;split <;> rfl
theorem OCells.zero {w:World} {lo n q:Nat} {a:Option Addr} {cs:List C3} (h:OCells w lo (.slice a n q) cs) (e:a=none):q=0:=by
  subst e
  rcases h.2 with ⟨h1,_⟩|⟨g,cap,cur,h1,_⟩
  · simp at h1;exact h1.2
  · simp at h1
theorem OInts.zero {w:World} {lo n q:Nat} {a:Option Addr} {l:List Int} (h:OInts w lo (.slice a n q) l) (e:a=none):q=0:=by
  subst e
  rcases h.2 with ⟨h1,_⟩|⟨g,cap,cur,h1,_⟩
  · simp at h1;exact h1.2
  · simp at h1
theorem OCells.segAt {w:World} {lo q:Nat} {a:Option Addr} {cs:List C3} (h:OCells w lo (.slice a cs.length q) cs):Seg w w.heap.size a cs.length 3 (cellF cs):=by
  obtain ⟨a',q',e,hs⟩:=h.seg
  simp at e
  obtain ⟨rfl,rfl⟩:=e
  exact hs
theorem OInts.segAt {w:World} {lo q:Nat} {a:Option Addr} {l:List Int} (h:OInts w lo (.slice a l.length q) l):Seg w w.heap.size a l.length 1 (intF l):=by
  obtain ⟨a',q',e,hs⟩:=h.seg
  simp at e
  obtain ⟨rfl,rfl⟩:=e
  exact hs
set_option maxRecDepth 100000 in
set_option maxHeartbeats 2000000 in
theorem sSend_7 (c:Ch) (h:Ha) (a b:Option Addr) (p q:Nat) (w:World) (h1:Seg w w.heap.size a c.cells.length 3 (cellF c.cells)) (z1:a=none→p=0) (h2:Seg w w.heap.size b c.words.length 1 (intF c.words)) (z2:b=none→q=0) (hk:stepOk c h 1 8 1=true) (hp0:h.pos=7) :
    Calls Tryz.prog 70 #[.agg (cvals c (.slice a c.cells.length p) (.slice b c.words.length q)),.agg (hvals h)] w fun r w'=>StepN w w' (sendStep c h) r:=by
  have e:sendStep c h=done (tellC c h.wait 1) (call6 c h).2:=by simp [sendStep,hk,hp0,call6]
  rw [e]
  obtain ⟨k1,k2,_,_⟩:=stepOk_yes hk
  obtain ⟨n1,n2⟩:=chan_40 k1
  have m1:c.cells.length≤1099511627776:=by omega
  have m2:c.words.length≤1099511627776:=by omega
  have H1:=Lib.hid h1
  have H2:=Lib.hid h2
  have Z1:=Lib.hid z1
  have Z2:=Lib.hid z2
  have D:=fun v1 v2 W=>l6Done_any (tellC c h.wait 1) (call6 c h).2 v1 v2 w.heap.size W
  have K:=Lib.hid fun a b p q W=>l6Call_any c h a b p q W
  simp only [tell_ints,tell_cells] at D
  generalize done (tellC c h.wait 1) (call6 c h).2=x at *
  generalize (call6 c h).2=y at *
  generalize (tellC c h.wait 1).words=tw at *
  replace D:=Lib.hid D
  clear h1 h2 z1 z2 e k1 k2 n1 n2
  go_enter Tryz.func70,Tryz.ntmps70
  go_wp2_with fail;refine bHit w (by exact zB) fun bb=>?_;refine (l6Ok_any c h 1 8 1 a b p q _ ((H1.out.below bb).more bb.size) ((H2.out.below bb).more bb.size)).mono ?_;rintro _ w1 ⟨rfl,hbw1⟩;have hCw1:Below w.heap.size w w1:=bT bb hbw1;have hsw1:=hbw1.size;(try simp at hsw1);have zz:=q4 hbw1 (b:=w.heap.size);(try simp [go_sem] at zz);(try clear z_wppp x_wppp f_wppp l_wppp);(try clear z_wpp x_wpp f_wpp l_wpp);(try clear z_wp x_wp f_wp l_wp);(try clear z_w x_w f_w l_w);obtain ⟨z_wppp,z_wpp,z_wp,z_w⟩:=zz;obtain ⟨x_wppp,f_wppp,l_wppp⟩:=bO z_wppp;obtain ⟨x_wpp,f_wpp,l_wpp⟩:=bO z_wpp;obtain ⟨x_wp,f_wp,l_wp⟩:=bO z_wp;obtain ⟨x_w,f_w,l_w⟩:=bO z_w;clear hbw1 bb
  rw [hk]
  go_wp2_with fail;refine bHit w (by exact zB) fun bb=>?_;refine (wCopy_any c a b p q _ ((H1.out.below bb).more bb.size) Z1.out ((H2.out.below bb).more bb.size) Z2.out m1 m2).mono ?_;rintro _ w2 ⟨⟨v1,v2,rfl,o1,o2⟩,hbw2⟩;have hCw2:Below w.heap.size w w2:=bT bb hbw2;have hsw2:=hbw2.size;(try simp at hsw2);have zz:=q4 hbw2 (b:=w.heap.size);(first|simp [go_sem,z_wppp,z_wpp,z_wp,z_w,l_w,l_wp,l_wpp,l_wppp] at zz|simp [go_sem] at zz|skip);(try clear z_wppp x_wppp f_wppp l_wppp);(try clear z_wpp x_wpp f_wpp l_wpp);(try clear z_wp x_wp f_wp l_wp);(try clear z_w x_w f_w l_w);obtain ⟨z_wppp,z_wpp,z_wp,z_w⟩:=zz;obtain ⟨x_wppp,f_wppp,l_wppp⟩:=bO z_wppp;obtain ⟨x_wpp,f_wpp,l_wpp⟩:=bO z_wpp;obtain ⟨x_wp,f_wp,l_wp⟩:=bO z_wp;obtain ⟨x_w,f_w,l_w⟩:=bO z_w;clear hbw2 bb
  have d1:∀ j,v1.ownBlock=some j→w.heap.size+1+1+1+1≤j:=fun j hj=>by have:=(o1.lt j hj).1;omega
  have d2:∀ j,v2.ownBlock=some j→w.heap.size+1+1+1+1≤j:=fun j hj=>by have:=(o2.lt j hj).1;omega
  have p1:=own_lo (lo':=w.heap.size) o1 (by omega)
  have p2:=own_lo (lo':=w.heap.size) o2 (by omega)
  obtain ⟨a1,q1,rfl,_⟩:=o1.seg
  obtain ⟨a2,q2,rfl,_⟩:=o2.seg
  have za:=OCells.zero o1
  have zb:=OInts.zero o2
  have ba:∀ j,j<w.heap.size+1+1+1+1→j<w1.heap.size:=fun j hj=>by omega
  have g1:=OCells.segAt o1
  have g2:=OInts.segAt o2
  have G1:=Lib.hid g1
  have G2:=Lib.hid g2
  clear g1 g2
  go_wp2_with fail;refine bHit w (by exact zB) fun bb=>?_;refine (K.out _ _ _ _ _ ((G1.out.below (by exact zB)).more (by (try simp) <;> omega)) za ((G2.out.below (by exact zB)).more (by (try simp) <;> omega)) zb m1 m2).mono ?_;rintro _ w3 ⟨⟨v3,v4,rfl,o3,o4⟩,hbw3⟩;have hCw3:Below w.heap.size w w3:=bT bb hbw3;have hsw3:=hbw3.size;(try simp at hsw3);have zz:=And.intro (hQ hbw3 (b:=w2.heap.size)) <| And.intro (hQ hbw3 (b:=w.heap.size+1+1+1)) <| And.intro (hQ hbw3 (b:=w.heap.size+1+1)) <| And.intro (hQ hbw3 (b:=w.heap.size+1)) <| hQ hbw3 (b:=w.heap.size);(first|simp [go_sem,z_wppp,z_wpp,z_wp,z_w,l_w,l_wp,l_wpp,l_wppp] at zz|simp [go_sem] at zz|skip);(try clear z_w2 x_w2 f_w2 l_w2);(try clear z_wppp x_wppp f_wppp l_wppp);(try clear z_wpp x_wpp f_wpp l_wpp);(try clear z_wp x_wp f_wp l_wp);(try clear z_w x_w f_w l_w);obtain ⟨z_w2,z_wppp,z_wpp,z_wp,z_w⟩:=zz;obtain ⟨x_w2,f_w2,l_w2⟩:=bO z_w2;obtain ⟨x_wppp,f_wppp,l_wppp⟩:=bO z_wppp;obtain ⟨x_wpp,f_wpp,l_wpp⟩:=bO z_wpp;obtain ⟨x_wp,f_wp,l_wp⟩:=bO z_wp;obtain ⟨x_w,f_w,l_w⟩:=bO z_w;clear hbw3 bb
  have d3:∀ j,v3.ownBlock=some j→w.heap.size+1+1+1+1≤j:=fun j hj=>by have:=(o3.lt j hj).1;simp at this;omega
  have d4:∀ j,v4.ownBlock=some j→w.heap.size+1+1+1+1≤j:=fun j hj=>by have:=(o4.lt j hj).1;simp at this;omega
  have p3:=own_lo (lo':=w.heap.size) o3 (by simp;omega)
  have p4:=own_lo (lo':=w.heap.size) o4 (by simp;omega)
  obtain ⟨a3,q3,rfl,_⟩:=o3.seg
  obtain ⟨a4,q9,rfl,_⟩:=o4.seg
  have k0:w.heap.size<w2.heap.size:=by omega
  have k1:w.heap.size+1<w2.heap.size:=by omega
  have k2:w.heap.size+1+1<w2.heap.size:=by omega
  have k3:w.heap.size+1+1+1<w2.heap.size:=by omega
  have off3:=fun j (h1:w.heap.size≤j) (h2:j<w2.heap.size+1)=>own_ne o3 (b:=j) (by simp;omega)
  have off4:=fun j (h1:w.heap.size≤j) (h2:j<w2.heap.size+1)=>own_ne o4 (b:=j) (by simp;omega)
  clear d1 d2
  have d1:=d3
  have d2:=d4
  go_wp2_with fail;refine bHit w (by exact zB) fun bb=>?_;refine (D.out _ _ _ (by exact zP p3 p3 off3) (by exact zP p4 p4 off4)).mono ?_;rintro _ w5 ⟨⟨y1,y2,rfl,oY1,oY2,fY1,fY2⟩,hbw5⟩;have hCw5:Below w.heap.size w w5:=bT bb hbw5;have hsw5:=hbw5.size;(try simp at hsw5);have zz:=q4 hbw5 (b:=w.heap.size);(first|simp [go_sem,z_wppp,z_wpp,z_wp,z_w,l_w,l_wp,l_wpp,l_wppp,k0,k1,k2,k3] at zz|simp [go_sem] at zz|skip);(try clear z_wppp x_wppp f_wppp l_wppp);(try clear z_wpp x_wpp f_wpp l_wpp);(try clear z_wp x_wp f_wp l_wp);(try clear z_w x_w f_w l_w);obtain ⟨z_wppp,z_wpp,z_wp,z_w⟩:=zz;obtain ⟨x_wppp,f_wppp,l_wppp⟩:=bO z_wppp;obtain ⟨x_wpp,f_wpp,l_wpp⟩:=bO z_wpp;obtain ⟨x_wp,f_wp,l_wp⟩:=bO z_wp;obtain ⟨x_w,f_w,l_w⟩:=bO z_w;clear hbw5 bb
  have hoff1:∀ j,w.heap.size≤j→j<w.heap.size+1+1+1+1→y1.ownBlock≠some j:=fun j _ h2=>fY1.off2 d1 h2 (by (try simp) <;> omega);have hoff2:∀ j,w.heap.size≤j→j<w.heap.size+1+1+1+1→y2.ownBlock≠some j:=fun j _ h2=>fY2.off2 d2 h2 (by (try simp) <;> omega);have fr1:Fresh w (.slice none 0 0) y1:=fun j hj=>.inr (fY1.up d1 (by (try simp) <;> omega) (by (try simp) <;> omega) j hj);have fr2:Fresh w (.slice none 0 0) y2:=fun j hj=>.inr (fY2.up d2 (by (try simp) <;> omega) (by (try simp) <;> omega) j hj);obtain ⟨ya,yp,rfl,_⟩:=oY1.seg;obtain ⟨yb,yq,rfl,_⟩:=oY2.seg
  go_wp2
  refine bodyPost_ret (res_cct Tryz.results70 rfl (ldChan x.1 (.slice ya x.1.cells.length yp) (.slice yb x.1.words.length yq) (by simp [go_sem, *])) rfl (ldHand x.2.1 (by simp [go_sem, *]))) rfl ⟨⟨_,_,rfl,?_,?_,fr1,fr2⟩,by exact zB⟩
  · exact zP oY1 oY1 hoff1
  · exact zP oY2 oY2 hoff2
end Go.Proofs.YtmnpgkcdfielbaaGreat
