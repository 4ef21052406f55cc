/-
  The program's touch of parking, every case, on hands and channels that are kept whole; the lists are the call's own.
  The program's step of parking: its face catches what gives up; lists lie in memory.
  Whether a step of the program waits: as the reference's; lists lie in memory and hold at most as much as memory can hold.
  What the document's functions of chapters 11 and 12 compute, as plain functions on numbers and lists; no condition.
  Lists of hands and of deals in memory; no condition.
  Whether there is such a task, as the program asks it of a world behind a pointer; the list lies in memory.
-/
import Derived.Test.YtmnpgkcdfielbaaGreatP06
import Derived.Test.YtmnpgkcdfielbaaGreatP13
import Derived.Test.YtmnpgkcdfielbaaGreatP12
import Derived.Test.YtmnpgkcdfielbaaGreatP05
import Derived.Deep.DeepCutAuto
import Derived.BigRegion
import Derived.Deep.RegionHeld3
import Derived.WalkLawsBesides
import Derived.Recover
import Derived.Laws.EntriesVeiled
import Derived.Test.YtmnpgkcdfielbaaGreatP02
set_option linter.unusedSimpArgs false
set_option linter.unusedVariables false
namespace Go.Proofs.YtmnpgkcdfielbaaGreat
open Go.RowKit
set_option linter.unusedSimpArgs false
attribute [local simp] bx_size
attribute [local go_sem ↓] zeroHand zeroChan toLHand toLChan toVHand toVChan storeHand storeChan storeHandC storeChanC
set_option maxRecDepth 100000 in
set_option maxHeartbeats 2000000 in
theorem parkTouch_n (c:Ch) (h:Ha) (v1 v2:Value) (lo:Nat) (w:World) (h1:OCells w lo v1 c.cells) (h2:OInts w lo v2 c.words) (hc:chanOk c=true) (hx:wordOf c h.mine=-1) :
    Calls Tryz.prog 162 #[.agg (cvals c v1 v2),.agg (hvals h)] w fun e W'=>∃ T s,e=.panicked [{ v:=.iface T s,recovered:=false }]∧Below w.heap.size w W':=by
  have OW:=Lib.hid fun W a b=>ownWord_no c h v1 v2 lo W a b hc hx
  clear hx hc
  have b1:=fun j (hj:v1.ownBlock=some j)=>(h1.lt j hj).2
  have b2:=fun j (hj:v2.ownBlock=some j)=>(h2.lt j hj).2
  obtain ⟨a1,q1,rfl,_⟩:=h1.seg
  obtain ⟨a2,q2,rfl,_⟩:=h2.seg
  have O1:=Lib.hid h1
  have O2:=Lib.hid h2
  clear h1 h2
  have o1:=O1.out
  have o2:=O2.out
  go_enter Tryz.func162,Tryz.ntmps162
  go_wp2_with fail
  refine bHit w (by exact zB) fun bb=>?_
  refine (OW.out _ (by exact zO o1 o1) (by exact zO o2 o2)).mono ?_
  rintro _ w1 ⟨T,s,rfl,hE⟩
  go_wp2
  exact ⟨rfl,T,s,rfl,bT bb hE⟩
set_option maxRecDepth 100000 in
set_option maxHeartbeats 2000000 in
theorem parkTouch_23 (c:Ch) (h:Ha) (v1 v2:Value) (lo:Nat) (w:World) (h1:OCells w lo v1 c.cells) (h2:OInts w lo v2 c.words) (hc:chanOk c=true) (x:Int) (hx:wordOf c h.mine=x) (hp:¬ x<0) (hq:(h.pos == 23)=true) :
    Calls Tryz.prog 162 #[.agg (cvals c v1 v2),.agg (hvals h)] w fun r w'=>StepO w w' lo v1 v2 ((c,heardH h x,x != 0)) r:=by
  have OW:=Lib.hid fun W a b=>ownWord_yes c h v1 v2 lo W a b hc x hx hp
  clear hx hp hc
  have HE:=Lib.hid fun W=>heard_any h x W
  obtain ⟨y,hy⟩:∃ y,heardH h x=y:=⟨_,rfl⟩
  rw [hy] at HE
  rw [hy]
  clear hy
  have b1:=fun j (hj:v1.ownBlock=some j)=>(h1.lt j hj).2
  have b2:=fun j (hj:v2.ownBlock=some j)=>(h2.lt j hj).2
  obtain ⟨a1,q1,rfl,_⟩:=h1.seg
  obtain ⟨a2,q2,rfl,_⟩:=h2.seg
  have O1:=Lib.hid h1
  have O2:=Lib.hid h2
  clear h1 h2
  have o1:=O1.out
  have o2:=O2.out
  go_enter Tryz.func162,Tryz.ntmps162
  go_wp2_with fail;refine bHit w (by exact zB) fun bb=>?_;refine (OW.out _ (by exact zO o1 o1) (by exact zO o2 o2)).mono ?_;rintro _ w1 ⟨rfl,hbw1⟩;have hCw1:Below w.heap.size w w1:=bT bb hbw1;have hsw1:=hbw1.size;(try simp at hsw1);have zz:=q4 hbw1 (b:=w.heap.size);(try simp [go_sem] at zz);(try clear z_wppp x_wppp f_wppp l_wppp);(try clear z_wpp x_wpp f_wpp l_wpp);(try clear z_wp x_wp f_wp l_wp);(try clear z_w x_w f_w l_w);obtain ⟨z_wppp,z_wpp,z_wp,z_w⟩:=zz;obtain ⟨x_wppp,f_wppp,l_wppp⟩:=bO z_wppp;obtain ⟨x_wpp,f_wpp,l_wpp⟩:=bO z_wpp;obtain ⟨x_wp,f_wp,l_wp⟩:=bO z_wp;obtain ⟨x_w,f_w,l_w⟩:=bO z_w;have hKw1:Below w.heap.size w w1:=hCw1;clear hbw1 bb
  have p1:=own_below o1 hKw1
  have p2:=own_below o2 hKw1
  have k0:w.heap.size<w1.heap.size:=by omega
  have k1:w.heap.size+1<w1.heap.size:=by omega
  have k2:w.heap.size+1+1<w1.heap.size:=by omega
  have k3:w.heap.size+1+1+1<w1.heap.size:=by omega
  go_wp2_with fail
  go_region_held3 (fun w'=>hp w' w.heap.size=some (.cells (cvals c (.slice a1 c.cells.length q1) (.slice a2 c.words.length q2)) 34)∧hp w' (w.heap.size+1)=some (.cells (hvals h) 70))
    (first|(simp [*,go_sem]))
    (first|((go_at_call 164;refine bHit w (by exact zB) fun bb=>?_;refine bHit w1 (by exact zB) fun bk=>?_;refine (HE.out _).mono ?_;rintro _ w2 ⟨rfl,hbw2⟩;have hCw2:Below w.heap.size w w2:=bT bb hbw2;have hsw2:=hbw2.size;(try simp at hsw2);have zz:=q4 hbw2 (b:=w.heap.size);(first|simp [go_sem,z_wppp,z_wpp,z_wp,z_w,l_w,l_wp,l_wpp,l_wppp,k0,k1,k2,k3] at zz|simp [go_sem] at zz|skip);(try clear z_wppp x_wppp f_wppp l_wppp);(try clear z_wpp x_wpp f_wpp l_wpp);(try clear z_wp x_wp f_wp l_wp);(try clear z_w x_w f_w l_w);obtain ⟨z_wppp,z_wpp,z_wp,z_w⟩:=zz;obtain ⟨x_wppp,f_wppp,l_wppp⟩:=bO z_wppp;obtain ⟨x_wpp,f_wpp,l_wpp⟩:=bO z_wpp;obtain ⟨x_wp,f_wp,l_wp⟩:=bO z_wp;obtain ⟨x_w,f_w,l_w⟩:=bO z_w;have hKw2:Below w1.heap.size w1 w2:=bT bk hbw2;clear hbw2 bb bk);have r1:=own_below p1 hKw2;have r2:=own_below p2 hKw2))
  go_wp2
  refine bodyPost_ret (res_cct Tryz.results162 rfl (ldChan c (.slice a1 c.cells.length q1) (.slice a2 c.words.length q2) (by simp [go_sem, *] <;> rfl)) rfl (ldHand y (by simp [go_sem, *] <;> rfl))) rfl ⟨⟨_,_,rfl,?_,?_,fresh_refl _ _,fresh_refl _ _⟩,onlB (by exact zB)⟩
  · exact zO r1 o1
  · exact zO r2 o2
set_option maxRecDepth 100000 in
set_option maxHeartbeats 2000000 in
theorem parkTouch_24n (c:Ch) (h:Ha) (v1 v2:Value) (lo:Nat) (w:World) (h1:OCells w lo v1 c.cells) (h2:OInts w lo v2 c.words) (hc:chanOk c=true) (x:Int) (hx:wordOf c h.mine=x) (hp:¬ x<0) (hq:(h.pos == 24)=true) (hk:(h.code != 2)=true) :
    Calls Tryz.prog 162 #[.agg (cvals c v1 v2),.agg (hvals h)] w fun e W'=>∃ T s,e=.panicked [{ v:=.iface T s,recovered:=false }]∧Below w.heap.size w W':=by
  have OW:=Lib.hid fun W a b=>ownWord_yes c h v1 v2 lo W a b hc x hx hp
  clear hx hp hc
  have FE:=Lib.hid fun W a b=>fetched_no c h v1 v2 lo W a b hk
  clear hk
  have hq3:(h.pos == 23)=false:=by simp at hq ⊢;omega
  have b1:=fun j (hj:v1.ownBlock=some j)=>(h1.lt j hj).2
  have b2:=fun j (hj:v2.ownBlock=some j)=>(h2.lt j hj).2
  obtain ⟨a1,q1,rfl,_⟩:=h1.seg
  obtain ⟨a2,q2,rfl,_⟩:=h2.seg
  have O1:=Lib.hid h1
  have O2:=Lib.hid h2
  clear h1 h2
  have o1:=O1.out
  have o2:=O2.out
  go_enter Tryz.func162,Tryz.ntmps162
  go_wp2_with fail;refine bHit w (by exact zB) fun bb=>?_;refine (OW.out _ (by exact zO o1 o1) (by exact zO o2 o2)).mono ?_;rintro _ w1 ⟨rfl,hbw1⟩;have hCw1:Below w.heap.size w w1:=bT bb hbw1;have hsw1:=hbw1.size;(try simp at hsw1);have zz:=q4 hbw1 (b:=w.heap.size);(try simp [go_sem] at zz);(try clear z_wppp x_wppp f_wppp l_wppp);(try clear z_wpp x_wpp f_wpp l_wpp);(try clear z_wp x_wp f_wp l_wp);(try clear z_w x_w f_w l_w);obtain ⟨z_wppp,z_wpp,z_wp,z_w⟩:=zz;obtain ⟨x_wppp,f_wppp,l_wppp⟩:=bO z_wppp;obtain ⟨x_wpp,f_wpp,l_wpp⟩:=bO z_wpp;obtain ⟨x_wp,f_wp,l_wp⟩:=bO z_wp;obtain ⟨x_w,f_w,l_w⟩:=bO z_w;have hKw1:Below w.heap.size w w1:=hCw1;clear hbw1 bb
  have p1:=own_below o1 hKw1
  have p2:=own_below o2 hKw1
  have k0:w.heap.size<w1.heap.size:=by omega
  have k1:w.heap.size+1<w1.heap.size:=by omega
  have k2:w.heap.size+1+1<w1.heap.size:=by omega
  have k3:w.heap.size+1+1+1<w1.heap.size:=by omega
  go_upto_region 6 with fail
  refine wp_region_inv [[],[],[],[1,2],[0],[1,2,3],[]] [23,24,25,26,6] (fun l s wx=>(Below w.heap.size w wx)∧(hp wx w.heap.size=some (.cells (cvals c (.slice a1 c.cells.length q1) (.slice a2 c.words.length q2)) 34))∧(hp wx (w.heap.size+1)=some (.cells (hvals h) 70))∧(l 4=false→hp wx (w.heap.size+1+1)=some (.cells (cvals Ch.zero (.slice none 0 0) (.slice none 0 0)) 34))∧(OCells wx lo (.slice a1 c.cells.length q1) c.cells)∧(OInts wx lo (.slice a2 c.words.length q2) c.words)∧(l 0=true→s 23=.agg (cvals c (.slice a1 c.cells.length q1) (.slice a2 c.words.length q2)))∧(l 1=true→s 24=.agg (cvals c (.slice a1 c.cells.length q1) (.slice a2 c.words.length q2)))∧(l 2=true→s 25=.agg (hvals h))∧(l 3=true→False)) (by kernel_rfl) (by kernel_rfl) (by kernel_rfl) (fun s=>by (simp only [fill,fillA,List.setIfInBounds_toArray,List.set_cons_zero,List.set_cons_succ];rfl)) (fun s=>⟨(by exact zB),by simp [go_sem, *],by simp [go_sem, *],fun _=>by simp [go_sem, *],oDr p1,oDr p2,nB,nB,nB,nB⟩) ?_ ?_
  refine ⟨?_,?_,?_,?_,?_,?_,?_,trivial⟩;rotate_left 7
  · intro l s w8 hall hf
    exact ((jD hf).2 (hall 3 rfl)).elim
  · intro l s wx hl hd hn hf0 K hK
    have hf:=Lib.hid hf0
    clear hf0
    have zc:=hf.out.2.1
    go_simp
    refine hK.out (upd s 23 (.agg (cvals c (.slice a1 c.cells.length q1) (.slice a2 c.words.length q2)))) _ _ (by simp [upd_at] <;> rfl) (kC (kB (kX (fun _=>rfl) id)) hf.out)
  · intro l s wx hl hd hn hf0 K hK
    have hf:=Lib.hid hf0
    clear hf0
    have zc:=hf.out.2.1
    go_simp
    refine hK.out (upd s 24 (.agg (cvals c (.slice a1 c.cells.length q1) (.slice a2 c.words.length q2)))) _ _ (by simp [upd_at] <;> rfl) (kC (kB (kA (kX (fun _=>rfl) id))) hf.out)
  · intro l s wx hl hd hn hf0 K hK
    have hf:=Lib.hid hf0
    clear hf0
    have zh:=hf.out.2.2.1
    go_simp
    refine hK.out (upd s 25 (.agg (hvals h))) _ _ (by simp [upd_at] <;> rfl) (kD (kX (fun _=>rfl) id) hf.out)
  · intro l s wx hl hd hn hf0 K hK
    have hf:=Lib.hid hf0
    clear hf0
    have e1:=((jC hf.out).2.2.2.1 (hd 1 rfl))
    have e2:=((jD hf.out).1 (hd 2 rfl))
    go_simp
    go_at_call 165
    refine (FE.out _ hf.out.2.2.2.2.1 (jC hf.out).2.1).mono ?_
    rintro _ wy ⟨T,sv,rfl,hE⟩
    exact ⟨rfl,T,sv,rfl,bT hf.out.1 hE⟩
  · intro l s wx hl hd hn hf0 K hK
    have hf:=Lib.hid hf0
    clear hf0
    have e0:=((jC hf.out).2.2.1 (hd 0 rfl))
    have hB:=hf.out.1
    have zr:=hf.out.2.2.2.1 hl
    go_simp
    refine hK.out (s) _ _ (by simp [upd_at,e0] <;> rfl) (kX (bBx hB (by omega)) (kX ((bx_heap_ne (by omega)).trans hf.out.2.1) (kX ((bx_heap_ne (by omega)).trans hf.out.2.2.1) (kX (fun h9=>absurd h9 (by rw [show upd l 4 true 4=true from rfl];decide)) (kX (own_far hf.out.2.2.2.2.1 zr (by decide)) (kX (own_far (jC hf.out).2.1 zr (by decide)) id))))) hf.out)
  · intro l s wx hl hd hn hf0 K hK
    exact ((jD hf0).2 (hd 3 rfl)).elim
  · intro l s wx hl hd hn hf0 K hK
    have hf:=Lib.hid hf0
    clear hf0
    go_simp
    refine hK.out (upd s 6 (.bool true)) _ _ (by simp [upd_at] <;> rfl) (hf.out)
set_option maxRecDepth 100000 in
set_option maxHeartbeats 2000000 in
theorem parkTouch_24 (c:Ch) (h:Ha) (v1 v2:Value) (lo:Nat) (w:World) (h1:OCells w lo v1 c.cells) (h2:OInts w lo v2 c.words) (hc0:0≤h.cell) (hc1:h.cell<c.cells.length) (hc:chanOk c=true) (x:Int) (hx:wordOf c h.mine=x) (hp:¬ x<0) (hq:(h.pos == 24)=true) (hk:(h.code != 2)=false) :
    Calls Tryz.prog 162 #[.agg (cvals c v1 v2),.agg (hvals h)] w fun r w'=>StepO w w' lo v1 v2 ((c,resting 2 (cellAt c h.cell).e,true)) r:=by
  have OW:=Lib.hid fun W a b=>ownWord_yes c h v1 v2 lo W a b hc x hx hp
  clear hx hp hc
  have FE:=Lib.hid fun W a b=>fetched_yes c h v1 v2 lo W a b hc0 hc1 hk
  clear hk hc0 hc1
  have hq3:(h.pos == 23)=false:=by simp at hq ⊢;omega
  obtain ⟨y,hy⟩:∃ y,resting 2 (cellAt c h.cell).e=y:=⟨_,rfl⟩
  rw [hy] at FE
  rw [hy]
  clear hy
  have b1:=fun j (hj:v1.ownBlock=some j)=>(h1.lt j hj).2
  have b2:=fun j (hj:v2.ownBlock=some j)=>(h2.lt j hj).2
  obtain ⟨a1,q1,rfl,_⟩:=h1.seg
  obtain ⟨a2,q2,rfl,_⟩:=h2.seg
  have O1:=Lib.hid h1
  have O2:=Lib.hid h2
  clear h1 h2
  have o1:=O1.out
  have o2:=O2.out
  go_enter Tryz.func162,Tryz.ntmps162
  go_wp2_with fail;refine bHit w (by exact zB) fun bb=>?_;refine (OW.out _ (by exact zO o1 o1) (by exact zO o2 o2)).mono ?_;rintro _ w1 ⟨rfl,hbw1⟩;have hCw1:Below w.heap.size w w1:=bT bb hbw1;have hsw1:=hbw1.size;(try simp at hsw1);have zz:=q4 hbw1 (b:=w.heap.size);(try simp [go_sem] at zz);(try clear z_wppp x_wppp f_wppp l_wppp);(try clear z_wpp x_wpp f_wpp l_wpp);(try clear z_wp x_wp f_wp l_wp);(try clear z_w x_w f_w l_w);obtain ⟨z_wppp,z_wpp,z_wp,z_w⟩:=zz;obtain ⟨x_wppp,f_wppp,l_wppp⟩:=bO z_wppp;obtain ⟨x_wpp,f_wpp,l_wpp⟩:=bO z_wpp;obtain ⟨x_wp,f_wp,l_wp⟩:=bO z_wp;obtain ⟨x_w,f_w,l_w⟩:=bO z_w;have hKw1:Below w.heap.size w w1:=hCw1;clear hbw1 bb
  have p1:=own_below o1 hKw1
  have p2:=own_below o2 hKw1
  have k0:w.heap.size<w1.heap.size:=by omega
  have k1:w.heap.size+1<w1.heap.size:=by omega
  have k2:w.heap.size+1+1<w1.heap.size:=by omega
  have k3:w.heap.size+1+1+1<w1.heap.size:=by omega
  go_wp2_with fail
  go_region_held3 (fun w'=>hp w' w.heap.size=some (.cells (cvals c (.slice a1 c.cells.length q1) (.slice a2 c.words.length q2)) 34)∧hp w' (w.heap.size+1)=some (.cells (hvals h) 70))
    (first|(simp [*,go_sem]))
    (first|((go_at_call 165;refine bHit w (by exact zB) fun bb=>?_;refine bHit w1 (by exact zB) fun bk=>?_;refine (FE.out _ (by exact zO p1 p1) (by exact zO p2 p2)).mono ?_;rintro _ w2 ⟨rfl,hbw2⟩;have hCw2:Below w.heap.size w w2:=bT bb hbw2;have hsw2:=hbw2.size;(try simp at hsw2);have zz:=q4 hbw2 (b:=w.heap.size);(first|simp [go_sem,z_wppp,z_wpp,z_wp,z_w,l_w,l_wp,l_wpp,l_wppp,k0,k1,k2,k3] at zz|simp [go_sem] at zz|skip);(try clear z_wppp x_wppp f_wppp l_wppp);(try clear z_wpp x_wpp f_wpp l_wpp);(try clear z_wp x_wp f_wp l_wp);(try clear z_w x_w f_w l_w);obtain ⟨z_wppp,z_wpp,z_wp,z_w⟩:=zz;obtain ⟨x_wppp,f_wppp,l_wppp⟩:=bO z_wppp;obtain ⟨x_wpp,f_wpp,l_wpp⟩:=bO z_wpp;obtain ⟨x_wp,f_wp,l_wp⟩:=bO z_wp;obtain ⟨x_w,f_w,l_w⟩:=bO z_w;have hKw2:Below w1.heap.size w1 w2:=bT bk hbw2;clear hbw2 bb bk);have r1:=own_below p1 hKw2;have r2:=own_below p2 hKw2))
  go_wp2
  refine bodyPost_ret (res_cct Tryz.results162 rfl (ldChan c (.slice a1 c.cells.length q1) (.slice a2 c.words.length q2) (by simp [go_sem, *] <;> rfl)) rfl (ldHand y (by simp [go_sem, *] <;> rfl))) rfl ⟨⟨_,_,rfl,?_,?_,fresh_refl _ _,fresh_refl _ _⟩,onlB (by exact zB)⟩
  · exact zO r1 o1
  · exact zO r2 o2
set_option maxRecDepth 100000 in
set_option maxHeartbeats 2000000 in
theorem parkTouch_o (c:Ch) (h:Ha) (v1 v2:Value) (lo:Nat) (w:World) (h1:OCells w lo v1 c.cells) (h2:OInts w lo v2 c.words) (hc:chanOk c=true) (x:Int) (hx:wordOf c h.mine=x) (hp:¬ x<0) (hq:(h.pos == 23)=false) (hq4:(h.pos == 24)=false) (hq5:(h.pos == 25)=false) :
    Calls Tryz.prog 162 #[.agg (cvals c v1 v2),.agg (hvals h)] w fun e W'=>∃ T s,e=.panicked [{ v:=.iface T s,recovered:=false }]∧Below w.heap.size w W':=by
  have OW:=Lib.hid fun W a b=>ownWord_yes c h v1 v2 lo W a b hc x hx hp
  clear hx hp hc
  have b1:=fun j (hj:v1.ownBlock=some j)=>(h1.lt j hj).2
  have b2:=fun j (hj:v2.ownBlock=some j)=>(h2.lt j hj).2
  obtain ⟨a1,q1,rfl,_⟩:=h1.seg
  obtain ⟨a2,q2,rfl,_⟩:=h2.seg
  have O1:=Lib.hid h1
  have O2:=Lib.hid h2
  clear h1 h2
  have o1:=O1.out
  have o2:=O2.out
  go_enter Tryz.func162,Tryz.ntmps162
  go_wp2_with fail;refine bHit w (by exact zB) fun bb=>?_;refine (OW.out _ (by exact zO o1 o1) (by exact zO o2 o2)).mono ?_;rintro _ w1 ⟨rfl,hbw1⟩;have hCw1:Below w.heap.size w w1:=bT bb hbw1;have hsw1:=hbw1.size;(try simp at hsw1);have zz:=q4 hbw1 (b:=w.heap.size);(try simp [go_sem] at zz);(try clear z_wppp x_wppp f_wppp l_wppp);(try clear z_wpp x_wpp f_wpp l_wpp);(try clear z_wp x_wp f_wp l_wp);(try clear z_w x_w f_w l_w);obtain ⟨z_wppp,z_wpp,z_wp,z_w⟩:=zz;obtain ⟨x_wppp,f_wppp,l_wppp⟩:=bO z_wppp;obtain ⟨x_wpp,f_wpp,l_wpp⟩:=bO z_wpp;obtain ⟨x_wp,f_wp,l_wp⟩:=bO z_wp;obtain ⟨x_w,f_w,l_w⟩:=bO z_w;have hKw1:Below w.heap.size w w1:=hCw1;clear hbw1 bb
  have p1:=own_below o1 hKw1
  have p2:=own_below o2 hKw1
  have k0:w.heap.size<w1.heap.size:=by omega
  have k1:w.heap.size+1<w1.heap.size:=by omega
  have k2:w.heap.size+1+1<w1.heap.size:=by omega
  have k3:w.heap.size+1+1+1<w1.heap.size:=by omega
  go_wp2
  exact ⟨rfl,_,_,rfl,by exact zB⟩
set_option maxRecDepth 100000 in
set_option maxHeartbeats 2000000 in
theorem parkTouch_25 (c:Ch) (h:Ha) (v1 v2:Value) (lo:Nat) (w:World) (h1:OCells w lo v1 c.cells) (h2:OInts w lo v2 c.words) (hc0:0≤h.cell) (hc1:h.cell<c.cells.length) (hc:chanOk c=true) (x:Int) (hx:wordOf c h.mine=x) (hp:¬ x<0) (hq:(h.pos == 25)=true) :
    Calls Tryz.prog 162 #[.agg (cvals c v1 v2),.agg (hvals h)] w fun r w'=>StepO w w' lo v1 v2 ((stateC c h.cell (goneS h),resting 3 0,true)) r:=by
  have OW:=Lib.hid fun W a b=>ownWord_yes c h v1 v2 lo W a b hc x hx hp
  clear hx hp hc
  obtain ⟨v,hv⟩:∃ v,goneS h=v:=⟨_,rfl⟩
  have GO:=Lib.hid fun W=>goneOf_any h.code h.elem W
  rw [show (if h.code == 1 then (9:Int) else 10)=v from hv] at GO
  rw [hv]
  clear hv
  obtain ⟨i,hci⟩:∃ i:Nat,h.cell=(i:Int):=⟨h.cell.toNat,by omega⟩
  have hi:i<c.cells.length:=by omega
  have hi0:(0:Int)≤(i:Int):=by omega
  have hi1:(i:Int)<(c.cells.length:Int):=by omega
  have hne:=h1.ne h2
  obtain ⟨a2,q2,rfl,_⟩:=h2.seg
  obtain ⟨g,q1,rfl,hlo1,hlt,hcell,hfr⟩:=h1.open1 hi
  have O1:=Lib.hid h1
  have O2:=Lib.hid h2
  have lg0:g<w.heap.size+1:=by omega
  have lg1:g<w.heap.size+1+1:=by omega
  have lg2:g<w.heap.size+1+1+1:=by omega
  have ng0:g≠w.heap.size:=by omega
  have ng1:g≠w.heap.size+1:=by omega
  have ng2:g≠w.heap.size+1+1:=by omega
  have ng3:g≠w.heap.size+1+1+1:=by omega
  have mg0:w.heap.size≠g:=by omega
  have mg1:w.heap.size+1≠g:=by omega
  have mg2:w.heap.size+1+1≠g:=by omega
  have mg3:w.heap.size+1+1+1≠g:=by omega
  have hx:Hid (cellAt c h.cell=c.cells.getD i ⟨0,0,0⟩):=by simp [cellAt,Hid,hci]
  have c0:=hcell 0 (by omega)
  have c1:=hcell 1 (by omega)
  have c2:=hcell 2 (by omega)
  simp only [C3.val,Nat.add_zero] at c0 c1 c2
  have hq3:(h.pos == 23)=false:=by simp at hq ⊢;omega
  have hq4:(h.pos == 24)=false:=by simp at hq ⊢;omega
  rw [show stateC c h.cell v=stateC c i v by rw [hci]]
  have e1:=stateC_cells c i v
  have P1:=fun W (o:OCells W lo (.slice (some ⟨g,0,none⟩) c.cells.length q1) c.cells)=>OCells.setS o hi v
  rw [← e1] at P1
  clear hx hcell h1 h2 e1
  generalize c.cells.getD i ⟨0,0,0⟩=x0 at *
  have o1:=O1.out
  have o2:=O2.out
  have HCI:=Lib.hid hci
  clear hci hc0 hc1
  go_enter Tryz.func162,Tryz.ntmps162
  go_wp2_with fail;refine bHit w (by exact zB) fun bb=>?_;refine (OW.out _ (by exact zO o1 o1) (by exact zO o2 o2)).mono ?_;rintro _ w1 ⟨rfl,hbw1⟩;have hCw1:Below w.heap.size w w1:=bT bb hbw1;have hsw1:=hbw1.size;(try simp at hsw1);have zz:=q4 hbw1 (b:=w.heap.size);(try simp [go_sem] at zz);(try clear z_wppp x_wppp f_wppp l_wppp);(try clear z_wpp x_wpp f_wpp l_wpp);(try clear z_wp x_wp f_wp l_wp);(try clear z_w x_w f_w l_w);obtain ⟨z_wppp,z_wpp,z_wp,z_w⟩:=zz;obtain ⟨x_wppp,f_wppp,l_wppp⟩:=bO z_wppp;obtain ⟨x_wpp,f_wpp,l_wpp⟩:=bO z_wpp;obtain ⟨x_wp,f_wp,l_wp⟩:=bO z_wp;obtain ⟨x_w,f_w,l_w⟩:=bO z_w;have hKw1:Below w.heap.size w w1:=hCw1;clear hbw1 bb
  have p1:=own_below o1 hKw1
  have p2:=own_below o2 hKw1
  have k0:w.heap.size<w1.heap.size:=by omega
  have k1:w.heap.size+1<w1.heap.size:=by omega
  have k2:w.heap.size+1+1<w1.heap.size:=by omega
  have k3:w.heap.size+1+1+1<w1.heap.size:=by omega
  go_upto_region 8 with fail
  refine wp_region_inv [[],[0],[],[2],[],[4],[4,5],[0,1,2,3],[0,1,2,3,7],qB [8]] [29,30,31,32,33,34,35,36,37] (fun l s wx=>(l 9=false→Below w1.heap.size w1 wx)∧(l 0=true→s 29=.pointer (some ⟨w.heap.size,4,none⟩))∧(l 1=true→s 30=.slice (some ⟨g,0,none⟩) c.cells.length q1)∧(l 2=true→s 31=.pointer (some ⟨w.heap.size+1,3,none⟩))∧(l 3=true→s 32=.int .i64 i)∧(l 4=true→s 33=.pointer (some ⟨w.heap.size+1,1,none⟩))∧(l 5=true→s 34=.agg #[.int .i64 h.code,.int .i64 h.elem])∧(l 6=true→s 35=.int .i64 v)∧(l 7=true→s 36=.pointer (some ⟨g,i*3,none⟩))∧(l 8=true→s 37=.pointer (some ⟨g,i*3,none⟩))∧(l 9=true→Gr g w1 wx∧OCells wx lo (.slice (some ⟨g,0,none⟩) c.cells.length q1) (stateC c i v).cells∧OInts wx lo (.slice a2 c.words.length q2) c.words)) (by kernel_rfl) (by kernel_rfl) (by kernel_rfl) (fun s=>by (simp only [fill,fillA,List.setIfInBounds_toArray,List.set_cons_zero,List.set_cons_succ];rfl)) (fun s=>⟨fun _=>(Below.refl _ _).drew,nB,nB,nB,nB,nB,nB,nB,nB,nB,nB⟩) ?_ ?_
  refine ⟨?_,?_,?_,?_,?_,?_,?_,?_,?_,?_,trivial⟩;rotate_left 10
  · intro l s w5 hall hf
    obtain ⟨hgw5,r1,r2⟩:=((jD hf).2.2 (hall 9 rfl))
    clear hf hall
    have sg0:some w.heap.size≠some g:=by simp;omega
    have sg1:some (w.heap.size+1)≠some g:=by simp;omega
    have sg2:some (w.heap.size+1+1)≠some g:=by simp;omega
    have sg3:some (w.heap.size+1+1+1)≠some g:=by simp;omega
    have hsw5:=hgw5.size;(try (simp at hsw5));have zz:=And.intro (grHp hgw5 (b:=w.heap.size+1+1+1) (by (try simp) <;> omega) (by assumption)) <| And.intro (grHp hgw5 (b:=w.heap.size+1+1) (by (try simp) <;> omega) (by assumption)) <| And.intro (grHp hgw5 (b:=w.heap.size+1) (by (try simp) <;> omega) (by assumption)) <| grHp hgw5 (b:=w.heap.size) (by (try simp) <;> omega) (by assumption);(first|simp [go_sem,z_wppp,z_wpp,z_wp,z_w,l_w,l_wp,l_wpp,l_wppp,k0,k1,k2,k3] at zz|simp [go_sem] at zz|skip);(try clear z_wppp x_wppp f_wppp l_wppp);(try clear z_wpp x_wpp f_wpp l_wpp);(try clear z_wp x_wp f_wp l_wp);(try clear z_w x_w f_w l_w);obtain ⟨z_wppp,z_wpp,z_wp,z_w⟩:=zz;obtain ⟨x_wppp,f_wppp,l_wppp⟩:=bO z_wppp;obtain ⟨x_wpp,f_wpp,l_wpp⟩:=bO z_wpp;obtain ⟨x_wp,f_wp,l_wp⟩:=bO z_wp;obtain ⟨x_w,f_w,l_w⟩:=bO z_w
    have hG5:Gr g w w5:=gT (gOfB hCw1) hgw5
    clear hgw5
    go_wp2_with fail
    go_region_held3 (fun w'=>hp w' w.heap.size=some (.cells (cvals c (.slice (some ⟨g,0,none⟩) c.cells.length q1) (.slice a2 c.words.length q2)) 34)∧hp w' (w.heap.size+1)=some (.cells (hvals h) 70))
      (first|(simp [*,go_sem]))
      (first|(go_at_call 140;refine (resting_any _ _ _).mono ?_;rintro _ w6 ⟨rfl,hbw6⟩;have hGw6:Gr g w w6:=gT (by (repeat (first|with_reducible assumption|with_reducible exact gR _ _|with_reducible refine gA ?_|with_reducible refine gD ?_|with_reducible refine gS ?_ (.inl rfl)|((with_reducible refine gBx ?_ (.inr ?_));rotate_left;(focus ((try dsimp only);(try simp);(try omega))))|((with_reducible refine gS ?_ (.inr ?_));rotate_left;(focus ((try dsimp only);(try simp);(try omega))))))) (gOfB hbw6);have hsw6:=hbw6.size;(try (simp at hsw6));have zz:=hQ hbw6 (b:=w.heap.size);(first|(simp [go_sem,z_w,l_w] at zz)|(simp [go_sem] at zz));(try clear x_w f_w);(try clear z_w);have z_w:=zz;clear zz;(try clear l_w);obtain ⟨x_w,f_w,l_w⟩:=bO z_w;have zz:=hQ hbw6 (b:=w.heap.size+1);(first|(simp [go_sem,z_wp,l_wp] at zz)|(simp [go_sem] at zz));(try clear x_wp f_wp);(try clear z_wp);have z_wp:=zz;clear zz;(try clear l_wp);obtain ⟨x_wp,f_wp,l_wp⟩:=bO z_wp;have zz:=hQ hbw6 (b:=w.heap.size+1+1);(first|(simp [go_sem,z_wpp,l_wpp] at zz)|(simp [go_sem] at zz));(try clear x_wpp f_wpp);(try clear z_wpp);have z_wpp:=zz;clear zz;(try clear l_wpp);obtain ⟨x_wpp,f_wpp,l_wpp⟩:=bO z_wpp;have zz:=hQ hbw6 (b:=w.heap.size+1+1+1);(first|(simp [go_sem,z_wppp,l_wppp] at zz)|(simp [go_sem] at zz));(try clear x_wppp f_wppp);(try clear z_wppp);have z_wppp:=zz;clear zz;(try clear l_wppp);obtain ⟨x_wppp,f_wppp,l_wppp⟩:=bO z_wppp;have p1:OCells w6 lo (.slice (some ⟨g,0,none⟩) c.cells.length q1) (stateC c i v).cells:=own_below (by exact zO r1 o1) hbw6;have p2:OInts w6 lo (.slice a2 c.words.length q2) c.words:=own_below (by exact zO r2 o2) hbw6))
    go_wp2
    refine bodyPost_ret (res_cct Tryz.results162 rfl (ldChan (stateC c i v) (.slice (some ⟨g,0,none⟩) c.cells.length q1) (.slice a2 c.words.length q2) (by simp [go_sem, *] <;> rfl)) rfl (ldHand (resting 3 0) (by simp [go_sem, *] <;> rfl))) rfl ⟨⟨_,_,rfl,?_,?_,fresh_refl _ _,fresh_refl _ _⟩,onl1 (show w.grownBy _ (some g) from (by (repeat (first|with_reducible assumption|with_reducible exact gR _ _|with_reducible refine gA ?_|with_reducible refine gD ?_|with_reducible refine gS ?_ (.inl rfl)|((with_reducible refine gBx ?_ (.inr ?_));rotate_left;(focus ((try dsimp only);(try simp);(try omega))))|((with_reducible refine gS ?_ (.inr ?_));rotate_left;(focus ((try dsimp only);(try simp);(try omega))))))))⟩
    · show OCells _ lo (.slice (some ⟨g,0,none⟩) c.cells.length q1) (stateC c i v).cells
      exact zO p1 o1
    · show OInts _ lo (.slice a2 c.words.length q2) c.words
      exact zO p2 o2
  · intro l s wx hl hd hn hf0 K hK
    have hf:=Lib.hid hf0
    clear hf0
    have hB:=hf.out.1 (hn 9 rfl)
    go_simp
    refine hK.out (upd s 29 (.pointer (some ⟨w.heap.size,4,none⟩))) _ _ (by simp [upd_at] <;> rfl) (kA (kX (fun _=>rfl) id) hf.out)
  · intro l s wx hl hd hn hf0 K hK
    have hf:=Lib.hid hf0
    clear hf0
    have e0:=(hf.out.2.1 (hd 0 rfl))
    have hB:=hf.out.1 (hn 9 rfl)
    have zc:=hpS z_w hB
    have zh:=hpS z_wp hB
    have q:=(bO zc).1 4
    go_simp
    refine hK.out (upd s 30 (.slice (some ⟨g,0,none⟩) c.cells.length q1)) _ _ (by simp [upd_at,e0] <;> rfl) (kB (kX (fun _=>rfl) id) hf.out)
  · intro l s wx hl hd hn hf0 K hK
    have hf:=Lib.hid hf0
    clear hf0
    have hB:=hf.out.1 (hn 9 rfl)
    go_simp
    refine hK.out (upd s 31 (.pointer (some ⟨w.heap.size+1,3,none⟩))) _ _ (by simp [upd_at] <;> rfl) (kB (kA (kX (fun _=>rfl) id)) hf.out)
  · intro l s wx hl hd hn hf0 K hK
    have hf:=Lib.hid hf0
    clear hf0
    have e2:=(hf.out.2.2.2.1 (hd 2 rfl))
    have hB:=hf.out.1 (hn 9 rfl)
    have zc:=hpS z_w hB
    have zh:=hpS z_wp hB
    have q:wx.cell? ⟨w.heap.size+1,3,none⟩=some (.int .i64 i):=by rw [← HCI.out];exact (bO zh).1 3
    go_simp
    refine hK.out (upd s 32 (.int .i64 i)) _ _ (by simp [upd_at,e2] <;> rfl) (kC (kX (fun _=>rfl) id) hf.out)
  · intro l s wx hl hd hn hf0 K hK
    have hf:=Lib.hid hf0
    clear hf0
    have hB:=hf.out.1 (hn 9 rfl)
    go_simp
    refine hK.out (upd s 33 (.pointer (some ⟨w.heap.size+1,1,none⟩))) _ _ (by simp [upd_at] <;> rfl) (kC (kA (kX (fun _=>rfl) id)) hf.out)
  · intro l s wx hl hd hn hf0 K hK
    have hf:=Lib.hid hf0
    clear hf0
    have e4:=((jC hf.out).2.1 (hd 4 rfl))
    have hB:=hf.out.1 (hn 9 rfl)
    have zc:=hpS z_w hB
    have zh:=hpS z_wp hB
    have qa:=(bO zh).1 1
    have qb:=(bO zh).1 2
    go_simp
    refine hK.out (upd s 34 (.agg #[.int .i64 h.code,.int .i64 h.elem])) _ _ (by simp [upd_at,e4] <;> rfl) (kC (kB (kX (fun _=>rfl) id)) hf.out)
  · intro l s wx hl hd hn hf0 K hK
    have hf:=Lib.hid hf0
    clear hf0
    have e5:=((jC hf.out).2.2.1 (hd 5 rfl))
    have hB:=hf.out.1 (hn 9 rfl)
    go_simp
    go_at_call 166
    refine (GO.out _).mono ?_
    rintro _ wy ⟨rfl,hE⟩
    refine hK.out (upd s 35 (.int .i64 v)) _ _ (by simp [upd_at,e5] <;> rfl) (kX (fun h9=>bT (hf.out.1 h9) hE) (kC (kB (kX (fun _=>rfl) (kB (fun _=>nU (hn 9 rfl)))))) hf.out)
  · intro l s wx hl hd hn hf0 K hK
    have hf:=Lib.hid hf0
    clear hf0
    have e1:=(hf.out.2.2.1 (hd 1 rfl))
    have e3:=(hf.out.2.2.2.2.1 (hd 3 rfl))
    have hB:=hf.out.1 (hn 9 rfl)
    go_simp
    refine hK.out (upd s 36 (.pointer (some ⟨g,i*3,none⟩))) _ _ (by simp [upd_at,e1,e3] <;> rfl) (kD (kX (fun _=>rfl) id) hf.out)
  · intro l s wx hl hd hn hf0 K hK
    have hf:=Lib.hid hf0
    clear hf0
    have e7:=((jD hf.out).1 (hd 7 rfl))
    have hB:=hf.out.1 (hn 9 rfl)
    go_simp
    refine hK.out (upd s 37 (.pointer (some ⟨g,i*3,none⟩))) _ _ (by simp [upd_at,e7] <;> rfl) (kD (kA (kX (fun _=>rfl) id)) hf.out)
  · intro l s wx hl hd hn hf0 K hK
    have hf:=Lib.hid hf0
    clear hf0
    have e8:=((jD hf.out).2.1 (hd 8 rfl))
    have e6:=((jC hf.out).2.2.2.1 (hd 6 rfl))
    have hB:=hf.out.1 hl
    have y0:=((bT hCw1 hB).cell (p:=⟨g,i*3,none⟩) hlt).trans c0
    have yf:=fun o=>((bT hCw1 hB).frozen (p:=⟨g,o,none⟩) hlt).trans (hfr o)
    go_simp
    refine hK.out (s) _ _ (by simp [upd_at,e8,e6] <;> rfl) (kX (fun h9=>absurd h9 (by rw [show upd l 9 true 9=true from rfl];decide)) (kD (kA (fun _=>fun _=>⟨gS (gOfB hB) (.inl rfl),P1 _ (own_below p1 hB),own_store (own_below p2 hB) (hne g rfl) _⟩))) hf.out)
theorem wordOf_neg {c:Ch} {v:Int} (hw:hasW c v=false):wordOf c v=-1:=by simp [wordOf,hw]
theorem word_neg {c:Ch} {v:Int} (hc:chanOk c=true) (hw:hasW c v=true):¬ wordOf c v<0∧wordOf c v=wordAt c v:=by
  have e0:wordOf c v=wordAt c v:=by simp [wordOf,hc,hw]
  refine ⟨?_,e0⟩
  rw [e0]
  simp only [chanOk,Bool.and_eq_true] at hc
  have ha:=List.all_eq_true.1 hc.2.2
  obtain ⟨h1,h2⟩:=hasW_iff.1 hw
  have hi:(v - 1).toNat<c.words.length:=by omega
  have:=inB_iff.1 (ha _ (List.getElem_mem hi))
  have e:wordAt c v=c.words[(v - 1).toNat]:=by unfold wordAt;rw [List.getD_eq_getElem?_getD,List.getElem?_eq_getElem hi];rfl
  rw [e]
  omega
theorem fin7_done {c:Ch} {h:Ha}:fin7 (c,h,true)=done c h:=rfl
theorem hand_codes {h:Ha} (hh:handOk h=true) (hp:23≤h.pos):h.code=1∨h.code=2:=by
  simp only [handOk,handA,Bool.and_eq_true,inB_iff] at hh
  have h0:¬ h.pos=0:=by omega
  simp [h0] at hh
  have:=hh.1.2
  simp [callOk] at this
  omega
theorem parkTouch_any (c:Ch) (h:Ha) (hc:chanOk c=true) (hh:handOk h=true) :
    (∃ x:St,parkStep c h=fin7 x∧∀ (v1 v2:Value) (lo:Nat) (W:World),OCells W lo v1 c.cells→OInts W lo v2 c.words→lo≤W.heap.size→Calls Tryz.prog 162 #[.agg (cvals c v1 v2),.agg (hvals h)] W fun r w'=>StepO W w' lo v1 v2 x r) ∨
    (parkStep c h=nothing∧∀ (v1 v2:Value) (lo:Nat) (W:World),OCells W lo v1 c.cells→OInts W lo v2 c.words→lo≤W.heap.size→Calls Tryz.prog 162 #[.agg (cvals c v1 v2),.agg (hvals h)] W fun e W'=>∃ T s,e=.panicked [{ v:=.iface T s,recovered:=false }]∧Below W.heap.size W W'):=by
  cases hw:hasW c h.mine with
  | false=>exact .inr ⟨by simp [parkStep,hw],fun v1 v2 lo W o1 o2 _=>parkTouch_n c h v1 v2 lo W o1 o2 hc (wordOf_neg hw)⟩
  | true =>
    obtain ⟨hx0,hx1⟩:=word_neg hc hw
    obtain ⟨hc0,hc9⟩:=hand_cell hh
    have hc1:h.cell<c.cells.length:=by have:=(chan_len hc).1;omega
    cases hq:(h.pos == 23) with
    | true =>
      have hp:h.pos=23:=by simpa using hq
      refine .inl ⟨(c,heardH h (wordOf c h.mine),wordOf c h.mine != 0),?_,fun v1 v2 lo W o1 o2 _=>parkTouch_23 c h v1 v2 lo W o1 o2 hc _ rfl hx0 hq⟩
      have hok:stepOk c h 23 25 0=true:=by simp [stepOk,hc,hh,hp,inB]
      rw [hx1]
      by_cases h0:wordAt c h.mine=0
      · simp [parkStep,hok,hw,hp,park9,h0,heardH,fin7,hc,hh]
      · have h0':(wordAt c h.mine != 0)=true:=by simpa using h0
        rw [h0',fin7_done]
        simp only [parkStep,hok,hw,hp,park9,heardH]
        simp [h0]
        by_cases h2:wordAt c h.mine=2
        · simp [h2]
        · by_cases hk:h.code=1 <;> simp [h2,hk]
    | false =>
      have hp3:¬ h.pos=23:=by simpa using hq
      cases hq4:(h.pos == 24) with
      | true =>
        have hp:h.pos=24:=by simpa using hq4
        have hok:stepOk c h 23 25 0=true:=by simp [stepOk,hc,hh,hp,inB]
        cases hk:(h.code != 2) with
        | true =>
          refine .inr ⟨?_,fun v1 v2 lo W o1 o2 _=>parkTouch_24n c h v1 v2 lo W o1 o2 hc _ rfl hx0 hq4 hk⟩
          have hk2:¬ h.code=2:=by simpa using hk
          have hk1:h.code=1:=by have:=hand_codes hh (by omega);omega
          simp [parkStep,hok,hw,hp,hk1]
        | false =>
          refine .inl ⟨(c,resting 2 (cellAt c h.cell).e,true),?_,fun v1 v2 lo W o1 o2 _=>parkTouch_24 c h v1 v2 lo W o1 o2 hc0 hc1 hc _ rfl hx0 hq4 hk⟩
          have hk2:h.code=2:=by simpa using hk
          rw [fin7_done]
          simp [parkStep,hok,hw,hp,hk2]
      | false =>
        have hp4:¬ h.pos=24:=by simpa using hq4
        cases hq5:(h.pos == 25) with
        | true =>
          have hp:h.pos=25:=by simpa using hq5
          have hok:stepOk c h 23 25 0=true:=by simp [stepOk,hc,hh,hp,inB]
          refine .inl ⟨(stateC c h.cell (goneS h),resting 3 0,true),?_,fun v1 v2 lo W o1 o2 _=>parkTouch_25 c h v1 v2 lo W o1 o2 hc0 hc1 hc _ rfl hx0 hq5⟩
          rw [fin7_done]
          simp [parkStep,hok,hw,hp]
        | false =>
          have hp5:¬ h.pos=25:=by simpa using hq5
          refine .inr ⟨?_,fun v1 v2 lo W o1 o2 _=>parkTouch_o c h v1 v2 lo W o1 o2 hc _ rfl hx0 hq hq4 hq5⟩
          have hno:stepOk c h 23 25 0=false:=by
            have:inB h.pos 23 25=false:=by simp [inB];omega
            simp [stepOk,this]
          simp [parkStep,hno]
end Go.Proofs.YtmnpgkcdfielbaaGreat
set_option linter.unusedSimpArgs false
set_option linter.unusedVariables false
namespace Go.Proofs.YtmnpgkcdfielbaaGreat
open Go.RowKit
set_option linter.unusedSimpArgs false
attribute [local simp] bx_size
attribute [local go_sem ↓] zeroHand zeroChan toLHand toLChan toVHand toVChan storeHand storeChan storeHandC storeChanC
theorem refusedE (w:World):Calls Tryz.prog 129 #[] w fun r w'=>r=.returned (.tuple #[.agg (cvals Ch.zero (.slice none 0 0) (.slice none 0 0)),.agg (hvals Ha.zero),.bool false])∧Below w.heap.size w w':=by
  go_enter Tryz.func129,Tryz.ntmps129
  go_wp2
  refine bodyPost_ret (res_cct Tryz.results129 rfl (ldChan Ch.zero (.slice none 0 0) (.slice none 0 0) (by simp [go_sem])) rfl (ldHand Ha.zero (by simp [go_sem]))) rfl ⟨rfl,by exact zB⟩
theorem res_ccc {P:Program} {fn:Func} {tmps:Array Value} {w:World} {p q u:Nat} {T S U:TypeId} {a a' a2:Addr} {x y z:Value} (h:fn.results=#[.cell p T,.cell q S,.cell u U]) (hp:tmps.getD p undef=.pointer (some a)) (hl:(loadVar T a).run P w=.ok x w) (hp':tmps.getD q undef=.pointer (some a')) (hl':(loadVar S a').run P w=.ok y w) (hp2:tmps.getD u undef=.pointer (some a2)) (hl2:(loadVar U a2).run P w=.ok z w):(results fn tmps).run P w=.ok (.tuple #[x,y,z]) w:=by
  simp only [results,h]
  simp [Sem.run_bind,Result.andThen,asAddr] at *
  simp [hp,hl,hp',hl',hp2,hl2]
theorem ldBool {w:World} {b:Nat} {v:Bool} (h:hp w b=some (.cells #[.bool v] 4)):(loadVar 4 ⟨b,0,none⟩).run Tryz.prog w=.ok (.bool v) w:=by
  have c:=(bO h).1 0
  simp at c
  simp [go_sem,c]
theorem belowTr {lo:Nat} {w W W':World} (h:Below lo w W) (k:Below lo W W'):Below lo w W':=⟨k.os.trans h.os,k.tape.trans h.tape,k.output.trans h.output,Nat.le_trans h.size k.size,fun i hi=>(k.block i hi).trans (h.block i hi)⟩
theorem own_setC {w:World} {lo b i k m:Nat} {e T':TypeId} {u v:Value} {xs:List Value} {y:Array Value} (h:w.ownsRow lo e k u m xs) (hz:hp w b=some (.cells y T')) (hne:e≠T'):(w.setCell ⟨b,i,none⟩ v).ownsRow lo e k u m xs:=h.kept (gS (gR _ _) (.inl rfl)) (.inr fun e2=>own_offs h hz hne b e2 rfl)
theorem belowSet {lo b i:Nat} {w W:World} {v:Value} (h:Below lo w W) (hb:lo≤b):Below lo w (W.setCell ⟨b,i,none⟩ v):=⟨h.os,h.tape,h.output,by simpa [World.setCell] using h.size,fun k hk=>(Below.heap_setCell _ _ _ k (by simp;omega)).trans (h.block k hk)⟩
set_option maxRecDepth 100000 in
set_option maxHeartbeats 2000000 in
/-- The closure where the body has panicked: what was laid is the refusal. -/
theorem catch_yes (b4 b5 b6:Nat) (T:TypeId) (s:Value) (older:List PanicEntry) (w:World) (x4:Array Value) (x5:Array Value) (x6:Value) (z4:hp w b4=some (.cells x4 34)) (s4:x4.size=6) (z5:hp w b5=some (.cells x5 70)) (s5:x5.size=14) (z6:hp w b6=some (.cells #[x6] 4)) :
    CallsD Tryz.prog 161 #[.pointer (some ⟨b4,0,none⟩),.pointer (some ⟨b5,0,none⟩),.pointer (some ⟨b6,0,none⟩)] (.panicking ({ v:=.iface T s,recovered:=false } :: older)) w fun e u' w' =>
      e=.returned (.tuple #[])∧u'=.panicking ({ v:=.iface T s,recovered:=true } :: older)∧hp w' b4=some (.cells (cvals Ch.zero (.slice none 0 0) (.slice none 0 0)) 34)∧hp w' b5=some (.cells (hvals Ha.zero) 70)∧hp w' b6=some (.cells #[.bool false] 4)∧(∀ lo,lo≤b4→lo≤b5→lo≤b6→lo≤w.heap.size→Below lo w w'):=by
  refine callsD_of_wpS Tryz.func161 rfl fun c₀ cs hu=>?_
  apply wpS_seq
  apply wpS_region
  simp [wpOpsS,go_sem,recoverD,hu,Tryz.ntmps161,Exit.thenS]
  refine wpS_cond (t:=true) (by simp [Act.eval,Array.replicate]) ?_
  simp only [if_true]
  refine wpS_of_wp ?_
  simp only [Array.replicate_succ,Array.replicate_zero,List.push_toArray,List.append_toArray,List.nil_append,List.cons_append,List.setIfInBounds_toArray,List.set_cons_zero,List.set_cons_succ]
  have n45:b4≠b5:=by rintro rfl;rw [z4] at z5;simp at z5
  have n46:b4≠b6:=by rintro rfl;rw [z4] at z6;simp at z6
  have n56:b5≠b6:=by rintro rfl;rw [z5] at z6;simp at z6
  go_wp2_with (go_at_call 129;refine (refusedE _).mono ?_;rintro _ w1 ⟨rfl,hE⟩;have z4':=hpS z4 hE;have z5':=hpS z5 hE;have z6':=hpS z6 hE;have k4:okO 6 (hp w1 b4)=true:=(by rw [z4'];simp [okO,s4]);have q5:=hp_far (ys:=cvals Ch.zero (.slice none 0 0) (.slice none 0 0)) z4' z5' (by decide);have k5:okO 14 (hp (setBox w1 b4 (cvals Ch.zero (.slice none 0 0) (.slice none 0 0))) b5)=true:=(by rw [q5];simp [okO,s5]);have q6:=hp_far (ys:=cvals Ch.zero (.slice none 0 0) (.slice none 0 0)) z4' z6' (by decide);have r6:=hp_far (ys:=hvals Ha.zero) q5 q6 (by decide);have r4:=hp_far (ys:=hvals Ha.zero) q5 (hp_set (ys:=cvals Ch.zero (.slice none 0 0) (.slice none 0 0)) z4') (by decide);have r5:=hp_set (ys:=hvals Ha.zero) q5;obtain ⟨c6,f6,l6⟩:=bO r6)
  refine ⟨rfl,_,rfl,_,results_none rfl _ _ _,rfl,rfl,(Below.heap_setCell _ _ _ b4 n46).trans r4,(Below.heap_setCell _ _ _ b5 n56).trans r5,by rw [hp_set_at,r6];rfl,fun lo l4 l5 l6 l=>belowSet (bBx (bBx (show Below lo w w1 from ⟨hE.os,hE.tape,hE.output,hE.size,fun k hk=>hE.block k (Nat.lt_of_lt_of_le hk l)⟩) l4) l5) l6⟩
set_option maxRecDepth 100000 in
/-- The closure where the body has answered: nothing. -/
theorem catch_idle (b4 b5 b6:Nat) (w:World) :
    CallsD Tryz.prog 161 #[.pointer (some ⟨b4,0,none⟩),.pointer (some ⟨b5,0,none⟩),.pointer (some ⟨b6,0,none⟩)] .returning w fun e u' w'=>e=.returned (.tuple #[])∧u'=.returning∧w'=w:=by
  refine callsD_of_wpS Tryz.func161 rfl fun c₀ cs hu=>?_
  apply wpS_seq
  apply wpS_region
  simp [wpOpsS,go_sem,recoverD,hu,Tryz.ntmps161,Exit.thenS]
  refine wpS_cond (t:=false) (by simp [Act.eval,Array.replicate]) ?_
  simp only [Bool.false_eq_true,if_false]
  refine wpS_of_wp (wp_skip ?_)
  cases c₀
  simp_all [bodyPostS,results,Tryz.results161]
set_option maxRecDepth 100000 in
set_option maxHeartbeats 4000000 in
/-- The face where what is within panics: it is refused. -/
theorem pface_no (c:Ch) (h:Ha) (a b:Option Addr) (p q:Nat) (w:World) (h1:Seg w w.heap.size a c.cells.length 3 (cellF c.cells)) (z1:a=none→p=0) (h2:Seg w w.heap.size b c.words.length 1 (intF c.words)) (z2:b=none→q=0)
    (HB:∀ (W:World),Seg W W.heap.size a c.cells.length 3 (cellF c.cells)→(a=none→p=0)→Seg W W.heap.size b c.words.length 1 (intF c.words)→(b=none→q=0)→Calls Tryz.prog 127 #[.func (.func 162) #[] #[],.agg (cvals c (.slice a c.cells.length p) (.slice b c.words.length q)),.agg (hvals h)] W fun e W'=>∃ T s,e=.panicked [{ v:=.iface T s,recovered:=false }]∧Below W.heap.size W W') :
    Calls Tryz.prog 160 #[.agg (cvals c (.slice a c.cells.length p) (.slice b c.words.length q)),.agg (hvals h)] w fun r w'=>StepN w w' nothing r:=by
  have hmf:∀ (fn:Fn) (first cap:Array Value) (w:World),(Instr.makeFunc fn first cap).run Tryz.prog w=.ok (.func fn first cap) w:=fun _ _ _ _=>rfl
  have H1:=Lib.hid h1
  have H2:=Lib.hid h2
  have Z1:=Lib.hid z1
  have Z2:=Lib.hid z2
  have HH:=Lib.hid HB
  clear h1 h2 z1 z2 HB
  go_enter_defers Tryz.func160,Tryz.ntmps160
  go_wp2_with fail
  refine bHit w (by exact zB) fun bb=>?_
  refine (HH.out _ ((H1.out.below bb).more bb.size) Z1.out ((H2.out.below bb).more bb.size) Z2.out).mono ?_
  rintro _ w1 ⟨T,s,rfl,hE⟩
  have hB1:Below w.heap.size w w1:=bT bb hE
  have hs1:=hE.size
  simp at hs1
  have z4:hp w1 (w.heap.size+1+1)=some (.cells (cvals Ch.zero (.slice none 0 0) (.slice none 0 0)) 34):=by rw [hpB hE (by simp)];simp [go_sem]
  have z5:hp w1 (w.heap.size+1+1+1)=some (.cells (hvals Ha.zero) 70):=by rw [hpB hE (by simp)];simp [go_sem]
  have z6:hp w1 (w.heap.size+1+1+1+1)=some (.cells #[.bool false] 4):=by rw [hpB hE (by simp)];simp [go_sem]
  clear hE bb
  go_wp2
  refine leaves_cons (f:=161) (args:=#[.pointer (some ⟨w.heap.size+1+1,0,none⟩),.pointer (some ⟨w.heap.size+1+1+1,0,none⟩),.pointer (some ⟨w.heap.size+1+1+1+1,0,none⟩)]) (by simp) (by simp [go_sem]) ?_
  refine (catch_yes _ _ _ T s [] _ _ _ _ z4 rfl z5 rfl z6).mono ?_
  rintro e u' w2 ⟨rfl,rfl,y4,y5,y6,hlo⟩
  have hB2:Below w.heap.size w w2:=belowTr hB1 (hlo w.heap.size (by omega) (by omega) (by omega) (by omega))
  exact ⟨_,res_ccc Tryz.results160 rfl (ldChan Ch.zero (.slice none 0 0) (.slice none 0 0) y4) rfl (ldHand Ha.zero y5) rfl (ldBool y6),stepR_none _ _ _ _ _,hB2⟩
set_option maxRecDepth 100000 in
set_option maxHeartbeats 4000000 in
/-- The face where what is within answers: it is answered so. -/
theorem pface_yes (x:St) (c:Ch) (h:Ha) (a b:Option Addr) (p q:Nat) (w:World) (h1:Seg w w.heap.size a c.cells.length 3 (cellF c.cells)) (z1:a=none→p=0) (h2:Seg w w.heap.size b c.words.length 1 (intF c.words)) (z2:b=none→q=0)
    (HB:∀ (W:World),Seg W W.heap.size a c.cells.length 3 (cellF c.cells)→(a=none→p=0)→Seg W W.heap.size b c.words.length 1 (intF c.words)→(b=none→q=0)→Calls Tryz.prog 127 #[.func (.func 162) #[] #[],.agg (cvals c (.slice a c.cells.length p) (.slice b c.words.length q)),.agg (hvals h)] W fun e W'=>StepN W W' x e) :
    Calls Tryz.prog 160 #[.agg (cvals c (.slice a c.cells.length p) (.slice b c.words.length q)),.agg (hvals h)] w fun r w'=>StepN w w' x r:=by
  have hmf:∀ (fn:Fn) (first cap:Array Value) (w:World),(Instr.makeFunc fn first cap).run Tryz.prog w=.ok (.func fn first cap) w:=fun _ _ _ _=>rfl
  have H1:=Lib.hid h1
  have H2:=Lib.hid h2
  have Z1:=Lib.hid z1
  have Z2:=Lib.hid z2
  have HH:=Lib.hid HB
  clear h1 h2 z1 z2 HB
  go_enter_defers Tryz.func160,Tryz.ntmps160
  go_wp2_with fail
  generalize hW0:World.alloc _ _=W0
  have hB0:Below w.heap.size w W0:=by rw [← hW0];exact zB
  have hs0:W0.heap.size=w.heap.size+1+1+1+1+1:=by rw [← hW0];simp
  have z4:hp W0 (w.heap.size+1+1)=some (.cells (cvals Ch.zero (.slice none 0 0) (.slice none 0 0)) 34):=by rw [← hW0];simp [go_sem]
  have z5:hp W0 (w.heap.size+1+1+1)=some (.cells (hvals Ha.zero) 70):=by rw [← hW0];simp [go_sem]
  have z6:hp W0 (w.heap.size+1+1+1+1)=some (.cells #[.bool false] 4):=by rw [← hW0];simp [go_sem]
  clear hW0
  refine (HH.out W0 ((H1.out.below hB0).more hB0.size) Z1.out ((H2.out.below hB0).more hB0.size) Z2.out).mono ?_
  rintro _ w1 ⟨⟨y1,y2,rfl,Y1,Y2,F1,F2⟩,hE⟩
  replace z4:=hpS z4 hE
  replace z5:=hpS z5 hE
  replace z6:=hpS z6 hE
  have hB1:Below w.heap.size w w1:=bT hB0 hE
  have hs1:=hE.size
  replace Y1:OCells w1 w.heap.size y1 x.1.cells:=own_lo Y1 (by omega)
  replace Y2:OInts w1 w.heap.size y2 x.1.words:=own_lo Y2 (by omega)
  clear hE
  obtain ⟨xa,xp,ea,_⟩:=Y1.seg
  obtain ⟨xb,xq,eb,_⟩:=Y2.seg
  subst ea eb
  have k4:okO 6 (hp w1 (w.heap.size+1+1))=true:=by rw [z4];rfl
  have q5:=hp_far (ys:=cvals x.1 (.slice xa x.1.cells.length xp) (.slice xb x.1.words.length xq)) z4 z5 (by decide)
  have k5:okO 14 (hp (setBox w1 (w.heap.size+1+1) (cvals x.1 (.slice xa x.1.cells.length xp) (.slice xb x.1.words.length xq))) (w.heap.size+1+1+1))=true:=by rw [q5];rfl
  have q6:=hp_far (ys:=cvals x.1 (.slice xa x.1.cells.length xp) (.slice xb x.1.words.length xq)) z4 z6 (by decide)
  have r4:=hp_far (ys:=hvals x.2.1) q5 (hp_set (ys:=cvals x.1 (.slice xa x.1.cells.length xp) (.slice xb x.1.words.length xq)) z4) (by decide)
  have r5:=hp_set (ys:=hvals x.2.1) q5
  have r6:=hp_far (ys:=hvals x.2.1) q5 q6 (by decide)
  obtain ⟨c6,f6,l6⟩:=bO r6
  go_wp2
  refine leaves_cons (f:=161) (args:=#[.pointer (some ⟨w.heap.size+1+1,0,none⟩),.pointer (some ⟨w.heap.size+1+1+1,0,none⟩),.pointer (some ⟨w.heap.size+1+1+1+1,0,none⟩)]) (by simp) (by simp [go_sem]) ?_
  refine (catch_idle _ _ _ _).mono ?_
  rintro e u' w2 ⟨rfl,rfl,rfl⟩
  exact ⟨_,res_ccc Tryz.results160 rfl (ldChan x.1 _ _ ((Below.heap_setCell _ _ _ _ (by simp)).trans r4)) rfl (ldHand x.2.1 ((Below.heap_setCell _ _ _ _ (by simp)).trans r5)) rfl (ldBool (by rw [hp_set_at,r6];rfl)),⟨_,_,rfl,own_setC (own_far (own_far Y1 z4 (by decide)) q5 (by decide)) r6 (by decide),own_setC (own_far (own_far Y2 z4 (by decide)) q5 (by decide)) r6 (by decide),fun j e=>.inr (Y1.lt j e).1,fun j e=>.inr (Y2.lt j e).1⟩,by exact zB⟩
set_option maxRecDepth 100000 in
set_option maxHeartbeats 8000000 in
/-- Where the touch gives up, so does the asking around it. -/
theorem touched_pan (F:Nat) (c:Ch) (h:Ha) (a b:Option Addr) (p q:Nat) (w:World) (h1:Seg w w.heap.size a c.cells.length 3 (cellF c.cells)) (z1:a=none→p=0) (h2:Seg w w.heap.size b c.words.length 1 (intF c.words)) (z2:b=none→q=0) (hc:chanOk c=true) (hh:handOk h=true) (eg:∀ args w,(callFunc F args).run Tryz.prog w=.ok (.enter F args) w) (HF:∀ (v1 v2:Value) (lo:Nat) (W:World),OCells W lo v1 c.cells→OInts W lo v2 c.words→lo≤W.heap.size→Calls Tryz.prog F #[.agg (cvals c v1 v2),.agg (hvals h)] W fun e W'=>∃ T s,e=.panicked [{ v:=.iface T s,recovered:=false }]∧Below W.heap.size W W') :
    Calls Tryz.prog 127 #[.func (.func F) #[] #[],.agg (cvals c (.slice a c.cells.length p) (.slice b c.words.length q)),.agg (hvals h)] w fun e w'=>∃ T s,e=.panicked [{ v:=.iface T s,recovered:=false }]∧Below w.heap.size w w':=by
  obtain ⟨n1,n2⟩:=chan_len hc
  have l1:c.cells.length≤maxLen:=by unfold maxLen;omega
  have l2:c.words.length≤maxLen:=by unfold maxLen;omega
  have m1:c.cells.length≤1099511627776:=by omega
  have m2:c.words.length≤1099511627776:=by omega
  have H1:=Lib.hid h1
  have H2:=Lib.hid h2
  have Z1:=Lib.hid z1
  have Z2:=Lib.hid z2
  clear h1 h2 z1 z2 n1 n2
  have HFF:=Lib.hid HF
  clear HF
  go_enter Tryz.func127,Tryz.ntmps127
  go_wp2_with fail;refine bHit w (by exact zB) fun bb=>?_;refine (iChanOk_any c a b p q _ ((H1.out.below bb).more bb.size) ((H2.out.below bb).more bb.size) l1 l2).mono ?_;rintro _ w1 ⟨rfl,hbw1⟩;have hCw1:Below w.heap.size w w1:=bT bb hbw1;have hsw1:=hbw1.size;(try simp at hsw1);have zz:=q4 hbw1 (b:=w.heap.size);(try simp [go_sem] at zz);(try clear z_wppp x_wppp f_wppp l_wppp);(try clear z_wpp x_wpp f_wpp l_wpp);(try clear z_wp x_wp f_wp l_wp);(try clear z_w x_w f_w l_w);obtain ⟨z_wppp,z_wpp,z_wp,z_w⟩:=zz;obtain ⟨x_wppp,f_wppp,l_wppp⟩:=bO z_wppp;obtain ⟨x_wpp,f_wpp,l_wpp⟩:=bO z_wpp;obtain ⟨x_wp,f_wp,l_wp⟩:=bO z_wp;obtain ⟨x_w,f_w,l_w⟩:=bO z_w;clear hbw1 bb
  rw [hc]
  go_wp2_with fail;refine bHit w (by exact zB) fun bb=>?_;refine (handOk_any h _).mono ?_;rintro _ w2 ⟨rfl,hbw2⟩;have hCw2:Below w.heap.size w w2:=bT bb hbw2;have hsw2:=hbw2.size;(try simp at hsw2);have zz:=q4 hbw2 (b:=w.heap.size);(first|simp [go_sem,z_wppp,z_wpp,z_wp,z_w,l_w,l_wp,l_wpp,l_wppp] at zz|simp [go_sem] at zz|skip);(try clear z_wppp x_wppp f_wppp l_wppp);(try clear z_wpp x_wpp f_wpp l_wpp);(try clear z_wp x_wp f_wp l_wp);(try clear z_w x_w f_w l_w);obtain ⟨z_wppp,z_wpp,z_wp,z_w⟩:=zz;obtain ⟨x_wppp,f_wppp,l_wppp⟩:=bO z_wppp;obtain ⟨x_wpp,f_wpp,l_wpp⟩:=bO z_wpp;obtain ⟨x_wp,f_wp,l_wp⟩:=bO z_wp;obtain ⟨x_w,f_w,l_w⟩:=bO z_w;clear hbw2 bb
  rw [hh]
  go_upto_region 3 with fail
  refine wp_region_inv [[],[],[1],[],[0,1,2,3],[0,1,2,3,4],[0,1,2,3,4,5],[0,1,2,3,4,5],[0,1,2,3,4,5],[],[],[0,1,2,3,4,5,6,9],[0,1,2,3,4,5,7,10],[0,1,2,3,4,5,8]] [25,26,27,28,29,24,30,31,32,9,10,11] (fun l s wx=>(Below w2.heap.size w2 wx)∧(l 0=true→s 25=.func (.func F) #[] #[])∧(l 1=true→s 26=.agg (cvals c (.slice a c.cells.length p) (.slice b c.words.length q)))∧(l 2=true→s 27=.agg (cvals c (s 1001) (s 1002))∧OCells wx w2.heap.size (s 1001) c.cells∧OInts wx w2.heap.size (s 1002) c.words)∧(l 3=true→s 28=.agg (hvals h))∧(l 4=true→False)) (by kernel_rfl) (by kernel_rfl) (by kernel_rfl) (fun s=>by (simp only [fill,fillA,List.setIfInBounds_toArray,List.set_cons_zero,List.set_cons_succ];rfl)) (fun s=>⟨(Below.refl _ _).drew,nB,nB,nB,nB,nB⟩) ?_ ?_
  refine ⟨?_,?_,?_,?_,?_,?_,?_,?_,?_,?_,?_,?_,?_,?_,trivial⟩;rotate_left 14
  · intro l s w8 hall hf
    exact ((jC hf).2 (hall 4 rfl)).elim
  · intro l s wx hl hd hn hf0 K hK
    have hf:=Lib.hid hf0
    clear hf0
    go_simp
    refine hK.out (upd s 25 (.func (.func F) #[] #[])) _ _ (by simp [upd_at] <;> rfl) (kA (kX (fun _=>rfl) id) hf.out)
  · intro l s wx hl hd hn hf0 K hK
    have hf:=Lib.hid hf0
    clear hf0
    have z:=hpS z_w hf.out.1
    go_simp
    refine hK.out (upd s 26 (.agg (cvals c (.slice a c.cells.length p) (.slice b c.words.length q)))) _ _ (by simp [upd_at] <;> rfl) (kB (kX (fun _=>rfl) id) hf.out)
  · intro l s wx hl hd hn hf0 K hK
    have hf:=Lib.hid hf0
    clear hf0
    have e1:=(hf.out.2.2.1 (hd 1 rfl))
    go_simp
    go_at_call 130
    refine (iCopied_any c a b p q _ ((H1.out.below (bT hCw2 hf.out.1)).more (Below.size (bT hCw2 hf.out.1))) Z1.out ((H2.out.below (bT hCw2 hf.out.1)).more (Below.size (bT hCw2 hf.out.1))) Z2.out m1 m2).mono ?_
    rintro _ wy ⟨⟨v1,v2,rfl,X1,X2⟩,hE⟩
    refine hK.out (upd (upd (upd s 1001 (v1)) 1002 (v2)) 27 (.agg (cvals c v1 v2))) _ _ (by simp [upd_at,e1] <;> rfl) (kX (bT hf.out.1 hE) (kB (kX (fun _=>⟨rfl,own_lo X1 (Below.size hf.out.1),own_lo X2 (Below.size hf.out.1)⟩) (kA (fun _=>nU (hn 4 rfl))))) hf.out)
  · intro l s wx hl hd hn hf0 K hK
    have hf:=Lib.hid hf0
    clear hf0
    have z:=hpS z_wp hf.out.1
    go_simp
    refine hK.out (upd s 28 (.agg (hvals h))) _ _ (by simp [upd_at] <;> rfl) (kC (kX (fun _=>rfl) id) hf.out)
  · intro l s wx hl hd hn hf0 K hK
    have hf:=Lib.hid hf0
    clear hf0
    have e0:=(hf.out.2.1 (hd 0 rfl))
    have e3:=(hf.out.2.2.2.2.1 (hd 3 rfl))
    obtain ⟨e2,o1,o2⟩:=(hf.out.2.2.2.1 (hd 2 rfl))
    go_simp
    refine (HFF.out _ _ w2.heap.size _ o1 o2 (Below.size hf.out.1)).mono ?_
    rintro _ wy ⟨T,sv,rfl,hE⟩
    exact ⟨rfl,T,sv,rfl,bT hCw2 (bT hf.out.1 hE)⟩
  · intro l s wx hl hd hn hf0 K hK
    exact ((jC hf0).2 (hd 4 rfl)).elim
  · intro l s wx hl hd hn hf0 K hK
    exact ((jC hf0).2 (hd 4 rfl)).elim
  · intro l s wx hl hd hn hf0 K hK
    exact ((jC hf0).2 (hd 4 rfl)).elim
  · intro l s wx hl hd hn hf0 K hK
    exact ((jC hf0).2 (hd 4 rfl)).elim
  · intro l s wx hl hd hn hf0 K hK
    have hf:=Lib.hid hf0
    clear hf0
    go_simp
    refine hK.out (upd s 9 (.pointer (some ⟨wx.heap.size,0,none⟩))) _ _ (by simp [upd_at] <;> rfl) (kX (bT hf.out.1 (belowAlloc _ _)) (kB (kX (fun h=>(let ⟨e,X1,X2⟩:=(hf.out.2.2.2.1 h);⟨e,own_below X1 (belowAlloc _ _),own_below X2 (belowAlloc _ _)⟩)) id)) hf.out)
  · intro l s wx hl hd hn hf0 K hK
    have hf:=Lib.hid hf0
    clear hf0
    go_simp
    refine hK.out (upd s 10 (.pointer (some ⟨wx.heap.size,0,none⟩))) _ _ (by simp [upd_at] <;> rfl) (kX (bT hf.out.1 (belowAlloc _ _)) (kB (kX (fun h=>(let ⟨e,X1,X2⟩:=(hf.out.2.2.2.1 h);⟨e,own_below X1 (belowAlloc _ _),own_below X2 (belowAlloc _ _)⟩)) id)) hf.out)
  · intro l s wx hl hd hn hf0 K hK
    exact ((jC hf0).2 (hd 4 rfl)).elim
  · intro l s wx hl hd hn hf0 K hK
    exact ((jC hf0).2 (hd 4 rfl)).elim
  · intro l s wx hl hd hn hf0 K hK
    exact ((jC hf0).2 (hd 4 rfl)).elim
theorem parkStepI_any (c:Ch) (h:Ha) (a b:Option Addr) (p q:Nat) (w:World) (h1:Seg w w.heap.size a c.cells.length 3 (cellF c.cells)) (z1:a=none→p=0) (h2:Seg w w.heap.size b c.words.length 1 (intF c.words)) (z2:b=none→q=0) (l1:c.cells.length≤maxLen) (l2:c.words.length≤maxLen) :
    Calls Tryz.prog 160 #[.agg (cvals c (.slice a c.cells.length p) (.slice b c.words.length q)),.agg (hvals h)] w fun r w'=>StepN w w' (parkStep c h) r:=by
  cases hc:chanOk c with
  | false =>
    rw [show parkStep c h=nothing by simp [parkStep,stepOk,hc]]
    exact pface_yes nothing c h a b p q w h1 z1 h2 z2 fun W g1 y1 g2 y2=>touched_no1 _ c h a b p q W g1 y1 g2 y2 l1 l2 hc
  | true =>
    cases hh:handOk h with
    | false =>
      rw [show parkStep c h=nothing by simp [parkStep,stepOk,hh]]
      exact pface_yes nothing c h a b p q w h1 z1 h2 z2 fun W g1 y1 g2 y2=>touched_no2 _ c h a b p q W g1 y1 g2 y2 l1 l2 hc hh
    | true =>
      rcases parkTouch_any c h hc hh with ⟨x,e,HT⟩|⟨e,HT⟩
      · rw [e]
        exact pface_yes (fin7 x) c h a b p q w h1 z1 h2 z2 fun W g1 y1 g2 y2=>touched_via _ x c h a b p q W g1 y1 g2 y2 hc hh (fun args w=>by simp [go_sem]) HT
      · rw [e]
        exact pface_no c h a b p q w h1 z1 h2 z2 fun W g1 y1 g2 y2=>(touched_pan _ c h a b p q W g1 y1 g2 y2 hc hh (fun args w=>by simp [go_sem]) HT)
end Go.Proofs.YtmnpgkcdfielbaaGreat
set_option linter.unusedSimpArgs false
set_option linter.unusedVariables false
namespace Go.Proofs.YtmnpgkcdfielbaaGreat
open Go.RowKit
set_option linter.unusedSimpArgs false
attribute [local simp] bx_size
attribute [local go_sem ↓] zeroHand zeroChan toLHand toLChan toVHand toVChan storeHand storeChan storeHandC storeChanC
set_option maxRecDepth 100000 in
set_option maxHeartbeats 4000000 in
/-- Whether a step of the program waits. -/
theorem iStays_any (c:Ch) (h:Ha) (a b:Option Addr) (p q:Nat) (w:World) (h1:Seg w w.heap.size a c.cells.length 3 (cellF c.cells)) (z1:a=none→p=0) (h2:Seg w w.heap.size b c.words.length 1 (intF c.words)) (z2:b=none→q=0) (l1:c.cells.length≤maxLen) (l2:c.words.length≤maxLen) :
    Calls Tryz.prog 48 #[.agg (cvals c (.slice a c.cells.length p) (.slice b c.words.length q)),.agg (hvals h)] w fun r w'=>r=.returned (.bool (staysN (stepC c h)))∧Below w.heap.size w w':=by
  rw [← stays_P]
  have hp:h.pos≤0∨(1≤h.pos∧h.pos≤8)∨(9≤h.pos∧h.pos≤15)∨(16≤h.pos∧h.pos≤22)∨(23≤h.pos∧h.pos≤25)∨26≤h.pos:=by omega
  rcases hp with hp|hp|hp|hp|hp|hp
  · rw [stays_low c h (.inl (by omega))];exact iStays_low0 c h a b p q w hp
  · rw [stays_low c h (.inl (by omega))];exact iStays_low1 c h a b p q w hp
  · have e:stepP c h=recvStepP c h:=by unfold stepP;rw [show inB h.pos 1 8=false by simp [inB];omega,show inB h.pos 9 15=true by simp [inB];omega];rfl
    rw [e,← waits_stays c h _ (by omega) (waits_recv c h)]
    exact iStays_recv _ c h a b p q w h1 z1 h2 z2 (fun a b p q w h1 z1 h2 z2=>recvStepI_any c h a b p q w h1 z1 h2 z2 l1 l2) hp
  · have e:stepP c h=growStepP c h:=by unfold stepP;rw [show inB h.pos 1 8=false by simp [inB];omega,show inB h.pos 9 15=false by simp [inB];omega,show inB h.pos 16 22=true by simp [inB];omega];rfl
    rw [e,← waits_stays c h _ (by omega) (waits_grow c h)]
    exact iStays_grow _ c h a b p q w h1 z1 h2 z2 (fun a b p q w h1 z1 h2 z2=>growStepI_any c h a b p q w h1 z1 h2 z2 l1 l2) hp
  · have e:stepP c h=parkStep c h:=by unfold stepP;rw [show inB h.pos 1 8=false by simp [inB];omega,show inB h.pos 9 15=false by simp [inB];omega,show inB h.pos 16 22=false by simp [inB];omega];rfl
    rw [e,← waits_stays c h _ (by omega) (waits_park c h)]
    exact iStays_park _ c h a b p q w h1 z1 h2 z2 (fun a b p q w h1 z1 h2 z2=>parkStepI_any c h a b p q w h1 z1 h2 z2 l1 l2) hp
  · rw [stays_low c h (.inr hp)];exact iStays_low5 c h a b p q w hp
end Go.Proofs.YtmnpgkcdfielbaaGreat
set_option linter.unusedSimpArgs false
set_option linter.unusedVariables false
namespace Go.Proofs.YtmnpgkcdfielbaaGreat
structure De where
  task:Int
  code:Int
  elem:Int
  beg:Int
  fin:Int
  reply:Int
  out:Int
structure Wo where
  ch:Ch
  hands:List Ha
  deals:List De
  now:Int
def Wo.zero:Wo:=⟨Ch.zero,[],[],0⟩
def De.zero:De:=⟨0,0,0,0,0,0,0⟩
def taskB (n:Nat) (who:Int):Bool:=inB who 0 ((n:Int) - 1)
def dealB (n:Nat) (now:Int) (d:De):Bool:=taskB n d.task && (replyOk d.code d.elem d.reply && (inB d.beg 0 now && (inB d.fin 0 now && inB d.out 0 999)))
def handB11 (now:Int) (h:Ha):Bool:=handOk h && decide (h.beg≤now)
def worldHead (x:Wo):Bool:=chanOk x.ch && (decide (1≤x.hands.length) && (decide (x.hands.length≤6) && (decide (x.deals.length≤1000) && inB x.now 0 20000)))
def worldOk (x:Wo):Bool:=worldHead x && (x.hands.all (handB11 x.now) && x.deals.all (dealB x.hands.length x.now))
def handAt (x:Wo) (who:Int):Ha:=x.hands.getD who.toNat Ha.zero
def setHand (x:Wo) (who:Int) (h:Ha):Wo:={ x with hands:=x.hands.set who.toNat h }
def taskOk (x:Wo) (who:Int):Bool:=taskB x.hands.length who
def asked (x:Wo) (who k e:Int):Wo × Int :=
  if worldOk x && taskOk x who then
    if (called (handAt x who) k e).2 != 0 then (x,(called (handAt x who) k e).2) else if x.now == 20000 then (x,1)
    else ({ setHand x who { (called (handAt x who) k e).1 with beg:=x.now+1 } with now:=x.now+1 },0)
  else (Wo.zero,3)
/-- What a step makes of a world. -/
def stepW (x:Wo) (who:Int) (s:St):Wo × Bool :=
  if !s.2.2 || x.now == 20000 then (x,false)
  else if s.2.1.pos != 0 then ({ setHand x who s.2.1 with now:=x.now+1,ch:=s.1 },true)
  else if decide (1000≤x.deals.length) || !replyOk (handAt x who).code (handAt x who).elem s.2.1.reply then (x,false)
  else ({ setHand x who s.2.1 with now:=x.now+1,ch:=s.1,deals:=x.deals ++ [⟨who,(handAt x who).code,(handAt x who).elem,(handAt x who).beg,x.now+1,s.2.1.reply,s.2.1.out⟩] },true)
def step11 (x:Wo) (who:Int):Wo × Bool:=stepW x who (stepC x.ch (handAt x who))
/-- At most that many steps of one who is not at rest: the world, and how many. -/
def aloneN:Nat→Wo→Int→Wo × Nat
  | 0,x,_=>(x,0)
  | n+1,x,who=>if (handAt x who).pos == 0 then (x,0) else if (step11 x who).2 then ((aloneN n (step11 x who).1 who).1,(aloneN n (step11 x who).1 who).2+1) else (x,0)
def alone (x:Wo) (who most:Int):Wo × Int :=
  if worldOk x && taskOk x who then (if inB most 0 20000 then ((aloneN most.toNat x who).1,(aloneN most.toNat x who).2) else (x,-1)) else (Wo.zero,-1)
end Go.Proofs.YtmnpgkcdfielbaaGreat
set_option linter.unusedSimpArgs false
set_option linter.unusedVariables false
namespace Go.Proofs.YtmnpgkcdfielbaaGreat
open Go.RowKit
def dvals (d:De):Array Value:=#[.int .i64 d.task,.int .i64 d.code,.int .i64 d.elem,.int .i64 d.beg,.int .i64 d.fin,.int .i64 d.reply,.int .i64 d.out]
def flatH (hs:List Ha):List Value:=hs.flatMap fun h=>(hvals h).toList
def flatD (ds:List De):List Value:=ds.flatMap fun d=>(dvals d).toList
def handF (hs:List Ha) (i j:Nat):Value:=(hvals (hs.getD i Ha.zero)).getD j (.int .i64 0)
def dealF (ds:List De) (i j:Nat):Value:=(dvals (ds.getD i De.zero)).getD j (.int .i64 0)
theorem flatH_len (hs:List Ha):(flatH hs).length=hs.length*14:=by
  induction hs with
  | nil=>rfl
  | cons c cs ih=>simp [flatH,hvals] at *;omega
theorem flatD_len (ds:List De):(flatD ds).length=ds.length*7:=by
  induction ds with
  | nil=>rfl
  | cons c cs ih=>simp [flatD,dvals] at *;omega
theorem flatH_get:∀ (hs:List Ha) (i j:Nat),i<hs.length→j<14→(flatH hs)[i*14+j]?=some (handF hs i j)
  | [],i,j,hi,_=>by simp at hi
  | c :: cs,0,j,_,hj=>by
    have e:flatH (c :: cs)=(hvals c).toList ++ flatH cs:=by simp [flatH]
    rw [e,List.getElem?_append_left (by simp [hv_size];omega)]
    simp [handF,Array.getD,hv_size,hj]
  | c :: cs,i+1,j,hi,hj=>by
    have h:=flatH_get cs i j (by simpa using hi) hj
    have e:flatH (c :: cs)=(hvals c).toList ++ flatH cs:=by simp [flatH]
    rw [e,List.getElem?_append_right (by simp [hv_size];omega)]
    have e2:(i+1)*14+j - (hvals c).toList.length=i*14+j:=by simp [hv_size];omega
    rw [e2,h]
    simp [handF]
theorem flatD_get:∀ (hs:List De) (i j:Nat),i<hs.length→j<7→(flatD hs)[i*7+j]?=some (dealF hs i j)
  | [],i,j,hi,_=>by simp at hi
  | c :: cs,0,j,_,hj=>by
    have e:flatD (c :: cs)=(dvals c).toList ++ flatD cs:=by simp [flatD]
    rw [e,List.getElem?_append_left (by simp [dvals];omega)]
    simp [dealF,Array.getD,dvals,hj]
  | c :: cs,i+1,j,hi,hj=>by
    have h:=flatD_get cs i j (by simpa using hi) hj
    have e:flatD (c :: cs)=(dvals c).toList ++ flatD cs:=by simp [flatD]
    rw [e,List.getElem?_append_right (by simp [dvals];omega)]
    have e2:(i+1)*7+j - (dvals c).toList.length=i*7+j:=by simp [dvals];omega
    rw [e2,h]
    simp [dealF]
/-- A list of hands, of deals, of the call's own. -/
abbrev OHands (w:World) (lo:Nat) (v:Value) (hs:List Ha):Prop:=w.ownsRow lo 70 14 v hs.length (flatH hs)
abbrev ODeals (w:World) (lo:Nat) (v:Value) (ds:List De):Prop:=w.ownsRow lo 72 7 v ds.length (flatD ds)
theorem own_seg {w:World} {lo:Nat} {t:TypeId} {n k:Nat} {v:Value} {xs:List Value} {f:Nat→Nat→Value} (h:w.ownsRow lo t k v n xs) (hf:∀ i j,i<n→j<k→xs[i*k+j]?=some (f i j)):∃ (a:Option Addr) (cap:Nat),v=.slice a n cap∧Seg w w.heap.size a n k f:=by
  rcases h.2 with ⟨rfl,h0⟩|⟨g,cap,cur,rfl,_,hg,_⟩
  · exact ⟨none,0,by rw [h0],.inl h0⟩
  · refine ⟨_,cap,rfl,.inr ⟨g,0,rfl,(Array.getElem?_eq_some_iff.1 hg).1,fun i j hi hj=>?_⟩⟩
    have:=h.cells (g:=g) rfl (i*k+j) _ (hf i j hi hj)
    rw [← this]
    congr 1
    by_cases e:i*k+j=0 <;> simp [Addr.add,e] <;> omega
theorem OHands.seg {w:World} {lo:Nat} {v:Value} {hs:List Ha} (h:OHands w lo v hs):∃ (a:Option Addr) (cap:Nat),v=.slice a hs.length cap∧Seg w w.heap.size a hs.length 14 (handF hs):=own_seg h fun i j hi hj=>flatH_get hs i j hi hj
theorem ODeals.seg {w:World} {lo:Nat} {v:Value} {ds:List De} (h:ODeals w lo v ds):∃ (a:Option Addr) (cap:Nat),v=.slice a ds.length cap∧Seg w w.heap.size a ds.length 7 (dealF ds):=own_seg h fun i j hi hj=>flatD_get ds i j hi hj
variable {w:World} {b o:Nat}
/-- A hand that lies in a list is loaded whole. -/
theorem ldHandE (x:Ha) (h:∀ j,j<14→w.cell? ⟨b,o+j,none⟩=some ((hvals x).getD j (.int .i64 0))):(LHand (.pointer (some ⟨b,o,none⟩))).run Tryz.prog w=.ok (.agg (hvals x)) w:=by
  have h0:=h 0 (by omega)
  have h1:=h 1 (by omega)
  have h2:=h 2 (by omega)
  have h3:=h 3 (by omega)
  have h4:=h 4 (by omega)
  have h5:=h 5 (by omega)
  have h6:=h 6 (by omega)
  have h7:=h 7 (by omega)
  have h8:=h 8 (by omega)
  have h9:=h 9 (by omega)
  have h10:=h 10 (by omega)
  have h11:=h 11 (by omega)
  have h12:=h 12 (by omega)
  have h13:=h 13 (by omega)
  simp [hvals,Array.getD] at h0 h1 h2 h3 h4 h5 h6 h7 h8 h9 h10 h11 h12 h13
  simp [LHand,hvals,go_sem, *]
end Go.Proofs.YtmnpgkcdfielbaaGreat
set_option linter.unusedSimpArgs false
set_option linter.unusedVariables false
namespace Go.Proofs.YtmnpgkcdfielbaaGreat
open Go.RowKit
set_option linter.unusedSimpArgs false
set_option maxRecDepth 100000 in
theorem isTask_any (n:Nat) (who:Int) (B:Nat) (d:Option Addr) (r:Nat) (w:World) (x6:w.cell? ⟨B,6,none⟩=some (.slice d n r)) (hm:n≤1099511627776) :
    Calls Tryz.prog 65 #[.pointer (some ⟨B,0,none⟩),.int .i64 who] w fun r w'=>r=.returned (.bool (taskB n who))∧w=w':=by
  go_enter Tryz.func65,Tryz.ntmps65
  go_wp2_with (go_at_call 44;refine (inRange_any _ _ _).mono ?_;rintro _ _ ⟨rfl,rfl⟩)
  go_ret
  exact ⟨rfl,rfl⟩
end Go.Proofs.YtmnpgkcdfielbaaGreat
