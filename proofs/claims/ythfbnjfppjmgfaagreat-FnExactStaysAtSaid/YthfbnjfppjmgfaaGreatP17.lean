/-
  The program's viewing of a cell, on hands and channels that are kept whole; the lists are the call's own.
  The program's waiting in a cell, on hands and channels that are kept whole; the lists are the call's own.
  The program's touches of sending that write into a cell: laying, keeping; on hands and channels that are kept whole; the lists are the call's own.
  The program's waiting to send and its calling, by what they hand on; on hands and channels that are kept whole; the lists are the call's own.
-/
import Derived.Test.YthfbnjfppjmgfaaGreatP16
import Derived.BigRegion
import Derived.Test.YthfbnjfppjmgfaaGreatP09
set_option linter.unusedSimpArgs false
set_option linter.unusedVariables false
namespace Go.Proofs.YthfbnjfppjmgfaaGreat
open Go.RowKit
set_option linter.unusedSimpArgs false
attribute [local simp] bx_size
attribute [local go_sem ↓] zeroHand zeroChan toLHand toLChan toVHand toVChan storeHand storeChan storeHandC storeChanC
set_option maxRecDepth 100000 in
set_option maxHeartbeats 2000000 in
theorem recvView_0 (c:Ch) (h:Ha) (v1 v2:Value) (lo:Nat) (w:World) (h1:OCells w lo v1 c.cells) (h2:OInts w lo v2 c.words) (hc0:0≤h.cell) (hc1:h.cell<c.cells.length) (hn:(cellAt c h.cell).s=0) :
    Calls Tryz.prog 85 #[.agg (cvals c v1 v2),.agg (hvals h)] w fun r w'=>StepO w w' lo v1 v2 ((c,{ viewAs h (cellAt c h.cell) with pos:=11 },true)) r:=by
  obtain ⟨i,hci⟩:∃ i:Nat,h.cell=(i:Int):=⟨h.cell.toNat,by omega⟩
  have hi:i<c.cells.length:=by omega
  have hi0:(0:Int)≤(i:Int):=by omega
  have hi1:(i:Int)<(c.cells.length:Int):=by omega
  have hne:=h1.ne h2
  obtain ⟨a2,q2,rfl,_⟩:=h2.seg
  obtain ⟨g,q1,rfl,hlo1,hlt,hcell,hfr⟩:=h1.open1 hi
  have O1:=Lib.hid h1
  have O2:=Lib.hid h2
  have lg0:g<w.heap.size+1:=by omega
  have lg1:g<w.heap.size+1+1:=by omega
  have lg2:g<w.heap.size+1+1+1:=by omega
  have ng0:g≠w.heap.size:=by omega
  have ng1:g≠w.heap.size+1:=by omega
  have ng2:g≠w.heap.size+1+1:=by omega
  have ng3:g≠w.heap.size+1+1+1:=by omega
  have mg0:w.heap.size≠g:=by omega
  have mg1:w.heap.size+1≠g:=by omega
  have mg2:w.heap.size+1+1≠g:=by omega
  have mg3:w.heap.size+1+1+1≠g:=by omega
  have hx:Hid (cellAt c h.cell=c.cells.getD i ⟨0,0,0⟩):=by simp [cellAt,Hid,hci]
  have c0:=hcell 0 (by omega)
  have c1:=hcell 1 (by omega)
  have c2:=hcell 2 (by omega)
  simp only [C3.val,Nat.add_zero] at c0 c1 c2
  have ex:=hx.out
  rw [ex] at hn ⊢
  generalize c.cells.getD i ⟨0,0,0⟩=x at *
  obtain ⟨s,e,t⟩:=x
  simp only at hn c0 c1 c2
  subst hn
  clear hx ex hcell h1 h2
  have o1:=O1.out
  have o2:=O2.out
  go_enter Tryz.func85,Tryz.ntmps85
  go_wp2_with fail;refine bHit w (by exact zB) fun bb=>?_;refine (saw_any h 0 e t _).mono ?_;rintro _ w1 ⟨rfl,hbw1⟩;have hCw1:Below w.heap.size w w1:=bT bb hbw1;have hsw1:=hbw1.size;(try simp at hsw1);have zz:=And.intro (hQ hbw1 (b:=w.heap.size+1+1+1+1)) <| And.intro (hQ hbw1 (b:=w.heap.size+1+1+1)) <| And.intro (hQ hbw1 (b:=w.heap.size+1+1)) <| And.intro (hQ hbw1 (b:=w.heap.size+1)) <| hQ hbw1 (b:=w.heap.size);(try simp [go_sem] at zz);(try clear z_wpppp x_wpppp f_wpppp l_wpppp);(try clear z_wppp x_wppp f_wppp l_wppp);(try clear z_wpp x_wpp f_wpp l_wpp);(try clear z_wp x_wp f_wp l_wp);(try clear z_w x_w f_w l_w);obtain ⟨z_wpppp,z_wppp,z_wpp,z_wp,z_w⟩:=zz;obtain ⟨x_wpppp,f_wpppp,l_wpppp⟩:=bO z_wpppp;obtain ⟨x_wppp,f_wppp,l_wppp⟩:=bO z_wppp;obtain ⟨x_wpp,f_wpp,l_wpp⟩:=bO z_wpp;obtain ⟨x_wp,f_wp,l_wp⟩:=bO z_wp;obtain ⟨x_w,f_w,l_w⟩:=bO z_w;have hKw1:Below w.heap.size w w1:=hCw1;clear hbw1 bb
  have p1:=own_below o1 hKw1
  have p2:=own_below o2 hKw1
  have k0:w.heap.size<w1.heap.size:=by omega
  have k1:w.heap.size+1<w1.heap.size:=by omega
  have k2:w.heap.size+1+1<w1.heap.size:=by omega
  have k3:w.heap.size+1+1+1<w1.heap.size:=by omega
  have k4:w.heap.size+1+1+1+1<w1.heap.size:=by omega
  have j0:w.heap.size<w1.heap.size+1:=by omega
  have j1:w.heap.size+1<w1.heap.size+1:=by omega
  have j2:w.heap.size+1+1<w1.heap.size+1:=by omega
  have j3:w.heap.size+1+1+1<w1.heap.size+1:=by omega
  have j4:w.heap.size+1+1+1+1<w1.heap.size+1:=by omega
  go_wp2_with fail
  go_region_held3 (fun w'=>hp w' w.heap.size=some (.cells (cvals c (.slice (some ⟨g,0,none⟩) c.cells.length q1) (.slice a2 c.words.length q2)) 34)∧hp w' w1.heap.size=some (.cells (hvals { h with cell:=(i:Int),seen:=0,wait:=t,out:=e }) 38))
    (first|(simp [*,go_sem]))
    (first|((go_at_call 86;refine bHit w (by exact zB) fun bb=>?_;refine bHit w1 (by exact zB) fun bk=>?_;refine (moved_any _ _ _).mono ?_;rintro _ w2 ⟨rfl,hbw2⟩;have hCw2:Below w.heap.size w w2:=bT bb hbw2;have hsw2:=hbw2.size;(try simp at hsw2);have zz:=And.intro (hQ hbw2 (b:=w1.heap.size)) <| And.intro (hQ hbw2 (b:=w.heap.size+1+1+1)) <| And.intro (hQ hbw2 (b:=w.heap.size+1+1)) <| And.intro (hQ hbw2 (b:=w.heap.size+1)) <| hQ hbw2 (b:=w.heap.size);(first|simp [go_sem,z_wppp,z_wpp,z_wp,z_w,l_w,l_wp,l_wpp,l_wppp,k0,k1,k2,k3,k4] at zz|simp [go_sem] at zz|skip);(try clear z_w1 x_w1 f_w1 l_w1);(try clear z_wppp x_wppp f_wppp l_wppp);(try clear z_wpp x_wpp f_wpp l_wpp);(try clear z_wp x_wp f_wp l_wp);(try clear z_w x_w f_w l_w);obtain ⟨z_w1,z_wppp,z_wpp,z_wp,z_w⟩:=zz;obtain ⟨x_w1,f_w1,l_w1⟩:=bO z_w1;obtain ⟨x_wppp,f_wppp,l_wppp⟩:=bO z_wppp;obtain ⟨x_wpp,f_wpp,l_wpp⟩:=bO z_wpp;obtain ⟨x_wp,f_wp,l_wp⟩:=bO z_wp;obtain ⟨x_w,f_w,l_w⟩:=bO z_w;have hKw2:Below w1.heap.size w1 w2:=bT bk hbw2;clear hbw2 bb bk);have r1:=own_below p1 hKw2;have r2:=own_below p2 hKw2))
  go_wp2
  refine bodyPost_ret (res_cct Tryz.results85 rfl (ldChan c (.slice (some ⟨g,0,none⟩) c.cells.length q1) (.slice a2 c.words.length q2) (by simp [go_sem, *] <;> rfl)) rfl (ldHand { viewAs h ⟨0,e,t⟩ with pos:=11 } (by simp [go_sem, *] <;> first|rfl|simp [viewAs,hci]))) rfl ⟨⟨_,_,rfl,?_,?_,fresh_refl _ _,fresh_refl _ _⟩,onlB (by exact zB)⟩
  · exact zO r1 o1
  · exact zO r2 o2
set_option maxRecDepth 100000 in
set_option maxHeartbeats 2000000 in
theorem recvView_1 (c:Ch) (h:Ha) (v1 v2:Value) (lo:Nat) (w:World) (h1:OCells w lo v1 c.cells) (h2:OInts w lo v2 c.words) (hc0:0≤h.cell) (hc1:h.cell<c.cells.length) (hn:(cellAt c h.cell).s=1) :
    Calls Tryz.prog 85 #[.agg (cvals c v1 v2),.agg (hvals h)] w fun r w'=>StepO w w' lo v1 v2 ((c,{ viewAs h (cellAt c h.cell) with pos:=11 },true)) r:=by
  obtain ⟨i,hci⟩:∃ i:Nat,h.cell=(i:Int):=⟨h.cell.toNat,by omega⟩
  have hi:i<c.cells.length:=by omega
  have hi0:(0:Int)≤(i:Int):=by omega
  have hi1:(i:Int)<(c.cells.length:Int):=by omega
  have hne:=h1.ne h2
  obtain ⟨a2,q2,rfl,_⟩:=h2.seg
  obtain ⟨g,q1,rfl,hlo1,hlt,hcell,hfr⟩:=h1.open1 hi
  have O1:=Lib.hid h1
  have O2:=Lib.hid h2
  have lg0:g<w.heap.size+1:=by omega
  have lg1:g<w.heap.size+1+1:=by omega
  have lg2:g<w.heap.size+1+1+1:=by omega
  have ng0:g≠w.heap.size:=by omega
  have ng1:g≠w.heap.size+1:=by omega
  have ng2:g≠w.heap.size+1+1:=by omega
  have ng3:g≠w.heap.size+1+1+1:=by omega
  have mg0:w.heap.size≠g:=by omega
  have mg1:w.heap.size+1≠g:=by omega
  have mg2:w.heap.size+1+1≠g:=by omega
  have mg3:w.heap.size+1+1+1≠g:=by omega
  have hx:Hid (cellAt c h.cell=c.cells.getD i ⟨0,0,0⟩):=by simp [cellAt,Hid,hci]
  have c0:=hcell 0 (by omega)
  have c1:=hcell 1 (by omega)
  have c2:=hcell 2 (by omega)
  simp only [C3.val,Nat.add_zero] at c0 c1 c2
  have ex:=hx.out
  rw [ex] at hn ⊢
  generalize c.cells.getD i ⟨0,0,0⟩=x at *
  obtain ⟨s,e,t⟩:=x
  simp only at hn c0 c1 c2
  subst hn
  clear hx ex hcell h1 h2
  have o1:=O1.out
  have o2:=O2.out
  go_enter Tryz.func85,Tryz.ntmps85
  go_wp2_with fail;refine bHit w (by exact zB) fun bb=>?_;refine (saw_any h 1 e t _).mono ?_;rintro _ w1 ⟨rfl,hbw1⟩;have hCw1:Below w.heap.size w w1:=bT bb hbw1;have hsw1:=hbw1.size;(try simp at hsw1);have zz:=And.intro (hQ hbw1 (b:=w.heap.size+1+1+1+1)) <| And.intro (hQ hbw1 (b:=w.heap.size+1+1+1)) <| And.intro (hQ hbw1 (b:=w.heap.size+1+1)) <| And.intro (hQ hbw1 (b:=w.heap.size+1)) <| hQ hbw1 (b:=w.heap.size);(try simp [go_sem] at zz);(try clear z_wpppp x_wpppp f_wpppp l_wpppp);(try clear z_wppp x_wppp f_wppp l_wppp);(try clear z_wpp x_wpp f_wpp l_wpp);(try clear z_wp x_wp f_wp l_wp);(try clear z_w x_w f_w l_w);obtain ⟨z_wpppp,z_wppp,z_wpp,z_wp,z_w⟩:=zz;obtain ⟨x_wpppp,f_wpppp,l_wpppp⟩:=bO z_wpppp;obtain ⟨x_wppp,f_wppp,l_wppp⟩:=bO z_wppp;obtain ⟨x_wpp,f_wpp,l_wpp⟩:=bO z_wpp;obtain ⟨x_wp,f_wp,l_wp⟩:=bO z_wp;obtain ⟨x_w,f_w,l_w⟩:=bO z_w;have hKw1:Below w.heap.size w w1:=hCw1;clear hbw1 bb
  have p1:=own_below o1 hKw1
  have p2:=own_below o2 hKw1
  have k0:w.heap.size<w1.heap.size:=by omega
  have k1:w.heap.size+1<w1.heap.size:=by omega
  have k2:w.heap.size+1+1<w1.heap.size:=by omega
  have k3:w.heap.size+1+1+1<w1.heap.size:=by omega
  have k4:w.heap.size+1+1+1+1<w1.heap.size:=by omega
  have j0:w.heap.size<w1.heap.size+1:=by omega
  have j1:w.heap.size+1<w1.heap.size+1:=by omega
  have j2:w.heap.size+1+1<w1.heap.size+1:=by omega
  have j3:w.heap.size+1+1+1<w1.heap.size+1:=by omega
  have j4:w.heap.size+1+1+1+1<w1.heap.size+1:=by omega
  go_wp2_with fail
  go_region_held3 (fun w'=>hp w' w.heap.size=some (.cells (cvals c (.slice (some ⟨g,0,none⟩) c.cells.length q1) (.slice a2 c.words.length q2)) 34)∧hp w' w1.heap.size=some (.cells (hvals { h with cell:=(i:Int),seen:=1,wait:=t,out:=e }) 38))
    (first|(simp [*,go_sem]))
    (first|((go_at_call 86;refine bHit w (by exact zB) fun bb=>?_;refine bHit w1 (by exact zB) fun bk=>?_;refine (moved_any _ _ _).mono ?_;rintro _ w2 ⟨rfl,hbw2⟩;have hCw2:Below w.heap.size w w2:=bT bb hbw2;have hsw2:=hbw2.size;(try simp at hsw2);have zz:=And.intro (hQ hbw2 (b:=w1.heap.size)) <| And.intro (hQ hbw2 (b:=w.heap.size+1+1+1)) <| And.intro (hQ hbw2 (b:=w.heap.size+1+1)) <| And.intro (hQ hbw2 (b:=w.heap.size+1)) <| hQ hbw2 (b:=w.heap.size);(first|simp [go_sem,z_wppp,z_wpp,z_wp,z_w,l_w,l_wp,l_wpp,l_wppp,k0,k1,k2,k3,k4] at zz|simp [go_sem] at zz|skip);(try clear z_w1 x_w1 f_w1 l_w1);(try clear z_wppp x_wppp f_wppp l_wppp);(try clear z_wpp x_wpp f_wpp l_wpp);(try clear z_wp x_wp f_wp l_wp);(try clear z_w x_w f_w l_w);obtain ⟨z_w1,z_wppp,z_wpp,z_wp,z_w⟩:=zz;obtain ⟨x_w1,f_w1,l_w1⟩:=bO z_w1;obtain ⟨x_wppp,f_wppp,l_wppp⟩:=bO z_wppp;obtain ⟨x_wpp,f_wpp,l_wpp⟩:=bO z_wpp;obtain ⟨x_wp,f_wp,l_wp⟩:=bO z_wp;obtain ⟨x_w,f_w,l_w⟩:=bO z_w;have hKw2:Below w1.heap.size w1 w2:=bT bk hbw2;clear hbw2 bb bk);have r1:=own_below p1 hKw2;have r2:=own_below p2 hKw2))
  go_wp2
  refine bodyPost_ret (res_cct Tryz.results85 rfl (ldChan c (.slice (some ⟨g,0,none⟩) c.cells.length q1) (.slice a2 c.words.length q2) (by simp [go_sem, *] <;> rfl)) rfl (ldHand { viewAs h ⟨1,e,t⟩ with pos:=11 } (by simp [go_sem, *] <;> first|rfl|simp [viewAs,hci]))) rfl ⟨⟨_,_,rfl,?_,?_,fresh_refl _ _,fresh_refl _ _⟩,onlB (by exact zB)⟩
  · exact zO r1 o1
  · exact zO r2 o2
set_option maxRecDepth 100000 in
set_option maxHeartbeats 2000000 in
theorem recvView_2 (c:Ch) (h:Ha) (v1 v2:Value) (lo:Nat) (w:World) (h1:OCells w lo v1 c.cells) (h2:OInts w lo v2 c.words) (hc0:0≤h.cell) (hc1:h.cell<c.cells.length) (hn:(cellAt c h.cell).s=2) :
    Calls Tryz.prog 85 #[.agg (cvals c v1 v2),.agg (hvals h)] w fun r w'=>StepO w w' lo v1 v2 ((c,{ viewAs h (cellAt c h.cell) with pos:=12 },true)) r:=by
  obtain ⟨i,hci⟩:∃ i:Nat,h.cell=(i:Int):=⟨h.cell.toNat,by omega⟩
  have hi:i<c.cells.length:=by omega
  have hi0:(0:Int)≤(i:Int):=by omega
  have hi1:(i:Int)<(c.cells.length:Int):=by omega
  have hne:=h1.ne h2
  obtain ⟨a2,q2,rfl,_⟩:=h2.seg
  obtain ⟨g,q1,rfl,hlo1,hlt,hcell,hfr⟩:=h1.open1 hi
  have O1:=Lib.hid h1
  have O2:=Lib.hid h2
  have lg0:g<w.heap.size+1:=by omega
  have lg1:g<w.heap.size+1+1:=by omega
  have lg2:g<w.heap.size+1+1+1:=by omega
  have ng0:g≠w.heap.size:=by omega
  have ng1:g≠w.heap.size+1:=by omega
  have ng2:g≠w.heap.size+1+1:=by omega
  have ng3:g≠w.heap.size+1+1+1:=by omega
  have mg0:w.heap.size≠g:=by omega
  have mg1:w.heap.size+1≠g:=by omega
  have mg2:w.heap.size+1+1≠g:=by omega
  have mg3:w.heap.size+1+1+1≠g:=by omega
  have hx:Hid (cellAt c h.cell=c.cells.getD i ⟨0,0,0⟩):=by simp [cellAt,Hid,hci]
  have c0:=hcell 0 (by omega)
  have c1:=hcell 1 (by omega)
  have c2:=hcell 2 (by omega)
  simp only [C3.val,Nat.add_zero] at c0 c1 c2
  have ex:=hx.out
  rw [ex] at hn ⊢
  generalize c.cells.getD i ⟨0,0,0⟩=x at *
  obtain ⟨s,e,t⟩:=x
  simp only at hn c0 c1 c2
  subst hn
  clear hx ex hcell h1 h2
  have o1:=O1.out
  have o2:=O2.out
  go_enter Tryz.func85,Tryz.ntmps85
  go_wp2_with fail;refine bHit w (by exact zB) fun bb=>?_;refine (saw_any h 2 e t _).mono ?_;rintro _ w1 ⟨rfl,hbw1⟩;have hCw1:Below w.heap.size w w1:=bT bb hbw1;have hsw1:=hbw1.size;(try simp at hsw1);have zz:=And.intro (hQ hbw1 (b:=w.heap.size+1+1+1+1)) <| And.intro (hQ hbw1 (b:=w.heap.size+1+1+1)) <| And.intro (hQ hbw1 (b:=w.heap.size+1+1)) <| And.intro (hQ hbw1 (b:=w.heap.size+1)) <| hQ hbw1 (b:=w.heap.size);(try simp [go_sem] at zz);(try clear z_wpppp x_wpppp f_wpppp l_wpppp);(try clear z_wppp x_wppp f_wppp l_wppp);(try clear z_wpp x_wpp f_wpp l_wpp);(try clear z_wp x_wp f_wp l_wp);(try clear z_w x_w f_w l_w);obtain ⟨z_wpppp,z_wppp,z_wpp,z_wp,z_w⟩:=zz;obtain ⟨x_wpppp,f_wpppp,l_wpppp⟩:=bO z_wpppp;obtain ⟨x_wppp,f_wppp,l_wppp⟩:=bO z_wppp;obtain ⟨x_wpp,f_wpp,l_wpp⟩:=bO z_wpp;obtain ⟨x_wp,f_wp,l_wp⟩:=bO z_wp;obtain ⟨x_w,f_w,l_w⟩:=bO z_w;have hKw1:Below w.heap.size w w1:=hCw1;clear hbw1 bb
  have p1:=own_below o1 hKw1
  have p2:=own_below o2 hKw1
  have k0:w.heap.size<w1.heap.size:=by omega
  have k1:w.heap.size+1<w1.heap.size:=by omega
  have k2:w.heap.size+1+1<w1.heap.size:=by omega
  have k3:w.heap.size+1+1+1<w1.heap.size:=by omega
  have k4:w.heap.size+1+1+1+1<w1.heap.size:=by omega
  have j0:w.heap.size<w1.heap.size+1:=by omega
  have j1:w.heap.size+1<w1.heap.size+1:=by omega
  have j2:w.heap.size+1+1<w1.heap.size+1:=by omega
  have j3:w.heap.size+1+1+1<w1.heap.size+1:=by omega
  have j4:w.heap.size+1+1+1+1<w1.heap.size+1:=by omega
  go_wp2_with fail
  go_region_held3 (fun w'=>hp w' w.heap.size=some (.cells (cvals c (.slice (some ⟨g,0,none⟩) c.cells.length q1) (.slice a2 c.words.length q2)) 34)∧hp w' w1.heap.size=some (.cells (hvals { h with cell:=(i:Int),seen:=2,wait:=t,out:=e }) 38))
    (first|(simp [*,go_sem]))
    (first|((go_at_call 86;refine bHit w (by exact zB) fun bb=>?_;refine bHit w1 (by exact zB) fun bk=>?_;refine (moved_any _ _ _).mono ?_;rintro _ w2 ⟨rfl,hbw2⟩;have hCw2:Below w.heap.size w w2:=bT bb hbw2;have hsw2:=hbw2.size;(try simp at hsw2);have zz:=And.intro (hQ hbw2 (b:=w1.heap.size)) <| And.intro (hQ hbw2 (b:=w.heap.size+1+1+1)) <| And.intro (hQ hbw2 (b:=w.heap.size+1+1)) <| And.intro (hQ hbw2 (b:=w.heap.size+1)) <| hQ hbw2 (b:=w.heap.size);(first|simp [go_sem,z_wppp,z_wpp,z_wp,z_w,l_w,l_wp,l_wpp,l_wppp,k0,k1,k2,k3,k4] at zz|simp [go_sem] at zz|skip);(try clear z_w1 x_w1 f_w1 l_w1);(try clear z_wppp x_wppp f_wppp l_wppp);(try clear z_wpp x_wpp f_wpp l_wpp);(try clear z_wp x_wp f_wp l_wp);(try clear z_w x_w f_w l_w);obtain ⟨z_w1,z_wppp,z_wpp,z_wp,z_w⟩:=zz;obtain ⟨x_w1,f_w1,l_w1⟩:=bO z_w1;obtain ⟨x_wppp,f_wppp,l_wppp⟩:=bO z_wppp;obtain ⟨x_wpp,f_wpp,l_wpp⟩:=bO z_wpp;obtain ⟨x_wp,f_wp,l_wp⟩:=bO z_wp;obtain ⟨x_w,f_w,l_w⟩:=bO z_w;have hKw2:Below w1.heap.size w1 w2:=bT bk hbw2;clear hbw2 bb bk);have r1:=own_below p1 hKw2;have r2:=own_below p2 hKw2))
  go_wp2
  refine bodyPost_ret (res_cct Tryz.results85 rfl (ldChan c (.slice (some ⟨g,0,none⟩) c.cells.length q1) (.slice a2 c.words.length q2) (by simp [go_sem, *] <;> rfl)) rfl (ldHand { viewAs h ⟨2,e,t⟩ with pos:=12 } (by simp [go_sem, *] <;> first|rfl|simp [viewAs,hci]))) rfl ⟨⟨_,_,rfl,?_,?_,fresh_refl _ _,fresh_refl _ _⟩,onlB (by exact zB)⟩
  · exact zO r1 o1
  · exact zO r2 o2
set_option maxRecDepth 100000 in
set_option maxHeartbeats 2000000 in
theorem recvView_3 (c:Ch) (h:Ha) (v1 v2:Value) (lo:Nat) (w:World) (h1:OCells w lo v1 c.cells) (h2:OInts w lo v2 c.words) (hc0:0≤h.cell) (hc1:h.cell<c.cells.length) (hn:(cellAt c h.cell).s=3) :
    Calls Tryz.prog 85 #[.agg (cvals c v1 v2),.agg (hvals h)] w fun r w'=>StepO w w' lo v1 v2 ((c,{ viewAs h (cellAt c h.cell) with pos:=12 },true)) r:=by
  obtain ⟨i,hci⟩:∃ i:Nat,h.cell=(i:Int):=⟨h.cell.toNat,by omega⟩
  have hi:i<c.cells.length:=by omega
  have hi0:(0:Int)≤(i:Int):=by omega
  have hi1:(i:Int)<(c.cells.length:Int):=by omega
  have hne:=h1.ne h2
  obtain ⟨a2,q2,rfl,_⟩:=h2.seg
  obtain ⟨g,q1,rfl,hlo1,hlt,hcell,hfr⟩:=h1.open1 hi
  have O1:=Lib.hid h1
  have O2:=Lib.hid h2
  have lg0:g<w.heap.size+1:=by omega
  have lg1:g<w.heap.size+1+1:=by omega
  have lg2:g<w.heap.size+1+1+1:=by omega
  have ng0:g≠w.heap.size:=by omega
  have ng1:g≠w.heap.size+1:=by omega
  have ng2:g≠w.heap.size+1+1:=by omega
  have ng3:g≠w.heap.size+1+1+1:=by omega
  have mg0:w.heap.size≠g:=by omega
  have mg1:w.heap.size+1≠g:=by omega
  have mg2:w.heap.size+1+1≠g:=by omega
  have mg3:w.heap.size+1+1+1≠g:=by omega
  have hx:Hid (cellAt c h.cell=c.cells.getD i ⟨0,0,0⟩):=by simp [cellAt,Hid,hci]
  have c0:=hcell 0 (by omega)
  have c1:=hcell 1 (by omega)
  have c2:=hcell 2 (by omega)
  simp only [C3.val,Nat.add_zero] at c0 c1 c2
  have ex:=hx.out
  rw [ex] at hn ⊢
  generalize c.cells.getD i ⟨0,0,0⟩=x at *
  obtain ⟨s,e,t⟩:=x
  simp only at hn c0 c1 c2
  subst hn
  clear hx ex hcell h1 h2
  have o1:=O1.out
  have o2:=O2.out
  go_enter Tryz.func85,Tryz.ntmps85
  go_wp2_with fail;refine bHit w (by exact zB) fun bb=>?_;refine (saw_any h 3 e t _).mono ?_;rintro _ w1 ⟨rfl,hbw1⟩;have hCw1:Below w.heap.size w w1:=bT bb hbw1;have hsw1:=hbw1.size;(try simp at hsw1);have zz:=And.intro (hQ hbw1 (b:=w.heap.size+1+1+1+1)) <| And.intro (hQ hbw1 (b:=w.heap.size+1+1+1)) <| And.intro (hQ hbw1 (b:=w.heap.size+1+1)) <| And.intro (hQ hbw1 (b:=w.heap.size+1)) <| hQ hbw1 (b:=w.heap.size);(try simp [go_sem] at zz);(try clear z_wpppp x_wpppp f_wpppp l_wpppp);(try clear z_wppp x_wppp f_wppp l_wppp);(try clear z_wpp x_wpp f_wpp l_wpp);(try clear z_wp x_wp f_wp l_wp);(try clear z_w x_w f_w l_w);obtain ⟨z_wpppp,z_wppp,z_wpp,z_wp,z_w⟩:=zz;obtain ⟨x_wpppp,f_wpppp,l_wpppp⟩:=bO z_wpppp;obtain ⟨x_wppp,f_wppp,l_wppp⟩:=bO z_wppp;obtain ⟨x_wpp,f_wpp,l_wpp⟩:=bO z_wpp;obtain ⟨x_wp,f_wp,l_wp⟩:=bO z_wp;obtain ⟨x_w,f_w,l_w⟩:=bO z_w;have hKw1:Below w.heap.size w w1:=hCw1;clear hbw1 bb
  have p1:=own_below o1 hKw1
  have p2:=own_below o2 hKw1
  have k0:w.heap.size<w1.heap.size:=by omega
  have k1:w.heap.size+1<w1.heap.size:=by omega
  have k2:w.heap.size+1+1<w1.heap.size:=by omega
  have k3:w.heap.size+1+1+1<w1.heap.size:=by omega
  have k4:w.heap.size+1+1+1+1<w1.heap.size:=by omega
  have j0:w.heap.size<w1.heap.size+1:=by omega
  have j1:w.heap.size+1<w1.heap.size+1:=by omega
  have j2:w.heap.size+1+1<w1.heap.size+1:=by omega
  have j3:w.heap.size+1+1+1<w1.heap.size+1:=by omega
  have j4:w.heap.size+1+1+1+1<w1.heap.size+1:=by omega
  go_wp2_with fail
  go_region_held3 (fun w'=>hp w' w.heap.size=some (.cells (cvals c (.slice (some ⟨g,0,none⟩) c.cells.length q1) (.slice a2 c.words.length q2)) 34)∧hp w' w1.heap.size=some (.cells (hvals { h with cell:=(i:Int),seen:=3,wait:=t,out:=e }) 38))
    (first|(simp [*,go_sem]))
    (first|((go_at_call 86;refine bHit w (by exact zB) fun bb=>?_;refine bHit w1 (by exact zB) fun bk=>?_;refine (moved_any _ _ _).mono ?_;rintro _ w2 ⟨rfl,hbw2⟩;have hCw2:Below w.heap.size w w2:=bT bb hbw2;have hsw2:=hbw2.size;(try simp at hsw2);have zz:=And.intro (hQ hbw2 (b:=w1.heap.size)) <| And.intro (hQ hbw2 (b:=w.heap.size+1+1+1)) <| And.intro (hQ hbw2 (b:=w.heap.size+1+1)) <| And.intro (hQ hbw2 (b:=w.heap.size+1)) <| hQ hbw2 (b:=w.heap.size);(first|simp [go_sem,z_wppp,z_wpp,z_wp,z_w,l_w,l_wp,l_wpp,l_wppp,k0,k1,k2,k3,k4] at zz|simp [go_sem] at zz|skip);(try clear z_w1 x_w1 f_w1 l_w1);(try clear z_wppp x_wppp f_wppp l_wppp);(try clear z_wpp x_wpp f_wpp l_wpp);(try clear z_wp x_wp f_wp l_wp);(try clear z_w x_w f_w l_w);obtain ⟨z_w1,z_wppp,z_wpp,z_wp,z_w⟩:=zz;obtain ⟨x_w1,f_w1,l_w1⟩:=bO z_w1;obtain ⟨x_wppp,f_wppp,l_wppp⟩:=bO z_wppp;obtain ⟨x_wpp,f_wpp,l_wpp⟩:=bO z_wpp;obtain ⟨x_wp,f_wp,l_wp⟩:=bO z_wp;obtain ⟨x_w,f_w,l_w⟩:=bO z_w;have hKw2:Below w1.heap.size w1 w2:=bT bk hbw2;clear hbw2 bb bk);have r1:=own_below p1 hKw2;have r2:=own_below p2 hKw2))
  go_wp2
  refine bodyPost_ret (res_cct Tryz.results85 rfl (ldChan c (.slice (some ⟨g,0,none⟩) c.cells.length q1) (.slice a2 c.words.length q2) (by simp [go_sem, *] <;> rfl)) rfl (ldHand { viewAs h ⟨3,e,t⟩ with pos:=12 } (by simp [go_sem, *] <;> first|rfl|simp [viewAs,hci]))) rfl ⟨⟨_,_,rfl,?_,?_,fresh_refl _ _,fresh_refl _ _⟩,onlB (by exact zB)⟩
  · exact zO r1 o1
  · exact zO r2 o2
set_option maxRecDepth 100000 in
set_option maxHeartbeats 2000000 in
theorem recvView_9 (c:Ch) (h:Ha) (v1 v2:Value) (lo:Nat) (w:World) (h1:OCells w lo v1 c.cells) (h2:OInts w lo v2 c.words) (hc0:0≤h.cell) (hc1:h.cell<c.cells.length) (hn:(cellAt c h.cell).s=9) (hk:callOk h.code h.elem=true) :
    Calls Tryz.prog 85 #[.agg (cvals c v1 v2),.agg (hvals h)] w fun r w'=>StepO w w' lo v1 v2 ((c,anew h,true)) r:=by
  obtain ⟨i,hci⟩:∃ i:Nat,h.cell=(i:Int):=⟨h.cell.toNat,by omega⟩
  have hi:i<c.cells.length:=by omega
  have hi0:(0:Int)≤(i:Int):=by omega
  have hi1:(i:Int)<(c.cells.length:Int):=by omega
  have hne:=h1.ne h2
  obtain ⟨a2,q2,rfl,_⟩:=h2.seg
  obtain ⟨g,q1,rfl,hlo1,hlt,hcell,hfr⟩:=h1.open1 hi
  have O1:=Lib.hid h1
  have O2:=Lib.hid h2
  have lg0:g<w.heap.size+1:=by omega
  have lg1:g<w.heap.size+1+1:=by omega
  have lg2:g<w.heap.size+1+1+1:=by omega
  have ng0:g≠w.heap.size:=by omega
  have ng1:g≠w.heap.size+1:=by omega
  have ng2:g≠w.heap.size+1+1:=by omega
  have ng3:g≠w.heap.size+1+1+1:=by omega
  have mg0:w.heap.size≠g:=by omega
  have mg1:w.heap.size+1≠g:=by omega
  have mg2:w.heap.size+1+1≠g:=by omega
  have mg3:w.heap.size+1+1+1≠g:=by omega
  have hx:Hid (cellAt c h.cell=c.cells.getD i ⟨0,0,0⟩):=by simp [cellAt,Hid,hci]
  have c0:=hcell 0 (by omega)
  have c1:=hcell 1 (by omega)
  have c2:=hcell 2 (by omega)
  simp only [C3.val,Nat.add_zero] at c0 c1 c2
  have ex:=hx.out
  rw [ex] at hn
  generalize c.cells.getD i ⟨0,0,0⟩=x at *
  obtain ⟨s,e,t⟩:=x
  simp only at hn c0 c1 c2
  subst hn
  clear hx ex hcell h1 h2
  obtain ⟨y0,hk0⟩:∃ y0,anew h=y0:=⟨_,rfl⟩
  have AN:=Lib.hid fun W=>anew_any h hk W
  rw [hk0] at AN
  rw [hk0]
  clear hk0 hk
  have o1:=O1.out
  have o2:=O2.out
  go_enter Tryz.func85,Tryz.ntmps85
  go_wp2_with fail;refine bHit w (by exact zB) fun bb=>?_;refine (saw_any h 9 e t _).mono ?_;rintro _ w1 ⟨rfl,hbw1⟩;have hCw1:Below w.heap.size w w1:=bT bb hbw1;have hsw1:=hbw1.size;(try simp at hsw1);have zz:=And.intro (hQ hbw1 (b:=w.heap.size+1+1+1+1)) <| And.intro (hQ hbw1 (b:=w.heap.size+1+1+1)) <| And.intro (hQ hbw1 (b:=w.heap.size+1+1)) <| And.intro (hQ hbw1 (b:=w.heap.size+1)) <| hQ hbw1 (b:=w.heap.size);(try simp [go_sem] at zz);(try clear z_wpppp x_wpppp f_wpppp l_wpppp);(try clear z_wppp x_wppp f_wppp l_wppp);(try clear z_wpp x_wpp f_wpp l_wpp);(try clear z_wp x_wp f_wp l_wp);(try clear z_w x_w f_w l_w);obtain ⟨z_wpppp,z_wppp,z_wpp,z_wp,z_w⟩:=zz;obtain ⟨x_wpppp,f_wpppp,l_wpppp⟩:=bO z_wpppp;obtain ⟨x_wppp,f_wppp,l_wppp⟩:=bO z_wppp;obtain ⟨x_wpp,f_wpp,l_wpp⟩:=bO z_wpp;obtain ⟨x_wp,f_wp,l_wp⟩:=bO z_wp;obtain ⟨x_w,f_w,l_w⟩:=bO z_w;have hKw1:Below w.heap.size w w1:=hCw1;clear hbw1 bb
  have p1:=own_below o1 hKw1
  have p2:=own_below o2 hKw1
  have k0:w.heap.size<w1.heap.size:=by omega
  have k1:w.heap.size+1<w1.heap.size:=by omega
  have k2:w.heap.size+1+1<w1.heap.size:=by omega
  have k3:w.heap.size+1+1+1<w1.heap.size:=by omega
  have k4:w.heap.size+1+1+1+1<w1.heap.size:=by omega
  have j0:w.heap.size<w1.heap.size+1:=by omega
  have j1:w.heap.size+1<w1.heap.size+1:=by omega
  have j2:w.heap.size+1+1<w1.heap.size+1:=by omega
  have j3:w.heap.size+1+1+1<w1.heap.size+1:=by omega
  have j4:w.heap.size+1+1+1+1<w1.heap.size+1:=by omega
  go_wp2_with fail
  go_region_held3 (fun w'=>hp w' w.heap.size=some (.cells (cvals c (.slice (some ⟨g,0,none⟩) c.cells.length q1) (.slice a2 c.words.length q2)) 34)∧hp w' (w.heap.size+1)=some (.cells (hvals h) 38))
    (first|(simp [*,go_sem]))
    (first|((go_at_call 90;refine bHit w (by exact zB) fun bb=>?_;refine bHit w1 (by exact zB) fun bk=>?_;refine (AN.out _).mono ?_;rintro _ w2 ⟨rfl,hbw2⟩;have hCw2:Below w.heap.size w w2:=bT bb hbw2;have hsw2:=hbw2.size;(try simp at hsw2);have zz:=And.intro (hQ hbw2 (b:=w1.heap.size)) <| And.intro (hQ hbw2 (b:=w.heap.size+1+1+1)) <| And.intro (hQ hbw2 (b:=w.heap.size+1+1)) <| And.intro (hQ hbw2 (b:=w.heap.size+1)) <| hQ hbw2 (b:=w.heap.size);(first|simp [go_sem,z_wppp,z_wpp,z_wp,z_w,l_w,l_wp,l_wpp,l_wppp,k0,k1,k2,k3,k4] at zz|simp [go_sem] at zz|skip);(try clear z_w1 x_w1 f_w1 l_w1);(try clear z_wppp x_wppp f_wppp l_wppp);(try clear z_wpp x_wpp f_wpp l_wpp);(try clear z_wp x_wp f_wp l_wp);(try clear z_w x_w f_w l_w);obtain ⟨z_w1,z_wppp,z_wpp,z_wp,z_w⟩:=zz;obtain ⟨x_w1,f_w1,l_w1⟩:=bO z_w1;obtain ⟨x_wppp,f_wppp,l_wppp⟩:=bO z_wppp;obtain ⟨x_wpp,f_wpp,l_wpp⟩:=bO z_wpp;obtain ⟨x_wp,f_wp,l_wp⟩:=bO z_wp;obtain ⟨x_w,f_w,l_w⟩:=bO z_w;have hKw2:Below w1.heap.size w1 w2:=bT bk hbw2;clear hbw2 bb bk);have r1:=own_below p1 hKw2;have r2:=own_below p2 hKw2))
  go_wp2
  refine bodyPost_ret (res_cct Tryz.results85 rfl (ldChan c (.slice (some ⟨g,0,none⟩) c.cells.length q1) (.slice a2 c.words.length q2) (by simp [go_sem, *] <;> rfl)) rfl (ldHand y0 (by simp [go_sem, *] <;> first|rfl|simp [viewAs,hci]))) rfl ⟨⟨_,_,rfl,?_,?_,fresh_refl _ _,fresh_refl _ _⟩,onlB (by exact zB)⟩
  · exact zO r1 o1
  · exact zO r2 o2
set_option maxRecDepth 100000 in
set_option maxHeartbeats 2000000 in
theorem recvView_6 (c:Ch) (h:Ha) (v1 v2:Value) (lo:Nat) (w:World) (h1:OCells w lo v1 c.cells) (h2:OInts w lo v2 c.words) (hc0:0≤h.cell) (hc1:h.cell<c.cells.length) (hn:(cellAt c h.cell).s=6) :
    Calls Tryz.prog 85 #[.agg (cvals c v1 v2),.agg (hvals h)] w fun r w'=>StepO w w' lo v1 v2 ((c,h,false)) r:=by
  obtain ⟨i,hci⟩:∃ i:Nat,h.cell=(i:Int):=⟨h.cell.toNat,by omega⟩
  have hi:i<c.cells.length:=by omega
  have hi0:(0:Int)≤(i:Int):=by omega
  have hi1:(i:Int)<(c.cells.length:Int):=by omega
  have hne:=h1.ne h2
  obtain ⟨a2,q2,rfl,_⟩:=h2.seg
  obtain ⟨g,q1,rfl,hlo1,hlt,hcell,hfr⟩:=h1.open1 hi
  have O1:=Lib.hid h1
  have O2:=Lib.hid h2
  have lg0:g<w.heap.size+1:=by omega
  have lg1:g<w.heap.size+1+1:=by omega
  have lg2:g<w.heap.size+1+1+1:=by omega
  have ng0:g≠w.heap.size:=by omega
  have ng1:g≠w.heap.size+1:=by omega
  have ng2:g≠w.heap.size+1+1:=by omega
  have ng3:g≠w.heap.size+1+1+1:=by omega
  have mg0:w.heap.size≠g:=by omega
  have mg1:w.heap.size+1≠g:=by omega
  have mg2:w.heap.size+1+1≠g:=by omega
  have mg3:w.heap.size+1+1+1≠g:=by omega
  have hx:Hid (cellAt c h.cell=c.cells.getD i ⟨0,0,0⟩):=by simp [cellAt,Hid,hci]
  have c0:=hcell 0 (by omega)
  have c1:=hcell 1 (by omega)
  have c2:=hcell 2 (by omega)
  simp only [C3.val,Nat.add_zero] at c0 c1 c2
  have ex:=hx.out
  rw [ex] at hn
  generalize c.cells.getD i ⟨0,0,0⟩=x at *
  obtain ⟨s,e,t⟩:=x
  simp only at hn c0 c1 c2
  subst hn
  clear hx ex hcell h1 h2
  have o1:=O1.out
  have o2:=O2.out
  go_enter Tryz.func85,Tryz.ntmps85
  go_wp2_with fail;refine bHit w (by exact zB) fun bb=>?_;refine (saw_any h 6 e t _).mono ?_;rintro _ w1 ⟨rfl,hbw1⟩;have hCw1:Below w.heap.size w w1:=bT bb hbw1;have hsw1:=hbw1.size;(try simp at hsw1);have zz:=And.intro (hQ hbw1 (b:=w.heap.size+1+1+1+1)) <| And.intro (hQ hbw1 (b:=w.heap.size+1+1+1)) <| And.intro (hQ hbw1 (b:=w.heap.size+1+1)) <| And.intro (hQ hbw1 (b:=w.heap.size+1)) <| hQ hbw1 (b:=w.heap.size);(try simp [go_sem] at zz);(try clear z_wpppp x_wpppp f_wpppp l_wpppp);(try clear z_wppp x_wppp f_wppp l_wppp);(try clear z_wpp x_wpp f_wpp l_wpp);(try clear z_wp x_wp f_wp l_wp);(try clear z_w x_w f_w l_w);obtain ⟨z_wpppp,z_wppp,z_wpp,z_wp,z_w⟩:=zz;obtain ⟨x_wpppp,f_wpppp,l_wpppp⟩:=bO z_wpppp;obtain ⟨x_wppp,f_wppp,l_wppp⟩:=bO z_wppp;obtain ⟨x_wpp,f_wpp,l_wpp⟩:=bO z_wpp;obtain ⟨x_wp,f_wp,l_wp⟩:=bO z_wp;obtain ⟨x_w,f_w,l_w⟩:=bO z_w;have hKw1:Below w.heap.size w w1:=hCw1;clear hbw1 bb
  have p1:=own_below o1 hKw1
  have p2:=own_below o2 hKw1
  have k0:w.heap.size<w1.heap.size:=by omega
  have k1:w.heap.size+1<w1.heap.size:=by omega
  have k2:w.heap.size+1+1<w1.heap.size:=by omega
  have k3:w.heap.size+1+1+1<w1.heap.size:=by omega
  have k4:w.heap.size+1+1+1+1<w1.heap.size:=by omega
  have j0:w.heap.size<w1.heap.size+1:=by omega
  have j1:w.heap.size+1<w1.heap.size+1:=by omega
  have j2:w.heap.size+1+1<w1.heap.size+1:=by omega
  have j3:w.heap.size+1+1+1<w1.heap.size+1:=by omega
  have j4:w.heap.size+1+1+1+1<w1.heap.size+1:=by omega
  have r1:=p1
  have r2:=p2
  go_wp2_with fail
  go_region
  go_wp2
  refine bodyPost_ret (res_cct Tryz.results85 rfl (ldChan c (.slice (some ⟨g,0,none⟩) c.cells.length q1) (.slice a2 c.words.length q2) (by simp [go_sem, *] <;> rfl)) rfl (ldHand h (by simp [go_sem, *] <;> first|rfl|simp [viewAs,hci]))) rfl ⟨⟨_,_,rfl,?_,?_,fresh_refl _ _,fresh_refl _ _⟩,onlB (by exact zB)⟩
  · exact zO r1 o1
  · exact zO r2 o2
set_option maxRecDepth 100000 in
set_option maxHeartbeats 2000000 in
theorem recvView_no (c:Ch) (h:Ha) (v1 v2:Value) (lo:Nat) (w:World) (h1:OCells w lo v1 c.cells) (h2:OInts w lo v2 c.words) (hc0:0≤h.cell) (hc1:h.cell<c.cells.length) (n0:((cellAt c h.cell).s == 0)=false) (n1:((cellAt c h.cell).s == 1)=false) (n2:((cellAt c h.cell).s == 2)=false) (n3:((cellAt c h.cell).s == 3)=false) (n9:((cellAt c h.cell).s == 9)=false) (n6:((cellAt c h.cell).s == 6)=false) :
    Calls Tryz.prog 85 #[.agg (cvals c v1 v2),.agg (hvals h)] w fun r w'=>StepO w w' lo v1 v2 (nothing) r:=by
  have b1:=fun j (hj:v1.ownBlock=some j)=>(h1.lt j hj).2
  have b2:=fun j (hj:v2.ownBlock=some j)=>(h2.lt j hj).2
  have T:=Lib.hid fun W=>refused_any W lo v1 v2
  obtain ⟨i,hci⟩:∃ i:Nat,h.cell=(i:Int):=⟨h.cell.toNat,by omega⟩
  have hi:i<c.cells.length:=by omega
  have hi0:(0:Int)≤(i:Int):=by omega
  have hi1:(i:Int)<(c.cells.length:Int):=by omega
  have hne:=h1.ne h2
  obtain ⟨a2,q2,rfl,_⟩:=h2.seg
  obtain ⟨g,q1,rfl,hlo1,hlt,hcell,hfr⟩:=h1.open1 hi
  have O1:=Lib.hid h1
  have O2:=Lib.hid h2
  have lg0:g<w.heap.size+1:=by omega
  have lg1:g<w.heap.size+1+1:=by omega
  have lg2:g<w.heap.size+1+1+1:=by omega
  have ng0:g≠w.heap.size:=by omega
  have ng1:g≠w.heap.size+1:=by omega
  have ng2:g≠w.heap.size+1+1:=by omega
  have ng3:g≠w.heap.size+1+1+1:=by omega
  have mg0:w.heap.size≠g:=by omega
  have mg1:w.heap.size+1≠g:=by omega
  have mg2:w.heap.size+1+1≠g:=by omega
  have mg3:w.heap.size+1+1+1≠g:=by omega
  have hx:Hid (cellAt c h.cell=c.cells.getD i ⟨0,0,0⟩):=by simp [cellAt,Hid,hci]
  have c0:=hcell 0 (by omega)
  have c1:=hcell 1 (by omega)
  have c2:=hcell 2 (by omega)
  simp only [C3.val,Nat.add_zero] at c0 c1 c2
  have m1:∀ j,w.heap.size≤j→some j≠(Value.slice (some ⟨g,0,none⟩) c.cells.length q1).ownBlock:=fun j hj e=>by have:=b1 _ e.symm;omega
  have m2:∀ j,w.heap.size≤j→some j≠(Value.slice a2 c.words.length q2).ownBlock:=fun j hj e=>by have:=b2 _ e.symm;omega
  have m10:=m1 (w.heap.size) (by omega)
  have m20:=m2 (w.heap.size) (by omega)
  have m11:=m1 (w.heap.size+1) (by omega)
  have m21:=m2 (w.heap.size+1) (by omega)
  have m12:=m1 (w.heap.size+1+1) (by omega)
  have m22:=m2 (w.heap.size+1+1) (by omega)
  have m13:=m1 (w.heap.size+1+1+1) (by omega)
  have m23:=m2 (w.heap.size+1+1+1) (by omega)
  have ex:=hx.out
  rw [ex] at n0 n1 n2 n3 n9 n6
  generalize c.cells.getD i ⟨0,0,0⟩=x0 at *
  obtain ⟨ss,e,t⟩:=x0
  simp only at n0 n1 n2 n3 n9 n6 c0 c1 c2
  generalize nothing=x at *
  clear hcell hx h1 h2 hc0 hc1 ex
  have o1:=O1.out
  have o2:=O2.out
  go_enter Tryz.func85,Tryz.ntmps85
  go_wp2_with fail;refine bHit w (by exact zB) fun bb=>?_;refine (saw_any h ss e t _).mono ?_;rintro _ w1 ⟨rfl,hbw1⟩;have hCw1:Below w.heap.size w w1:=bT bb hbw1;have hsw1:=hbw1.size;(try simp at hsw1);have zz:=And.intro (hQ hbw1 (b:=w.heap.size+1+1+1+1)) <| And.intro (hQ hbw1 (b:=w.heap.size+1+1+1)) <| And.intro (hQ hbw1 (b:=w.heap.size+1+1)) <| And.intro (hQ hbw1 (b:=w.heap.size+1)) <| hQ hbw1 (b:=w.heap.size);(try simp [go_sem] at zz);(try clear z_wpppp x_wpppp f_wpppp l_wpppp);(try clear z_wppp x_wppp f_wppp l_wppp);(try clear z_wpp x_wpp f_wpp l_wpp);(try clear z_wp x_wp f_wp l_wp);(try clear z_w x_w f_w l_w);obtain ⟨z_wpppp,z_wppp,z_wpp,z_wp,z_w⟩:=zz;obtain ⟨x_wpppp,f_wpppp,l_wpppp⟩:=bO z_wpppp;obtain ⟨x_wppp,f_wppp,l_wppp⟩:=bO z_wppp;obtain ⟨x_wpp,f_wpp,l_wpp⟩:=bO z_wpp;obtain ⟨x_wp,f_wp,l_wp⟩:=bO z_wp;obtain ⟨x_w,f_w,l_w⟩:=bO z_w;have hKw1:Below w.heap.size w w1:=hCw1;clear hbw1 bb
  go_wp2_with fail
  refine (T.out _).mono ?_
  rintro _ w3 ⟨⟨y1,y2,rfl,oY1,oY2,fY1,fY2⟩,hbw3⟩
  have hO3:Onl (Value.slice (some ⟨g,0,none⟩) c.cells.length q1).ownBlock (Value.slice a2 c.words.length q2).ownBlock w w3:=onlT (onlB (by exact zB)) (onlB hbw3)
  have hsw3:=hbw3.size;(try simp at hsw3);have zz:=q4 hbw3 (b:=w.heap.size);(first|simp [go_sem,z_wppp,z_wpp,z_wp,z_w,l_w,l_wp,l_wpp,l_wppp] at zz|simp [go_sem] at zz|skip);(try clear z_wppp x_wppp f_wppp l_wppp);(try clear z_wpp x_wpp f_wpp l_wpp);(try clear z_wp x_wp f_wp l_wp);(try clear z_w x_w f_w l_w);obtain ⟨z_wppp,z_wpp,z_wp,z_w⟩:=zz;obtain ⟨x_wppp,f_wppp,l_wppp⟩:=bO z_wppp;obtain ⟨x_wpp,f_wpp,l_wpp⟩:=bO z_wpp;obtain ⟨x_wp,f_wp,l_wp⟩:=bO z_wp;obtain ⟨x_w,f_w,l_w⟩:=bO z_w;clear hbw3
  have hoff1:∀ j,w.heap.size≤j→j<w.heap.size+1+1+1+1→y1.ownBlock≠some j:=fun j h1 h2=>fY1.off b1 h1 (by (try simp) <;> omega);have hoff2:∀ j,w.heap.size≤j→j<w.heap.size+1+1+1+1→y2.ownBlock≠some j:=fun j h1 h2=>fY2.off b2 h1 (by (try simp) <;> omega);have fr1:Fresh w _ y1:=fun j hj=>(fY1 j hj).imp id (fun h=>Nat.le_trans (by (try simp) <;> omega) h);have fr2:Fresh w _ y2:=fun j hj=>(fY2 j hj).imp id (fun h=>Nat.le_trans (by (try simp) <;> omega) h);obtain ⟨ya,yp,rfl,_⟩:=oY1.seg;obtain ⟨yb,yq,rfl,_⟩:=oY2.seg
  go_wp2
  refine bodyPost_ret (res_cct Tryz.results85 rfl (ldChan x.1 (.slice ya x.1.cells.length yp) (.slice yb x.1.words.length yq) (by simp [go_sem, *])) rfl (ldHand x.2.1 (by simp [go_sem, *]))) rfl ⟨⟨_,_,rfl,?_,?_,fr1,fr2⟩,by (repeat (first|with_reducible assumption|with_reducible refine oA ?_|with_reducible refine oD ?_|((with_reducible refine oX ?_ ?_);rotate_left;(focus ((try dsimp only);(try simp);(try omega))))|((with_reducible refine oS ?_ ?_);rotate_left;(focus ((try dsimp only);(try simp);(try omega))))))⟩
  · exact zP oY1 oY1 hoff1
  · exact zP oY2 oY2 hoff2
end Go.Proofs.YthfbnjfppjmgfaaGreat
set_option linter.unusedSimpArgs false
set_option linter.unusedVariables false
namespace Go.Proofs.YthfbnjfppjmgfaaGreat
open Go.RowKit
set_option linter.unusedSimpArgs false
attribute [local simp] bx_size
attribute [local go_sem ↓] zeroHand zeroChan toLHand toLChan toVHand toVChan storeHand storeChan storeHandC storeChanC
theorem pMore2_any (c:Ch) (v1 v2:Value) (lo:Nat) (L:List Int) (m:Int) (w:World) (h1:OCells w lo v1 c.cells) (h2:OInts w lo v2 c.words) (hc:chanOk c=true) (hf:¬ 80≤c.words.length) (hL:L=c.words ++ [0]) (hm:m=(c.words.length:Int)+1) :
    Calls Tryz.prog 109 #[.agg (cvals c v1 v2)] w fun r w'=>(∃ y1 y2,r=.returned (.tuple #[.agg (cvals c y1 y2),.int .i64 m])∧OCells w' w.heap.size y1 c.cells∧OInts w' w.heap.size y2 L)∧Below w.heap.size w w':=by
  subst hL hm
  exact pMore_any c v1 v2 lo w h1 h2 hc hf
set_option maxRecDepth 100000 in
set_option maxHeartbeats 2000000 in
theorem waited_full (c:Ch) (st:Int) (y z:Ha) (v1 v2:Value) (lo:Nat) (w:World) (h1:OCells w lo v1 c.cells) (h2:OInts w lo v2 c.words) (hc:chanOk c=true) (hf:80≤c.words.length) :
    Calls Tryz.prog 101 #[.agg (cvals c v1 v2),.int .i64 st,.agg (hvals y),.agg (hvals z)] w fun r w'=>StepB w w' lo v1 v2 ((c,resting 4 0,true)) r:=by
  have b1:=fun j (hj:v1.ownBlock=some j)=>(h1.lt j hj).2
  have b2:=fun j (hj:v2.ownBlock=some j)=>(h2.lt j hj).2
  obtain ⟨a1,q1,rfl,_⟩:=h1.seg
  obtain ⟨a2,q2,rfl,_⟩:=h2.seg
  have O1:=Lib.hid h1
  have O2:=Lib.hid h2
  clear h1 h2
  have o1:=O1.out
  have o2:=O2.out
  go_enter Tryz.func101,Tryz.ntmps101
  go_wp2_with fail;refine bHit w (by exact zB) fun bb=>?_;refine (pFull_any c _ _ lo _ (by exact zO o1 o1) (by exact zO o2 o2) hc hf).mono ?_;rintro _ w1 ⟨⟨y1,y2,rfl,oY1,oY2⟩,hbw1⟩;have hCw1:Below w.heap.size w w1:=bT bb hbw1;have hsw1:=hbw1.size;(try simp at hsw1);have zz:=And.intro (hQ hbw1 (b:=w.heap.size+1+1+1+1)) <| And.intro (hQ hbw1 (b:=w.heap.size+1+1+1)) <| And.intro (hQ hbw1 (b:=w.heap.size+1+1)) <| And.intro (hQ hbw1 (b:=w.heap.size+1)) <| hQ hbw1 (b:=w.heap.size);(try simp [go_sem] at zz);(try clear z_wpppp x_wpppp f_wpppp l_wpppp);(try clear z_wppp x_wppp f_wppp l_wppp);(try clear z_wpp x_wpp f_wpp l_wpp);(try clear z_wp x_wp f_wp l_wp);(try clear z_w x_w f_w l_w);obtain ⟨z_wpppp,z_wppp,z_wpp,z_wp,z_w⟩:=zz;obtain ⟨x_wpppp,f_wpppp,l_wpppp⟩:=bO z_wpppp;obtain ⟨x_wppp,f_wppp,l_wppp⟩:=bO z_wppp;obtain ⟨x_wpp,f_wpp,l_wpp⟩:=bO z_wpp;obtain ⟨x_wp,f_wp,l_wp⟩:=bO z_wp;obtain ⟨x_w,f_w,l_w⟩:=bO z_w;have hKw1:Below w.heap.size w w1:=hCw1;clear hbw1 bb
  obtain ⟨ya,yp,rfl,_⟩:=oY1.seg
  obtain ⟨yb,yq,rfl,_⟩:=oY2.seg
  have k0:w.heap.size<w1.heap.size:=by omega
  have k1:w.heap.size+1<w1.heap.size:=by omega
  have k2:w.heap.size+1+1<w1.heap.size:=by omega
  have k3:w.heap.size+1+1+1<w1.heap.size:=by omega
  have k4:w.heap.size+1+1+1+1<w1.heap.size:=by omega
  go_wp2_with fail
  go_region_held3 (fun w'=>hp w' w.heap.size=some (.cells (cvals c (.slice a1 c.cells.length q1) (.slice a2 c.words.length q2)) 34)∧hp w' (w.heap.size+1)=some (.cells (hvals y) 38))
    (first|(simp [*,go_sem]))
    (first|((go_at_call 99;refine bHit w (by exact zB) fun bb=>?_;refine (resting_any _ _ _).mono ?_;rintro _ w2 ⟨rfl,hbw2⟩;have hCw2:Below w.heap.size w w2:=bT bb hbw2;have hsw2:=hbw2.size;(try simp at hsw2);have zz:=And.intro (hQ hbw2 (b:=w.heap.size+1+1+1+1)) <| And.intro (hQ hbw2 (b:=w.heap.size+1+1+1)) <| And.intro (hQ hbw2 (b:=w.heap.size+1+1)) <| And.intro (hQ hbw2 (b:=w.heap.size+1)) <| hQ hbw2 (b:=w.heap.size);(first|simp [go_sem,z_wpppp,z_wppp,z_wpp,z_wp,z_w,l_w,l_wp,l_wpp,l_wppp,l_wpppp,k0,k1,k2,k3,k4] at zz|simp [go_sem] at zz|skip);(try clear z_wpppp x_wpppp f_wpppp l_wpppp);(try clear z_wppp x_wppp f_wppp l_wppp);(try clear z_wpp x_wpp f_wpp l_wpp);(try clear z_wp x_wp f_wp l_wp);(try clear z_w x_w f_w l_w);obtain ⟨z_wpppp,z_wppp,z_wpp,z_wp,z_w⟩:=zz;obtain ⟨x_wpppp,f_wpppp,l_wpppp⟩:=bO z_wpppp;obtain ⟨x_wppp,f_wppp,l_wppp⟩:=bO z_wppp;obtain ⟨x_wpp,f_wpp,l_wpp⟩:=bO z_wpp;obtain ⟨x_wp,f_wp,l_wp⟩:=bO z_wp;obtain ⟨x_w,f_w,l_w⟩:=bO z_w;have hKw2:Below w.heap.size w w2:=hCw2;clear hbw2 bb);have p1:=own_below o1 hKw2;have p2:=own_below o2 hKw2))
  go_wp2
  refine bodyPost_ret (res_cct Tryz.results101 rfl (ldChan c (.slice a1 c.cells.length q1) (.slice a2 c.words.length q2) (by simp [go_sem, *] <;> rfl)) rfl (ldHand (resting 4 0) (by simp [go_sem, *] <;> first|rfl|simp [seenAs,anew,hci]))) rfl ⟨⟨_,_,rfl,?_,?_,fresh_refl _ _,fresh_refl _ _⟩,by exact zB⟩
  · exact zO p1 o1
  · exact zO p2 o2
set_option maxRecDepth 100000 in
set_option maxHeartbeats 4000000 in
theorem waited_no (c:Ch) (st:Int) (y z:Ha) (v1 v2:Value) (lo:Nat) (w:World) (h1:OCells w lo v1 c.cells) (h2:OInts w lo v2 c.words) (hc0:0≤y.cell) (hc1:y.cell<c.cells.length) (hc:chanOk c=true) (hlo:lo≤w.heap.size) (hf:¬ 80≤c.words.length) (m:Int) (hm:m=(c.words.length:Int)+1) (ht:turnCB c y.cell y.seen st m=false) :
    Calls Tryz.prog 101 #[.agg (cvals c v1 v2),.int .i64 st,.agg (hvals y),.agg (hvals z)] w fun r w'=>StepB w w' lo v1 v2 ((c,z,true)) r:=by
  obtain ⟨i,hci⟩:∃ i:Nat,y.cell=(i:Int):=⟨y.cell.toNat,by omega⟩
  have hi:i<c.cells.length:=by omega
  have hm0:(m == 0)=false:=by simp;omega
  have hmz:¬ m=0:=by omega
  obtain ⟨L,hL⟩:∃ L,L=c.words ++ [0]:=⟨_,rfl⟩
  have PM2:=Lib.hid fun v1 v2 lo W a1 a2=>pMore2_any c v1 v2 lo L m W a1 a2 hc hf hL hm
  have T:=Lib.hid fun (u1 u2:Value) (lo:Nat) (W:World) (x1:OCells W lo u1 c.cells) (x2:OInts W lo u2 L)=>turnedIn_any { c with words:=L } i y.seen st m u1 u2 lo W x1 x2 hi
  have ht2:turnCB { c with words:=L } i y.seen st m=false:=by rw [← ht,hci];rfl
  rw [ht2] at T
  clear hm hf hL ht ht2 hc0 hc1
  have b1:=fun j (hj:v1.ownBlock=some j)=>(h1.lt j hj).2
  have b2:=fun j (hj:v2.ownBlock=some j)=>(h2.lt j hj).2
  have o1:=h1
  have o2:=h2
  obtain ⟨a1,q1,e1,_⟩:=h1.seg
  obtain ⟨a2,q2,e2,_⟩:=h2.seg
  subst e1 e2
  clear h1 h2
  go_enter Tryz.func101,Tryz.ntmps101
  go_wp2_with fail;refine bHit w (by exact zB) fun bb=>?_;refine (PM2.out _ _ lo _ (by exact zO o1 o1) (by exact zO o2 o2)).mono ?_;rintro _ w1 ⟨⟨y1,y2,rfl,oY1,oY2⟩,hbw1⟩;have hCw1:Below w.heap.size w w1:=bT bb hbw1;have hsw1:=hbw1.size;(try simp at hsw1);have zz:=And.intro (hQ hbw1 (b:=w.heap.size+1+1+1+1)) <| And.intro (hQ hbw1 (b:=w.heap.size+1+1+1)) <| And.intro (hQ hbw1 (b:=w.heap.size+1+1)) <| And.intro (hQ hbw1 (b:=w.heap.size+1)) <| hQ hbw1 (b:=w.heap.size);(try simp [go_sem] at zz);(try clear z_wpppp x_wpppp f_wpppp l_wpppp);(try clear z_wppp x_wppp f_wppp l_wppp);(try clear z_wpp x_wpp f_wpp l_wpp);(try clear z_wp x_wp f_wp l_wp);(try clear z_w x_w f_w l_w);obtain ⟨z_wpppp,z_wppp,z_wpp,z_wp,z_w⟩:=zz;obtain ⟨x_wpppp,f_wpppp,l_wpppp⟩:=bO z_wpppp;obtain ⟨x_wppp,f_wppp,l_wppp⟩:=bO z_wppp;obtain ⟨x_wpp,f_wpp,l_wpp⟩:=bO z_wpp;obtain ⟨x_wp,f_wp,l_wp⟩:=bO z_wp;obtain ⟨x_w,f_w,l_w⟩:=bO z_w;have hKw1:Below w.heap.size w w1:=hCw1;clear hbw1 bb
  try simp at oY1 oY2
  have fY1:Fresh w (.slice a1 c.cells.length q1) y1:=fun j hj=>.inr (by have:=(oY1.lt j hj).1;omega)
  have fY2:Fresh w (.slice a2 c.words.length q2) y2:=fun j hj=>.inr (by have:=(oY2.lt j hj).1;omega)
  have n0:some (w.heap.size)≠y1.ownBlock:=fun e=>by have:=(oY1.lt _ e.symm).1;omega
  have n1:some (w.heap.size+1)≠y1.ownBlock:=fun e=>by have:=(oY1.lt _ e.symm).1;omega
  have n2:some (w.heap.size+1+1)≠y1.ownBlock:=fun e=>by have:=(oY1.lt _ e.symm).1;omega
  have n3:some (w.heap.size+1+1+1)≠y1.ownBlock:=fun e=>by have:=(oY1.lt _ e.symm).1;omega
  have n4:some (w.heap.size+1+1+1+1)≠y1.ownBlock:=fun e=>by have:=(oY1.lt _ e.symm).1;omega
  have n5:some w1.heap.size≠y1.ownBlock:=fun e=>by have:=(oY1.lt _ e.symm).2;omega
  have lY1:∀ k,y1.ownBlock=some k→w.heap.size≤k:=fun k hk=>by have:=(oY1.lt k hk).1;omega
  obtain ⟨ya,yp,e1,_⟩:=oY1.seg
  obtain ⟨yb,yq,e2,_⟩:=oY2.seg
  subst e1 e2
  have k0:w.heap.size<w1.heap.size:=by omega
  have k1:w.heap.size+1<w1.heap.size:=by omega
  have k2:w.heap.size+1+1<w1.heap.size:=by omega
  have k3:w.heap.size+1+1+1<w1.heap.size:=by omega
  have k4:w.heap.size+1+1+1+1<w1.heap.size:=by omega
  have r1:=own_lo (lo':=lo) oY1 (by omega)
  have r2:=own_lo (lo':=lo) oY2 (by omega)
  go_wp2_with fail;refine (T.out _ _ lo _ (by exact zO r1 oY1) (by exact zO r2 oY2)).mono ?_;rintro _ w2 ⟨rfl,p1,p2,hgw2⟩;have hsw2:=hgw2.size;(try (simp at hsw2));have zz:=And.intro (grHp hgw2 (b:=w1.heap.size) (by (try simp) <;> omega) (by assumption)) <| And.intro (grHp hgw2 (b:=w.heap.size+1+1+1+1) (by (try simp) <;> omega) (by assumption)) <| And.intro (grHp hgw2 (b:=w.heap.size+1+1+1) (by (try simp) <;> omega) (by assumption)) <| And.intro (grHp hgw2 (b:=w.heap.size+1+1) (by (try simp) <;> omega) (by assumption)) <| And.intro (grHp hgw2 (b:=w.heap.size+1) (by (try simp) <;> omega) (by assumption)) <| grHp hgw2 (b:=w.heap.size) (by (try simp) <;> omega) (by assumption);(first|simp [go_sem,z_wpppp,z_wppp,z_wpp,z_wp,z_w,l_w,l_wp,l_wpp,l_wppp,l_wpppp,k0,k1,k2,k3,k4] at zz|simp [go_sem] at zz|skip);(try clear z_w1 x_w1 f_w1 l_w1);(try clear z_wpppp x_wpppp f_wpppp l_wpppp);(try clear z_wppp x_wppp f_wppp l_wppp);(try clear z_wpp x_wpp f_wpp l_wpp);(try clear z_wp x_wp f_wp l_wp);(try clear z_w x_w f_w l_w);obtain ⟨z_w1,z_wpppp,z_wppp,z_wpp,z_wp,z_w⟩:=zz;obtain ⟨x_w1,f_w1,l_w1⟩:=bO z_w1;obtain ⟨x_wpppp,f_wpppp,l_wpppp⟩:=bO z_wpppp;obtain ⟨x_wppp,f_wppp,l_wppp⟩:=bO z_wppp;obtain ⟨x_wpp,f_wpp,l_wpp⟩:=bO z_wpp;obtain ⟨x_wp,f_wp,l_wp⟩:=bO z_wp;obtain ⟨x_w,f_w,l_w⟩:=bO z_w;have hGw2:=grB (w:=w) (by exact zB) hgw2;clear hgw2
  have hO2:Onl (Value.slice ya c.cells.length yp).ownBlock (Value.slice ya c.cells.length yp).ownBlock w w2:=onl1 hGw2
  have hB2:Below w.heap.size w w2:=bOnl (Below.refl _ _) hO2 lY1 lY1
  have hs2:=hB2.size
  have j0:w.heap.size<w2.heap.size:=by omega
  have j1:w.heap.size+1<w2.heap.size:=by omega
  have j2:w.heap.size+1+1<w2.heap.size:=by omega
  have j3:w.heap.size+1+1+1<w2.heap.size:=by omega
  have j4:w.heap.size+1+1+1+1<w2.heap.size:=by omega
  have s1:=own_below o1 hB2
  have s2:=own_below o2 hB2
  go_wp2_with fail
  go_region
  all_goals go_wp2
  all_goals (refine bodyPost_ret (res_cct Tryz.results101 rfl (ldChan c (.slice a1 c.cells.length q1) (.slice a2 c.words.length q2) (by simp [go_sem, *] <;> rfl)) rfl (ldHand z (by simp [go_sem, *] <;> rfl))) rfl ⟨⟨_,_,rfl,?_,?_,fresh_refl _ _,fresh_refl _ _⟩,by exact zB⟩)
  all_goals first|(show OCells _ _ _ c.cells;exact zO s1 o1)|skip
  all_goals (show OInts _ _ _ c.words;exact zO s2 o2)
set_option maxRecDepth 100000 in
set_option maxHeartbeats 4000000 in
theorem waited_yes (c:Ch) (st:Int) (y z:Ha) (v1 v2:Value) (lo:Nat) (w:World) (h1:OCells w lo v1 c.cells) (h2:OInts w lo v2 c.words) (hc0:0≤y.cell) (hc1:y.cell<c.cells.length) (hc:chanOk c=true) (hlo:lo≤w.heap.size) (hf:¬ 80≤c.words.length) (m:Int) (hm:m=(c.words.length:Int)+1) (ht:turnCB c y.cell y.seen st m=true) :
    Calls Tryz.prog 101 #[.agg (cvals c v1 v2),.int .i64 st,.agg (hvals y),.agg (hvals z)] w fun r w'=>StepB w w' lo v1 v2 (({ turnC c y.cell y.seen st m with words:=c.words ++ [0] },{ y with mine:=m },true)) r:=by
  obtain ⟨i,hci⟩:∃ i:Nat,y.cell=(i:Int):=⟨y.cell.toNat,by omega⟩
  have hi:i<c.cells.length:=by omega
  have hm0:(m == 0)=false:=by simp;omega
  have hmz:¬ m=0:=by omega
  obtain ⟨L,hL⟩:∃ L,L=c.words ++ [0]:=⟨_,rfl⟩
  have PM2:=Lib.hid fun v1 v2 lo W a1 a2=>pMore2_any c v1 v2 lo L m W a1 a2 hc hf hL hm
  have T:=Lib.hid fun (u1 u2:Value) (lo:Nat) (W:World) (x1:OCells W lo u1 c.cells) (x2:OInts W lo u2 L)=>turnedIn_any { c with words:=L } i y.seen st m u1 u2 lo W x1 x2 hi
  have ht2:turnCB { c with words:=L } i y.seen st m=true:=by rw [← ht,hci];rfl
  rw [ht2] at T
  have e0:({ turnC c y.cell y.seen st m with words:=c.words ++ [0] },{ y with mine:=m },true)=(({ turnC c i y.seen st m with words:=L },{ y with mine:=m },true):St):=by rw [hci,hL]
  rw [e0]
  clear e0
  clear hm hf hL ht ht2 hc0 hc1
  have b1:=fun j (hj:v1.ownBlock=some j)=>(h1.lt j hj).2
  have b2:=fun j (hj:v2.ownBlock=some j)=>(h2.lt j hj).2
  have o1:=h1
  have o2:=h2
  obtain ⟨a1,q1,e1,_⟩:=h1.seg
  obtain ⟨a2,q2,e2,_⟩:=h2.seg
  subst e1 e2
  clear h1 h2
  go_enter Tryz.func101,Tryz.ntmps101
  go_wp2_with fail;refine bHit w (by exact zB) fun bb=>?_;refine (PM2.out _ _ lo _ (by exact zO o1 o1) (by exact zO o2 o2)).mono ?_;rintro _ w1 ⟨⟨y1,y2,rfl,oY1,oY2⟩,hbw1⟩;have hCw1:Below w.heap.size w w1:=bT bb hbw1;have hsw1:=hbw1.size;(try simp at hsw1);have zz:=And.intro (hQ hbw1 (b:=w.heap.size+1+1+1+1)) <| And.intro (hQ hbw1 (b:=w.heap.size+1+1+1)) <| And.intro (hQ hbw1 (b:=w.heap.size+1+1)) <| And.intro (hQ hbw1 (b:=w.heap.size+1)) <| hQ hbw1 (b:=w.heap.size);(try simp [go_sem] at zz);(try clear z_wpppp x_wpppp f_wpppp l_wpppp);(try clear z_wppp x_wppp f_wppp l_wppp);(try clear z_wpp x_wpp f_wpp l_wpp);(try clear z_wp x_wp f_wp l_wp);(try clear z_w x_w f_w l_w);obtain ⟨z_wpppp,z_wppp,z_wpp,z_wp,z_w⟩:=zz;obtain ⟨x_wpppp,f_wpppp,l_wpppp⟩:=bO z_wpppp;obtain ⟨x_wppp,f_wppp,l_wppp⟩:=bO z_wppp;obtain ⟨x_wpp,f_wpp,l_wpp⟩:=bO z_wpp;obtain ⟨x_wp,f_wp,l_wp⟩:=bO z_wp;obtain ⟨x_w,f_w,l_w⟩:=bO z_w;have hKw1:Below w.heap.size w w1:=hCw1;clear hbw1 bb
  try simp at oY1 oY2
  have fY1:Fresh w (.slice a1 c.cells.length q1) y1:=fun j hj=>.inr (by have:=(oY1.lt j hj).1;omega)
  have fY2:Fresh w (.slice a2 c.words.length q2) y2:=fun j hj=>.inr (by have:=(oY2.lt j hj).1;omega)
  have n0:some (w.heap.size)≠y1.ownBlock:=fun e=>by have:=(oY1.lt _ e.symm).1;omega
  have n1:some (w.heap.size+1)≠y1.ownBlock:=fun e=>by have:=(oY1.lt _ e.symm).1;omega
  have n2:some (w.heap.size+1+1)≠y1.ownBlock:=fun e=>by have:=(oY1.lt _ e.symm).1;omega
  have n3:some (w.heap.size+1+1+1)≠y1.ownBlock:=fun e=>by have:=(oY1.lt _ e.symm).1;omega
  have n4:some (w.heap.size+1+1+1+1)≠y1.ownBlock:=fun e=>by have:=(oY1.lt _ e.symm).1;omega
  have n5:some w1.heap.size≠y1.ownBlock:=fun e=>by have:=(oY1.lt _ e.symm).2;omega
  have lY1:∀ k,y1.ownBlock=some k→w.heap.size≤k:=fun k hk=>by have:=(oY1.lt k hk).1;omega
  obtain ⟨ya,yp,e1,_⟩:=oY1.seg
  obtain ⟨yb,yq,e2,_⟩:=oY2.seg
  subst e1 e2
  have k0:w.heap.size<w1.heap.size:=by omega
  have k1:w.heap.size+1<w1.heap.size:=by omega
  have k2:w.heap.size+1+1<w1.heap.size:=by omega
  have k3:w.heap.size+1+1+1<w1.heap.size:=by omega
  have k4:w.heap.size+1+1+1+1<w1.heap.size:=by omega
  have r1:=own_lo (lo':=lo) oY1 (by omega)
  have r2:=own_lo (lo':=lo) oY2 (by omega)
  go_wp2_with fail;refine (T.out _ _ lo _ (by exact zO r1 oY1) (by exact zO r2 oY2)).mono ?_;rintro _ w2 ⟨rfl,p1,p2,hgw2⟩;have hsw2:=hgw2.size;(try (simp at hsw2));have zz:=And.intro (grHp hgw2 (b:=w1.heap.size) (by (try simp) <;> omega) (by assumption)) <| And.intro (grHp hgw2 (b:=w.heap.size+1+1+1+1) (by (try simp) <;> omega) (by assumption)) <| And.intro (grHp hgw2 (b:=w.heap.size+1+1+1) (by (try simp) <;> omega) (by assumption)) <| And.intro (grHp hgw2 (b:=w.heap.size+1+1) (by (try simp) <;> omega) (by assumption)) <| And.intro (grHp hgw2 (b:=w.heap.size+1) (by (try simp) <;> omega) (by assumption)) <| grHp hgw2 (b:=w.heap.size) (by (try simp) <;> omega) (by assumption);(first|simp [go_sem,z_wpppp,z_wppp,z_wpp,z_wp,z_w,l_w,l_wp,l_wpp,l_wppp,l_wpppp,k0,k1,k2,k3,k4] at zz|simp [go_sem] at zz|skip);(try clear z_w1 x_w1 f_w1 l_w1);(try clear z_wpppp x_wpppp f_wpppp l_wpppp);(try clear z_wppp x_wppp f_wppp l_wppp);(try clear z_wpp x_wpp f_wpp l_wpp);(try clear z_wp x_wp f_wp l_wp);(try clear z_w x_w f_w l_w);obtain ⟨z_w1,z_wpppp,z_wppp,z_wpp,z_wp,z_w⟩:=zz;obtain ⟨x_w1,f_w1,l_w1⟩:=bO z_w1;obtain ⟨x_wpppp,f_wpppp,l_wpppp⟩:=bO z_wpppp;obtain ⟨x_wppp,f_wppp,l_wppp⟩:=bO z_wppp;obtain ⟨x_wpp,f_wpp,l_wpp⟩:=bO z_wpp;obtain ⟨x_wp,f_wp,l_wp⟩:=bO z_wp;obtain ⟨x_w,f_w,l_w⟩:=bO z_w;have hGw2:=grB (w:=w) (by exact zB) hgw2;clear hgw2
  have hO2:Onl (Value.slice ya c.cells.length yp).ownBlock (Value.slice ya c.cells.length yp).ownBlock w w2:=onl1 hGw2
  have hB2:Below w.heap.size w w2:=bOnl (Below.refl _ _) hO2 lY1 lY1
  have hs2:=hB2.size
  have j0:w.heap.size<w2.heap.size:=by omega
  have j1:w.heap.size+1<w2.heap.size:=by omega
  have j2:w.heap.size+1+1<w2.heap.size:=by omega
  have j3:w.heap.size+1+1+1<w2.heap.size:=by omega
  have j4:w.heap.size+1+1+1+1<w2.heap.size:=by omega
  have s1:OCells w2 lo (.slice ya c.cells.length yp) (turnC c i y.seen st m).cells:=p1
  have s2:OInts w2 lo (.slice yb L.length yq) L:=p2
  go_wp2_with fail
  go_region
  all_goals go_wp2
  all_goals (refine bodyPost_ret (res_cct Tryz.results101 rfl (ldChan c (.slice ya c.cells.length yp) (.slice yb L.length yq) (by simp [go_sem, *] <;> rfl)) rfl (ldHand { y with mine:=m } (by simp [go_sem, *] <;> rfl))) rfl ⟨⟨_,_,rfl,?_,?_,fY1,fY2⟩,by exact zB⟩)
  all_goals first|(show OCells _ _ _ (turnC c i y.seen st m).cells;exact zO s1 oY1)|skip
  all_goals (show OInts _ _ _ L;exact zO s2 oY2)
def wtS (c:Ch) (st:Int) (y z:Ha):St :=
  if 80≤c.words.length then (c,resting 4 0,true) else
  if turnCB c y.cell y.seen st (c.words.length+1) then ({ turnC c y.cell y.seen st (c.words.length+1) with words:=c.words ++ [0] },{ y with mine:=c.words.length+1 },true) else (c,z,true)
set_option maxRecDepth 100000 in
set_option maxHeartbeats 2000000 in
theorem waited_any (c:Ch) (st:Int) (y z:Ha) (v1 v2:Value) (lo:Nat) (w:World) (h1:OCells w lo v1 c.cells) (h2:OInts w lo v2 c.words) (hc0:0≤y.cell) (hc1:y.cell<c.cells.length) (hc:chanOk c=true) (hlo:lo≤w.heap.size) :
    Calls Tryz.prog 101 #[.agg (cvals c v1 v2),.int .i64 st,.agg (hvals y),.agg (hvals z)] w fun r w'=>StepB w w' lo v1 v2 (wtS c st y z) r:=by
  by_cases hf:80≤c.words.length
  · rw [show wtS c st y z=(c,resting 4 0,true) by simp [wtS,hf]]
    exact waited_full c st y z v1 v2 lo w h1 h2 hc hf
  · cases ht:turnCB c y.cell y.seen st (c.words.length+1) with
    | true =>
      rw [show wtS c st y z=({ turnC c y.cell y.seen st (c.words.length+1) with words:=c.words ++ [0] },{ y with mine:=c.words.length+1 },true) by simp [wtS,hf,ht]]
      exact waited_yes c st y z v1 v2 lo w h1 h2 hc0 hc1 hc hlo hf _ rfl ht
    | false =>
      rw [show wtS c st y z=(c,z,true) by simp [wtS,hf,ht]]
      exact waited_no c st y z v1 v2 lo w h1 h2 hc0 hc1 hc hlo hf _ rfl ht
end Go.Proofs.YthfbnjfppjmgfaaGreat
set_option linter.unusedSimpArgs false
set_option linter.unusedVariables false
namespace Go.Proofs.YthfbnjfppjmgfaaGreat
open Go.RowKit
set_option linter.unusedSimpArgs false
attribute [local simp] bx_size
attribute [local go_sem ↓] zeroHand zeroChan toLHand toLChan toVHand toVChan storeHand storeChan storeHandC storeChanC
end Go.Proofs.YthfbnjfppjmgfaaGreat
set_option linter.unusedSimpArgs false
set_option linter.unusedVariables false
namespace Go.Proofs.YthfbnjfppjmgfaaGreat
open Go.RowKit
set_option linter.unusedSimpArgs false
attribute [local simp] bx_size
attribute [local go_sem ↓] zeroHand zeroChan toLHand toLChan toVHand toVChan storeHand storeChan storeHandC storeChanC
end Go.Proofs.YthfbnjfppjmgfaaGreat
