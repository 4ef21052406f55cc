/-
  The program's looking at a cell, on hands and channels that are kept whole; the lists are the call's own.
  The program's touch of sending, every case, and its step, on hands and channels that are kept whole; lists lie in memory and hold at most as much as memory can hold.
  What the document's functions of chapters 11 and 12 compute, as plain functions on numbers and lists; no condition.
  What steps leave right, on plain numbers and lists: right worlds stay right, and one who is stepped alone waits in at most one cell; no condition.
  Right worlds stay right, on plain numbers and lists; no condition.
  A waiter's word is had with a cell that was free and is not so any more: there are never more words than cells that are not free; on plain numbers and lists; no condition.
  A step touches one thing at most: a counter, a cell, or a word, but for a word that is new; on plain numbers and lists; no condition.
  The exact law of SendStep returns true, whatever it is called with, and turns nothing that was there; the lists hold at most as much as memory can hold.
  How the arguments of the laws are opened: numbers, structs of numbers, and slices of these; no condition but that they can be read.
-/
import Derived.Test.YtkiingmgpobgnaaP06
import Derived.BigRegion
import Derived.Deep.DeepCutAuto
import Derived.Deep.RegionHeld3
import Derived.Laws.EntriesVeiled
import Derived.Test.YtkiingmgpobgnaaP03
import Derived.Test.YtkiingmgpobgnaaP01
import Derived.Test.YtkiingmgpobgnaaP04
import Derived.Test.YtkiingmgpobgnaaRows
import Derived.ProofKit
import Derived.OpenShut
import Derived.ShutString
import Derived.ChangeOld
import Derived.Deep.Slices
import Derived.Deep.Fields
set_option linter.unusedSimpArgs false
set_option linter.unusedVariables false
namespace Go.Proofs.Ytkiingmgpobgnaa
open Go.RowKit
set_option linter.unusedSimpArgs false
attribute [local simp] bx_size
attribute [local go_sem ↓] zeroHand zeroChan toLHand toLChan toVHand toVChan storeHand storeChan storeHandC storeChanC
set_option maxRecDepth 100000 in
set_option maxHeartbeats 4000000 in
theorem sendLook_0 (c:Ch) (h:Ha) (v1 v2:Value) (lo:Nat) (w:World) (h1:OCells w lo v1 c.cells) (h2:OInts w lo v2 c.words) (hc0:0≤h.cell) (hc1:h.cell<c.cells.length) (hn:(cellAt c h.cell).s=0) :
    Calls Try.prog 82 #[.agg (cvals c v1 v2),.agg (hvals h)] w fun r w'=>StepO w w' lo v1 v2 (lk6 c h) r:=by
  obtain ⟨i,hci⟩:∃ i:Nat,h.cell=(i:Int):=⟨h.cell.toNat,by omega⟩
  have hi:i<c.cells.length:=by omega
  have hi0:(0:Int)≤(i:Int):=by omega
  have hi1:(i:Int)<(c.cells.length:Int):=by omega
  have hne:=h1.ne h2
  obtain ⟨a2,q2,rfl,_⟩:=h2.seg
  obtain ⟨g,q1,rfl,hlo1,hlt,hcell,hfr⟩:=h1.open1 hi
  have O1:=Lib.hid h1
  have O2:=Lib.hid h2
  have lg0:g<w.heap.size+1:=by omega
  have lg1:g<w.heap.size+1+1:=by omega
  have lg2:g<w.heap.size+1+1+1:=by omega
  have ng0:g≠w.heap.size:=by omega
  have ng1:g≠w.heap.size+1:=by omega
  have ng2:g≠w.heap.size+1+1:=by omega
  have ng3:g≠w.heap.size+1+1+1:=by omega
  have mg0:w.heap.size≠g:=by omega
  have mg1:w.heap.size+1≠g:=by omega
  have mg2:w.heap.size+1+1≠g:=by omega
  have mg3:w.heap.size+1+1+1≠g:=by omega
  have hx:Hid (cellAt c h.cell=c.cells.getD i ⟨0,0,0⟩):=by simp [cellAt,Hid,hci]
  have c0:=hcell 0 (by omega)
  have c1:=hcell 1 (by omega)
  have c2:=hcell 2 (by omega)
  simp only [C3.val,Nat.add_zero] at c0 c1 c2
  have ex:=hx.out
  rw [ex] at hn
  generalize c.cells.getD i ⟨0,0,0⟩=x at *
  obtain ⟨s,e,t⟩:=x
  simp only at hn c0 c1 c2
  subst hn
  have hR:Hid (lk6 c h=(c,{ seenAs h ⟨0,e,t⟩ with pos:=4 },true)):=by simp [Hid,lk6,look6_at ex 0 rfl]
  rw [hR.out]
  clear hcell hx h1 h2 hc0 hc1 ex hR
  have o1:=O1.out
  have o2:=O2.out
  have a1:Nat:=0
  clear a1
  have HCI:=Lib.hid hci
  clear hci
  go_enter Try.func82,Try.ntmps82
  go_upto_region 1 with fail
  refine wp_region_inv [[],[],[1],[],[3],[1,2,3,4],[1,2,3,4,5],[0,1,2,3,4,5,6],[0,1,2,3,4,5,6,7]] [7,8,9,10,11,12,13,14] (fun l s wx=>(Below w.heap.size w wx)∧(hp wx w.heap.size=some (.cells (cvals c (.slice (some ⟨g,0,none⟩) c.cells.length q1) (.slice a2 c.words.length q2)) 33))∧(hp wx (w.heap.size+1)=some (.cells (cond (l 8) (hvals { h with seen:=0,wait:=t }) (hvals h)) 36))∧(hp wx (w.heap.size+1+1)=some (.cells (cvals Ch.zero (.slice none 0 0) (.slice none 0 0)) 33))∧(hp wx (w.heap.size+1+1+1)=some (.cells (hvals Ha.zero) 36))∧(l 0=true→s 7=.agg (hvals h))∧(l 1=true→s 8=.pointer (some ⟨w.heap.size,4,none⟩))∧(l 2=true→s 9=.slice (some ⟨g,0,none⟩) c.cells.length q1)∧(l 3=true→s 10=.pointer (some ⟨w.heap.size+1,3,none⟩))∧(l 4=true→s 11=.int .i64 i)∧(l 5=true→s 12=.pointer (some ⟨g,i*3,none⟩))∧(l 6=true→s 13=.agg #[.int .i64 0,.int .i64 e,.int .i64 t])∧(l 7=true→s 14=.agg (hvals { h with seen:=0,wait:=t }))) (by kernel_rfl) (by kernel_rfl) (by kernel_rfl) (fun s=>by (simp only [fill,fillA,List.setIfInBounds_toArray,List.set_cons_zero,List.set_cons_succ];rfl)) (fun s=>⟨by exact zB,by simp [go_sem],by simp [go_sem],by simp [go_sem],by simp [go_sem],fun h=>absurd h Bool.false_ne_true,fun h=>absurd h Bool.false_ne_true,fun h=>absurd h Bool.false_ne_true,fun h=>absurd h Bool.false_ne_true,fun h=>absurd h Bool.false_ne_true,fun h=>absurd h Bool.false_ne_true,fun h=>absurd h Bool.false_ne_true,fun h=>absurd h Bool.false_ne_true⟩) ?_ ?_
  refine ⟨?_,?_,?_,?_,?_,?_,?_,?_,?_,trivial⟩;rotate_left 9
  · intro l s w0 hall hf
    have hCw0:=hf.1
    have z_w:=hf.2.1
    have z_wp:=hf.2.2.1
    have z_wpp:=hf.2.2.2.1
    have z_wppp:=hf.2.2.2.2.1
    rw [hall 8 rfl] at z_wp
    dsimp only [cond] at z_wp
    clear hf hall
    obtain ⟨x_w,f_w,l_w⟩:=bO z_w
    obtain ⟨x_wp,f_wp,l_wp⟩:=bO z_wp
    obtain ⟨x_wpp,f_wpp,l_wpp⟩:=bO z_wpp
    obtain ⟨x_wppp,f_wppp,l_wppp⟩:=bO z_wppp
    have p1:=own_below o1 hCw0
    have p2:=own_below o2 hCw0
    have hs0:=hCw0.size
    have hs4:w.heap.size+1+1+1+1≤w0.heap.size:=l_wppp
    go_wp2_with fail
    go_region_held3 (fun w'=>hp w' w.heap.size=some (.cells (cvals c (.slice (some ⟨g,0,none⟩) c.cells.length q1) (.slice a2 c.words.length q2)) 33)∧hp w' (w.heap.size+1)=some (.cells (hvals { h with seen:=0,wait:=t }) 36))
      (first|(simp [*,go_sem]))
      (first|((go_at_call 89;refine bHit w (by exact zB) fun bb=>?_;refine bHit w0 (by exact zB) fun bk=>?_;refine (moved_any _ _ _).mono ?_;rintro _ w1 ⟨rfl,hbw1⟩;have hCw1:Below w.heap.size w w1:=bT bb hbw1;have hsw1:=hbw1.size;(try simp at hsw1);have zz:=q4 hbw1 (b:=w.heap.size);(first|simp [go_sem,z_wppp,z_wpp,z_wp,z_w,l_w,l_wp,l_wpp,l_wppp] at zz|simp [go_sem] at zz|skip);(try clear z_wppp x_wppp f_wppp l_wppp);(try clear z_wpp x_wpp f_wpp l_wpp);(try clear z_wp x_wp f_wp l_wp);(try clear z_w x_w f_w l_w);obtain ⟨z_wppp,z_wpp,z_wp,z_w⟩:=zz;obtain ⟨x_wppp,f_wppp,l_wppp⟩:=bO z_wppp;obtain ⟨x_wpp,f_wpp,l_wpp⟩:=bO z_wpp;obtain ⟨x_wp,f_wp,l_wp⟩:=bO z_wp;obtain ⟨x_w,f_w,l_w⟩:=bO z_w;have hKw1:Below w0.heap.size w0 w1:=bT bk hbw1;clear hbw1 bb bk);have p1:=own_below p1 hKw1;have p2:=own_below p2 hKw1))
    go_wp2
    refine bodyPost_ret (res_cct Try.results82 rfl (ldChan c (.slice (some ⟨g,0,none⟩) c.cells.length q1) (.slice a2 c.words.length q2) (by simp [go_sem, *] <;> rfl)) rfl (ldHand { seenAs h ⟨0,e,t⟩ with pos:=4 } (by simp [go_sem, *] <;> first|rfl|simp [seenAs,anew,hci]))) rfl ⟨⟨_,_,rfl,?_,?_,fresh_refl _ _,fresh_refl _ _⟩,onlB (by exact zB)⟩
    · exact zO p1 o1
    · exact zO p2 o2
  · intro l s wx hl hd hn hf0 K hK
    have hf:=Lib.hid hf0
    clear hf0
    have hB:=hf.out.1
    have zh:=hf.out.2.2.1
    rw [show l 8=false from hn 8 rfl] at zh
    dsimp only [cond] at zh
    have zc:=hf.out.2.1
    go_simp
    refine hK.out (upd s 7 (.agg (hvals h))) _ _ (by simp [upd_at] <;> rfl) ⟨hf.out.1,hf.out.2.1,hf.out.2.2.1,hf.out.2.2.2.1,hf.out.2.2.2.2.1,fun _=>rfl,fun h=>(hf.out.2.2.2.2.2.2.1 h),fun h=>(hf.out.2.2.2.2.2.2.2.1 h),fun h=>(hf.out.2.2.2.2.2.2.2.2.1 h),fun h=>(hf.out.2.2.2.2.2.2.2.2.2.1 h),fun h=>(hf.out.2.2.2.2.2.2.2.2.2.2.1 h),fun h=>(hf.out.2.2.2.2.2.2.2.2.2.2.2.1 h),fun h=>absurd h (by rw [show upd l 0 true 7=l 7 from rfl,hn 7 rfl];exact Bool.false_ne_true)⟩
  · intro l s wx hl hd hn hf0 K hK
    have hf:=Lib.hid hf0
    clear hf0
    have hB:=hf.out.1
    go_simp
    refine hK.out (upd s 8 (.pointer (some ⟨w.heap.size,4,none⟩))) _ _ (by simp [upd_at] <;> rfl) ⟨hf.out.1,hf.out.2.1,hf.out.2.2.1,hf.out.2.2.2.1,hf.out.2.2.2.2.1,fun h=>(hf.out.2.2.2.2.2.1 h),fun _=>rfl,fun h=>absurd h (by rw [show upd l 1 true 2=l 2 from rfl,hn 2 rfl];exact Bool.false_ne_true),fun h=>(hf.out.2.2.2.2.2.2.2.2.1 h),fun h=>(hf.out.2.2.2.2.2.2.2.2.2.1 h),fun h=>absurd h (by rw [show upd l 1 true 5=l 5 from rfl,hn 5 rfl];exact Bool.false_ne_true),fun h=>absurd h (by rw [show upd l 1 true 6=l 6 from rfl,hn 6 rfl];exact Bool.false_ne_true),fun h=>absurd h (by rw [show upd l 1 true 7=l 7 from rfl,hn 7 rfl];exact Bool.false_ne_true)⟩
  · intro l s wx hl hd hn hf0 K hK
    have hf:=Lib.hid hf0
    clear hf0
    have e1:=(hf.out.2.2.2.2.2.2.1 (hd 1 rfl))
    have hB:=hf.out.1
    have zh:=hf.out.2.2.1
    rw [show l 8=false from hn 8 rfl] at zh
    dsimp only [cond] at zh
    have zc:=hf.out.2.1
    have q:=(bO zc).1 4
    go_simp
    refine hK.out (upd s 9 (.slice (some ⟨g,0,none⟩) c.cells.length q1)) _ _ (by simp [upd_at,e1] <;> rfl) ⟨hf.out.1,hf.out.2.1,hf.out.2.2.1,hf.out.2.2.2.1,hf.out.2.2.2.2.1,fun h=>(hf.out.2.2.2.2.2.1 h),fun h=>(hf.out.2.2.2.2.2.2.1 h),fun _=>rfl,fun h=>(hf.out.2.2.2.2.2.2.2.2.1 h),fun h=>(hf.out.2.2.2.2.2.2.2.2.2.1 h),fun h=>absurd h (by rw [show upd l 2 true 5=l 5 from rfl,hn 5 rfl];exact Bool.false_ne_true),fun h=>absurd h (by rw [show upd l 2 true 6=l 6 from rfl,hn 6 rfl];exact Bool.false_ne_true),fun h=>absurd h (by rw [show upd l 2 true 7=l 7 from rfl,hn 7 rfl];exact Bool.false_ne_true)⟩
  · intro l s wx hl hd hn hf0 K hK
    have hf:=Lib.hid hf0
    clear hf0
    have hB:=hf.out.1
    go_simp
    refine hK.out (upd s 10 (.pointer (some ⟨w.heap.size+1,3,none⟩))) _ _ (by simp [upd_at] <;> rfl) ⟨hf.out.1,hf.out.2.1,hf.out.2.2.1,hf.out.2.2.2.1,hf.out.2.2.2.2.1,fun h=>(hf.out.2.2.2.2.2.1 h),fun h=>(hf.out.2.2.2.2.2.2.1 h),fun h=>(hf.out.2.2.2.2.2.2.2.1 h),fun _=>rfl,fun h=>absurd h (by rw [show upd l 3 true 4=l 4 from rfl,hn 4 rfl];exact Bool.false_ne_true),fun h=>absurd h (by rw [show upd l 3 true 5=l 5 from rfl,hn 5 rfl];exact Bool.false_ne_true),fun h=>absurd h (by rw [show upd l 3 true 6=l 6 from rfl,hn 6 rfl];exact Bool.false_ne_true),fun h=>absurd h (by rw [show upd l 3 true 7=l 7 from rfl,hn 7 rfl];exact Bool.false_ne_true)⟩
  · intro l s wx hl hd hn hf0 K hK
    have hf:=Lib.hid hf0
    clear hf0
    have e3:=(hf.out.2.2.2.2.2.2.2.2.1 (hd 3 rfl))
    have hB:=hf.out.1
    have zh:=hf.out.2.2.1
    rw [show l 8=false from hn 8 rfl] at zh
    dsimp only [cond] at zh
    have zc:=hf.out.2.1
    have q:wx.cell? ⟨w.heap.size+1,3,none⟩=some (.int .i64 i):=by rw [← HCI.out];exact (bO zh).1 3
    go_simp
    refine hK.out (upd s 11 (.int .i64 i)) _ _ (by simp [upd_at,e3] <;> rfl) ⟨hf.out.1,hf.out.2.1,hf.out.2.2.1,hf.out.2.2.2.1,hf.out.2.2.2.2.1,fun h=>(hf.out.2.2.2.2.2.1 h),fun h=>(hf.out.2.2.2.2.2.2.1 h),fun h=>(hf.out.2.2.2.2.2.2.2.1 h),fun h=>(hf.out.2.2.2.2.2.2.2.2.1 h),fun _=>rfl,fun h=>absurd h (by rw [show upd l 4 true 5=l 5 from rfl,hn 5 rfl];exact Bool.false_ne_true),fun h=>absurd h (by rw [show upd l 4 true 6=l 6 from rfl,hn 6 rfl];exact Bool.false_ne_true),fun h=>absurd h (by rw [show upd l 4 true 7=l 7 from rfl,hn 7 rfl];exact Bool.false_ne_true)⟩
  · intro l s wx hl hd hn hf0 K hK
    have hf:=Lib.hid hf0
    clear hf0
    have e2:=(hf.out.2.2.2.2.2.2.2.1 (hd 2 rfl))
    have e4:=(hf.out.2.2.2.2.2.2.2.2.2.1 (hd 4 rfl))
    have hB:=hf.out.1
    go_simp
    refine hK.out (upd s 12 (.pointer (some ⟨g,i*3,none⟩))) _ _ (by simp [upd_at,e2,e4] <;> rfl) ⟨hf.out.1,hf.out.2.1,hf.out.2.2.1,hf.out.2.2.2.1,hf.out.2.2.2.2.1,fun h=>(hf.out.2.2.2.2.2.1 h),fun h=>(hf.out.2.2.2.2.2.2.1 h),fun h=>(hf.out.2.2.2.2.2.2.2.1 h),fun h=>(hf.out.2.2.2.2.2.2.2.2.1 h),fun h=>(hf.out.2.2.2.2.2.2.2.2.2.1 h),fun _=>rfl,fun h=>absurd h (by rw [show upd l 5 true 6=l 6 from rfl,hn 6 rfl];exact Bool.false_ne_true),fun h=>absurd h (by rw [show upd l 5 true 7=l 7 from rfl,hn 7 rfl];exact Bool.false_ne_true)⟩
  · intro l s wx hl hd hn hf0 K hK
    have hf:=Lib.hid hf0
    clear hf0
    have e5:=(hf.out.2.2.2.2.2.2.2.2.2.2.1 (hd 5 rfl))
    have hB:=hf.out.1
    have y0:=(hB.cell (p:=⟨g,i*3,none⟩) hlt).trans c0
    have y1:=(hB.cell (p:=⟨g,i*3+1,none⟩) hlt).trans c1
    have y2:=(hB.cell (p:=⟨g,i*3+2,none⟩) hlt).trans c2
    go_simp
    refine hK.out (upd s 13 (.agg #[.int .i64 0,.int .i64 e,.int .i64 t])) _ _ (by simp [upd_at,e5] <;> rfl) ⟨hf.out.1,hf.out.2.1,hf.out.2.2.1,hf.out.2.2.2.1,hf.out.2.2.2.2.1,fun h=>(hf.out.2.2.2.2.2.1 h),fun h=>(hf.out.2.2.2.2.2.2.1 h),fun h=>(hf.out.2.2.2.2.2.2.2.1 h),fun h=>(hf.out.2.2.2.2.2.2.2.2.1 h),fun h=>(hf.out.2.2.2.2.2.2.2.2.2.1 h),fun h=>(hf.out.2.2.2.2.2.2.2.2.2.2.1 h),fun _=>rfl,fun h=>absurd h (by rw [show upd l 6 true 7=l 7 from rfl,hn 7 rfl];exact Bool.false_ne_true)⟩
  · intro l s wx hl hd hn hf0 K hK
    have hf:=Lib.hid hf0
    clear hf0
    have e0:=(hf.out.2.2.2.2.2.1 (hd 0 rfl))
    have e6:=(hf.out.2.2.2.2.2.2.2.2.2.2.2.1 (hd 6 rfl))
    have hB:=hf.out.1
    go_simp
    go_at_call 95
    refine (saw_any h 0 e t _).mono ?_
    rintro _ wy ⟨rfl,hE⟩
    refine hK.out (upd s 14 (.agg (hvals { h with seen:=0,wait:=t }))) _ _ (by simp [upd_at,e0,e6] <;> rfl) ⟨bT hf.out.1 hE,hpS hf.out.2.1 hE,hpS hf.out.2.2.1 hE,hpS hf.out.2.2.2.1 hE,hpS hf.out.2.2.2.2.1 hE,fun h=>(hf.out.2.2.2.2.2.1 h),fun h=>(hf.out.2.2.2.2.2.2.1 h),fun h=>(hf.out.2.2.2.2.2.2.2.1 h),fun h=>(hf.out.2.2.2.2.2.2.2.2.1 h),fun h=>(hf.out.2.2.2.2.2.2.2.2.2.1 h),fun h=>(hf.out.2.2.2.2.2.2.2.2.2.2.1 h),fun h=>(hf.out.2.2.2.2.2.2.2.2.2.2.2.1 h),fun _=>rfl⟩
  · intro l s wx hl hd hn hf0 K hK
    have hf:=Lib.hid hf0
    clear hf0
    have e7:=(hf.out.2.2.2.2.2.2.2.2.2.2.2.2 (hd 7 rfl))
    have hB:=hf.out.1
    have zh:=hf.out.2.2.1
    rw [hl] at zh
    dsimp only [cond] at zh
    have zc:=hf.out.2.1
    go_simp
    refine hK.out (s) _ _ (by simp [upd_at,e7] <;> rfl) ⟨bBx hB (by omega),(bx_heap_ne (by omega)).trans zc,hp_set zh,(bx_heap_ne (by omega)).trans hf.out.2.2.2.1,(bx_heap_ne (by omega)).trans hf.out.2.2.2.2.1,fun h=>(hf.out.2.2.2.2.2.1 h),fun h=>(hf.out.2.2.2.2.2.2.1 h),fun h=>(hf.out.2.2.2.2.2.2.2.1 h),fun h=>(hf.out.2.2.2.2.2.2.2.2.1 h),fun h=>(hf.out.2.2.2.2.2.2.2.2.2.1 h),fun h=>(hf.out.2.2.2.2.2.2.2.2.2.2.1 h),fun h=>(hf.out.2.2.2.2.2.2.2.2.2.2.2.1 h),fun h=>(hf.out.2.2.2.2.2.2.2.2.2.2.2.2 h)⟩
set_option maxRecDepth 100000 in
set_option maxHeartbeats 4000000 in
theorem sendLook_1 (c:Ch) (h:Ha) (v1 v2:Value) (lo:Nat) (w:World) (h1:OCells w lo v1 c.cells) (h2:OInts w lo v2 c.words) (hc0:0≤h.cell) (hc1:h.cell<c.cells.length) (hn:(cellAt c h.cell).s=1) :
    Calls Try.prog 82 #[.agg (cvals c v1 v2),.agg (hvals h)] w fun r w'=>StepO w w' lo v1 v2 (lk6 c h) r:=by
  obtain ⟨i,hci⟩:∃ i:Nat,h.cell=(i:Int):=⟨h.cell.toNat,by omega⟩
  have hi:i<c.cells.length:=by omega
  have hi0:(0:Int)≤(i:Int):=by omega
  have hi1:(i:Int)<(c.cells.length:Int):=by omega
  have hne:=h1.ne h2
  obtain ⟨a2,q2,rfl,_⟩:=h2.seg
  obtain ⟨g,q1,rfl,hlo1,hlt,hcell,hfr⟩:=h1.open1 hi
  have O1:=Lib.hid h1
  have O2:=Lib.hid h2
  have lg0:g<w.heap.size+1:=by omega
  have lg1:g<w.heap.size+1+1:=by omega
  have lg2:g<w.heap.size+1+1+1:=by omega
  have ng0:g≠w.heap.size:=by omega
  have ng1:g≠w.heap.size+1:=by omega
  have ng2:g≠w.heap.size+1+1:=by omega
  have ng3:g≠w.heap.size+1+1+1:=by omega
  have mg0:w.heap.size≠g:=by omega
  have mg1:w.heap.size+1≠g:=by omega
  have mg2:w.heap.size+1+1≠g:=by omega
  have mg3:w.heap.size+1+1+1≠g:=by omega
  have hx:Hid (cellAt c h.cell=c.cells.getD i ⟨0,0,0⟩):=by simp [cellAt,Hid,hci]
  have c0:=hcell 0 (by omega)
  have c1:=hcell 1 (by omega)
  have c2:=hcell 2 (by omega)
  simp only [C3.val,Nat.add_zero] at c0 c1 c2
  have ex:=hx.out
  rw [ex] at hn
  generalize c.cells.getD i ⟨0,0,0⟩=x at *
  obtain ⟨s,e,t⟩:=x
  simp only at hn c0 c1 c2
  subst hn
  have hR:Hid (lk6 c h=(c,{ seenAs h ⟨1,e,t⟩ with pos:=6 },true)):=by simp [Hid,lk6,look6_at ex 1 rfl]
  rw [hR.out]
  clear hcell hx h1 h2 hc0 hc1 ex hR
  have o1:=O1.out
  have o2:=O2.out
  have a1:Nat:=0
  clear a1
  have HCI:=Lib.hid hci
  clear hci
  go_enter Try.func82,Try.ntmps82
  go_upto_region 1 with fail
  refine wp_region_inv [[],[],[1],[],[3],[1,2,3,4],[1,2,3,4,5],[0,1,2,3,4,5,6],[0,1,2,3,4,5,6,7]] [7,8,9,10,11,12,13,14] (fun l s wx=>(Below w.heap.size w wx)∧(hp wx w.heap.size=some (.cells (cvals c (.slice (some ⟨g,0,none⟩) c.cells.length q1) (.slice a2 c.words.length q2)) 33))∧(hp wx (w.heap.size+1)=some (.cells (cond (l 8) (hvals { h with seen:=1,wait:=t }) (hvals h)) 36))∧(hp wx (w.heap.size+1+1)=some (.cells (cvals Ch.zero (.slice none 0 0) (.slice none 0 0)) 33))∧(hp wx (w.heap.size+1+1+1)=some (.cells (hvals Ha.zero) 36))∧(l 0=true→s 7=.agg (hvals h))∧(l 1=true→s 8=.pointer (some ⟨w.heap.size,4,none⟩))∧(l 2=true→s 9=.slice (some ⟨g,0,none⟩) c.cells.length q1)∧(l 3=true→s 10=.pointer (some ⟨w.heap.size+1,3,none⟩))∧(l 4=true→s 11=.int .i64 i)∧(l 5=true→s 12=.pointer (some ⟨g,i*3,none⟩))∧(l 6=true→s 13=.agg #[.int .i64 1,.int .i64 e,.int .i64 t])∧(l 7=true→s 14=.agg (hvals { h with seen:=1,wait:=t }))) (by kernel_rfl) (by kernel_rfl) (by kernel_rfl) (fun s=>by (simp only [fill,fillA,List.setIfInBounds_toArray,List.set_cons_zero,List.set_cons_succ];rfl)) (fun s=>⟨by exact zB,by simp [go_sem],by simp [go_sem],by simp [go_sem],by simp [go_sem],fun h=>absurd h Bool.false_ne_true,fun h=>absurd h Bool.false_ne_true,fun h=>absurd h Bool.false_ne_true,fun h=>absurd h Bool.false_ne_true,fun h=>absurd h Bool.false_ne_true,fun h=>absurd h Bool.false_ne_true,fun h=>absurd h Bool.false_ne_true,fun h=>absurd h Bool.false_ne_true⟩) ?_ ?_
  refine ⟨?_,?_,?_,?_,?_,?_,?_,?_,?_,trivial⟩;rotate_left 9
  · intro l s w0 hall hf
    have hCw0:=hf.1
    have z_w:=hf.2.1
    have z_wp:=hf.2.2.1
    have z_wpp:=hf.2.2.2.1
    have z_wppp:=hf.2.2.2.2.1
    rw [hall 8 rfl] at z_wp
    dsimp only [cond] at z_wp
    clear hf hall
    obtain ⟨x_w,f_w,l_w⟩:=bO z_w
    obtain ⟨x_wp,f_wp,l_wp⟩:=bO z_wp
    obtain ⟨x_wpp,f_wpp,l_wpp⟩:=bO z_wpp
    obtain ⟨x_wppp,f_wppp,l_wppp⟩:=bO z_wppp
    have p1:=own_below o1 hCw0
    have p2:=own_below o2 hCw0
    have hs0:=hCw0.size
    have hs4:w.heap.size+1+1+1+1≤w0.heap.size:=l_wppp
    go_wp2_with fail
    go_region_held3 (fun w'=>hp w' w.heap.size=some (.cells (cvals c (.slice (some ⟨g,0,none⟩) c.cells.length q1) (.slice a2 c.words.length q2)) 33)∧hp w' (w.heap.size+1)=some (.cells (hvals { h with seen:=1,wait:=t }) 36))
      (first|(simp [*,go_sem]))
      (first|((go_at_call 89;refine bHit w (by exact zB) fun bb=>?_;refine bHit w0 (by exact zB) fun bk=>?_;refine (moved_any _ _ _).mono ?_;rintro _ w1 ⟨rfl,hbw1⟩;have hCw1:Below w.heap.size w w1:=bT bb hbw1;have hsw1:=hbw1.size;(try simp at hsw1);have zz:=q4 hbw1 (b:=w.heap.size);(first|simp [go_sem,z_wppp,z_wpp,z_wp,z_w,l_w,l_wp,l_wpp,l_wppp] at zz|simp [go_sem] at zz|skip);(try clear z_wppp x_wppp f_wppp l_wppp);(try clear z_wpp x_wpp f_wpp l_wpp);(try clear z_wp x_wp f_wp l_wp);(try clear z_w x_w f_w l_w);obtain ⟨z_wppp,z_wpp,z_wp,z_w⟩:=zz;obtain ⟨x_wppp,f_wppp,l_wppp⟩:=bO z_wppp;obtain ⟨x_wpp,f_wpp,l_wpp⟩:=bO z_wpp;obtain ⟨x_wp,f_wp,l_wp⟩:=bO z_wp;obtain ⟨x_w,f_w,l_w⟩:=bO z_w;have hKw1:Below w0.heap.size w0 w1:=bT bk hbw1;clear hbw1 bb bk);have p1:=own_below p1 hKw1;have p2:=own_below p2 hKw1))
    go_wp2
    refine bodyPost_ret (res_cct Try.results82 rfl (ldChan c (.slice (some ⟨g,0,none⟩) c.cells.length q1) (.slice a2 c.words.length q2) (by simp [go_sem, *] <;> rfl)) rfl (ldHand { seenAs h ⟨1,e,t⟩ with pos:=6 } (by simp [go_sem, *] <;> first|rfl|simp [seenAs,anew,hci]))) rfl ⟨⟨_,_,rfl,?_,?_,fresh_refl _ _,fresh_refl _ _⟩,onlB (by exact zB)⟩
    · exact zO p1 o1
    · exact zO p2 o2
  · intro l s wx hl hd hn hf0 K hK
    have hf:=Lib.hid hf0
    clear hf0
    have hB:=hf.out.1
    have zh:=hf.out.2.2.1
    rw [show l 8=false from hn 8 rfl] at zh
    dsimp only [cond] at zh
    have zc:=hf.out.2.1
    go_simp
    refine hK.out (upd s 7 (.agg (hvals h))) _ _ (by simp [upd_at] <;> rfl) ⟨hf.out.1,hf.out.2.1,hf.out.2.2.1,hf.out.2.2.2.1,hf.out.2.2.2.2.1,fun _=>rfl,fun h=>(hf.out.2.2.2.2.2.2.1 h),fun h=>(hf.out.2.2.2.2.2.2.2.1 h),fun h=>(hf.out.2.2.2.2.2.2.2.2.1 h),fun h=>(hf.out.2.2.2.2.2.2.2.2.2.1 h),fun h=>(hf.out.2.2.2.2.2.2.2.2.2.2.1 h),fun h=>(hf.out.2.2.2.2.2.2.2.2.2.2.2.1 h),fun h=>absurd h (by rw [show upd l 0 true 7=l 7 from rfl,hn 7 rfl];exact Bool.false_ne_true)⟩
  · intro l s wx hl hd hn hf0 K hK
    have hf:=Lib.hid hf0
    clear hf0
    have hB:=hf.out.1
    go_simp
    refine hK.out (upd s 8 (.pointer (some ⟨w.heap.size,4,none⟩))) _ _ (by simp [upd_at] <;> rfl) ⟨hf.out.1,hf.out.2.1,hf.out.2.2.1,hf.out.2.2.2.1,hf.out.2.2.2.2.1,fun h=>(hf.out.2.2.2.2.2.1 h),fun _=>rfl,fun h=>absurd h (by rw [show upd l 1 true 2=l 2 from rfl,hn 2 rfl];exact Bool.false_ne_true),fun h=>(hf.out.2.2.2.2.2.2.2.2.1 h),fun h=>(hf.out.2.2.2.2.2.2.2.2.2.1 h),fun h=>absurd h (by rw [show upd l 1 true 5=l 5 from rfl,hn 5 rfl];exact Bool.false_ne_true),fun h=>absurd h (by rw [show upd l 1 true 6=l 6 from rfl,hn 6 rfl];exact Bool.false_ne_true),fun h=>absurd h (by rw [show upd l 1 true 7=l 7 from rfl,hn 7 rfl];exact Bool.false_ne_true)⟩
  · intro l s wx hl hd hn hf0 K hK
    have hf:=Lib.hid hf0
    clear hf0
    have e1:=(hf.out.2.2.2.2.2.2.1 (hd 1 rfl))
    have hB:=hf.out.1
    have zh:=hf.out.2.2.1
    rw [show l 8=false from hn 8 rfl] at zh
    dsimp only [cond] at zh
    have zc:=hf.out.2.1
    have q:=(bO zc).1 4
    go_simp
    refine hK.out (upd s 9 (.slice (some ⟨g,0,none⟩) c.cells.length q1)) _ _ (by simp [upd_at,e1] <;> rfl) ⟨hf.out.1,hf.out.2.1,hf.out.2.2.1,hf.out.2.2.2.1,hf.out.2.2.2.2.1,fun h=>(hf.out.2.2.2.2.2.1 h),fun h=>(hf.out.2.2.2.2.2.2.1 h),fun _=>rfl,fun h=>(hf.out.2.2.2.2.2.2.2.2.1 h),fun h=>(hf.out.2.2.2.2.2.2.2.2.2.1 h),fun h=>absurd h (by rw [show upd l 2 true 5=l 5 from rfl,hn 5 rfl];exact Bool.false_ne_true),fun h=>absurd h (by rw [show upd l 2 true 6=l 6 from rfl,hn 6 rfl];exact Bool.false_ne_true),fun h=>absurd h (by rw [show upd l 2 true 7=l 7 from rfl,hn 7 rfl];exact Bool.false_ne_true)⟩
  · intro l s wx hl hd hn hf0 K hK
    have hf:=Lib.hid hf0
    clear hf0
    have hB:=hf.out.1
    go_simp
    refine hK.out (upd s 10 (.pointer (some ⟨w.heap.size+1,3,none⟩))) _ _ (by simp [upd_at] <;> rfl) ⟨hf.out.1,hf.out.2.1,hf.out.2.2.1,hf.out.2.2.2.1,hf.out.2.2.2.2.1,fun h=>(hf.out.2.2.2.2.2.1 h),fun h=>(hf.out.2.2.2.2.2.2.1 h),fun h=>(hf.out.2.2.2.2.2.2.2.1 h),fun _=>rfl,fun h=>absurd h (by rw [show upd l 3 true 4=l 4 from rfl,hn 4 rfl];exact Bool.false_ne_true),fun h=>absurd h (by rw [show upd l 3 true 5=l 5 from rfl,hn 5 rfl];exact Bool.false_ne_true),fun h=>absurd h (by rw [show upd l 3 true 6=l 6 from rfl,hn 6 rfl];exact Bool.false_ne_true),fun h=>absurd h (by rw [show upd l 3 true 7=l 7 from rfl,hn 7 rfl];exact Bool.false_ne_true)⟩
  · intro l s wx hl hd hn hf0 K hK
    have hf:=Lib.hid hf0
    clear hf0
    have e3:=(hf.out.2.2.2.2.2.2.2.2.1 (hd 3 rfl))
    have hB:=hf.out.1
    have zh:=hf.out.2.2.1
    rw [show l 8=false from hn 8 rfl] at zh
    dsimp only [cond] at zh
    have zc:=hf.out.2.1
    have q:wx.cell? ⟨w.heap.size+1,3,none⟩=some (.int .i64 i):=by rw [← HCI.out];exact (bO zh).1 3
    go_simp
    refine hK.out (upd s 11 (.int .i64 i)) _ _ (by simp [upd_at,e3] <;> rfl) ⟨hf.out.1,hf.out.2.1,hf.out.2.2.1,hf.out.2.2.2.1,hf.out.2.2.2.2.1,fun h=>(hf.out.2.2.2.2.2.1 h),fun h=>(hf.out.2.2.2.2.2.2.1 h),fun h=>(hf.out.2.2.2.2.2.2.2.1 h),fun h=>(hf.out.2.2.2.2.2.2.2.2.1 h),fun _=>rfl,fun h=>absurd h (by rw [show upd l 4 true 5=l 5 from rfl,hn 5 rfl];exact Bool.false_ne_true),fun h=>absurd h (by rw [show upd l 4 true 6=l 6 from rfl,hn 6 rfl];exact Bool.false_ne_true),fun h=>absurd h (by rw [show upd l 4 true 7=l 7 from rfl,hn 7 rfl];exact Bool.false_ne_true)⟩
  · intro l s wx hl hd hn hf0 K hK
    have hf:=Lib.hid hf0
    clear hf0
    have e2:=(hf.out.2.2.2.2.2.2.2.1 (hd 2 rfl))
    have e4:=(hf.out.2.2.2.2.2.2.2.2.2.1 (hd 4 rfl))
    have hB:=hf.out.1
    go_simp
    refine hK.out (upd s 12 (.pointer (some ⟨g,i*3,none⟩))) _ _ (by simp [upd_at,e2,e4] <;> rfl) ⟨hf.out.1,hf.out.2.1,hf.out.2.2.1,hf.out.2.2.2.1,hf.out.2.2.2.2.1,fun h=>(hf.out.2.2.2.2.2.1 h),fun h=>(hf.out.2.2.2.2.2.2.1 h),fun h=>(hf.out.2.2.2.2.2.2.2.1 h),fun h=>(hf.out.2.2.2.2.2.2.2.2.1 h),fun h=>(hf.out.2.2.2.2.2.2.2.2.2.1 h),fun _=>rfl,fun h=>absurd h (by rw [show upd l 5 true 6=l 6 from rfl,hn 6 rfl];exact Bool.false_ne_true),fun h=>absurd h (by rw [show upd l 5 true 7=l 7 from rfl,hn 7 rfl];exact Bool.false_ne_true)⟩
  · intro l s wx hl hd hn hf0 K hK
    have hf:=Lib.hid hf0
    clear hf0
    have e5:=(hf.out.2.2.2.2.2.2.2.2.2.2.1 (hd 5 rfl))
    have hB:=hf.out.1
    have y0:=(hB.cell (p:=⟨g,i*3,none⟩) hlt).trans c0
    have y1:=(hB.cell (p:=⟨g,i*3+1,none⟩) hlt).trans c1
    have y2:=(hB.cell (p:=⟨g,i*3+2,none⟩) hlt).trans c2
    go_simp
    refine hK.out (upd s 13 (.agg #[.int .i64 1,.int .i64 e,.int .i64 t])) _ _ (by simp [upd_at,e5] <;> rfl) ⟨hf.out.1,hf.out.2.1,hf.out.2.2.1,hf.out.2.2.2.1,hf.out.2.2.2.2.1,fun h=>(hf.out.2.2.2.2.2.1 h),fun h=>(hf.out.2.2.2.2.2.2.1 h),fun h=>(hf.out.2.2.2.2.2.2.2.1 h),fun h=>(hf.out.2.2.2.2.2.2.2.2.1 h),fun h=>(hf.out.2.2.2.2.2.2.2.2.2.1 h),fun h=>(hf.out.2.2.2.2.2.2.2.2.2.2.1 h),fun _=>rfl,fun h=>absurd h (by rw [show upd l 6 true 7=l 7 from rfl,hn 7 rfl];exact Bool.false_ne_true)⟩
  · intro l s wx hl hd hn hf0 K hK
    have hf:=Lib.hid hf0
    clear hf0
    have e0:=(hf.out.2.2.2.2.2.1 (hd 0 rfl))
    have e6:=(hf.out.2.2.2.2.2.2.2.2.2.2.2.1 (hd 6 rfl))
    have hB:=hf.out.1
    go_simp
    go_at_call 95
    refine (saw_any h 1 e t _).mono ?_
    rintro _ wy ⟨rfl,hE⟩
    refine hK.out (upd s 14 (.agg (hvals { h with seen:=1,wait:=t }))) _ _ (by simp [upd_at,e0,e6] <;> rfl) ⟨bT hf.out.1 hE,hpS hf.out.2.1 hE,hpS hf.out.2.2.1 hE,hpS hf.out.2.2.2.1 hE,hpS hf.out.2.2.2.2.1 hE,fun h=>(hf.out.2.2.2.2.2.1 h),fun h=>(hf.out.2.2.2.2.2.2.1 h),fun h=>(hf.out.2.2.2.2.2.2.2.1 h),fun h=>(hf.out.2.2.2.2.2.2.2.2.1 h),fun h=>(hf.out.2.2.2.2.2.2.2.2.2.1 h),fun h=>(hf.out.2.2.2.2.2.2.2.2.2.2.1 h),fun h=>(hf.out.2.2.2.2.2.2.2.2.2.2.2.1 h),fun _=>rfl⟩
  · intro l s wx hl hd hn hf0 K hK
    have hf:=Lib.hid hf0
    clear hf0
    have e7:=(hf.out.2.2.2.2.2.2.2.2.2.2.2.2 (hd 7 rfl))
    have hB:=hf.out.1
    have zh:=hf.out.2.2.1
    rw [hl] at zh
    dsimp only [cond] at zh
    have zc:=hf.out.2.1
    go_simp
    refine hK.out (s) _ _ (by simp [upd_at,e7] <;> rfl) ⟨bBx hB (by omega),(bx_heap_ne (by omega)).trans zc,hp_set zh,(bx_heap_ne (by omega)).trans hf.out.2.2.2.1,(bx_heap_ne (by omega)).trans hf.out.2.2.2.2.1,fun h=>(hf.out.2.2.2.2.2.1 h),fun h=>(hf.out.2.2.2.2.2.2.1 h),fun h=>(hf.out.2.2.2.2.2.2.2.1 h),fun h=>(hf.out.2.2.2.2.2.2.2.2.1 h),fun h=>(hf.out.2.2.2.2.2.2.2.2.2.1 h),fun h=>(hf.out.2.2.2.2.2.2.2.2.2.2.1 h),fun h=>(hf.out.2.2.2.2.2.2.2.2.2.2.2.1 h),fun h=>(hf.out.2.2.2.2.2.2.2.2.2.2.2.2 h)⟩
set_option maxRecDepth 100000 in
set_option maxHeartbeats 4000000 in
theorem sendLook_4 (c:Ch) (h:Ha) (v1 v2:Value) (lo:Nat) (w:World) (h1:OCells w lo v1 c.cells) (h2:OInts w lo v2 c.words) (hc0:0≤h.cell) (hc1:h.cell<c.cells.length) (hn:(cellAt c h.cell).s=4) :
    Calls Try.prog 82 #[.agg (cvals c v1 v2),.agg (hvals h)] w fun r w'=>StepO w w' lo v1 v2 (lk6 c h) r:=by
  obtain ⟨i,hci⟩:∃ i:Nat,h.cell=(i:Int):=⟨h.cell.toNat,by omega⟩
  have hi:i<c.cells.length:=by omega
  have hi0:(0:Int)≤(i:Int):=by omega
  have hi1:(i:Int)<(c.cells.length:Int):=by omega
  have hne:=h1.ne h2
  obtain ⟨a2,q2,rfl,_⟩:=h2.seg
  obtain ⟨g,q1,rfl,hlo1,hlt,hcell,hfr⟩:=h1.open1 hi
  have O1:=Lib.hid h1
  have O2:=Lib.hid h2
  have lg0:g<w.heap.size+1:=by omega
  have lg1:g<w.heap.size+1+1:=by omega
  have lg2:g<w.heap.size+1+1+1:=by omega
  have ng0:g≠w.heap.size:=by omega
  have ng1:g≠w.heap.size+1:=by omega
  have ng2:g≠w.heap.size+1+1:=by omega
  have ng3:g≠w.heap.size+1+1+1:=by omega
  have mg0:w.heap.size≠g:=by omega
  have mg1:w.heap.size+1≠g:=by omega
  have mg2:w.heap.size+1+1≠g:=by omega
  have mg3:w.heap.size+1+1+1≠g:=by omega
  have hx:Hid (cellAt c h.cell=c.cells.getD i ⟨0,0,0⟩):=by simp [cellAt,Hid,hci]
  have c0:=hcell 0 (by omega)
  have c1:=hcell 1 (by omega)
  have c2:=hcell 2 (by omega)
  simp only [C3.val,Nat.add_zero] at c0 c1 c2
  have ex:=hx.out
  rw [ex] at hn
  generalize c.cells.getD i ⟨0,0,0⟩=x at *
  obtain ⟨s,e,t⟩:=x
  simp only at hn c0 c1 c2
  subst hn
  have hR:Hid (lk6 c h=(c,{ seenAs h ⟨4,e,t⟩ with pos:=7 },true)):=by simp [Hid,lk6,look6_at ex 4 rfl]
  rw [hR.out]
  clear hcell hx h1 h2 hc0 hc1 ex hR
  have o1:=O1.out
  have o2:=O2.out
  have a1:Nat:=0
  clear a1
  have HCI:=Lib.hid hci
  clear hci
  go_enter Try.func82,Try.ntmps82
  go_upto_region 1 with fail
  refine wp_region_inv [[],[],[1],[],[3],[1,2,3,4],[1,2,3,4,5],[0,1,2,3,4,5,6],[0,1,2,3,4,5,6,7]] [7,8,9,10,11,12,13,14] (fun l s wx=>(Below w.heap.size w wx)∧(hp wx w.heap.size=some (.cells (cvals c (.slice (some ⟨g,0,none⟩) c.cells.length q1) (.slice a2 c.words.length q2)) 33))∧(hp wx (w.heap.size+1)=some (.cells (cond (l 8) (hvals { h with seen:=4,wait:=t }) (hvals h)) 36))∧(hp wx (w.heap.size+1+1)=some (.cells (cvals Ch.zero (.slice none 0 0) (.slice none 0 0)) 33))∧(hp wx (w.heap.size+1+1+1)=some (.cells (hvals Ha.zero) 36))∧(l 0=true→s 7=.agg (hvals h))∧(l 1=true→s 8=.pointer (some ⟨w.heap.size,4,none⟩))∧(l 2=true→s 9=.slice (some ⟨g,0,none⟩) c.cells.length q1)∧(l 3=true→s 10=.pointer (some ⟨w.heap.size+1,3,none⟩))∧(l 4=true→s 11=.int .i64 i)∧(l 5=true→s 12=.pointer (some ⟨g,i*3,none⟩))∧(l 6=true→s 13=.agg #[.int .i64 4,.int .i64 e,.int .i64 t])∧(l 7=true→s 14=.agg (hvals { h with seen:=4,wait:=t }))) (by kernel_rfl) (by kernel_rfl) (by kernel_rfl) (fun s=>by (simp only [fill,fillA,List.setIfInBounds_toArray,List.set_cons_zero,List.set_cons_succ];rfl)) (fun s=>⟨by exact zB,by simp [go_sem],by simp [go_sem],by simp [go_sem],by simp [go_sem],fun h=>absurd h Bool.false_ne_true,fun h=>absurd h Bool.false_ne_true,fun h=>absurd h Bool.false_ne_true,fun h=>absurd h Bool.false_ne_true,fun h=>absurd h Bool.false_ne_true,fun h=>absurd h Bool.false_ne_true,fun h=>absurd h Bool.false_ne_true,fun h=>absurd h Bool.false_ne_true⟩) ?_ ?_
  refine ⟨?_,?_,?_,?_,?_,?_,?_,?_,?_,trivial⟩;rotate_left 9
  · intro l s w0 hall hf
    have hCw0:=hf.1
    have z_w:=hf.2.1
    have z_wp:=hf.2.2.1
    have z_wpp:=hf.2.2.2.1
    have z_wppp:=hf.2.2.2.2.1
    rw [hall 8 rfl] at z_wp
    dsimp only [cond] at z_wp
    clear hf hall
    obtain ⟨x_w,f_w,l_w⟩:=bO z_w
    obtain ⟨x_wp,f_wp,l_wp⟩:=bO z_wp
    obtain ⟨x_wpp,f_wpp,l_wpp⟩:=bO z_wpp
    obtain ⟨x_wppp,f_wppp,l_wppp⟩:=bO z_wppp
    have p1:=own_below o1 hCw0
    have p2:=own_below o2 hCw0
    have hs0:=hCw0.size
    have hs4:w.heap.size+1+1+1+1≤w0.heap.size:=l_wppp
    go_wp2_with fail
    go_region_held3 (fun w'=>hp w' w.heap.size=some (.cells (cvals c (.slice (some ⟨g,0,none⟩) c.cells.length q1) (.slice a2 c.words.length q2)) 33)∧hp w' (w.heap.size+1)=some (.cells (hvals { h with seen:=4,wait:=t }) 36))
      (first|(simp [*,go_sem]))
      (first|((go_at_call 89;refine bHit w (by exact zB) fun bb=>?_;refine bHit w0 (by exact zB) fun bk=>?_;refine (moved_any _ _ _).mono ?_;rintro _ w1 ⟨rfl,hbw1⟩;have hCw1:Below w.heap.size w w1:=bT bb hbw1;have hsw1:=hbw1.size;(try simp at hsw1);have zz:=q4 hbw1 (b:=w.heap.size);(first|simp [go_sem,z_wppp,z_wpp,z_wp,z_w,l_w,l_wp,l_wpp,l_wppp] at zz|simp [go_sem] at zz|skip);(try clear z_wppp x_wppp f_wppp l_wppp);(try clear z_wpp x_wpp f_wpp l_wpp);(try clear z_wp x_wp f_wp l_wp);(try clear z_w x_w f_w l_w);obtain ⟨z_wppp,z_wpp,z_wp,z_w⟩:=zz;obtain ⟨x_wppp,f_wppp,l_wppp⟩:=bO z_wppp;obtain ⟨x_wpp,f_wpp,l_wpp⟩:=bO z_wpp;obtain ⟨x_wp,f_wp,l_wp⟩:=bO z_wp;obtain ⟨x_w,f_w,l_w⟩:=bO z_w;have hKw1:Below w0.heap.size w0 w1:=bT bk hbw1;clear hbw1 bb bk);have p1:=own_below p1 hKw1;have p2:=own_below p2 hKw1))
    go_wp2
    refine bodyPost_ret (res_cct Try.results82 rfl (ldChan c (.slice (some ⟨g,0,none⟩) c.cells.length q1) (.slice a2 c.words.length q2) (by simp [go_sem, *] <;> rfl)) rfl (ldHand { seenAs h ⟨4,e,t⟩ with pos:=7 } (by simp [go_sem, *] <;> first|rfl|simp [seenAs,anew,hci]))) rfl ⟨⟨_,_,rfl,?_,?_,fresh_refl _ _,fresh_refl _ _⟩,onlB (by exact zB)⟩
    · exact zO p1 o1
    · exact zO p2 o2
  · intro l s wx hl hd hn hf0 K hK
    have hf:=Lib.hid hf0
    clear hf0
    have hB:=hf.out.1
    have zh:=hf.out.2.2.1
    rw [show l 8=false from hn 8 rfl] at zh
    dsimp only [cond] at zh
    have zc:=hf.out.2.1
    go_simp
    refine hK.out (upd s 7 (.agg (hvals h))) _ _ (by simp [upd_at] <;> rfl) ⟨hf.out.1,hf.out.2.1,hf.out.2.2.1,hf.out.2.2.2.1,hf.out.2.2.2.2.1,fun _=>rfl,fun h=>(hf.out.2.2.2.2.2.2.1 h),fun h=>(hf.out.2.2.2.2.2.2.2.1 h),fun h=>(hf.out.2.2.2.2.2.2.2.2.1 h),fun h=>(hf.out.2.2.2.2.2.2.2.2.2.1 h),fun h=>(hf.out.2.2.2.2.2.2.2.2.2.2.1 h),fun h=>(hf.out.2.2.2.2.2.2.2.2.2.2.2.1 h),fun h=>absurd h (by rw [show upd l 0 true 7=l 7 from rfl,hn 7 rfl];exact Bool.false_ne_true)⟩
  · intro l s wx hl hd hn hf0 K hK
    have hf:=Lib.hid hf0
    clear hf0
    have hB:=hf.out.1
    go_simp
    refine hK.out (upd s 8 (.pointer (some ⟨w.heap.size,4,none⟩))) _ _ (by simp [upd_at] <;> rfl) ⟨hf.out.1,hf.out.2.1,hf.out.2.2.1,hf.out.2.2.2.1,hf.out.2.2.2.2.1,fun h=>(hf.out.2.2.2.2.2.1 h),fun _=>rfl,fun h=>absurd h (by rw [show upd l 1 true 2=l 2 from rfl,hn 2 rfl];exact Bool.false_ne_true),fun h=>(hf.out.2.2.2.2.2.2.2.2.1 h),fun h=>(hf.out.2.2.2.2.2.2.2.2.2.1 h),fun h=>absurd h (by rw [show upd l 1 true 5=l 5 from rfl,hn 5 rfl];exact Bool.false_ne_true),fun h=>absurd h (by rw [show upd l 1 true 6=l 6 from rfl,hn 6 rfl];exact Bool.false_ne_true),fun h=>absurd h (by rw [show upd l 1 true 7=l 7 from rfl,hn 7 rfl];exact Bool.false_ne_true)⟩
  · intro l s wx hl hd hn hf0 K hK
    have hf:=Lib.hid hf0
    clear hf0
    have e1:=(hf.out.2.2.2.2.2.2.1 (hd 1 rfl))
    have hB:=hf.out.1
    have zh:=hf.out.2.2.1
    rw [show l 8=false from hn 8 rfl] at zh
    dsimp only [cond] at zh
    have zc:=hf.out.2.1
    have q:=(bO zc).1 4
    go_simp
    refine hK.out (upd s 9 (.slice (some ⟨g,0,none⟩) c.cells.length q1)) _ _ (by simp [upd_at,e1] <;> rfl) ⟨hf.out.1,hf.out.2.1,hf.out.2.2.1,hf.out.2.2.2.1,hf.out.2.2.2.2.1,fun h=>(hf.out.2.2.2.2.2.1 h),fun h=>(hf.out.2.2.2.2.2.2.1 h),fun _=>rfl,fun h=>(hf.out.2.2.2.2.2.2.2.2.1 h),fun h=>(hf.out.2.2.2.2.2.2.2.2.2.1 h),fun h=>absurd h (by rw [show upd l 2 true 5=l 5 from rfl,hn 5 rfl];exact Bool.false_ne_true),fun h=>absurd h (by rw [show upd l 2 true 6=l 6 from rfl,hn 6 rfl];exact Bool.false_ne_true),fun h=>absurd h (by rw [show upd l 2 true 7=l 7 from rfl,hn 7 rfl];exact Bool.false_ne_true)⟩
  · intro l s wx hl hd hn hf0 K hK
    have hf:=Lib.hid hf0
    clear hf0
    have hB:=hf.out.1
    go_simp
    refine hK.out (upd s 10 (.pointer (some ⟨w.heap.size+1,3,none⟩))) _ _ (by simp [upd_at] <;> rfl) ⟨hf.out.1,hf.out.2.1,hf.out.2.2.1,hf.out.2.2.2.1,hf.out.2.2.2.2.1,fun h=>(hf.out.2.2.2.2.2.1 h),fun h=>(hf.out.2.2.2.2.2.2.1 h),fun h=>(hf.out.2.2.2.2.2.2.2.1 h),fun _=>rfl,fun h=>absurd h (by rw [show upd l 3 true 4=l 4 from rfl,hn 4 rfl];exact Bool.false_ne_true),fun h=>absurd h (by rw [show upd l 3 true 5=l 5 from rfl,hn 5 rfl];exact Bool.false_ne_true),fun h=>absurd h (by rw [show upd l 3 true 6=l 6 from rfl,hn 6 rfl];exact Bool.false_ne_true),fun h=>absurd h (by rw [show upd l 3 true 7=l 7 from rfl,hn 7 rfl];exact Bool.false_ne_true)⟩
  · intro l s wx hl hd hn hf0 K hK
    have hf:=Lib.hid hf0
    clear hf0
    have e3:=(hf.out.2.2.2.2.2.2.2.2.1 (hd 3 rfl))
    have hB:=hf.out.1
    have zh:=hf.out.2.2.1
    rw [show l 8=false from hn 8 rfl] at zh
    dsimp only [cond] at zh
    have zc:=hf.out.2.1
    have q:wx.cell? ⟨w.heap.size+1,3,none⟩=some (.int .i64 i):=by rw [← HCI.out];exact (bO zh).1 3
    go_simp
    refine hK.out (upd s 11 (.int .i64 i)) _ _ (by simp [upd_at,e3] <;> rfl) ⟨hf.out.1,hf.out.2.1,hf.out.2.2.1,hf.out.2.2.2.1,hf.out.2.2.2.2.1,fun h=>(hf.out.2.2.2.2.2.1 h),fun h=>(hf.out.2.2.2.2.2.2.1 h),fun h=>(hf.out.2.2.2.2.2.2.2.1 h),fun h=>(hf.out.2.2.2.2.2.2.2.2.1 h),fun _=>rfl,fun h=>absurd h (by rw [show upd l 4 true 5=l 5 from rfl,hn 5 rfl];exact Bool.false_ne_true),fun h=>absurd h (by rw [show upd l 4 true 6=l 6 from rfl,hn 6 rfl];exact Bool.false_ne_true),fun h=>absurd h (by rw [show upd l 4 true 7=l 7 from rfl,hn 7 rfl];exact Bool.false_ne_true)⟩
  · intro l s wx hl hd hn hf0 K hK
    have hf:=Lib.hid hf0
    clear hf0
    have e2:=(hf.out.2.2.2.2.2.2.2.1 (hd 2 rfl))
    have e4:=(hf.out.2.2.2.2.2.2.2.2.2.1 (hd 4 rfl))
    have hB:=hf.out.1
    go_simp
    refine hK.out (upd s 12 (.pointer (some ⟨g,i*3,none⟩))) _ _ (by simp [upd_at,e2,e4] <;> rfl) ⟨hf.out.1,hf.out.2.1,hf.out.2.2.1,hf.out.2.2.2.1,hf.out.2.2.2.2.1,fun h=>(hf.out.2.2.2.2.2.1 h),fun h=>(hf.out.2.2.2.2.2.2.1 h),fun h=>(hf.out.2.2.2.2.2.2.2.1 h),fun h=>(hf.out.2.2.2.2.2.2.2.2.1 h),fun h=>(hf.out.2.2.2.2.2.2.2.2.2.1 h),fun _=>rfl,fun h=>absurd h (by rw [show upd l 5 true 6=l 6 from rfl,hn 6 rfl];exact Bool.false_ne_true),fun h=>absurd h (by rw [show upd l 5 true 7=l 7 from rfl,hn 7 rfl];exact Bool.false_ne_true)⟩
  · intro l s wx hl hd hn hf0 K hK
    have hf:=Lib.hid hf0
    clear hf0
    have e5:=(hf.out.2.2.2.2.2.2.2.2.2.2.1 (hd 5 rfl))
    have hB:=hf.out.1
    have y0:=(hB.cell (p:=⟨g,i*3,none⟩) hlt).trans c0
    have y1:=(hB.cell (p:=⟨g,i*3+1,none⟩) hlt).trans c1
    have y2:=(hB.cell (p:=⟨g,i*3+2,none⟩) hlt).trans c2
    go_simp
    refine hK.out (upd s 13 (.agg #[.int .i64 4,.int .i64 e,.int .i64 t])) _ _ (by simp [upd_at,e5] <;> rfl) ⟨hf.out.1,hf.out.2.1,hf.out.2.2.1,hf.out.2.2.2.1,hf.out.2.2.2.2.1,fun h=>(hf.out.2.2.2.2.2.1 h),fun h=>(hf.out.2.2.2.2.2.2.1 h),fun h=>(hf.out.2.2.2.2.2.2.2.1 h),fun h=>(hf.out.2.2.2.2.2.2.2.2.1 h),fun h=>(hf.out.2.2.2.2.2.2.2.2.2.1 h),fun h=>(hf.out.2.2.2.2.2.2.2.2.2.2.1 h),fun _=>rfl,fun h=>absurd h (by rw [show upd l 6 true 7=l 7 from rfl,hn 7 rfl];exact Bool.false_ne_true)⟩
  · intro l s wx hl hd hn hf0 K hK
    have hf:=Lib.hid hf0
    clear hf0
    have e0:=(hf.out.2.2.2.2.2.1 (hd 0 rfl))
    have e6:=(hf.out.2.2.2.2.2.2.2.2.2.2.2.1 (hd 6 rfl))
    have hB:=hf.out.1
    go_simp
    go_at_call 95
    refine (saw_any h 4 e t _).mono ?_
    rintro _ wy ⟨rfl,hE⟩
    refine hK.out (upd s 14 (.agg (hvals { h with seen:=4,wait:=t }))) _ _ (by simp [upd_at,e0,e6] <;> rfl) ⟨bT hf.out.1 hE,hpS hf.out.2.1 hE,hpS hf.out.2.2.1 hE,hpS hf.out.2.2.2.1 hE,hpS hf.out.2.2.2.2.1 hE,fun h=>(hf.out.2.2.2.2.2.1 h),fun h=>(hf.out.2.2.2.2.2.2.1 h),fun h=>(hf.out.2.2.2.2.2.2.2.1 h),fun h=>(hf.out.2.2.2.2.2.2.2.2.1 h),fun h=>(hf.out.2.2.2.2.2.2.2.2.2.1 h),fun h=>(hf.out.2.2.2.2.2.2.2.2.2.2.1 h),fun h=>(hf.out.2.2.2.2.2.2.2.2.2.2.2.1 h),fun _=>rfl⟩
  · intro l s wx hl hd hn hf0 K hK
    have hf:=Lib.hid hf0
    clear hf0
    have e7:=(hf.out.2.2.2.2.2.2.2.2.2.2.2.2 (hd 7 rfl))
    have hB:=hf.out.1
    have zh:=hf.out.2.2.1
    rw [hl] at zh
    dsimp only [cond] at zh
    have zc:=hf.out.2.1
    go_simp
    refine hK.out (s) _ _ (by simp [upd_at,e7] <;> rfl) ⟨bBx hB (by omega),(bx_heap_ne (by omega)).trans zc,hp_set zh,(bx_heap_ne (by omega)).trans hf.out.2.2.2.1,(bx_heap_ne (by omega)).trans hf.out.2.2.2.2.1,fun h=>(hf.out.2.2.2.2.2.1 h),fun h=>(hf.out.2.2.2.2.2.2.1 h),fun h=>(hf.out.2.2.2.2.2.2.2.1 h),fun h=>(hf.out.2.2.2.2.2.2.2.2.1 h),fun h=>(hf.out.2.2.2.2.2.2.2.2.2.1 h),fun h=>(hf.out.2.2.2.2.2.2.2.2.2.2.1 h),fun h=>(hf.out.2.2.2.2.2.2.2.2.2.2.2.1 h),fun h=>(hf.out.2.2.2.2.2.2.2.2.2.2.2.2 h)⟩
set_option maxRecDepth 100000 in
set_option maxHeartbeats 4000000 in
theorem sendLook_8 (c:Ch) (h:Ha) (v1 v2:Value) (lo:Nat) (w:World) (h1:OCells w lo v1 c.cells) (h2:OInts w lo v2 c.words) (hc0:0≤h.cell) (hc1:h.cell<c.cells.length) (hn:(cellAt c h.cell).s=8) (hk:callOk h.code h.elem=true) :
    Calls Try.prog 82 #[.agg (cvals c v1 v2),.agg (hvals h)] w fun r w'=>StepO w w' lo v1 v2 (lk6 c h) r:=by
  obtain ⟨i,hci⟩:∃ i:Nat,h.cell=(i:Int):=⟨h.cell.toNat,by omega⟩
  have hi:i<c.cells.length:=by omega
  have hi0:(0:Int)≤(i:Int):=by omega
  have hi1:(i:Int)<(c.cells.length:Int):=by omega
  have hne:=h1.ne h2
  obtain ⟨a2,q2,rfl,_⟩:=h2.seg
  obtain ⟨g,q1,rfl,hlo1,hlt,hcell,hfr⟩:=h1.open1 hi
  have O1:=Lib.hid h1
  have O2:=Lib.hid h2
  have lg0:g<w.heap.size+1:=by omega
  have lg1:g<w.heap.size+1+1:=by omega
  have lg2:g<w.heap.size+1+1+1:=by omega
  have ng0:g≠w.heap.size:=by omega
  have ng1:g≠w.heap.size+1:=by omega
  have ng2:g≠w.heap.size+1+1:=by omega
  have ng3:g≠w.heap.size+1+1+1:=by omega
  have mg0:w.heap.size≠g:=by omega
  have mg1:w.heap.size+1≠g:=by omega
  have mg2:w.heap.size+1+1≠g:=by omega
  have mg3:w.heap.size+1+1+1≠g:=by omega
  have hx:Hid (cellAt c h.cell=c.cells.getD i ⟨0,0,0⟩):=by simp [cellAt,Hid,hci]
  have c0:=hcell 0 (by omega)
  have c1:=hcell 1 (by omega)
  have c2:=hcell 2 (by omega)
  simp only [C3.val,Nat.add_zero] at c0 c1 c2
  have ex:=hx.out
  rw [ex] at hn
  generalize c.cells.getD i ⟨0,0,0⟩=x at *
  obtain ⟨s,e,t⟩:=x
  simp only at hn c0 c1 c2
  subst hn
  have hR:Hid (lk6 c h=(c,anew (seenAs h ⟨8,e,t⟩),true)):=by simp [Hid,lk6,look6_at ex 8 rfl]
  rw [hR.out]
  obtain ⟨k0,hk0⟩:∃ k0,anew (seenAs h ⟨8,e,t⟩)=k0:=⟨_,rfl⟩
  have AN:=Lib.hid fun W=>anew_any (seenAs h ⟨8,e,t⟩) hk W
  rw [hk0] at AN
  rw [hk0]
  clear hk0
  clear hcell hx h1 h2 hc0 hc1 ex hR
  have o1:=O1.out
  have o2:=O2.out
  have a1:Nat:=0
  clear a1
  have HCI:=Lib.hid hci
  clear hci
  go_enter Try.func82,Try.ntmps82
  go_upto_region 1 with fail
  refine wp_region_inv [[],[],[1],[],[3],[1,2,3,4],[1,2,3,4,5],[0,1,2,3,4,5,6],[0,1,2,3,4,5,6,7]] [7,8,9,10,11,12,13,14] (fun l s wx=>(Below w.heap.size w wx)∧(hp wx w.heap.size=some (.cells (cvals c (.slice (some ⟨g,0,none⟩) c.cells.length q1) (.slice a2 c.words.length q2)) 33))∧(hp wx (w.heap.size+1)=some (.cells (cond (l 8) (hvals { h with seen:=8,wait:=t }) (hvals h)) 36))∧(hp wx (w.heap.size+1+1)=some (.cells (cvals Ch.zero (.slice none 0 0) (.slice none 0 0)) 33))∧(hp wx (w.heap.size+1+1+1)=some (.cells (hvals Ha.zero) 36))∧(l 0=true→s 7=.agg (hvals h))∧(l 1=true→s 8=.pointer (some ⟨w.heap.size,4,none⟩))∧(l 2=true→s 9=.slice (some ⟨g,0,none⟩) c.cells.length q1)∧(l 3=true→s 10=.pointer (some ⟨w.heap.size+1,3,none⟩))∧(l 4=true→s 11=.int .i64 i)∧(l 5=true→s 12=.pointer (some ⟨g,i*3,none⟩))∧(l 6=true→s 13=.agg #[.int .i64 8,.int .i64 e,.int .i64 t])∧(l 7=true→s 14=.agg (hvals { h with seen:=8,wait:=t }))) (by kernel_rfl) (by kernel_rfl) (by kernel_rfl) (fun s=>by (simp only [fill,fillA,List.setIfInBounds_toArray,List.set_cons_zero,List.set_cons_succ];rfl)) (fun s=>⟨by exact zB,by simp [go_sem],by simp [go_sem],by simp [go_sem],by simp [go_sem],fun h=>absurd h Bool.false_ne_true,fun h=>absurd h Bool.false_ne_true,fun h=>absurd h Bool.false_ne_true,fun h=>absurd h Bool.false_ne_true,fun h=>absurd h Bool.false_ne_true,fun h=>absurd h Bool.false_ne_true,fun h=>absurd h Bool.false_ne_true,fun h=>absurd h Bool.false_ne_true⟩) ?_ ?_
  refine ⟨?_,?_,?_,?_,?_,?_,?_,?_,?_,trivial⟩;rotate_left 9
  · intro l s w0 hall hf
    have hCw0:=hf.1
    have z_w:=hf.2.1
    have z_wp:=hf.2.2.1
    have z_wpp:=hf.2.2.2.1
    have z_wppp:=hf.2.2.2.2.1
    rw [hall 8 rfl] at z_wp
    dsimp only [cond] at z_wp
    clear hf hall
    obtain ⟨x_w,f_w,l_w⟩:=bO z_w
    obtain ⟨x_wp,f_wp,l_wp⟩:=bO z_wp
    obtain ⟨x_wpp,f_wpp,l_wpp⟩:=bO z_wpp
    obtain ⟨x_wppp,f_wppp,l_wppp⟩:=bO z_wppp
    have p1:=own_below o1 hCw0
    have p2:=own_below o2 hCw0
    have hs0:=hCw0.size
    have hs4:w.heap.size+1+1+1+1≤w0.heap.size:=l_wppp
    go_wp2_with fail
    go_region_held3 (fun w'=>hp w' w.heap.size=some (.cells (cvals c (.slice (some ⟨g,0,none⟩) c.cells.length q1) (.slice a2 c.words.length q2)) 33)∧hp w' (w.heap.size+1)=some (.cells (hvals { h with seen:=8,wait:=t }) 36))
      (first|(simp [*,go_sem]))
      (first|((go_at_call 96;refine bHit w (by exact zB) fun bb=>?_;refine bHit w0 (by exact zB) fun bk=>?_;refine (AN.out _).mono ?_;rintro _ w1 ⟨rfl,hbw1⟩;have hCw1:Below w.heap.size w w1:=bT bb hbw1;have hsw1:=hbw1.size;(try simp at hsw1);have zz:=q4 hbw1 (b:=w.heap.size);(first|simp [go_sem,z_wppp,z_wpp,z_wp,z_w,l_w,l_wp,l_wpp,l_wppp] at zz|simp [go_sem] at zz|skip);(try clear z_wppp x_wppp f_wppp l_wppp);(try clear z_wpp x_wpp f_wpp l_wpp);(try clear z_wp x_wp f_wp l_wp);(try clear z_w x_w f_w l_w);obtain ⟨z_wppp,z_wpp,z_wp,z_w⟩:=zz;obtain ⟨x_wppp,f_wppp,l_wppp⟩:=bO z_wppp;obtain ⟨x_wpp,f_wpp,l_wpp⟩:=bO z_wpp;obtain ⟨x_wp,f_wp,l_wp⟩:=bO z_wp;obtain ⟨x_w,f_w,l_w⟩:=bO z_w;have hKw1:Below w0.heap.size w0 w1:=bT bk hbw1;clear hbw1 bb bk);have p1:=own_below p1 hKw1;have p2:=own_below p2 hKw1))
    go_wp2
    refine bodyPost_ret (res_cct Try.results82 rfl (ldChan c (.slice (some ⟨g,0,none⟩) c.cells.length q1) (.slice a2 c.words.length q2) (by simp [go_sem, *] <;> rfl)) rfl (ldHand k0 (by simp [go_sem, *] <;> first|rfl|simp [seenAs,anew,hci]))) rfl ⟨⟨_,_,rfl,?_,?_,fresh_refl _ _,fresh_refl _ _⟩,onlB (by exact zB)⟩
    · exact zO p1 o1
    · exact zO p2 o2
  · intro l s wx hl hd hn hf0 K hK
    have hf:=Lib.hid hf0
    clear hf0
    have hB:=hf.out.1
    have zh:=hf.out.2.2.1
    rw [show l 8=false from hn 8 rfl] at zh
    dsimp only [cond] at zh
    have zc:=hf.out.2.1
    go_simp
    refine hK.out (upd s 7 (.agg (hvals h))) _ _ (by simp [upd_at] <;> rfl) ⟨hf.out.1,hf.out.2.1,hf.out.2.2.1,hf.out.2.2.2.1,hf.out.2.2.2.2.1,fun _=>rfl,fun h=>(hf.out.2.2.2.2.2.2.1 h),fun h=>(hf.out.2.2.2.2.2.2.2.1 h),fun h=>(hf.out.2.2.2.2.2.2.2.2.1 h),fun h=>(hf.out.2.2.2.2.2.2.2.2.2.1 h),fun h=>(hf.out.2.2.2.2.2.2.2.2.2.2.1 h),fun h=>(hf.out.2.2.2.2.2.2.2.2.2.2.2.1 h),fun h=>absurd h (by rw [show upd l 0 true 7=l 7 from rfl,hn 7 rfl];exact Bool.false_ne_true)⟩
  · intro l s wx hl hd hn hf0 K hK
    have hf:=Lib.hid hf0
    clear hf0
    have hB:=hf.out.1
    go_simp
    refine hK.out (upd s 8 (.pointer (some ⟨w.heap.size,4,none⟩))) _ _ (by simp [upd_at] <;> rfl) ⟨hf.out.1,hf.out.2.1,hf.out.2.2.1,hf.out.2.2.2.1,hf.out.2.2.2.2.1,fun h=>(hf.out.2.2.2.2.2.1 h),fun _=>rfl,fun h=>absurd h (by rw [show upd l 1 true 2=l 2 from rfl,hn 2 rfl];exact Bool.false_ne_true),fun h=>(hf.out.2.2.2.2.2.2.2.2.1 h),fun h=>(hf.out.2.2.2.2.2.2.2.2.2.1 h),fun h=>absurd h (by rw [show upd l 1 true 5=l 5 from rfl,hn 5 rfl];exact Bool.false_ne_true),fun h=>absurd h (by rw [show upd l 1 true 6=l 6 from rfl,hn 6 rfl];exact Bool.false_ne_true),fun h=>absurd h (by rw [show upd l 1 true 7=l 7 from rfl,hn 7 rfl];exact Bool.false_ne_true)⟩
  · intro l s wx hl hd hn hf0 K hK
    have hf:=Lib.hid hf0
    clear hf0
    have e1:=(hf.out.2.2.2.2.2.2.1 (hd 1 rfl))
    have hB:=hf.out.1
    have zh:=hf.out.2.2.1
    rw [show l 8=false from hn 8 rfl] at zh
    dsimp only [cond] at zh
    have zc:=hf.out.2.1
    have q:=(bO zc).1 4
    go_simp
    refine hK.out (upd s 9 (.slice (some ⟨g,0,none⟩) c.cells.length q1)) _ _ (by simp [upd_at,e1] <;> rfl) ⟨hf.out.1,hf.out.2.1,hf.out.2.2.1,hf.out.2.2.2.1,hf.out.2.2.2.2.1,fun h=>(hf.out.2.2.2.2.2.1 h),fun h=>(hf.out.2.2.2.2.2.2.1 h),fun _=>rfl,fun h=>(hf.out.2.2.2.2.2.2.2.2.1 h),fun h=>(hf.out.2.2.2.2.2.2.2.2.2.1 h),fun h=>absurd h (by rw [show upd l 2 true 5=l 5 from rfl,hn 5 rfl];exact Bool.false_ne_true),fun h=>absurd h (by rw [show upd l 2 true 6=l 6 from rfl,hn 6 rfl];exact Bool.false_ne_true),fun h=>absurd h (by rw [show upd l 2 true 7=l 7 from rfl,hn 7 rfl];exact Bool.false_ne_true)⟩
  · intro l s wx hl hd hn hf0 K hK
    have hf:=Lib.hid hf0
    clear hf0
    have hB:=hf.out.1
    go_simp
    refine hK.out (upd s 10 (.pointer (some ⟨w.heap.size+1,3,none⟩))) _ _ (by simp [upd_at] <;> rfl) ⟨hf.out.1,hf.out.2.1,hf.out.2.2.1,hf.out.2.2.2.1,hf.out.2.2.2.2.1,fun h=>(hf.out.2.2.2.2.2.1 h),fun h=>(hf.out.2.2.2.2.2.2.1 h),fun h=>(hf.out.2.2.2.2.2.2.2.1 h),fun _=>rfl,fun h=>absurd h (by rw [show upd l 3 true 4=l 4 from rfl,hn 4 rfl];exact Bool.false_ne_true),fun h=>absurd h (by rw [show upd l 3 true 5=l 5 from rfl,hn 5 rfl];exact Bool.false_ne_true),fun h=>absurd h (by rw [show upd l 3 true 6=l 6 from rfl,hn 6 rfl];exact Bool.false_ne_true),fun h=>absurd h (by rw [show upd l 3 true 7=l 7 from rfl,hn 7 rfl];exact Bool.false_ne_true)⟩
  · intro l s wx hl hd hn hf0 K hK
    have hf:=Lib.hid hf0
    clear hf0
    have e3:=(hf.out.2.2.2.2.2.2.2.2.1 (hd 3 rfl))
    have hB:=hf.out.1
    have zh:=hf.out.2.2.1
    rw [show l 8=false from hn 8 rfl] at zh
    dsimp only [cond] at zh
    have zc:=hf.out.2.1
    have q:wx.cell? ⟨w.heap.size+1,3,none⟩=some (.int .i64 i):=by rw [← HCI.out];exact (bO zh).1 3
    go_simp
    refine hK.out (upd s 11 (.int .i64 i)) _ _ (by simp [upd_at,e3] <;> rfl) ⟨hf.out.1,hf.out.2.1,hf.out.2.2.1,hf.out.2.2.2.1,hf.out.2.2.2.2.1,fun h=>(hf.out.2.2.2.2.2.1 h),fun h=>(hf.out.2.2.2.2.2.2.1 h),fun h=>(hf.out.2.2.2.2.2.2.2.1 h),fun h=>(hf.out.2.2.2.2.2.2.2.2.1 h),fun _=>rfl,fun h=>absurd h (by rw [show upd l 4 true 5=l 5 from rfl,hn 5 rfl];exact Bool.false_ne_true),fun h=>absurd h (by rw [show upd l 4 true 6=l 6 from rfl,hn 6 rfl];exact Bool.false_ne_true),fun h=>absurd h (by rw [show upd l 4 true 7=l 7 from rfl,hn 7 rfl];exact Bool.false_ne_true)⟩
  · intro l s wx hl hd hn hf0 K hK
    have hf:=Lib.hid hf0
    clear hf0
    have e2:=(hf.out.2.2.2.2.2.2.2.1 (hd 2 rfl))
    have e4:=(hf.out.2.2.2.2.2.2.2.2.2.1 (hd 4 rfl))
    have hB:=hf.out.1
    go_simp
    refine hK.out (upd s 12 (.pointer (some ⟨g,i*3,none⟩))) _ _ (by simp [upd_at,e2,e4] <;> rfl) ⟨hf.out.1,hf.out.2.1,hf.out.2.2.1,hf.out.2.2.2.1,hf.out.2.2.2.2.1,fun h=>(hf.out.2.2.2.2.2.1 h),fun h=>(hf.out.2.2.2.2.2.2.1 h),fun h=>(hf.out.2.2.2.2.2.2.2.1 h),fun h=>(hf.out.2.2.2.2.2.2.2.2.1 h),fun h=>(hf.out.2.2.2.2.2.2.2.2.2.1 h),fun _=>rfl,fun h=>absurd h (by rw [show upd l 5 true 6=l 6 from rfl,hn 6 rfl];exact Bool.false_ne_true),fun h=>absurd h (by rw [show upd l 5 true 7=l 7 from rfl,hn 7 rfl];exact Bool.false_ne_true)⟩
  · intro l s wx hl hd hn hf0 K hK
    have hf:=Lib.hid hf0
    clear hf0
    have e5:=(hf.out.2.2.2.2.2.2.2.2.2.2.1 (hd 5 rfl))
    have hB:=hf.out.1
    have y0:=(hB.cell (p:=⟨g,i*3,none⟩) hlt).trans c0
    have y1:=(hB.cell (p:=⟨g,i*3+1,none⟩) hlt).trans c1
    have y2:=(hB.cell (p:=⟨g,i*3+2,none⟩) hlt).trans c2
    go_simp
    refine hK.out (upd s 13 (.agg #[.int .i64 8,.int .i64 e,.int .i64 t])) _ _ (by simp [upd_at,e5] <;> rfl) ⟨hf.out.1,hf.out.2.1,hf.out.2.2.1,hf.out.2.2.2.1,hf.out.2.2.2.2.1,fun h=>(hf.out.2.2.2.2.2.1 h),fun h=>(hf.out.2.2.2.2.2.2.1 h),fun h=>(hf.out.2.2.2.2.2.2.2.1 h),fun h=>(hf.out.2.2.2.2.2.2.2.2.1 h),fun h=>(hf.out.2.2.2.2.2.2.2.2.2.1 h),fun h=>(hf.out.2.2.2.2.2.2.2.2.2.2.1 h),fun _=>rfl,fun h=>absurd h (by rw [show upd l 6 true 7=l 7 from rfl,hn 7 rfl];exact Bool.false_ne_true)⟩
  · intro l s wx hl hd hn hf0 K hK
    have hf:=Lib.hid hf0
    clear hf0
    have e0:=(hf.out.2.2.2.2.2.1 (hd 0 rfl))
    have e6:=(hf.out.2.2.2.2.2.2.2.2.2.2.2.1 (hd 6 rfl))
    have hB:=hf.out.1
    go_simp
    go_at_call 95
    refine (saw_any h 8 e t _).mono ?_
    rintro _ wy ⟨rfl,hE⟩
    refine hK.out (upd s 14 (.agg (hvals { h with seen:=8,wait:=t }))) _ _ (by simp [upd_at,e0,e6] <;> rfl) ⟨bT hf.out.1 hE,hpS hf.out.2.1 hE,hpS hf.out.2.2.1 hE,hpS hf.out.2.2.2.1 hE,hpS hf.out.2.2.2.2.1 hE,fun h=>(hf.out.2.2.2.2.2.1 h),fun h=>(hf.out.2.2.2.2.2.2.1 h),fun h=>(hf.out.2.2.2.2.2.2.2.1 h),fun h=>(hf.out.2.2.2.2.2.2.2.2.1 h),fun h=>(hf.out.2.2.2.2.2.2.2.2.2.1 h),fun h=>(hf.out.2.2.2.2.2.2.2.2.2.2.1 h),fun h=>(hf.out.2.2.2.2.2.2.2.2.2.2.2.1 h),fun _=>rfl⟩
  · intro l s wx hl hd hn hf0 K hK
    have hf:=Lib.hid hf0
    clear hf0
    have e7:=(hf.out.2.2.2.2.2.2.2.2.2.2.2.2 (hd 7 rfl))
    have hB:=hf.out.1
    have zh:=hf.out.2.2.1
    rw [hl] at zh
    dsimp only [cond] at zh
    have zc:=hf.out.2.1
    go_simp
    refine hK.out (s) _ _ (by simp [upd_at,e7] <;> rfl) ⟨bBx hB (by omega),(bx_heap_ne (by omega)).trans zc,hp_set zh,(bx_heap_ne (by omega)).trans hf.out.2.2.2.1,(bx_heap_ne (by omega)).trans hf.out.2.2.2.2.1,fun h=>(hf.out.2.2.2.2.2.1 h),fun h=>(hf.out.2.2.2.2.2.2.1 h),fun h=>(hf.out.2.2.2.2.2.2.2.1 h),fun h=>(hf.out.2.2.2.2.2.2.2.2.1 h),fun h=>(hf.out.2.2.2.2.2.2.2.2.2.1 h),fun h=>(hf.out.2.2.2.2.2.2.2.2.2.2.1 h),fun h=>(hf.out.2.2.2.2.2.2.2.2.2.2.2.1 h),fun h=>(hf.out.2.2.2.2.2.2.2.2.2.2.2.2 h)⟩
set_option maxRecDepth 100000 in
set_option maxHeartbeats 4000000 in
theorem sendLook_10 (c:Ch) (h:Ha) (v1 v2:Value) (lo:Nat) (w:World) (h1:OCells w lo v1 c.cells) (h2:OInts w lo v2 c.words) (hc0:0≤h.cell) (hc1:h.cell<c.cells.length) (hn:(cellAt c h.cell).s=10) (hk:callOk h.code h.elem=true) :
    Calls Try.prog 82 #[.agg (cvals c v1 v2),.agg (hvals h)] w fun r w'=>StepO w w' lo v1 v2 (lk6 c h) r:=by
  obtain ⟨i,hci⟩:∃ i:Nat,h.cell=(i:Int):=⟨h.cell.toNat,by omega⟩
  have hi:i<c.cells.length:=by omega
  have hi0:(0:Int)≤(i:Int):=by omega
  have hi1:(i:Int)<(c.cells.length:Int):=by omega
  have hne:=h1.ne h2
  obtain ⟨a2,q2,rfl,_⟩:=h2.seg
  obtain ⟨g,q1,rfl,hlo1,hlt,hcell,hfr⟩:=h1.open1 hi
  have O1:=Lib.hid h1
  have O2:=Lib.hid h2
  have lg0:g<w.heap.size+1:=by omega
  have lg1:g<w.heap.size+1+1:=by omega
  have lg2:g<w.heap.size+1+1+1:=by omega
  have ng0:g≠w.heap.size:=by omega
  have ng1:g≠w.heap.size+1:=by omega
  have ng2:g≠w.heap.size+1+1:=by omega
  have ng3:g≠w.heap.size+1+1+1:=by omega
  have mg0:w.heap.size≠g:=by omega
  have mg1:w.heap.size+1≠g:=by omega
  have mg2:w.heap.size+1+1≠g:=by omega
  have mg3:w.heap.size+1+1+1≠g:=by omega
  have hx:Hid (cellAt c h.cell=c.cells.getD i ⟨0,0,0⟩):=by simp [cellAt,Hid,hci]
  have c0:=hcell 0 (by omega)
  have c1:=hcell 1 (by omega)
  have c2:=hcell 2 (by omega)
  simp only [C3.val,Nat.add_zero] at c0 c1 c2
  have ex:=hx.out
  rw [ex] at hn
  generalize c.cells.getD i ⟨0,0,0⟩=x at *
  obtain ⟨s,e,t⟩:=x
  simp only at hn c0 c1 c2
  subst hn
  have hR:Hid (lk6 c h=(c,anew (seenAs h ⟨10,e,t⟩),true)):=by simp [Hid,lk6,look6_at ex 10 rfl]
  rw [hR.out]
  obtain ⟨k0,hk0⟩:∃ k0,anew (seenAs h ⟨10,e,t⟩)=k0:=⟨_,rfl⟩
  have AN:=Lib.hid fun W=>anew_any (seenAs h ⟨10,e,t⟩) hk W
  rw [hk0] at AN
  rw [hk0]
  clear hk0
  clear hcell hx h1 h2 hc0 hc1 ex hR
  have o1:=O1.out
  have o2:=O2.out
  have a1:Nat:=0
  clear a1
  have HCI:=Lib.hid hci
  clear hci
  go_enter Try.func82,Try.ntmps82
  go_upto_region 1 with fail
  refine wp_region_inv [[],[],[1],[],[3],[1,2,3,4],[1,2,3,4,5],[0,1,2,3,4,5,6],[0,1,2,3,4,5,6,7]] [7,8,9,10,11,12,13,14] (fun l s wx=>(Below w.heap.size w wx)∧(hp wx w.heap.size=some (.cells (cvals c (.slice (some ⟨g,0,none⟩) c.cells.length q1) (.slice a2 c.words.length q2)) 33))∧(hp wx (w.heap.size+1)=some (.cells (cond (l 8) (hvals { h with seen:=10,wait:=t }) (hvals h)) 36))∧(hp wx (w.heap.size+1+1)=some (.cells (cvals Ch.zero (.slice none 0 0) (.slice none 0 0)) 33))∧(hp wx (w.heap.size+1+1+1)=some (.cells (hvals Ha.zero) 36))∧(l 0=true→s 7=.agg (hvals h))∧(l 1=true→s 8=.pointer (some ⟨w.heap.size,4,none⟩))∧(l 2=true→s 9=.slice (some ⟨g,0,none⟩) c.cells.length q1)∧(l 3=true→s 10=.pointer (some ⟨w.heap.size+1,3,none⟩))∧(l 4=true→s 11=.int .i64 i)∧(l 5=true→s 12=.pointer (some ⟨g,i*3,none⟩))∧(l 6=true→s 13=.agg #[.int .i64 10,.int .i64 e,.int .i64 t])∧(l 7=true→s 14=.agg (hvals { h with seen:=10,wait:=t }))) (by kernel_rfl) (by kernel_rfl) (by kernel_rfl) (fun s=>by (simp only [fill,fillA,List.setIfInBounds_toArray,List.set_cons_zero,List.set_cons_succ];rfl)) (fun s=>⟨by exact zB,by simp [go_sem],by simp [go_sem],by simp [go_sem],by simp [go_sem],fun h=>absurd h Bool.false_ne_true,fun h=>absurd h Bool.false_ne_true,fun h=>absurd h Bool.false_ne_true,fun h=>absurd h Bool.false_ne_true,fun h=>absurd h Bool.false_ne_true,fun h=>absurd h Bool.false_ne_true,fun h=>absurd h Bool.false_ne_true,fun h=>absurd h Bool.false_ne_true⟩) ?_ ?_
  refine ⟨?_,?_,?_,?_,?_,?_,?_,?_,?_,trivial⟩;rotate_left 9
  · intro l s w0 hall hf
    have hCw0:=hf.1
    have z_w:=hf.2.1
    have z_wp:=hf.2.2.1
    have z_wpp:=hf.2.2.2.1
    have z_wppp:=hf.2.2.2.2.1
    rw [hall 8 rfl] at z_wp
    dsimp only [cond] at z_wp
    clear hf hall
    obtain ⟨x_w,f_w,l_w⟩:=bO z_w
    obtain ⟨x_wp,f_wp,l_wp⟩:=bO z_wp
    obtain ⟨x_wpp,f_wpp,l_wpp⟩:=bO z_wpp
    obtain ⟨x_wppp,f_wppp,l_wppp⟩:=bO z_wppp
    have p1:=own_below o1 hCw0
    have p2:=own_below o2 hCw0
    have hs0:=hCw0.size
    have hs4:w.heap.size+1+1+1+1≤w0.heap.size:=l_wppp
    go_wp2_with fail
    go_region_held3 (fun w'=>hp w' w.heap.size=some (.cells (cvals c (.slice (some ⟨g,0,none⟩) c.cells.length q1) (.slice a2 c.words.length q2)) 33)∧hp w' (w.heap.size+1)=some (.cells (hvals { h with seen:=10,wait:=t }) 36))
      (first|(simp [*,go_sem]))
      (first|((go_at_call 96;refine bHit w (by exact zB) fun bb=>?_;refine bHit w0 (by exact zB) fun bk=>?_;refine (AN.out _).mono ?_;rintro _ w1 ⟨rfl,hbw1⟩;have hCw1:Below w.heap.size w w1:=bT bb hbw1;have hsw1:=hbw1.size;(try simp at hsw1);have zz:=q4 hbw1 (b:=w.heap.size);(first|simp [go_sem,z_wppp,z_wpp,z_wp,z_w,l_w,l_wp,l_wpp,l_wppp] at zz|simp [go_sem] at zz|skip);(try clear z_wppp x_wppp f_wppp l_wppp);(try clear z_wpp x_wpp f_wpp l_wpp);(try clear z_wp x_wp f_wp l_wp);(try clear z_w x_w f_w l_w);obtain ⟨z_wppp,z_wpp,z_wp,z_w⟩:=zz;obtain ⟨x_wppp,f_wppp,l_wppp⟩:=bO z_wppp;obtain ⟨x_wpp,f_wpp,l_wpp⟩:=bO z_wpp;obtain ⟨x_wp,f_wp,l_wp⟩:=bO z_wp;obtain ⟨x_w,f_w,l_w⟩:=bO z_w;have hKw1:Below w0.heap.size w0 w1:=bT bk hbw1;clear hbw1 bb bk);have p1:=own_below p1 hKw1;have p2:=own_below p2 hKw1))
    go_wp2
    refine bodyPost_ret (res_cct Try.results82 rfl (ldChan c (.slice (some ⟨g,0,none⟩) c.cells.length q1) (.slice a2 c.words.length q2) (by simp [go_sem, *] <;> rfl)) rfl (ldHand k0 (by simp [go_sem, *] <;> first|rfl|simp [seenAs,anew,hci]))) rfl ⟨⟨_,_,rfl,?_,?_,fresh_refl _ _,fresh_refl _ _⟩,onlB (by exact zB)⟩
    · exact zO p1 o1
    · exact zO p2 o2
  · intro l s wx hl hd hn hf0 K hK
    have hf:=Lib.hid hf0
    clear hf0
    have hB:=hf.out.1
    have zh:=hf.out.2.2.1
    rw [show l 8=false from hn 8 rfl] at zh
    dsimp only [cond] at zh
    have zc:=hf.out.2.1
    go_simp
    refine hK.out (upd s 7 (.agg (hvals h))) _ _ (by simp [upd_at] <;> rfl) ⟨hf.out.1,hf.out.2.1,hf.out.2.2.1,hf.out.2.2.2.1,hf.out.2.2.2.2.1,fun _=>rfl,fun h=>(hf.out.2.2.2.2.2.2.1 h),fun h=>(hf.out.2.2.2.2.2.2.2.1 h),fun h=>(hf.out.2.2.2.2.2.2.2.2.1 h),fun h=>(hf.out.2.2.2.2.2.2.2.2.2.1 h),fun h=>(hf.out.2.2.2.2.2.2.2.2.2.2.1 h),fun h=>(hf.out.2.2.2.2.2.2.2.2.2.2.2.1 h),fun h=>absurd h (by rw [show upd l 0 true 7=l 7 from rfl,hn 7 rfl];exact Bool.false_ne_true)⟩
  · intro l s wx hl hd hn hf0 K hK
    have hf:=Lib.hid hf0
    clear hf0
    have hB:=hf.out.1
    go_simp
    refine hK.out (upd s 8 (.pointer (some ⟨w.heap.size,4,none⟩))) _ _ (by simp [upd_at] <;> rfl) ⟨hf.out.1,hf.out.2.1,hf.out.2.2.1,hf.out.2.2.2.1,hf.out.2.2.2.2.1,fun h=>(hf.out.2.2.2.2.2.1 h),fun _=>rfl,fun h=>absurd h (by rw [show upd l 1 true 2=l 2 from rfl,hn 2 rfl];exact Bool.false_ne_true),fun h=>(hf.out.2.2.2.2.2.2.2.2.1 h),fun h=>(hf.out.2.2.2.2.2.2.2.2.2.1 h),fun h=>absurd h (by rw [show upd l 1 true 5=l 5 from rfl,hn 5 rfl];exact Bool.false_ne_true),fun h=>absurd h (by rw [show upd l 1 true 6=l 6 from rfl,hn 6 rfl];exact Bool.false_ne_true),fun h=>absurd h (by rw [show upd l 1 true 7=l 7 from rfl,hn 7 rfl];exact Bool.false_ne_true)⟩
  · intro l s wx hl hd hn hf0 K hK
    have hf:=Lib.hid hf0
    clear hf0
    have e1:=(hf.out.2.2.2.2.2.2.1 (hd 1 rfl))
    have hB:=hf.out.1
    have zh:=hf.out.2.2.1
    rw [show l 8=false from hn 8 rfl] at zh
    dsimp only [cond] at zh
    have zc:=hf.out.2.1
    have q:=(bO zc).1 4
    go_simp
    refine hK.out (upd s 9 (.slice (some ⟨g,0,none⟩) c.cells.length q1)) _ _ (by simp [upd_at,e1] <;> rfl) ⟨hf.out.1,hf.out.2.1,hf.out.2.2.1,hf.out.2.2.2.1,hf.out.2.2.2.2.1,fun h=>(hf.out.2.2.2.2.2.1 h),fun h=>(hf.out.2.2.2.2.2.2.1 h),fun _=>rfl,fun h=>(hf.out.2.2.2.2.2.2.2.2.1 h),fun h=>(hf.out.2.2.2.2.2.2.2.2.2.1 h),fun h=>absurd h (by rw [show upd l 2 true 5=l 5 from rfl,hn 5 rfl];exact Bool.false_ne_true),fun h=>absurd h (by rw [show upd l 2 true 6=l 6 from rfl,hn 6 rfl];exact Bool.false_ne_true),fun h=>absurd h (by rw [show upd l 2 true 7=l 7 from rfl,hn 7 rfl];exact Bool.false_ne_true)⟩
  · intro l s wx hl hd hn hf0 K hK
    have hf:=Lib.hid hf0
    clear hf0
    have hB:=hf.out.1
    go_simp
    refine hK.out (upd s 10 (.pointer (some ⟨w.heap.size+1,3,none⟩))) _ _ (by simp [upd_at] <;> rfl) ⟨hf.out.1,hf.out.2.1,hf.out.2.2.1,hf.out.2.2.2.1,hf.out.2.2.2.2.1,fun h=>(hf.out.2.2.2.2.2.1 h),fun h=>(hf.out.2.2.2.2.2.2.1 h),fun h=>(hf.out.2.2.2.2.2.2.2.1 h),fun _=>rfl,fun h=>absurd h (by rw [show upd l 3 true 4=l 4 from rfl,hn 4 rfl];exact Bool.false_ne_true),fun h=>absurd h (by rw [show upd l 3 true 5=l 5 from rfl,hn 5 rfl];exact Bool.false_ne_true),fun h=>absurd h (by rw [show upd l 3 true 6=l 6 from rfl,hn 6 rfl];exact Bool.false_ne_true),fun h=>absurd h (by rw [show upd l 3 true 7=l 7 from rfl,hn 7 rfl];exact Bool.false_ne_true)⟩
  · intro l s wx hl hd hn hf0 K hK
    have hf:=Lib.hid hf0
    clear hf0
    have e3:=(hf.out.2.2.2.2.2.2.2.2.1 (hd 3 rfl))
    have hB:=hf.out.1
    have zh:=hf.out.2.2.1
    rw [show l 8=false from hn 8 rfl] at zh
    dsimp only [cond] at zh
    have zc:=hf.out.2.1
    have q:wx.cell? ⟨w.heap.size+1,3,none⟩=some (.int .i64 i):=by rw [← HCI.out];exact (bO zh).1 3
    go_simp
    refine hK.out (upd s 11 (.int .i64 i)) _ _ (by simp [upd_at,e3] <;> rfl) ⟨hf.out.1,hf.out.2.1,hf.out.2.2.1,hf.out.2.2.2.1,hf.out.2.2.2.2.1,fun h=>(hf.out.2.2.2.2.2.1 h),fun h=>(hf.out.2.2.2.2.2.2.1 h),fun h=>(hf.out.2.2.2.2.2.2.2.1 h),fun h=>(hf.out.2.2.2.2.2.2.2.2.1 h),fun _=>rfl,fun h=>absurd h (by rw [show upd l 4 true 5=l 5 from rfl,hn 5 rfl];exact Bool.false_ne_true),fun h=>absurd h (by rw [show upd l 4 true 6=l 6 from rfl,hn 6 rfl];exact Bool.false_ne_true),fun h=>absurd h (by rw [show upd l 4 true 7=l 7 from rfl,hn 7 rfl];exact Bool.false_ne_true)⟩
  · intro l s wx hl hd hn hf0 K hK
    have hf:=Lib.hid hf0
    clear hf0
    have e2:=(hf.out.2.2.2.2.2.2.2.1 (hd 2 rfl))
    have e4:=(hf.out.2.2.2.2.2.2.2.2.2.1 (hd 4 rfl))
    have hB:=hf.out.1
    go_simp
    refine hK.out (upd s 12 (.pointer (some ⟨g,i*3,none⟩))) _ _ (by simp [upd_at,e2,e4] <;> rfl) ⟨hf.out.1,hf.out.2.1,hf.out.2.2.1,hf.out.2.2.2.1,hf.out.2.2.2.2.1,fun h=>(hf.out.2.2.2.2.2.1 h),fun h=>(hf.out.2.2.2.2.2.2.1 h),fun h=>(hf.out.2.2.2.2.2.2.2.1 h),fun h=>(hf.out.2.2.2.2.2.2.2.2.1 h),fun h=>(hf.out.2.2.2.2.2.2.2.2.2.1 h),fun _=>rfl,fun h=>absurd h (by rw [show upd l 5 true 6=l 6 from rfl,hn 6 rfl];exact Bool.false_ne_true),fun h=>absurd h (by rw [show upd l 5 true 7=l 7 from rfl,hn 7 rfl];exact Bool.false_ne_true)⟩
  · intro l s wx hl hd hn hf0 K hK
    have hf:=Lib.hid hf0
    clear hf0
    have e5:=(hf.out.2.2.2.2.2.2.2.2.2.2.1 (hd 5 rfl))
    have hB:=hf.out.1
    have y0:=(hB.cell (p:=⟨g,i*3,none⟩) hlt).trans c0
    have y1:=(hB.cell (p:=⟨g,i*3+1,none⟩) hlt).trans c1
    have y2:=(hB.cell (p:=⟨g,i*3+2,none⟩) hlt).trans c2
    go_simp
    refine hK.out (upd s 13 (.agg #[.int .i64 10,.int .i64 e,.int .i64 t])) _ _ (by simp [upd_at,e5] <;> rfl) ⟨hf.out.1,hf.out.2.1,hf.out.2.2.1,hf.out.2.2.2.1,hf.out.2.2.2.2.1,fun h=>(hf.out.2.2.2.2.2.1 h),fun h=>(hf.out.2.2.2.2.2.2.1 h),fun h=>(hf.out.2.2.2.2.2.2.2.1 h),fun h=>(hf.out.2.2.2.2.2.2.2.2.1 h),fun h=>(hf.out.2.2.2.2.2.2.2.2.2.1 h),fun h=>(hf.out.2.2.2.2.2.2.2.2.2.2.1 h),fun _=>rfl,fun h=>absurd h (by rw [show upd l 6 true 7=l 7 from rfl,hn 7 rfl];exact Bool.false_ne_true)⟩
  · intro l s wx hl hd hn hf0 K hK
    have hf:=Lib.hid hf0
    clear hf0
    have e0:=(hf.out.2.2.2.2.2.1 (hd 0 rfl))
    have e6:=(hf.out.2.2.2.2.2.2.2.2.2.2.2.1 (hd 6 rfl))
    have hB:=hf.out.1
    go_simp
    go_at_call 95
    refine (saw_any h 10 e t _).mono ?_
    rintro _ wy ⟨rfl,hE⟩
    refine hK.out (upd s 14 (.agg (hvals { h with seen:=10,wait:=t }))) _ _ (by simp [upd_at,e0,e6] <;> rfl) ⟨bT hf.out.1 hE,hpS hf.out.2.1 hE,hpS hf.out.2.2.1 hE,hpS hf.out.2.2.2.1 hE,hpS hf.out.2.2.2.2.1 hE,fun h=>(hf.out.2.2.2.2.2.1 h),fun h=>(hf.out.2.2.2.2.2.2.1 h),fun h=>(hf.out.2.2.2.2.2.2.2.1 h),fun h=>(hf.out.2.2.2.2.2.2.2.2.1 h),fun h=>(hf.out.2.2.2.2.2.2.2.2.2.1 h),fun h=>(hf.out.2.2.2.2.2.2.2.2.2.2.1 h),fun h=>(hf.out.2.2.2.2.2.2.2.2.2.2.2.1 h),fun _=>rfl⟩
  · intro l s wx hl hd hn hf0 K hK
    have hf:=Lib.hid hf0
    clear hf0
    have e7:=(hf.out.2.2.2.2.2.2.2.2.2.2.2.2 (hd 7 rfl))
    have hB:=hf.out.1
    have zh:=hf.out.2.2.1
    rw [hl] at zh
    dsimp only [cond] at zh
    have zc:=hf.out.2.1
    go_simp
    refine hK.out (s) _ _ (by simp [upd_at,e7] <;> rfl) ⟨bBx hB (by omega),(bx_heap_ne (by omega)).trans zc,hp_set zh,(bx_heap_ne (by omega)).trans hf.out.2.2.2.1,(bx_heap_ne (by omega)).trans hf.out.2.2.2.2.1,fun h=>(hf.out.2.2.2.2.2.1 h),fun h=>(hf.out.2.2.2.2.2.2.1 h),fun h=>(hf.out.2.2.2.2.2.2.2.1 h),fun h=>(hf.out.2.2.2.2.2.2.2.2.1 h),fun h=>(hf.out.2.2.2.2.2.2.2.2.2.1 h),fun h=>(hf.out.2.2.2.2.2.2.2.2.2.2.1 h),fun h=>(hf.out.2.2.2.2.2.2.2.2.2.2.2.1 h),fun h=>(hf.out.2.2.2.2.2.2.2.2.2.2.2.2 h)⟩
set_option maxRecDepth 100000 in
set_option maxHeartbeats 4000000 in
theorem sendLook_no (c:Ch) (h:Ha) (v1 v2:Value) (lo:Nat) (w:World) (h1:OCells w lo v1 c.cells) (h2:OInts w lo v2 c.words) (hc0:0≤h.cell) (hc1:h.cell<c.cells.length) (n0:((cellAt c h.cell).s == 0)=false) (n1:((cellAt c h.cell).s == 1)=false) (n4:((cellAt c h.cell).s == 4)=false) (n8:((cellAt c h.cell).s == 8)=false) (n10:((cellAt c h.cell).s == 10)=false) :
    Calls Try.prog 82 #[.agg (cvals c v1 v2),.agg (hvals h)] w fun r w'=>StepO w w' lo v1 v2 (nothing) r:=by
  have b1:=fun j (hj:v1.ownBlock=some j)=>(h1.lt j hj).2
  have b2:=fun j (hj:v2.ownBlock=some j)=>(h2.lt j hj).2
  have T:=Lib.hid fun W=>refused_any W lo v1 v2
  obtain ⟨i,hci⟩:∃ i:Nat,h.cell=(i:Int):=⟨h.cell.toNat,by omega⟩
  have hi:i<c.cells.length:=by omega
  have hi0:(0:Int)≤(i:Int):=by omega
  have hi1:(i:Int)<(c.cells.length:Int):=by omega
  have hne:=h1.ne h2
  obtain ⟨a2,q2,rfl,_⟩:=h2.seg
  obtain ⟨g,q1,rfl,hlo1,hlt,hcell,hfr⟩:=h1.open1 hi
  have O1:=Lib.hid h1
  have O2:=Lib.hid h2
  have m1:∀ j,w.heap.size≤j→some j≠(Value.slice (some ⟨g,0,none⟩) c.cells.length q1).ownBlock:=fun j hj e=>by have:=b1 _ e.symm;omega
  have m2:∀ j,w.heap.size≤j→some j≠(Value.slice a2 c.words.length q2).ownBlock:=fun j hj e=>by have:=b2 _ e.symm;omega
  have m10:=m1 (w.heap.size) (by omega)
  have m11:=m1 (w.heap.size+1) (by omega)
  have m12:=m1 (w.heap.size+1+1) (by omega)
  have m13:=m1 (w.heap.size+1+1+1) (by omega)
  have m20:=m2 (w.heap.size) (by omega)
  have m21:=m2 (w.heap.size+1) (by omega)
  have m22:=m2 (w.heap.size+1+1) (by omega)
  have m23:=m2 (w.heap.size+1+1+1) (by omega)
  have lg0:g<w.heap.size+1:=by omega
  have lg1:g<w.heap.size+1+1:=by omega
  have lg2:g<w.heap.size+1+1+1:=by omega
  have ng0:g≠w.heap.size:=by omega
  have ng1:g≠w.heap.size+1:=by omega
  have ng2:g≠w.heap.size+1+1:=by omega
  have ng3:g≠w.heap.size+1+1+1:=by omega
  have mg0:w.heap.size≠g:=by omega
  have mg1:w.heap.size+1≠g:=by omega
  have mg2:w.heap.size+1+1≠g:=by omega
  have mg3:w.heap.size+1+1+1≠g:=by omega
  have hx:Hid (cellAt c h.cell=c.cells.getD i ⟨0,0,0⟩):=by simp [cellAt,Hid,hci]
  have c0:=hcell 0 (by omega)
  have c1:=hcell 1 (by omega)
  have c2:=hcell 2 (by omega)
  simp only [C3.val,Nat.add_zero] at c0 c1 c2
  have ex:=hx.out
  rw [ex] at n0 n1 n4 n8 n10
  generalize c.cells.getD i ⟨0,0,0⟩=x0 at *
  obtain ⟨ss,e,t⟩:=x0
  simp only at n0 n1 n4 n8 n10 c0 c1 c2
  generalize nothing=x at *
  clear hcell hx h1 h2 hc0 hc1 ex
  have o1:=O1.out
  have o2:=O2.out
  have HCI:=Lib.hid hci
  clear hci
  go_enter Try.func82,Try.ntmps82
  go_upto_region 1 with fail
  refine wp_region_inv [[],[],[1],[],[3],[1,2,3,4],[1,2,3,4,5],[0,1,2,3,4,5,6],[0,1,2,3,4,5,6,7]] [7,8,9,10,11,12,13,14] (fun l s wx=>(Below w.heap.size w wx)∧(hp wx w.heap.size=some (.cells (cvals c (.slice (some ⟨g,0,none⟩) c.cells.length q1) (.slice a2 c.words.length q2)) 33))∧(hp wx (w.heap.size+1)=some (.cells (cond (l 8) (hvals { h with seen:=ss,wait:=t }) (hvals h)) 36))∧(hp wx (w.heap.size+1+1)=some (.cells (cvals Ch.zero (.slice none 0 0) (.slice none 0 0)) 33))∧(hp wx (w.heap.size+1+1+1)=some (.cells (hvals Ha.zero) 36))∧(l 0=true→s 7=.agg (hvals h))∧(l 1=true→s 8=.pointer (some ⟨w.heap.size,4,none⟩))∧(l 2=true→s 9=.slice (some ⟨g,0,none⟩) c.cells.length q1)∧(l 3=true→s 10=.pointer (some ⟨w.heap.size+1,3,none⟩))∧(l 4=true→s 11=.int .i64 i)∧(l 5=true→s 12=.pointer (some ⟨g,i*3,none⟩))∧(l 6=true→s 13=.agg #[.int .i64 ss,.int .i64 e,.int .i64 t])∧(l 7=true→s 14=.agg (hvals { h with seen:=ss,wait:=t }))) (by kernel_rfl) (by kernel_rfl) (by kernel_rfl) (fun s=>by (simp only [fill,fillA,List.setIfInBounds_toArray,List.set_cons_zero,List.set_cons_succ];rfl)) (fun s=>⟨by exact zB,by simp [go_sem],by simp [go_sem],by simp [go_sem],by simp [go_sem],fun h=>absurd h Bool.false_ne_true,fun h=>absurd h Bool.false_ne_true,fun h=>absurd h Bool.false_ne_true,fun h=>absurd h Bool.false_ne_true,fun h=>absurd h Bool.false_ne_true,fun h=>absurd h Bool.false_ne_true,fun h=>absurd h Bool.false_ne_true,fun h=>absurd h Bool.false_ne_true⟩) ?_ ?_
  refine ⟨?_,?_,?_,?_,?_,?_,?_,?_,?_,trivial⟩;rotate_left 9
  · intro l s w0 hall hf
    have hCw0:=hf.1
    have z_w:=hf.2.1
    have z_wp:=hf.2.2.1
    have z_wpp:=hf.2.2.2.1
    have z_wppp:=hf.2.2.2.2.1
    rw [hall 8 rfl] at z_wp
    dsimp only [cond] at z_wp
    clear hf hall
    obtain ⟨x_w,f_w,l_w⟩:=bO z_w
    obtain ⟨x_wp,f_wp,l_wp⟩:=bO z_wp
    obtain ⟨x_wpp,f_wpp,l_wpp⟩:=bO z_wpp
    obtain ⟨x_wppp,f_wppp,l_wppp⟩:=bO z_wppp
    have p1:=own_below o1 hCw0
    have p2:=own_below o2 hCw0
    have hs0:=hCw0.size
    have hs4:w.heap.size+1+1+1+1≤w0.heap.size:=l_wppp
    go_wp2_with fail
    refine (T.out _).mono ?_
    rintro _ w3 ⟨⟨y1,y2,rfl,oY1,oY2,fY1,fY2⟩,hbw3⟩
    have hO3:Onl (Value.slice (some ⟨g,0,none⟩) c.cells.length q1).ownBlock (Value.slice a2 c.words.length q2).ownBlock w w3:=onlT (onlB (by exact zB)) (onlB hbw3)
    have hsw3:=hbw3.size;(try simp at hsw3);have zz:=q4 hbw3 (b:=w.heap.size);(first|simp [go_sem,z_wppp,z_wpp,z_wp,z_w,l_w,l_wp,l_wpp,l_wppp] at zz|simp [go_sem] at zz|skip);(try clear z_wppp x_wppp f_wppp l_wppp);(try clear z_wpp x_wpp f_wpp l_wpp);(try clear z_wp x_wp f_wp l_wp);(try clear z_w x_w f_w l_w);obtain ⟨z_wppp,z_wpp,z_wp,z_w⟩:=zz;obtain ⟨x_wppp,f_wppp,l_wppp⟩:=bO z_wppp;obtain ⟨x_wpp,f_wpp,l_wpp⟩:=bO z_wpp;obtain ⟨x_wp,f_wp,l_wp⟩:=bO z_wp;obtain ⟨x_w,f_w,l_w⟩:=bO z_w;clear hbw3
    have hoff1:∀ j,w.heap.size≤j→j<w.heap.size+1+1+1+1→y1.ownBlock≠some j:=fun j h1 h2=>fY1.off b1 h1 (by (try simp) <;> omega);have hoff2:∀ j,w.heap.size≤j→j<w.heap.size+1+1+1+1→y2.ownBlock≠some j:=fun j h1 h2=>fY2.off b2 h1 (by (try simp) <;> omega);have fr1:Fresh w _ y1:=fun j hj=>(fY1 j hj).imp id (fun h=>Nat.le_trans (by (try simp) <;> omega) h);have fr2:Fresh w _ y2:=fun j hj=>(fY2 j hj).imp id (fun h=>Nat.le_trans (by (try simp) <;> omega) h);obtain ⟨ya,yp,rfl,_⟩:=oY1.seg;obtain ⟨yb,yq,rfl,_⟩:=oY2.seg
    go_wp2
    refine bodyPost_ret (res_cct Try.results82 rfl (ldChan x.1 (.slice ya x.1.cells.length yp) (.slice yb x.1.words.length yq) (by simp [go_sem, *])) rfl (ldHand x.2.1 (by simp [go_sem, *]))) rfl ⟨⟨_,_,rfl,?_,?_,fr1,fr2⟩,by (repeat (first|with_reducible assumption|with_reducible refine oA ?_|with_reducible refine oD ?_|((with_reducible refine oX ?_ ?_);rotate_left;(focus ((try dsimp only);(try simp);(try omega))))|((with_reducible refine oS ?_ ?_);rotate_left;(focus ((try dsimp only);(try simp);(try omega))))))⟩
    · exact zP oY1 oY1 hoff1
    · exact zP oY2 oY2 hoff2
  · intro l s wx hl hd hn hf0 K hK
    have hf:=Lib.hid hf0
    clear hf0
    have hB:=hf.out.1
    have zh:=hf.out.2.2.1
    rw [show l 8=false from hn 8 rfl] at zh
    dsimp only [cond] at zh
    have zc:=hf.out.2.1
    go_simp
    refine hK.out (upd s 7 (.agg (hvals h))) _ _ (by simp [upd_at] <;> rfl) ⟨hf.out.1,hf.out.2.1,hf.out.2.2.1,hf.out.2.2.2.1,hf.out.2.2.2.2.1,fun _=>rfl,fun h=>(hf.out.2.2.2.2.2.2.1 h),fun h=>(hf.out.2.2.2.2.2.2.2.1 h),fun h=>(hf.out.2.2.2.2.2.2.2.2.1 h),fun h=>(hf.out.2.2.2.2.2.2.2.2.2.1 h),fun h=>(hf.out.2.2.2.2.2.2.2.2.2.2.1 h),fun h=>(hf.out.2.2.2.2.2.2.2.2.2.2.2.1 h),fun h=>absurd h (by rw [show upd l 0 true 7=l 7 from rfl,hn 7 rfl];exact Bool.false_ne_true)⟩
  · intro l s wx hl hd hn hf0 K hK
    have hf:=Lib.hid hf0
    clear hf0
    have hB:=hf.out.1
    go_simp
    refine hK.out (upd s 8 (.pointer (some ⟨w.heap.size,4,none⟩))) _ _ (by simp [upd_at] <;> rfl) ⟨hf.out.1,hf.out.2.1,hf.out.2.2.1,hf.out.2.2.2.1,hf.out.2.2.2.2.1,fun h=>(hf.out.2.2.2.2.2.1 h),fun _=>rfl,fun h=>absurd h (by rw [show upd l 1 true 2=l 2 from rfl,hn 2 rfl];exact Bool.false_ne_true),fun h=>(hf.out.2.2.2.2.2.2.2.2.1 h),fun h=>(hf.out.2.2.2.2.2.2.2.2.2.1 h),fun h=>absurd h (by rw [show upd l 1 true 5=l 5 from rfl,hn 5 rfl];exact Bool.false_ne_true),fun h=>absurd h (by rw [show upd l 1 true 6=l 6 from rfl,hn 6 rfl];exact Bool.false_ne_true),fun h=>absurd h (by rw [show upd l 1 true 7=l 7 from rfl,hn 7 rfl];exact Bool.false_ne_true)⟩
  · intro l s wx hl hd hn hf0 K hK
    have hf:=Lib.hid hf0
    clear hf0
    have e1:=(hf.out.2.2.2.2.2.2.1 (hd 1 rfl))
    have hB:=hf.out.1
    have zh:=hf.out.2.2.1
    rw [show l 8=false from hn 8 rfl] at zh
    dsimp only [cond] at zh
    have zc:=hf.out.2.1
    have q:=(bO zc).1 4
    go_simp
    refine hK.out (upd s 9 (.slice (some ⟨g,0,none⟩) c.cells.length q1)) _ _ (by simp [upd_at,e1] <;> rfl) ⟨hf.out.1,hf.out.2.1,hf.out.2.2.1,hf.out.2.2.2.1,hf.out.2.2.2.2.1,fun h=>(hf.out.2.2.2.2.2.1 h),fun h=>(hf.out.2.2.2.2.2.2.1 h),fun _=>rfl,fun h=>(hf.out.2.2.2.2.2.2.2.2.1 h),fun h=>(hf.out.2.2.2.2.2.2.2.2.2.1 h),fun h=>absurd h (by rw [show upd l 2 true 5=l 5 from rfl,hn 5 rfl];exact Bool.false_ne_true),fun h=>absurd h (by rw [show upd l 2 true 6=l 6 from rfl,hn 6 rfl];exact Bool.false_ne_true),fun h=>absurd h (by rw [show upd l 2 true 7=l 7 from rfl,hn 7 rfl];exact Bool.false_ne_true)⟩
  · intro l s wx hl hd hn hf0 K hK
    have hf:=Lib.hid hf0
    clear hf0
    have hB:=hf.out.1
    go_simp
    refine hK.out (upd s 10 (.pointer (some ⟨w.heap.size+1,3,none⟩))) _ _ (by simp [upd_at] <;> rfl) ⟨hf.out.1,hf.out.2.1,hf.out.2.2.1,hf.out.2.2.2.1,hf.out.2.2.2.2.1,fun h=>(hf.out.2.2.2.2.2.1 h),fun h=>(hf.out.2.2.2.2.2.2.1 h),fun h=>(hf.out.2.2.2.2.2.2.2.1 h),fun _=>rfl,fun h=>absurd h (by rw [show upd l 3 true 4=l 4 from rfl,hn 4 rfl];exact Bool.false_ne_true),fun h=>absurd h (by rw [show upd l 3 true 5=l 5 from rfl,hn 5 rfl];exact Bool.false_ne_true),fun h=>absurd h (by rw [show upd l 3 true 6=l 6 from rfl,hn 6 rfl];exact Bool.false_ne_true),fun h=>absurd h (by rw [show upd l 3 true 7=l 7 from rfl,hn 7 rfl];exact Bool.false_ne_true)⟩
  · intro l s wx hl hd hn hf0 K hK
    have hf:=Lib.hid hf0
    clear hf0
    have e3:=(hf.out.2.2.2.2.2.2.2.2.1 (hd 3 rfl))
    have hB:=hf.out.1
    have zh:=hf.out.2.2.1
    rw [show l 8=false from hn 8 rfl] at zh
    dsimp only [cond] at zh
    have zc:=hf.out.2.1
    have q:wx.cell? ⟨w.heap.size+1,3,none⟩=some (.int .i64 i):=by rw [← HCI.out];exact (bO zh).1 3
    go_simp
    refine hK.out (upd s 11 (.int .i64 i)) _ _ (by simp [upd_at,e3] <;> rfl) ⟨hf.out.1,hf.out.2.1,hf.out.2.2.1,hf.out.2.2.2.1,hf.out.2.2.2.2.1,fun h=>(hf.out.2.2.2.2.2.1 h),fun h=>(hf.out.2.2.2.2.2.2.1 h),fun h=>(hf.out.2.2.2.2.2.2.2.1 h),fun h=>(hf.out.2.2.2.2.2.2.2.2.1 h),fun _=>rfl,fun h=>absurd h (by rw [show upd l 4 true 5=l 5 from rfl,hn 5 rfl];exact Bool.false_ne_true),fun h=>absurd h (by rw [show upd l 4 true 6=l 6 from rfl,hn 6 rfl];exact Bool.false_ne_true),fun h=>absurd h (by rw [show upd l 4 true 7=l 7 from rfl,hn 7 rfl];exact Bool.false_ne_true)⟩
  · intro l s wx hl hd hn hf0 K hK
    have hf:=Lib.hid hf0
    clear hf0
    have e2:=(hf.out.2.2.2.2.2.2.2.1 (hd 2 rfl))
    have e4:=(hf.out.2.2.2.2.2.2.2.2.2.1 (hd 4 rfl))
    have hB:=hf.out.1
    go_simp
    refine hK.out (upd s 12 (.pointer (some ⟨g,i*3,none⟩))) _ _ (by simp [upd_at,e2,e4] <;> rfl) ⟨hf.out.1,hf.out.2.1,hf.out.2.2.1,hf.out.2.2.2.1,hf.out.2.2.2.2.1,fun h=>(hf.out.2.2.2.2.2.1 h),fun h=>(hf.out.2.2.2.2.2.2.1 h),fun h=>(hf.out.2.2.2.2.2.2.2.1 h),fun h=>(hf.out.2.2.2.2.2.2.2.2.1 h),fun h=>(hf.out.2.2.2.2.2.2.2.2.2.1 h),fun _=>rfl,fun h=>absurd h (by rw [show upd l 5 true 6=l 6 from rfl,hn 6 rfl];exact Bool.false_ne_true),fun h=>absurd h (by rw [show upd l 5 true 7=l 7 from rfl,hn 7 rfl];exact Bool.false_ne_true)⟩
  · intro l s wx hl hd hn hf0 K hK
    have hf:=Lib.hid hf0
    clear hf0
    have e5:=(hf.out.2.2.2.2.2.2.2.2.2.2.1 (hd 5 rfl))
    have hB:=hf.out.1
    have y0:=(hB.cell (p:=⟨g,i*3,none⟩) hlt).trans c0
    have y1:=(hB.cell (p:=⟨g,i*3+1,none⟩) hlt).trans c1
    have y2:=(hB.cell (p:=⟨g,i*3+2,none⟩) hlt).trans c2
    go_simp
    refine hK.out (upd s 13 (.agg #[.int .i64 ss,.int .i64 e,.int .i64 t])) _ _ (by simp [upd_at,e5] <;> rfl) ⟨hf.out.1,hf.out.2.1,hf.out.2.2.1,hf.out.2.2.2.1,hf.out.2.2.2.2.1,fun h=>(hf.out.2.2.2.2.2.1 h),fun h=>(hf.out.2.2.2.2.2.2.1 h),fun h=>(hf.out.2.2.2.2.2.2.2.1 h),fun h=>(hf.out.2.2.2.2.2.2.2.2.1 h),fun h=>(hf.out.2.2.2.2.2.2.2.2.2.1 h),fun h=>(hf.out.2.2.2.2.2.2.2.2.2.2.1 h),fun _=>rfl,fun h=>absurd h (by rw [show upd l 6 true 7=l 7 from rfl,hn 7 rfl];exact Bool.false_ne_true)⟩
  · intro l s wx hl hd hn hf0 K hK
    have hf:=Lib.hid hf0
    clear hf0
    have e0:=(hf.out.2.2.2.2.2.1 (hd 0 rfl))
    have e6:=(hf.out.2.2.2.2.2.2.2.2.2.2.2.1 (hd 6 rfl))
    have hB:=hf.out.1
    go_simp
    go_at_call 95
    refine (saw_any h ss e t _).mono ?_
    rintro _ wy ⟨rfl,hE⟩
    refine hK.out (upd s 14 (.agg (hvals { h with seen:=ss,wait:=t }))) _ _ (by simp [upd_at,e0,e6] <;> rfl) ⟨bT hf.out.1 hE,hpS hf.out.2.1 hE,hpS hf.out.2.2.1 hE,hpS hf.out.2.2.2.1 hE,hpS hf.out.2.2.2.2.1 hE,fun h=>(hf.out.2.2.2.2.2.1 h),fun h=>(hf.out.2.2.2.2.2.2.1 h),fun h=>(hf.out.2.2.2.2.2.2.2.1 h),fun h=>(hf.out.2.2.2.2.2.2.2.2.1 h),fun h=>(hf.out.2.2.2.2.2.2.2.2.2.1 h),fun h=>(hf.out.2.2.2.2.2.2.2.2.2.2.1 h),fun h=>(hf.out.2.2.2.2.2.2.2.2.2.2.2.1 h),fun _=>rfl⟩
  · intro l s wx hl hd hn hf0 K hK
    have hf:=Lib.hid hf0
    clear hf0
    have e7:=(hf.out.2.2.2.2.2.2.2.2.2.2.2.2 (hd 7 rfl))
    have hB:=hf.out.1
    have zh:=hf.out.2.2.1
    rw [hl] at zh
    dsimp only [cond] at zh
    have zc:=hf.out.2.1
    go_simp
    refine hK.out (s) _ _ (by simp [upd_at,e7] <;> rfl) ⟨bBx hB (by omega),(bx_heap_ne (by omega)).trans zc,hp_set zh,(bx_heap_ne (by omega)).trans hf.out.2.2.2.1,(bx_heap_ne (by omega)).trans hf.out.2.2.2.2.1,fun h=>(hf.out.2.2.2.2.2.1 h),fun h=>(hf.out.2.2.2.2.2.2.1 h),fun h=>(hf.out.2.2.2.2.2.2.2.1 h),fun h=>(hf.out.2.2.2.2.2.2.2.2.1 h),fun h=>(hf.out.2.2.2.2.2.2.2.2.2.1 h),fun h=>(hf.out.2.2.2.2.2.2.2.2.2.2.1 h),fun h=>(hf.out.2.2.2.2.2.2.2.2.2.2.2.1 h),fun h=>(hf.out.2.2.2.2.2.2.2.2.2.2.2.2 h)⟩
end Go.Proofs.Ytkiingmgpobgnaa
set_option linter.unusedSimpArgs false
set_option linter.unusedVariables false
namespace Go.Proofs.Ytkiingmgpobgnaa
open Go.RowKit
set_option linter.unusedSimpArgs false
attribute [local simp] bx_size
attribute [local go_sem ↓] zeroHand zeroChan toLHand toLChan toVHand toVChan storeHand storeChan storeHandC storeChanC
attribute [local go_sem ↓] funcNil
def fin6 (x:St):St:=if x.2.2 then done x.1 x.2.1 else nothing
theorem turnC_no {c:Ch} {i f t v:Int} (h:turnCB c i f t v=false):turnC c i f t v=c:=by
  have e:turnX (cellAt c i) f t v=cellAt c i:=by
    have h2:turnB (cellAt c i).s (cellAt c i).e (cellAt c i).t f t v=false:=h
    simp [turnX,turnS,turnW,h2]
  unfold turnC setAt
  rw [e]
  unfold cellAt
  have:c.cells.set i.toNat (c.cells.getD i.toNat ⟨0,0,0⟩)=c.cells:=by
    apply List.ext_getElem?
    intro n
    rw [List.getElem?_set]
    by_cases hn:i.toNat=n
    · subst hn
      by_cases hl:i.toNat<c.cells.length
      · simp [hl]
      · simp [hl,Nat.le_of_not_lt hl]
    · simp [hn]
  rw [this]
theorem fin_ok (c:Ch) (h:Ha):fin6 (c,h,true)=done c h:=rfl
theorem fin_put (c:Ch) (h:Ha) (hs:h.seen=0∨h.seen=1∨(h.seen≠0∧h.seen≠1)):fin6 (putS c h)=put6 c h:=by
  have K:fin6 (keep6 c h)=if turnCB c h.cell h.seen 2 0 then done (turnC c h.cell h.seen 2 0) (resting 1 0) else done (turnC c h.cell h.seen 2 0) { h with pos:=3 }:=by
    unfold keep6
    cases ht:turnCB c h.cell h.seen 2 0 with
    | true=>simp [fin_ok]
    | false=>simp [fin_ok,turnC_no ht]
  have Wt:fin6 (wt6 c h)=done (wait6 c h 3 23 3).1 (wait6 c h 3 23 3).2:=by
    unfold wt6 wtS wait6
    by_cases hf:80≤c.words.length
    · simp [hf,fin_ok]
    · cases ht:turnCB c h.cell h.seen 3 (c.words.length+1) with
      | true=>simp [hf,fin_ok]
      | false=>simp [hf,fin_ok,turnC_no ht]
  unfold putS put6
  rcases hs with h0|h0|⟨h0,h1⟩
  · have e0:(h.seen == 1)=false:=by simp [h0]
    have e1:(h.seen == 0)=true:=by simp [h0]
    have e2:(h.seen != 0 && h.seen != 1)=false:=by simp [h0]
    rw [e2]
    by_cases hx:h.cell<(if h.come<h.fin then h.fin else h.come)
    · have hk:putK h=true:=by simp [putK,e1,hx]
      have hn:(h.seen == 0 && (decide (h.come≤h.cell) && decide (h.fin≤h.cell)))=false:=by
        rw [e1]
        simp
        split at hx <;> omega
      rw [hk,hn]
      simpa using K
    · have hk:putK h=false:=by simp [putK,e0,hx]
      have hn:(h.seen == 0 && (decide (h.come≤h.cell) && decide (h.fin≤h.cell)))=true:=by
        rw [e1]
        simp
        split at hx <;> omega
      rw [hk,hn,e1]
      simpa using Wt
  · have e1:(h.seen == 0)=false:=by simp [h0]
    have e2:(h.seen != 0 && h.seen != 1)=false:=by simp [h0]
    have hk:putK h=true:=by simp [putK,h0]
    rw [hk,e2,e1]
    simpa using K
  · have e0:(h.seen == 1)=false:=by simpa using h1
    have e1:(h.seen == 0)=false:=by simpa using h0
    have e2:(h.seen != 0 && h.seen != 1)=true:=by simp [h0,h1]
    have hk:putK h=false:=by simp [putK,e0,e1]
    rw [hk,e2,e1]
    rfl
theorem fin76 (x:St) (h:x.2.2=true∨x=nothing):fin7 x=fin6 x:=by
  rcases h with h|h
  · obtain ⟨c,y,ok⟩:=x
    cases h
    rfl
  · subst h
    rfl
theorem put_ok (c:Ch) (h:Ha):(putS c h).2.2=true∨putS c h=nothing:=by
  unfold putS keep6 wt6 wtS
  repeat' split
  all_goals first|exact .inl rfl|exact .inr rfl
theorem lk_ok (c:Ch) (h:Ha):(lk6 c h).2.2=true∨lk6 c h=nothing:=by
  unfold lk6
  split
  · exact .inl rfl
  · exact .inr rfl
set_option maxRecDepth 100000 in
set_option maxHeartbeats 2000000 in
theorem sendTouch_no (c:Ch) (h:Ha) (v1 v2:Value) (lo:Nat) (w:World) (h1:OCells w lo v1 c.cells) (h2:OInts w lo v2 c.words) (hk:(h.code != 1)=true) :
    Calls Try.prog 32 #[.agg (cvals c v1 v2),.agg (hvals h)] w fun r w'=>StepO w w' lo v1 v2 (nothing) r:=by
  have T:=Lib.hid fun W=>refused_any W lo v1 v2
  have TT:=Lib.hid fun w=>touches_any w
  generalize nothing=x at *
  have b1:=fun j (hj:v1.ownBlock=some j)=>(h1.lt j hj).2
  have b2:=fun j (hj:v2.ownBlock=some j)=>(h2.lt j hj).2
  have m1:∀ j,w.heap.size≤j→some j≠v1.ownBlock:=fun j hj e=>by have:=b1 _ e.symm;omega
  have m2:∀ j,w.heap.size≤j→some j≠v2.ownBlock:=fun j hj e=>by have:=b2 _ e.symm;omega
  have m10:=m1 (w.heap.size) (by omega)
  have m11:=m1 (w.heap.size+1) (by omega)
  have m12:=m1 (w.heap.size+1+1) (by omega)
  have m13:=m1 (w.heap.size+1+1+1) (by omega)
  have m20:=m2 (w.heap.size) (by omega)
  have m21:=m2 (w.heap.size+1) (by omega)
  have m22:=m2 (w.heap.size+1+1) (by omega)
  have m23:=m2 (w.heap.size+1+1+1) (by omega)
  have o1:=h1
  have o2:=h2
  obtain ⟨a1,q1,e1,_⟩:=h1.seg
  obtain ⟨a2,q2,e2,_⟩:=h2.seg
  subst e1 e2
  clear h1 h2
  go_enter Try.func32,Try.ntmps32
  go_wp2_with fail;refine bHit w (by exact zB) fun bb=>?_;refine (TT.out _).mono ?_;rintro _ w1 ⟨rfl,hbw1⟩;have hCw1:Below w.heap.size w w1:=bT bb hbw1;have hsw1:=hbw1.size;(try simp at hsw1);have zz:=q4 hbw1 (b:=w.heap.size);(try simp [go_sem] at zz);(try clear z_wppp x_wppp f_wppp l_wppp);(try clear z_wpp x_wpp f_wpp l_wpp);(try clear z_wp x_wp f_wp l_wp);(try clear z_w x_w f_w l_w);obtain ⟨z_wppp,z_wpp,z_wp,z_w⟩:=zz;obtain ⟨x_wppp,f_wppp,l_wppp⟩:=bO z_wppp;obtain ⟨x_wpp,f_wpp,l_wpp⟩:=bO z_wpp;obtain ⟨x_wp,f_wp,l_wp⟩:=bO z_wp;obtain ⟨x_w,f_w,l_w⟩:=bO z_w;have hKw1:Below w.heap.size w w1:=hCw1;clear hbw1 bb
  unfold tbl
  go_wp2_with fail
  refine (T.out _).mono ?_
  rintro _ w3 ⟨⟨y1,y2,rfl,oY1,oY2,fY1,fY2⟩,hbw3⟩
  have hO:=onlB (a:=(Value.slice a1 c.cells.length q1).ownBlock) (b:=(Value.slice a2 c.words.length q2).ownBlock) hbw3
  have hO3:Onl (Value.slice a1 c.cells.length q1).ownBlock (Value.slice a2 c.words.length q2).ownBlock w w3:=onlT (onlB (by exact zB)) hO
  have hsw3:=hO.2.2.2.1;(try (simp at hsw3));have zz:=And.intro (onlHp hO (i:=w.heap.size+1+1+1) (by (try simp) <;> omega) (by assumption) (by assumption)) <| And.intro (onlHp hO (i:=w.heap.size+1+1) (by (try simp) <;> omega) (by assumption) (by assumption)) <| And.intro (onlHp hO (i:=w.heap.size+1) (by (try simp) <;> omega) (by assumption) (by assumption)) <| onlHp hO (i:=w.heap.size) (by (try simp) <;> omega) (by assumption) (by assumption);(first|simp [go_sem,z_wppp,z_wpp,z_wp,z_w,l_w,l_wp,l_wpp,l_wppp] at zz|simp [go_sem] at zz|skip);(try clear z_wppp x_wppp f_wppp l_wppp);(try clear z_wpp x_wpp f_wpp l_wpp);(try clear z_wp x_wp f_wp l_wp);(try clear z_w x_w f_w l_w);obtain ⟨z_wppp,z_wpp,z_wp,z_w⟩:=zz;obtain ⟨x_wppp,f_wppp,l_wppp⟩:=bO z_wppp;obtain ⟨x_wpp,f_wpp,l_wpp⟩:=bO z_wpp;obtain ⟨x_wp,f_wp,l_wp⟩:=bO z_wp;obtain ⟨x_w,f_w,l_w⟩:=bO z_w
  clear hO hbw3
  have hoff1:∀ j,w.heap.size≤j→j<w.heap.size+1+1+1+1→y1.ownBlock≠some j:=fun j h1 h2=>fY1.off b1 h1 (by (try simp) <;> omega);have hoff2:∀ j,w.heap.size≤j→j<w.heap.size+1+1+1+1→y2.ownBlock≠some j:=fun j h1 h2=>fY2.off b2 h1 (by (try simp) <;> omega);have fr1:Fresh w _ y1:=fun j hj=>(fY1 j hj).imp id (fun h=>Nat.le_trans (by (try simp) <;> omega) h);have fr2:Fresh w _ y2:=fun j hj=>(fY2 j hj).imp id (fun h=>Nat.le_trans (by (try simp) <;> omega) h);obtain ⟨ya,yp,rfl,_⟩:=oY1.seg;obtain ⟨yb,yq,rfl,_⟩:=oY2.seg
  go_wp2
  refine bodyPost_ret (res_cct Try.results32 rfl (ldChan x.1 (.slice ya x.1.cells.length yp) (.slice yb x.1.words.length yq) (by simp [go_sem, *])) rfl (ldHand x.2.1 (by simp [go_sem, *]))) rfl ⟨⟨_,_,rfl,?_,?_,fr1,fr2⟩,by (repeat (first|with_reducible assumption|with_reducible refine oA ?_|with_reducible refine oD ?_|((with_reducible refine oX ?_ ?_);rotate_left;(focus ((try dsimp only);(try simp);(try omega))))|((with_reducible refine oS ?_ ?_);rotate_left;(focus ((try dsimp only);(try simp);(try omega))))))⟩
  · exact zP oY1 oY1 hoff1
  · exact zP oY2 oY2 hoff2
set_option maxRecDepth 100000 in
set_option maxHeartbeats 2000000 in
theorem sendTouch_far (c:Ch) (h:Ha) (v1 v2:Value) (lo:Nat) (w:World) (h1:OCells w lo v1 c.cells) (h2:OInts w lo v2 c.words) (hk:(h.code != 1)=false) (hp:(9:Int)≤h.pos) :
    Calls Try.prog 32 #[.agg (cvals c v1 v2),.agg (hvals h)] w fun r w'=>StepO w w' lo v1 v2 (nothing) r:=by
  have T:=Lib.hid fun W=>refused_any W lo v1 v2
  have TT:=Lib.hid fun w=>touches_any w
  generalize nothing=x at *
  have b1:=fun j (hj:v1.ownBlock=some j)=>(h1.lt j hj).2
  have b2:=fun j (hj:v2.ownBlock=some j)=>(h2.lt j hj).2
  have m1:∀ j,w.heap.size≤j→some j≠v1.ownBlock:=fun j hj e=>by have:=b1 _ e.symm;omega
  have m2:∀ j,w.heap.size≤j→some j≠v2.ownBlock:=fun j hj e=>by have:=b2 _ e.symm;omega
  have m10:=m1 (w.heap.size) (by omega)
  have m11:=m1 (w.heap.size+1) (by omega)
  have m12:=m1 (w.heap.size+1+1) (by omega)
  have m13:=m1 (w.heap.size+1+1+1) (by omega)
  have m20:=m2 (w.heap.size) (by omega)
  have m21:=m2 (w.heap.size+1) (by omega)
  have m22:=m2 (w.heap.size+1+1) (by omega)
  have m23:=m2 (w.heap.size+1+1+1) (by omega)
  have o1:=h1
  have o2:=h2
  obtain ⟨a1,q1,e1,_⟩:=h1.seg
  obtain ⟨a2,q2,e2,_⟩:=h2.seg
  subst e1 e2
  clear h1 h2
  go_enter Try.func32,Try.ntmps32
  go_wp2_with fail;refine bHit w (by exact zB) fun bb=>?_;refine (TT.out _).mono ?_;rintro _ w1 ⟨rfl,hbw1⟩;have hCw1:Below w.heap.size w w1:=bT bb hbw1;have hsw1:=hbw1.size;(try simp at hsw1);have zz:=q4 hbw1 (b:=w.heap.size);(try simp [go_sem] at zz);(try clear z_wppp x_wppp f_wppp l_wppp);(try clear z_wpp x_wpp f_wpp l_wpp);(try clear z_wp x_wp f_wp l_wp);(try clear z_w x_w f_w l_w);obtain ⟨z_wppp,z_wpp,z_wp,z_w⟩:=zz;obtain ⟨x_wppp,f_wppp,l_wppp⟩:=bO z_wppp;obtain ⟨x_wpp,f_wpp,l_wpp⟩:=bO z_wpp;obtain ⟨x_wp,f_wp,l_wp⟩:=bO z_wp;obtain ⟨x_w,f_w,l_w⟩:=bO z_w;have hKw1:Below w.heap.size w w1:=hCw1;clear hbw1 bb
  unfold tbl
  go_wp2_with fail
  refine (T.out _).mono ?_
  rintro _ w3 ⟨⟨y1,y2,rfl,oY1,oY2,fY1,fY2⟩,hbw3⟩
  have hO:=onlB (a:=(Value.slice a1 c.cells.length q1).ownBlock) (b:=(Value.slice a2 c.words.length q2).ownBlock) hbw3
  have hO3:Onl (Value.slice a1 c.cells.length q1).ownBlock (Value.slice a2 c.words.length q2).ownBlock w w3:=onlT (onlB (by exact zB)) hO
  have hsw3:=hO.2.2.2.1;(try (simp at hsw3));have zz:=And.intro (onlHp hO (i:=w.heap.size+1+1+1) (by (try simp) <;> omega) (by assumption) (by assumption)) <| And.intro (onlHp hO (i:=w.heap.size+1+1) (by (try simp) <;> omega) (by assumption) (by assumption)) <| And.intro (onlHp hO (i:=w.heap.size+1) (by (try simp) <;> omega) (by assumption) (by assumption)) <| onlHp hO (i:=w.heap.size) (by (try simp) <;> omega) (by assumption) (by assumption);(first|simp [go_sem,z_wppp,z_wpp,z_wp,z_w,l_w,l_wp,l_wpp,l_wppp] at zz|simp [go_sem] at zz|skip);(try clear z_wppp x_wppp f_wppp l_wppp);(try clear z_wpp x_wpp f_wpp l_wpp);(try clear z_wp x_wp f_wp l_wp);(try clear z_w x_w f_w l_w);obtain ⟨z_wppp,z_wpp,z_wp,z_w⟩:=zz;obtain ⟨x_wppp,f_wppp,l_wppp⟩:=bO z_wppp;obtain ⟨x_wpp,f_wpp,l_wpp⟩:=bO z_wpp;obtain ⟨x_wp,f_wp,l_wp⟩:=bO z_wp;obtain ⟨x_w,f_w,l_w⟩:=bO z_w
  clear hO hbw3
  have hoff1:∀ j,w.heap.size≤j→j<w.heap.size+1+1+1+1→y1.ownBlock≠some j:=fun j h1 h2=>fY1.off b1 h1 (by (try simp) <;> omega);have hoff2:∀ j,w.heap.size≤j→j<w.heap.size+1+1+1+1→y2.ownBlock≠some j:=fun j h1 h2=>fY2.off b2 h1 (by (try simp) <;> omega);have fr1:Fresh w _ y1:=fun j hj=>(fY1 j hj).imp id (fun h=>Nat.le_trans (by (try simp) <;> omega) h);have fr2:Fresh w _ y2:=fun j hj=>(fY2 j hj).imp id (fun h=>Nat.le_trans (by (try simp) <;> omega) h);obtain ⟨ya,yp,rfl,_⟩:=oY1.seg;obtain ⟨yb,yq,rfl,_⟩:=oY2.seg
  go_wp2
  refine bodyPost_ret (res_cct Try.results32 rfl (ldChan x.1 (.slice ya x.1.cells.length yp) (.slice yb x.1.words.length yq) (by simp [go_sem, *])) rfl (ldHand x.2.1 (by simp [go_sem, *]))) rfl ⟨⟨_,_,rfl,?_,?_,fr1,fr2⟩,by (repeat (first|with_reducible assumption|with_reducible refine oA ?_|with_reducible refine oD ?_|((with_reducible refine oX ?_ ?_);rotate_left;(focus ((try dsimp only);(try simp);(try omega))))|((with_reducible refine oS ?_ ?_);rotate_left;(focus ((try dsimp only);(try simp);(try omega))))))⟩
  · exact zP oY1 oY1 hoff1
  · exact zP oY2 oY2 hoff2
theorem sendTouch_any (c:Ch) (h:Ha) (hc:chanOk c=true) (hh:handOk h=true):∃ x:St,sendStep c h=fin7 x∧∀ (v1 v2:Value) (lo:Nat) (W:World),OCells W lo v1 c.cells→OInts W lo v2 c.words→lo≤W.heap.size→Calls Try.prog 32 #[.agg (cvals c v1 v2),.agg (hvals h)] W fun r w'=>StepO W w' lo v1 v2 x r:=by
  cases hk:(h.code != 1) with
  | true =>
    have hk2:¬ h.code=1:=by simpa using hk
    exact ⟨nothing,by simp [sendStep,stepOk,hk2];rfl,fun v1 v2 lo W o1 o2 _=>sendTouch_no c h v1 v2 lo W o1 o2 hk⟩
  | false =>
    have hk1:h.code=1:=by simpa using hk
    have hr:0≤h.pos∧h.pos≠0∧callOk h.code h.elem=true:=by
      have:=hh
      simp only [handOk,handA,Bool.and_eq_true,inB_iff] at this
      by_cases h0:h.pos=0
      · simp [h0,noCall,hk1] at this
      · simp [h0] at this
        exact ⟨this.1.1.1,h0,this.1.2⟩
    obtain ⟨hr0,hr1,hcall⟩:=hr
    obtain ⟨hc0,hc9⟩:=hand_cell hh
    have hc1:h.cell<c.cells.length:=by have:=(chan_len hc).1;omega
    by_cases hp9:9≤h.pos
    · have hno:stepOk c h 1 8 1=false:=by
        have:inB h.pos 1 8=false:=by simp [inB];omega
        simp [stepOk,this]
      exact ⟨nothing,by simp [sendStep,hno];rfl,fun v1 v2 lo W o1 o2 _=>sendTouch_far c h v1 v2 lo W o1 o2 hk hp9⟩
    have hok:stepOk c h 1 8 1=true:=by
      have:inB h.pos 1 8=true:=by simp [inB];omega
      simp [stepOk,hc,hh,this,hk1]
    have hps:h.pos=1∨h.pos=2∨h.pos=3∨h.pos=4∨h.pos=5∨h.pos=6∨h.pos=7∨h.pos=8:=by omega
    rcases hps with hp|hp|hp|hp|hp|hp|hp|hp
    · by_cases hs:c.sent=40
      · skip
        refine ⟨(c,resting 4 0,true),?_,fun v1 v2 lo W o1 o2 hl=>sendTouch_via 80 1 ((c,resting 4 0,true)) c h v1 v2 lo W o1 o2 hl hk1 hp (by omega) rfl (fun args w=>by simp [go_sem]) (fun v1 v2 lo W o1 o2 hl=>sendNumber_a c h v1 v2 lo W o1 o2 hs)⟩
        rw [fin76 _ (.inl rfl)]
        simp [sendStep,hok,hp,send1,hs,fin_ok]
      · skip
        refine ⟨({ c with sent:=c.sent+1 },{ h with cell:=c.sent,pos:=2 },true),?_,fun v1 v2 lo W o1 o2 hl=>sendTouch_via 80 1 (({ c with sent:=c.sent+1 },{ h with cell:=c.sent,pos:=2 },true)) c h v1 v2 lo W o1 o2 hl hk1 hp (by omega) rfl (fun args w=>by simp [go_sem]) (fun v1 v2 lo W o1 o2 hl=>sendNumber_b c h v1 v2 lo W o1 o2 hs (chan_sent hc))⟩
        rw [fin76 _ (.inl rfl)]
        simp [sendStep,hok,hp,send1,hs,fin_ok]
    · skip
      refine ⟨(layC c h.cell h.elem,{ h with pos:=3 },true),?_,fun v1 v2 lo W o1 o2 hl=>sendTouch_via 81 2 ((layC c h.cell h.elem,{ h with pos:=3 },true)) c h v1 v2 lo W o1 o2 hl hk1 hp (by omega) rfl (fun args w=>by simp [go_sem]) (fun v1 v2 lo W o1 o2 hl=>sendLay_any c h v1 v2 lo W o1 o2 hc0 hc1)⟩
      rw [fin76 _ (.inl rfl)]
      simp [sendStep,hok,hp,send2,fin_ok]
    · have el:sendStep c h=fin6 (lk6 c h):=by
        simp only [sendStep,hok,hp,send3]
        cases hl:(look6 c h).2 <;> simp [lk6,hl,fin6,nothing]
      refine ⟨lk6 c h,el.trans (fin76 _ (lk_ok c h)).symm,?_⟩
      by_cases hn:(cellAt c h.cell).s=0∨(cellAt c h.cell).s=1∨(cellAt c h.cell).s=4∨(cellAt c h.cell).s=8∨(cellAt c h.cell).s=10
      · refine fun v1 v2 lo W o1 o2 hl=>sendTouch_via 82 3 (lk6 c h) c h v1 v2 lo W o1 o2 hl hk1 hp (by omega) rfl (fun args w=>by simp [go_sem]) (fun v1 v2 lo W o1 o2 hl=>?_)
        rcases hn with hn|hn|hn|hn|hn
        · exact sendLook_0 c h v1 v2 lo W o1 o2 hc0 hc1 hn
        · exact sendLook_1 c h v1 v2 lo W o1 o2 hc0 hc1 hn
        · exact sendLook_4 c h v1 v2 lo W o1 o2 hc0 hc1 hn
        · exact sendLook_8 c h v1 v2 lo W o1 o2 hc0 hc1 hn hcall
        · exact sendLook_10 c h v1 v2 lo W o1 o2 hc0 hc1 hn hcall
      · have n0:((cellAt c h.cell).s == 0)=false:=by simp;omega
        have n1:((cellAt c h.cell).s == 1)=false:=by simp;omega
        have n4:((cellAt c h.cell).s == 4)=false:=by simp;omega
        have n8:((cellAt c h.cell).s == 8)=false:=by simp;omega
        have n10:((cellAt c h.cell).s == 10)=false:=by simp;omega
        have eno:lk6 c h=nothing:=by
          simp only [lk6,look6_at rfl (cellAt c h.cell).s rfl,n0,n1,n4,n8,n10]
          rfl
        rw [eno]
        exact fun v1 v2 lo W o1 o2 hl=>sendTouch_via 82 3 nothing c h v1 v2 lo W o1 o2 hl hk1 hp (by omega) rfl (fun args w=>by simp [go_sem]) (fun v1 v2 lo W o1 o2 hl=>sendLook_no c h v1 v2 lo W o1 o2 hc0 hc1 n0 n1 n4 n8 n10)
    · skip
      refine ⟨(c,{ h with fin:=c.fin,pos:=5 },true),?_,fun v1 v2 lo W o1 o2 hl=>sendTouch_via 83 4 ((c,{ h with fin:=c.fin,pos:=5 },true)) c h v1 v2 lo W o1 o2 hl hk1 hp (by omega) rfl (fun args w=>by simp [go_sem]) (fun v1 v2 lo W o1 o2 hl=>sendEnd_any c h v1 v2 lo W o1 o2)⟩
      rw [fin76 _ (.inl rfl)]
      simp [sendStep,hok,hp,fin_ok]
    · skip
      refine ⟨(c,{ h with come:=c.got,pos:=6 },true),?_,fun v1 v2 lo W o1 o2 hl=>sendTouch_via 84 5 ((c,{ h with come:=c.got,pos:=6 },true)) c h v1 v2 lo W o1 o2 hl hk1 hp (by omega) rfl (fun args w=>by simp [go_sem]) (fun v1 v2 lo W o1 o2 hl=>sendCome_any c h v1 v2 lo W o1 o2)⟩
      rw [fin76 _ (.inl rfl)]
      simp [sendStep,hok,hp,fin_ok]
    · skip
      refine ⟨putS c h,?_,fun v1 v2 lo W o1 o2 hl=>sendTouch_via 85 6 (putS c h) c h v1 v2 lo W o1 o2 hl hk1 hp (by omega) rfl (fun args w=>by simp [go_sem]) (fun v1 v2 lo W o1 o2 hl=>sendPut_any c h v1 v2 lo W o1 o2 hc0 hc1 hc hl)⟩
      rw [fin76 _ (put_ok c h),fin_put c h (by omega)]
      simp [sendStep,hok,hp]
    · skip
      refine ⟨cl6 c h,?_,fun v1 v2 lo W o1 o2 hl=>sendTouch_via 86 7 (cl6 c h) c h v1 v2 lo W o1 o2 hl hk1 hp (by omega) rfl (fun args w=>by simp [go_sem]) (fun v1 v2 lo W o1 o2 hl=>sendCall_any c h v1 v2 lo W o1 o2 hc hl hcall)⟩
      rw [fin76 _ (by unfold cl6 wkS;split <;> exact .inl rfl)]
      unfold cl6 wkS
      cases ht:tellB c h.wait 1 with
      | true=>simp [sendStep,hok,hp,call6,ht,fin_ok]
      | false=>simp [sendStep,hok,hp,call6,ht,fin_ok,tellC_no ht]
    · skip
      refine ⟨(stateC c h.cell 7,resting 1 0,true),?_,fun v1 v2 lo W o1 o2 hl=>sendTouch_via 87 8 ((stateC c h.cell 7,resting 1 0,true)) c h v1 v2 lo W o1 o2 hl hk1 hp (by omega) rfl (fun args w=>by simp [go_sem]) (fun v1 v2 lo W o1 o2 hl=>sendDone_any c h v1 v2 lo W o1 o2 hc0 hc1)⟩
      rw [fin76 _ (.inl rfl)]
      simp [sendStep,hok,hp,fin_ok]
set_option maxRecDepth 100000 in
set_option maxHeartbeats 2000000 in
theorem sendStepI_any (c:Ch) (h:Ha) (a b:Option Addr) (p q:Nat) (w:World) (h1:Seg w w.heap.size a c.cells.length 3 (cellF c.cells)) (z1:a=none→p=0) (h2:Seg w w.heap.size b c.words.length 1 (intF c.words)) (z2:b=none→q=0) (l1:c.cells.length≤maxLen) (l2:c.words.length≤maxLen) :
    Calls Try.prog 9 #[.agg (cvals c (.slice a c.cells.length p) (.slice b c.words.length q)),.agg (hvals h)] w fun r w'=>StepN w w' (sendStep c h) r:=by
  have K:∀ (w:World),Seg w w.heap.size a c.cells.length 3 (cellF c.cells)→(a=none→p=0)→Seg w w.heap.size b c.words.length 1 (intF c.words)→(b=none→q=0)→Calls Try.prog 31 #[.func (.func 32) #[] #[],.agg (cvals c (.slice a c.cells.length p) (.slice b c.words.length q)),.agg (hvals h)] w fun r w'=>StepN w w' (sendStep c h) r:=by
    intro w h1 z1 h2 z2
    cases hc:chanOk c with
    | false =>
      rw [show sendStep c h=nothing by simp [sendStep,stepOk,hc]]
      exact touched_no1 _ c h a b p q w h1 z1 h2 z2 l1 l2 hc
    | true =>
      cases hh:handOk h with
      | false =>
        rw [show sendStep c h=nothing by simp [sendStep,stepOk,hh]]
        exact touched_no2 _ c h a b p q w h1 z1 h2 z2 l1 l2 hc hh
      | true =>
        obtain ⟨x,e,HT⟩:=sendTouch_any c h hc hh
        rw [e]
        exact touched_via _ x c h a b p q w h1 z1 h2 z2 hc hh (fun args w=>by simp [go_sem]) HT
  generalize sendStep c h=x at *
  have T:=Lib.hid K
  have H1:=Lib.hid h1
  have H2:=Lib.hid h2
  have Z1:=Lib.hid z1
  have Z2:=Lib.hid z2
  clear h1 h2 z1 z2 K
  have d1:∀ j,(Value.slice none 0 0).ownBlock=some j→w.heap.size+1+1+1+1≤j:=fun j hj=>by cases hj
  have d2:=d1
  go_enter Try.func9,Try.ntmps9
  go_wp2_with fail;refine bHit w (by exact zB) fun bb=>?_;refine (T.out _ ((H1.out.below bb).more bb.size) Z1.out ((H2.out.below bb).more bb.size) Z2.out).mono ?_;rintro _ w9 ⟨⟨y1,y2,rfl,oY1,oY2,fY1,fY2⟩,hbw9⟩;have hCw9:Below w.heap.size w w9:=bT bb hbw9;have hsw9:=hbw9.size;(try simp at hsw9);have zz:=q4 hbw9 (b:=w.heap.size);(try simp [go_sem] at zz);(try clear z_wppp x_wppp f_wppp l_wppp);(try clear z_wpp x_wpp f_wpp l_wpp);(try clear z_wp x_wp f_wp l_wp);(try clear z_w x_w f_w l_w);obtain ⟨z_wppp,z_wpp,z_wp,z_w⟩:=zz;obtain ⟨x_wppp,f_wppp,l_wppp⟩:=bO z_wppp;obtain ⟨x_wpp,f_wpp,l_wpp⟩:=bO z_wpp;obtain ⟨x_wp,f_wp,l_wp⟩:=bO z_wp;obtain ⟨x_w,f_w,l_w⟩:=bO z_w;clear hbw9 bb
  replace oY1:OCells w9 w.heap.size y1 x.1.cells:=own_lo oY1 (by simp;omega)
  replace oY2:OInts w9 w.heap.size y2 x.1.words:=own_lo oY2 (by simp;omega)
  have hoff1:∀ j,w.heap.size≤j→j<w.heap.size+1+1+1+1→y1.ownBlock≠some j:=fun j _ h2=>fY1.off2 d1 h2 (by (try simp) <;> omega);have hoff2:∀ j,w.heap.size≤j→j<w.heap.size+1+1+1+1→y2.ownBlock≠some j:=fun j _ h2=>fY2.off2 d2 h2 (by (try simp) <;> omega);have fr1:Fresh w (.slice none 0 0) y1:=fun j hj=>.inr (fY1.up d1 (by (try simp) <;> omega) (by (try simp) <;> omega) j hj);have fr2:Fresh w (.slice none 0 0) y2:=fun j hj=>.inr (fY2.up d2 (by (try simp) <;> omega) (by (try simp) <;> omega) j hj);obtain ⟨ya,yp,rfl,_⟩:=oY1.seg;obtain ⟨yb,yq,rfl,_⟩:=oY2.seg
  go_wp2
  refine bodyPost_ret (res_cct Try.results9 rfl (ldChan x.1 (.slice ya x.1.cells.length yp) (.slice yb x.1.words.length yq) (by simp [go_sem, *])) rfl (ldHand x.2.1 (by simp [go_sem, *]))) rfl ⟨⟨_,_,rfl,?_,?_,fr1,fr2⟩,by exact zB⟩
  · exact zP oY1 oY1 hoff1
  · exact zP oY2 oY2 hoff2
end Go.Proofs.Ytkiingmgpobgnaa
set_option linter.unusedSimpArgs false
set_option linter.unusedVariables false
namespace Go.Proofs.Ytkiingmgpobgnaa
structure De where
  task:Int
  code:Int
  elem:Int
  beg:Int
  fin:Int
  reply:Int
  out:Int
structure Wo where
  ch:Ch
  hands:List Ha
  deals:List De
  now:Int
def Wo.zero:Wo:=⟨Ch.zero,[],[],0⟩
def De.zero:De:=⟨0,0,0,0,0,0,0⟩
def taskB (n:Nat) (who:Int):Bool:=inB who 0 ((n:Int) - 1)
def dealB (n:Nat) (now:Int) (d:De):Bool:=taskB n d.task && (replyOk d.code d.elem d.reply && (inB d.beg 0 now && (inB d.fin 0 now && inB d.out 0 999)))
def handB11 (now:Int) (h:Ha):Bool:=handOk h && decide (h.beg≤now)
def worldHead (x:Wo):Bool:=chanOk x.ch && (decide (1≤x.hands.length) && (decide (x.hands.length≤6) && (decide (x.deals.length≤1000) && inB x.now 0 20000)))
def worldOk (x:Wo):Bool:=worldHead x && (x.hands.all (handB11 x.now) && x.deals.all (dealB x.hands.length x.now))
def handAt (x:Wo) (who:Int):Ha:=x.hands.getD who.toNat Ha.zero
def setHand (x:Wo) (who:Int) (h:Ha):Wo:={ x with hands:=x.hands.set who.toNat h }
def taskOk (x:Wo) (who:Int):Bool:=taskB x.hands.length who
/-- What a step makes of a world. -/
def stepW (x:Wo) (who:Int) (s:St):Wo × Bool :=
  if !s.2.2 || x.now == 20000 then (x,false)
  else if s.2.1.pos != 0 then ({ setHand x who s.2.1 with now:=x.now+1,ch:=s.1 },true)
  else if decide (1000≤x.deals.length) || !replyOk (handAt x who).code (handAt x who).elem s.2.1.reply then (x,false)
  else ({ setHand x who s.2.1 with now:=x.now+1,ch:=s.1,deals:=x.deals ++ [⟨who,(handAt x who).code,(handAt x who).elem,(handAt x who).beg,x.now+1,s.2.1.reply,s.2.1.out⟩] },true)
def step11 (x:Wo) (who:Int):Wo × Bool:=stepW x who (stepC x.ch (handAt x who))
/-- At most that many steps of one who is not at rest: the world, and how many. -/
def aloneN:Nat→Wo→Int→Wo × Nat
  | 0,x,_=>(x,0)
  | n+1,x,who=>if (handAt x who).pos == 0 then (x,0) else if (step11 x who).2 then ((aloneN n (step11 x who).1 who).1,(aloneN n (step11 x who).1 who).2+1) else (x,0)
def alone (x:Wo) (who most:Int):Wo × Int :=
  if worldOk x && taskOk x who then (if inB most 0 20000 then ((aloneN most.toNat x who).1,(aloneN most.toNat x who).2) else (x,-1)) else (Wo.zero,-1)
end Go.Proofs.Ytkiingmgpobgnaa
set_option linter.unusedSimpArgs false
set_option linter.unusedVariables false
namespace Go.Proofs.Ytkiingmgpobgnaa
/-- One who has waited, and goes on to be parked or to end. -/
def Ph (h:Ha):Prop:=(16≤h.pos∧h.pos≤22∧h.nxt=1)∨23≤h.pos
/-- What a step leaves. -/
def Good (c:Ch) (h:Ha) (s:St):Prop:=s.2.2=true→chanOk s.1=true∧handOk s.2.1=true∧(s.2.1.beg=h.beg∨s.2.1.beg=0) ∧
  ((s.1.words.length=c.words.length∧(Ph h→Ph s.2.1∨s.2.1.pos=0))∨(s.1.words.length=c.words.length+1∧¬ Ph h∧Ph s.2.1))
theorem good_no (c:Ch) (h:Ha) (a:Ch) (b:Ha):Good c h (a,b,false):=fun e=>by cases e
theorem good_nothing (c:Ch) (h:Ha):Good c h nothing:=fun e=>by cases e
theorem good_done {c:Ch} {h:Ha} {c':Ch} {h':Ha} (hb:h'.beg=h.beg∨h'.beg=0) (hw:(c'.words.length=c.words.length∧(Ph h→Ph h'∨h'.pos=0))∨(c'.words.length=c.words.length+1∧¬ Ph h∧Ph h')):Good c h (done c' h'):=by
  unfold done
  split
  · rename_i e
    simp at e
    exact fun _=>⟨e.1,e.2,hb,hw⟩
  · exact good_nothing c h
theorem tell_len (c:Ch) (v x:Int):(tellC c v x).words.length=c.words.length:=by unfold tellC;split <;> simp
theorem anew_beg (h:Ha):(anew h).beg=h.beg:=rfl
theorem grown_beg (h:Ha):(grown8 h).beg=h.beg∨(grown8 h).beg=0:=by unfold grown8;split <;> (try split) <;> simp [resting,anew_beg]
theorem grown_ph {h h':Ha} (e:h'.nxt=h.nxt) (hp:h.pos≤22) (H:Ph h):Ph (grown8 h')∨(grown8 h').pos=0:=by
  have hn:h.nxt=1:=by
    rcases H with H|H
    · exact H.2.2
    · omega
  left
  unfold grown8
  rw [e,hn]
  right
  simp
theorem good_send {c:Ch} {h:Ha} (hl:¬ Ph h):Good c h (sendStep c h):=by
  have K:∀ {c':Ch} {h':Ha},(h'.beg=h.beg∨h'.beg=0)→c'.words.length=c.words.length→Good c h (done c' h'):=fun hb hw=>good_done hb (.inl ⟨hw,fun H=>absurd H hl⟩)
  unfold sendStep
  repeat' split
  all_goals try exact good_nothing c h
  · unfold send1;split
    · exact K (.inr rfl) rfl
    · exact K (.inl rfl) rfl
  · exact K (.inl rfl) rfl
  · unfold send3 look6
    simp only
    repeat' split
    all_goals first|exact good_nothing c h|exact K (.inl rfl) rfl
  · exact K (.inl rfl) rfl
  · exact K (.inl rfl) rfl
  · unfold put6 wait6
    repeat' split
    all_goals first|exact good_nothing c h|exact K (.inr rfl) rfl|exact K (.inl rfl) rfl|skip
    exact good_done (.inl rfl) (.inr ⟨by simp,hl,.inr (by show (23:Int)≤23;omega)⟩)
  · unfold call6
    refine K ?_ (tell_len _ _ _)
    simp only
    split <;> exact .inl rfl
  · exact K (.inr rfl) rfl
theorem good_recv {c:Ch} {h:Ha} (hl:¬ Ph h):Good c h (recvStep c h):=by
  have K:∀ {c':Ch} {h':Ha},(h'.beg=h.beg∨h'.beg=0)→c'.words.length=c.words.length→Good c h (done c' h'):=fun hb hw=>good_done hb (.inl ⟨hw,fun H=>absurd H hl⟩)
  unfold recvStep
  repeat' split
  all_goals try exact good_nothing c h
  · unfold recv1;split
    · exact K (.inr rfl) rfl
    · exact K (.inl rfl) rfl
  · unfold recv2 view7
    simp only
    repeat' split
    all_goals first|exact good_nothing c h|exact good_no c h _ _|exact K (.inl rfl) rfl
  · exact K (.inl rfl) rfl
  · unfold take7 turn7 wait6 then7
    repeat' split
    all_goals first|exact good_nothing c h|exact K (.inr rfl) rfl|exact K (.inl rfl) rfl|skip
    all_goals first|exact good_done (.inl rfl) (.inr ⟨by simp,hl,.inl ⟨by simp,by simp,rfl⟩⟩)|skip
    all_goals simp_all
  · unfold wake7
    exact K (.inl rfl) (tell_len _ _ _)
  · exact K (.inl rfl) rfl
  · exact K (.inl rfl) rfl
theorem good_grow {c:Ch} {h:Ha} (hp0:16≤h.pos) (hp:h.pos≤22):Good c h (growStep c h):=by
  have N:Ph h→h.nxt=1:=fun H=>by
    rcases H with H|H
    · exact H.2.2
    · omega
  have K:∀ {c':Ch} {h':Ha},(h'.beg=h.beg∨h'.beg=0)→c'.words.length=c.words.length→h'.nxt=h.nxt→(16≤h'.pos∧h'.pos≤22)→Good c h (done c' h'):=fun hb hw e q=>good_done hb (.inl ⟨hw,fun H=>.inl (.inl ⟨q.1,q.2,e.trans (N H)⟩)⟩)
  have G:∀ {c':Ch} {h':Ha},h'.beg=h.beg→c'.words.length=c.words.length→h'.nxt=h.nxt→Good c h (done c' (grown8 h')):=fun {c' h'} hb hw e=>good_done (by rw [← hb];exact grown_beg h') (.inl ⟨hw,fun H=>grown_ph e hp H⟩)
  unfold growStep
  repeat' split
  all_goals try exact good_nothing c h
  · unfold begin8
    split
    · exact G rfl rfl rfl
    · exact K (.inl rfl) rfl rfl ⟨by simp,by simp⟩
  · exact G rfl rfl rfl
  · exact K (.inl rfl) rfl rfl ⟨by simp,by simp⟩
  · unfold meetStep meet8
    simp only
    repeat' split
    all_goals first|exact good_no c h _ _|exact K (.inl rfl) rfl rfl ⟨by simp [seenAs],by simp [seenAs]⟩|exact G rfl rfl rfl
  · unfold pull8 turn8
    repeat' split
    all_goals first|exact good_nothing c h|exact K (.inl rfl) rfl rfl ⟨by simp,by simp⟩|exact G rfl rfl rfl
  · unfold raise8
    exact K (.inl rfl) (tell_len _ _ _) rfl ⟨by simp only;split <;> omega,by simp only;split <;> omega⟩
  · exact G rfl rfl rfl
  · exact K (.inl rfl) rfl rfl ⟨by simp,by simp⟩
theorem good_park (c:Ch) (h:Ha):Good c h (parkStep c h):=by
  have K:∀ {c':Ch} {h':Ha},(h'.beg=h.beg∨h'.beg=0)→c'.words.length=c.words.length→(23≤h'.pos∨h'.pos=0)→Good c h (done c' h'):=fun hb hw q=>good_done hb (.inl ⟨hw,fun _=>q.imp (fun q=>.inr q) id⟩)
  unfold parkStep
  repeat' split
  all_goals try exact good_nothing c h
  · unfold park9
    repeat' split
    all_goals first|exact good_no c h _ _|exact K (.inr rfl) rfl (.inr rfl)|exact K (.inl rfl) rfl (.inl (by simp))
  · exact K (.inr rfl) rfl (.inr rfl)
  · exact K (.inr rfl) rfl (.inr rfl)
theorem good_step (c:Ch) (h:Ha):Good c h (stepC c h):=by
  unfold stepC
  split
  · rename_i e
    simp [inB] at e
    exact good_send (by unfold Ph;omega)
  · split
    · rename_i e
      simp [inB] at e
      exact good_recv (by unfold Ph;omega)
    · split
      · rename_i e
        simp [inB] at e
        exact good_grow e.1 e.2
      · exact good_park c h
end Go.Proofs.Ytkiingmgpobgnaa
set_option linter.unusedSimpArgs false
set_option linter.unusedVariables false
namespace Go.Proofs.Ytkiingmgpobgnaa
/-- A right world, said at length. -/
structure RightW (x:Wo):Prop where
  ch:chanOk x.ch=true
  h1:1≤x.hands.length
  h6:x.hands.length≤6
  d:x.deals.length≤1000
  n0:0≤x.now
  n1:x.now≤20000
  hs:∀ h ∈ x.hands,handOk h=true∧h.beg≤x.now
  ds:∀ d ∈ x.deals,dealB x.hands.length x.now d=true
theorem hand_parts {h:Ha} (e:handOk h=true):0≤h.beg∧h.beg≤20000∧inB h.out 0 999=true:=by
  simp only [handOk,handC,Bool.and_eq_true,inB_iff] at e
  obtain ⟨_,_,_,_,_,⟨b0,b1⟩,_,o⟩:=e
  exact ⟨b0,b1,by simpa [inB] using o⟩
theorem chan_parts {c:Ch} (e:chanOk c=true):c.cells.length=40∧c.words.length≤80:=by
  simp only [chanOk,chanHead,Bool.and_eq_true,decide_eq_true_eq] at e
  exact ⟨e.1.2.2.2.2.1,e.1.2.2.2.2.2⟩
theorem deal_later {n:Nat} {a b:Int} {d:De} (h:dealB n a d=true) (hab:a≤b):dealB n b d=true:=by
  simp only [dealB,Bool.and_eq_true,inB_iff] at h ⊢
  obtain ⟨h1,h2,h3,h4,h5⟩:=h
  exact ⟨h1,h2,⟨h3.1,by omega⟩,⟨h4.1,by omega⟩,h5⟩
theorem task_lt {x:Wo} {who:Int} (h:taskOk x who=true):0≤who∧who.toNat<x.hands.length:=by
  simp [taskOk,taskB,inB] at h
  omega
theorem hand_mem {x:Wo} {who:Int} (h:taskOk x who=true):handAt x who ∈ x.hands:=by
  have:=(task_lt h).2
  unfold handAt
  rw [List.getD_eq_getElem?_getD,List.getElem?_eq_getElem this]
  exact List.getElem_mem this
theorem set_mem {l:List Ha} {i:Nat} {h y:Ha} (m:y ∈ l.set i h):y ∈ l∨y=h:=List.mem_or_eq_of_mem_set m
theorem hand_set {x:Wo} {who:Int} (h:taskOk x who=true) (y:Ha):(x.hands.set who.toNat y).getD who.toNat Ha.zero=y:=by
  have:=(task_lt h).2
  simp [List.getD,this]
/-- A hand and the channel are turned, and it is one later. -/
theorem right_next {x:Wo} {who:Int} {c:Ch} {h:Ha} {ds:List De} (hx:RightW x) (hc:chanOk c=true) (hh:handOk h=true) (hb:h.beg≤x.now+1) (hn:x.now≠20000) (hl:ds.length≤1000) (hd:∀ d ∈ ds,dealB x.hands.length (x.now+1) d=true) :
    RightW ⟨c,x.hands.set who.toNat h,ds,x.now+1⟩:=by
  have:=hx.n0;have:=hx.n1
  refine ⟨hc,by simpa using hx.h1,by simpa using hx.h6,hl,by simp only;omega,by simp only;omega,?_,by simpa using hd⟩
  intro y m
  rcases set_mem m with m|rfl
  · have:=hx.hs y m
    exact ⟨this.1,by simp only;omega⟩
  · exact ⟨hh,hb⟩
theorem deals_later {x:Wo} (hx:RightW x):∀ d ∈ x.deals,dealB x.hands.length (x.now+1) d=true:=fun d m=>deal_later (hx.ds d m) (by omega)
/-- What a step of one who has a task makes. -/
theorem step_right {x:Wo} {who:Int} (hx:RightW x) (ht:taskOk x who=true) (hs:(step11 x who).2=true) :
    RightW (step11 x who).1∧(step11 x who).1.hands.length=x.hands.length∧handAt (step11 x who).1 who=(stepC x.ch (handAt x who)).2.1∧(step11 x who).1.ch=(stepC x.ch (handAt x who)).1∧(stepC x.ch (handAt x who)).2.2=true:=by
  have G:=good_step x.ch (handAt x who)
  have hm:=hx.hs _ (hand_mem ht)
  have hp:=hand_parts hm.1
  generalize hS:stepC x.ch (handAt x who)=S at G ⊢
  have e:step11 x who=stepW x who S:=by rw [step11,hS]
  rw [e] at hs ⊢
  unfold stepW at hs ⊢
  split at hs
  · cases hs
  · rename_i h0
    rw [if_neg h0]
    simp at h0
    obtain ⟨h2,hn⟩:=h0
    obtain ⟨g1,g2,g3,_⟩:=G h2
    have hb:S.2.1.beg≤x.now+1:=by rcases g3 with g3|g3 <;> omega
    split at hs
    · rename_i h3
      rw [if_pos h3]
      exact ⟨right_next hx g1 g2 hb hn hx.d (deals_later hx),by simp [setHand],hand_set ht _,rfl,h2⟩
    · rename_i h3
      rw [if_neg h3]
      split at hs
      · cases hs
      · rename_i h4
        rw [if_neg h4]
        simp at h4
        refine ⟨right_next hx g1 g2 hb hn (by simp;omega) ?_,by simp [setHand],hand_set ht _,rfl,h2⟩
        intro d m
        rcases List.mem_append.1 m with m|m
        · exact deals_later hx d m
        · simp at m
          subst m
          have hq:=hand_parts g2
          have:=hx.n0
          simp only [dealB,Bool.and_eq_true,inB_iff]
          refine ⟨ht,h4.2,⟨hp.1,by omega⟩,⟨by omega,by omega⟩,by simpa [inB] using hq.2.2⟩
end Go.Proofs.Ytkiingmgpobgnaa
set_option linter.unusedSimpArgs false
set_option linter.unusedVariables false
namespace Go.Proofs.Ytkiingmgpobgnaa
def busyN (c:C3):Nat:=if 2≤c.s then 1 else 0
/-- How many cells are not free. -/
def busyC:List C3→Nat
  | []=>0
  | c :: cs=>busyN c+busyC cs
theorem busy_le:∀ l:List C3,busyC l≤l.length
  | []=>Nat.le_refl _
  | c :: cs=>by
    have:=busy_le cs
    have:busyN c≤1:=by unfold busyN;split <;> omega
    simp only [busyC,List.length_cons];omega
theorem busy_set:∀ (l:List C3) (i:Nat) (x d:C3),i<l.length→busyC (l.set i x)+busyN (l.getD i d)=busyC l+busyN x
  | [],i,x,d,h=>by simp at h
  | c :: cs,0,x,d,_=>by simp [busyC];omega
  | c :: cs,i+1,x,d,h=>by
    have:=busy_set cs i x d (by simpa using h)
    simp only [List.set_cons_succ,busyC,List.getD_cons_succ];omega
def Wn (c:Ch):Prop:=c.words.length≤busyC c.cells
theorem wn_max {c:Ch} (h:Wn c) (hl:c.cells.length≤40):c.words.length≤40:=Nat.le_trans h (Nat.le_trans (busy_le _) hl)
theorem busy_far (l:List C3) (i:Nat) (x:C3) (h:¬ i<l.length):l.set i x=l:=List.set_eq_of_length_le (by omega)
/-- A cell is set to one that is at least as busy. -/
theorem wn_set {c:Ch} {i:Int} {x:C3} (h:Wn c) (hx:busyN (cellAt c i)≤busyN x):Wn (setAt c i x):=by
  unfold Wn setAt at *
  by_cases hi:i.toNat<c.cells.length
  · have:=busy_set c.cells i.toNat x ⟨0,0,0⟩ hi
    unfold cellAt at hx
    simp only;omega
  · simp only [busy_far _ _ _ hi];exact h
theorem busy_one {x:C3} (h:2≤x.s):busyN x=1:=by simp [busyN,h]
theorem busy_top (x:C3):busyN x≤1:=by unfold busyN;split <;> omega
theorem wn_state {c:Ch} {i st:Int} (h:Wn c) (hs:2≤st):Wn (stateC c i st):=wn_set h (by rw [busy_one (x:={ cellAt c i with s:=st }) hs];exact busy_top _)
theorem turnS_cases (s e t f n v:Int):(turnB s e t f n v=true∧s=f∧turnS s e t f n v=n)∨(turnB s e t f n v=false∧turnS s e t f n v=s):=by
  by_cases h:turnB s e t f n v=true
  · refine .inl ⟨h,?_,by simp [turnS,h]⟩
    simp [turnB] at h
    exact h.1
  · exact .inr ⟨by simpa using h,by simp [turnS,h]⟩
theorem wn_turn {c:Ch} {i f t v:Int} (h:Wn c) (ht:2≤t∨f<2):Wn (turnC c i f t v):=by
  refine wn_set h ?_
  rcases turnS_cases (cellAt c i).s (cellAt c i).e (cellAt c i).t f t v with ⟨_,e1,e2⟩|⟨_,e2⟩
  · rcases ht with ht|ht
    · rw [busy_one (x:=turnX (cellAt c i) f t v) (by show 2≤turnS _ _ _ _ _ _;rw [e2];exact ht)];exact busy_top _
    · have:¬ 2≤(cellAt c i).s:=by omega
      simp [busyN,this]
  · simp only [busyN,turnX,e2];exact Nat.le_refl _
theorem wn_lay {c:Ch} {i m:Int} (h:Wn c):Wn (layC c i m):=wn_set h (Nat.le_refl _)
theorem wn_tell {c:Ch} {v x:Int} (h:Wn c):Wn (tellC c v x):=by
  unfold tellC
  split
  · unfold Wn at *;simpa using h
  · exact h
/-- One who waits has a word more, and a free cell less. -/
theorem wn_wait {c:Ch} {h:Ha} {st th el:Int} (H:Wn c) (hs:h.seen<2) (ht:2≤st) (hi:h.cell.toNat<c.cells.length):Wn (wait6 c h st th el).1:=by
  unfold wait6
  split
  · exact H
  · split
    · rename_i hb
      unfold turnCB turnXB at hb
      have e1:(cellAt c h.cell).s=h.seen:=by simp [turnB] at hb;exact hb.1
      have B:=busy_set c.cells h.cell.toNat (turnX (cellAt c h.cell) h.seen st (c.words.length+1)) ⟨0,0,0⟩ hi
      have b0:busyN (c.cells.getD h.cell.toNat ⟨0,0,0⟩)=0:=by
        have:¬ 2≤(cellAt c h.cell).s:=by omega
        exact if_neg this
      have b1:busyN (turnX (cellAt c h.cell) h.seen st (c.words.length+1))=1:=busy_one (by show 2≤turnS _ _ _ _ _ _;simp only [turnS,hb];exact ht)
      unfold Wn turnC setAt at *
      simp only [List.length_append,List.length_cons,List.length_nil]
      omega
    · exact wn_turn H (.inl ht)
def KeepN (c:Ch) (s:St):Prop:=Wn c→s.2.2=true→Wn s.1
theorem keep_no (c:Ch) (a:Ch) (b:Ha):KeepN c (a,b,false):=fun _ e=>by cases e
theorem keep_nothing (c:Ch):KeepN c nothing:=fun _ e=>by cases e
theorem keep_done {c c':Ch} {h':Ha} (H:Wn c→Wn c'):KeepN c (done c' h'):=by
  unfold done
  split
  · exact fun h _=>H h
  · exact keep_nothing c
theorem cell_in {c:Ch} {h:Ha} {f t k:Int} (e:stepOk c h f t k=true):h.cell.toNat<c.cells.length∧h.grow.toNat<c.cells.length:=by
  simp only [stepOk,handOk,handB,Bool.and_eq_true,inB_iff] at e
  have:=(chan_parts e.1).1
  obtain ⟨_,⟨_,⟨⟨a0,a1⟩,⟨b0,b1⟩,_⟩,_⟩,_⟩:=e
  omega
theorem wn_send (c:Ch) (h:Ha):KeepN c (sendStep c h):=by
  unfold sendStep
  split
  · rename_i e
    have hi:=(cell_in e).1
    repeat' split
    · unfold send1;split <;> exact keep_done fun H=>H
    · exact keep_done fun H=>wn_lay H
    · unfold send3;split
      · exact keep_done fun H=>H
      · exact keep_nothing c
    · exact keep_done fun H=>H
    · exact keep_done fun H=>H
    · unfold put6
      split
      · exact keep_nothing c
      · split
        · rename_i e2
          simp at e2
          exact keep_done fun H=>wn_wait H (by omega) (by decide) hi
        · split <;> exact keep_done fun H=>wn_turn H (.inl (by decide))
    · exact keep_done fun H=>wn_tell H
    · exact keep_done fun H=>wn_state H (by decide)
  · exact keep_nothing c
theorem wn_recv (c:Ch) (h:Ha):KeepN c (recvStep c h):=by
  unfold recvStep
  split
  · rename_i e
    have hi:=(cell_in e).1
    repeat' split
    · unfold recv1;split <;> exact keep_done fun H=>H
    · unfold recv2
      repeat' split
      · exact keep_no c _ _
      · exact keep_done fun H=>H
      · exact keep_nothing c
    · exact keep_done fun H=>H
    · unfold take7 turn7
      repeat' split
      all_goals first|exact keep_nothing c|exact keep_done fun H=>wn_turn H (.inl (by decide))|skip
      rename_i h2 _
      simp at h2
      exact keep_done fun H=>wn_wait H (by omega) (by decide) hi
    · exact keep_done fun H=>wn_tell H
    · exact keep_done fun H=>wn_state H (by decide)
    · exact keep_done fun H=>wn_state H (by decide)
  · exact keep_nothing c
theorem wn_grow (c:Ch) (h:Ha):KeepN c (growStep c h):=by
  unfold growStep
  repeat' split
  all_goals try exact keep_nothing c
  · unfold begin8;split <;> exact keep_done fun H=>H
  · exact keep_done fun H=>H
  · exact keep_done fun H=>H
  · unfold meetStep;split
    · exact keep_no c _ _
    · exact keep_done fun H=>H
  · unfold pull8 turn8
    repeat' split
    all_goals first|exact keep_nothing c|exact keep_done fun H=>wn_turn H (.inl (by decide))|skip
    all_goals
      rename_i h0 _
      simp at h0
      exact keep_done fun H=>wn_turn H (.inr (by omega))
  · exact keep_done fun H=>wn_tell H
  · exact keep_done fun H=>wn_state H (by decide)
  · exact keep_done fun H=>wn_state H (by decide)
theorem wn_park (c:Ch) (h:Ha):KeepN c (parkStep c h):=by
  unfold parkStep
  repeat' split
  all_goals try exact keep_nothing c
  · unfold park9
    repeat' split
    all_goals first|exact keep_no c _ _|exact keep_done fun H=>H
  · exact keep_done fun H=>H
  · exact keep_done fun H=>wn_state H (by unfold goneS;split <;> decide)
theorem wn_step (c:Ch) (h:Ha):KeepN c (stepC c h):=by
  unfold stepC
  repeat' split
  · exact wn_send c h
  · exact wn_recv c h
  · exact wn_grow c h
  · exact wn_park c h
theorem step11_wn {x:Wo} {who:Int} (hx:RightW x) (ht:taskOk x who=true) (h:Wn x.ch) (hs:(step11 x who).2=true):Wn (step11 x who).1.ch:=by
  obtain ⟨_,_,_,r4,r5⟩:=step_right hx ht hs
  rw [r4]
  exact wn_step _ _ h r5
/-- A right world in which there are no more words than cells that are not free, of so many tasks. -/
structure GoodW (n:Nat) (x:Wo):Prop where
  right:RightW x
  wn:Wn x.ch
  len:x.hands.length=n
theorem step11_no {x:Wo} {who:Int} (h:(step11 x who).2=false):(step11 x who).1=x:=by
  unfold step11 stepW at *
  repeat' split at h
  all_goals first|cases h|skip
  all_goals simp_all
theorem GoodW.step {n:Nat} {x:Wo} {who:Int} (h:GoodW n x) (ht:taskOk x who=true):GoodW n (step11 x who).1:=by
  cases hs:(step11 x who).2 with
  | true =>
    obtain ⟨r1,r2,_⟩:=step_right h.right ht hs
    exact ⟨r1,step11_wn h.right ht h.wn hs,r2.trans h.len⟩
  | false=>rw [step11_no hs];exact h
theorem GoodW.task {n:Nat} {x:Wo} {i:Nat} (h:GoodW n x) (hi:i<n):taskOk x i=true:=by
  have:=h.len
  simp [taskOk,taskB,inB];omega
theorem GoodW.words {n:Nat} {x:Wo} (h:GoodW n x):x.ch.words.length≤40∧x.ch.cells.length=40:=by
  have:=chan_parts h.right.ch
  exact ⟨wn_max h.wn (by omega),this.1⟩
end Go.Proofs.Ytkiingmgpobgnaa
set_option linter.unusedSimpArgs false
set_option linter.unusedVariables false
namespace Go.Proofs.Ytkiingmgpobgnaa
def sameC (a b:C3):Bool:=a.s == b.s && (a.e == b.e && a.t == b.t)
theorem sameC_self (a:C3):sameC a a=true:=by simp [sameC]
/-- How many cells, how many words are others. -/
def diffC:List C3→List C3→Nat
  | a :: l,b :: m=>(if sameC a b then 0 else 1)+diffC l m
  | _,_=>0
def diffI:List Int→List Int→Nat
  | a :: l,b :: m=>(if a == b then 0 else 1)+diffI l m
  | _,_=>0
def oneN (a b:Int):Nat:=if a == b then 0 else 1
def touchedN (c d:Ch):Nat:=oneN c.sent d.sent+oneN c.got d.got+oneN c.fin d.fin+diffC c.cells d.cells+diffI c.words d.words
theorem diffC_self:∀ l:List C3,diffC l l=0
  | []=>rfl
  | a :: l=>by simp [diffC,sameC_self,diffC_self l]
theorem diffI_self:∀ l:List Int,diffI l l=0
  | []=>rfl
  | a :: l=>by simp [diffI,diffI_self l]
theorem diffI_more:∀ (l m:List Int),diffI l (l ++ m)=0
  | [],m=>by cases m <;> rfl
  | a :: l,m=>by simp [diffI,diffI_more l m]
theorem diffC_set:∀ (l:List C3) (i:Nat) (x:C3),diffC l (l.set i x)≤1
  | [],_,_=>by simp [diffC]
  | a :: l,0,x=>by
    simp only [List.set_cons_zero,diffC,diffC_self]
    split <;> omega
  | a :: l,i+1,x=>by
    have:=diffC_set l i x
    simp only [List.set_cons_succ,diffC,sameC_self]
    simpa using this
theorem diffI_set:∀ (l:List Int) (i:Nat) (x:Int),diffI l (l.set i x)≤1
  | [],_,_=>by simp [diffI]
  | a :: l,0,x=>by
    simp only [List.set_cons_zero,diffI,diffI_self]
    split <;> omega
  | a :: l,i+1,x=>by
    have:=diffI_set l i x
    simp only [List.set_cons_succ,diffI]
    simpa using this
theorem oneN_self (a:Int):oneN a a=0:=by simp [oneN]
theorem oneN_le (a b:Int):oneN a b≤1:=by unfold oneN;split <;> omega
theorem touch_none (c:Ch):touchedN c c≤1:=by simp [touchedN,oneN_self,diffC_self,diffI_self]
theorem touch_sent (c:Ch) (n:Int):touchedN c { c with sent:=n }≤1:=by have:=oneN_le c.sent n;simp [touchedN,oneN_self,diffC_self,diffI_self];exact this
theorem touch_set (c:Ch) (i:Int) (x:C3):touchedN c (setAt c i x)≤1:=by have:=diffC_set c.cells i.toNat x;simp [touchedN,setAt,oneN_self,diffI_self];exact this
theorem touch_more (c:Ch) (i:Int) (x:C3) (m:List Int):touchedN c { setAt c i x with words:=c.words ++ m }≤1:=by have:=diffC_set c.cells i.toNat x;simp [touchedN,setAt,oneN_self,diffI_more];exact this
theorem touch_tell (c:Ch) (v x:Int):touchedN c (tellC c v x)≤1:=by
  unfold tellC
  split
  · have:=diffI_set c.words (v - 1).toNat x;simp only [touchedN,oneN_self,diffC_self,Nat.zero_add];exact this
  · exact touch_none c
theorem touch_wait (c:Ch) (h:Ha) (st th el:Int):touchedN c (wait6 c h st th el).1≤1:=by
  unfold wait6
  repeat' split
  · exact touch_none c
  · exact touch_more c _ _ _
  · exact touch_set c _ _
/-- What a step leaves of the channel. -/
def KeepT (c:Ch) (s:St):Prop:=s.2.2=true→chanOk s.1=true∧handOk s.2.1=true∧touchedN c s.1≤1∧c.fin≤s.1.fin∧s.1.words.length≤c.words.length+1
theorem keepT_no (c:Ch) (a:Ch) (b:Ha):KeepT c (a,b,false):=fun e=>by cases e
theorem keepT_nothing (c:Ch):KeepT c nothing:=fun e=>by cases e
theorem keepT_done {c c':Ch} {h':Ha} (H:touchedN c c'≤1) (hf:c.fin≤c'.fin) (hw:c'.words.length≤c.words.length+1):KeepT c (done c' h'):=by
  unfold done
  split
  · rename_i e
    simp at e
    exact fun _=>⟨e.1,e.2,H,hf,hw⟩
  · exact keepT_nothing c
theorem tell_fin (c:Ch) (v x:Int):(tellC c v x).fin=c.fin:=by unfold tellC;split <;> rfl
theorem wait_fin (c:Ch) (h:Ha) (st th el:Int):(wait6 c h st th el).1.fin=c.fin:=by
  unfold wait6
  repeat' split
  all_goals rfl
theorem wait_words (c:Ch) (h:Ha) (st th el:Int):(wait6 c h st th el).1.words.length≤c.words.length+1:=by
  unfold wait6;repeat' split
  all_goals simp [turnC,setAt]
theorem kN {c:Ch} {h':Ha}:KeepT c (done c h'):=keepT_done (touch_none c) (Int.le_refl _) (by omega)
theorem kS {c:Ch} {h':Ha} (i:Int) (x:C3):KeepT c (done (setAt c i x) h'):=keepT_done (touch_set c i x) (Int.le_refl _) (by simp [setAt])
theorem kSt {c:Ch} {h':Ha} (i st:Int):KeepT c (done (stateC c i st) h'):=kS i _
theorem kTu {c:Ch} {h':Ha} (i f t v:Int):KeepT c (done (turnC c i f t v) h'):=kS i _
theorem kLa {c:Ch} {h':Ha} (i m:Int):KeepT c (done (layC c i m) h'):=kS i _
theorem kT {c:Ch} {h':Ha} (v x:Int):KeepT c (done (tellC c v x) h'):=keepT_done (touch_tell c v x) (by rw [tell_fin];exact Int.le_refl _) (by rw [tell_len];omega)
theorem kW {c:Ch} {h' h:Ha} (st th el:Int):KeepT c (done (wait6 c h st th el).1 h'):=keepT_done (touch_wait c h st th el) (by rw [wait_fin];exact Int.le_refl _) (wait_words c h st th el)
theorem touch_send (c:Ch) (h:Ha):KeepT c (sendStep c h):=by
  unfold sendStep
  repeat' split
  all_goals try exact keepT_nothing c
  · unfold send1;split
    · exact kN
    · exact keepT_done (touch_sent c _) (Int.le_refl _) (by simp)
  · exact kLa _ _
  · unfold send3;split
    · exact kN
    · exact keepT_nothing c
  · exact kN
  · exact kN
  · unfold put6
    repeat' split
    all_goals first|exact keepT_nothing c|with_reducible exact kTu _ _ _ _|with_reducible exact kW _ _ _
  · exact kT _ _
  · exact kSt _ _
theorem touch_park (c:Ch) (h:Ha):KeepT c (parkStep c h):=by
  unfold parkStep
  repeat' split
  all_goals try exact keepT_nothing c
  · unfold park9
    repeat' split
    all_goals first|exact keepT_no c _ _|exact kN
  · exact kN
  · exact kSt _ _
/-- What is answered holds lists that are not too long. -/
def LenS (c:Ch) (s:St):Prop:=(c.cells.length≤1048576→s.1.cells.length≤1048576)∧(c.words.length≤1048576→s.1.words.length≤1048576)
theorem len_of {c:Ch} {s:St} (h:KeepT c s) (h2:s.2.2=false→s.1=c∨s.1=Ch.zero):LenS c s:=by
  cases hs:s.2.2 with
  | true =>
    have:=chan_parts (h hs).1
    exact ⟨fun _=>by omega,fun _=>by omega⟩
  | false =>
    rcases h2 hs with e|e <;> rw [LenS,e]
    · exact ⟨id,id⟩
    · exact ⟨fun _=>by simp [Ch.zero],fun _=>by simp [Ch.zero]⟩
def NoS (c:Ch) (s:St):Prop:=s.2.2=false→s.1=c∨s.1=Ch.zero
theorem no_done {c c':Ch} {h':Ha}:NoS c (done c' h'):=by
  unfold done
  split
  · exact fun e=>by cases e
  · exact fun _=>.inr rfl
theorem no_nothing {c:Ch}:NoS c nothing:=fun _=>.inr rfl
theorem no_same {c:Ch} {h:Ha} {b:Bool}:NoS c (c,h,b):=fun _=>.inl rfl
theorem no_send (c:Ch) (h:Ha):NoS c (sendStep c h):=by
  unfold sendStep
  repeat' split
  all_goals first|exact no_nothing|with_reducible exact no_done|(unfold send1;(repeat' split) <;> (first|exact no_nothing|with_reducible exact no_done|exact no_same);done)|(unfold send2;(repeat' split) <;> (first|exact no_nothing|with_reducible exact no_done|exact no_same);done)|(unfold send3;(repeat' split) <;> (first|exact no_nothing|with_reducible exact no_done|exact no_same);done)|(unfold put6;(repeat' split) <;> (first|exact no_nothing|with_reducible exact no_done|exact no_same);done)
theorem no_park (c:Ch) (h:Ha):NoS c (parkStep c h):=by
  unfold parkStep
  repeat' split
  all_goals first|exact no_nothing|with_reducible exact no_done|(unfold park9;(repeat' split) <;> (first|exact no_nothing|with_reducible exact no_done|exact no_same);done)
theorem len_send (c:Ch) (h:Ha):LenS c (sendStep c h):=len_of (touch_send c h) (no_send c h)
theorem len_park (c:Ch) (h:Ha):LenS c (parkStep c h):=len_of (touch_park c h) (no_park c h)
end Go.Proofs.Ytkiingmgpobgnaa
set_option linter.unusedSimpArgs false
set_option linter.unusedVariables false
namespace Go.Proofs.Ytkiingmgpobgnaa
open Go.RowKit
set_option linter.unusedSimpArgs false
attribute [local simp] bx_size
attribute [local go_sem ↓] zeroHand zeroChan toLHand toLChan toVHand toVChan storeHand storeChan storeHandC storeChanC
attribute [local go_sem ↓] toLHandL toLChanL
set_option maxRecDepth 100000 in
set_option maxHeartbeats 8000000 in
theorem exactSendStep_any (c:Ch) (h:Ha) (a b:Option Addr) (p q:Nat) (w:World) (h1:Seg w w.heap.size a c.cells.length 3 (cellF c.cells)) (h2:Seg w w.heap.size b c.words.length 1 (intF c.words)) (m1:c.cells.length≤maxLen) (m2:c.words.length≤maxLen) :
    Calls Try.prog 3 #[.agg (cvals c (.slice a c.cells.length p) (.slice b c.words.length q)),.agg (hvals h)] w fun r w'=>r=.returned (.bool true)∧Below w.heap.size w w':=by
  have H1:=Lib.hid h1
  have H2:=Lib.hid h2
  have M1:=Lib.hid m1
  have M2:=Lib.hid m2
  clear h1 h2 m1 m2
  by_cases hl:leftC 1048576 c<0
  · go_enter Try.func3,Try.ntmps3
    go_wp2_with fail
    refine (szChan_any c a b p q 1048576 _ (by omega) (by omega) M1.out M2.out).mono ?_
    rintro _ w1 ⟨rfl,hb1⟩
    have hB1:Below w.heap.size w w1:=bT (by exact zB) hb1
    go_wp2
    go_ret
    exact ⟨rfl,hB1⟩
  · obtain ⟨n1,n2⟩:=left_len hl
    have n3:(sendStep c h).1.cells.length≤1048576:=(len_send c h).1 n1
    have n4:(sendStep c h).1.words.length≤1048576:=(len_send c h).2 n2
    have hs:=fun a b p q w h1 z1 h2 z2=>sSendStep_any c h a b p q w h1 z1 h2 z2
    have hi:=fun a b p q w h1 z1 h2 z2=>sendStepI_any c h a b p q w h1 z1 h2 z2 M1.out M2.out
    generalize sendStep c h=x at *
    have HS:=Lib.hid hs
    have HI:=Lib.hid hi
    clear hs hi
    have hk0:¬ 1+3*(c.cells.length:Int)+c.words.length<0:=by omega
    have hk1:¬ 1+3*(x.1.cells.length:Int)+x.1.words.length<0:=by omega
    go_enter Try.func3,Try.ntmps3
    go_wp2_with fail
    refine (szChan_any c a b p q 1048576 _ (by omega) (by omega) M1.out M2.out).mono ?_
    rintro _ w1 ⟨rfl,hbw1⟩
    have hB1:Below w.heap.size w w1:=bT (by exact zB) hbw1
    have hC1:Below w.heap.size w w1:=bT (by exact zB) hbw1
    have hsw1:=hbw1.size;(try (simp at hsw1));have zz:=hQ hbw1 (b:=w.heap.size);(first|(simp [go_sem,z_w,l_w] at zz)|(simp [go_sem] at zz));(try clear x_w f_w);(try clear z_w);have z_w:=zz;clear zz;(try clear l_w);obtain ⟨x_w,f_w,l_w⟩:=bO z_w;have zz:=hQ hbw1 (b:=w.heap.size+1);(first|(simp [go_sem,z_wp,l_wp] at zz)|(simp [go_sem] at zz));(try clear x_wp f_wp);(try clear z_wp);have z_wp:=zz;clear zz;(try clear l_wp);obtain ⟨x_wp,f_wp,l_wp⟩:=bO z_wp
    clear hbw1
    go_upto_region 5 with fail
    refine wp_region_inv [[],[0],[],[2],[0,1,2,3],[0,1,2,3,4],[0,1,2,3,4,5],[0,1,2,3,4,5],[0,1,2,3,4,5],[],[],[0,1,2,3,4,5,6,9],[0,1,2,3,4,5,7,10],[0,1,2,3,4,5,8]] [25,26,27,28,29,24,30,31,32,6,7,8] (fun l s wx=>(Below w1.heap.size w1 wx)∧(l 0=true→s 25=.agg (cvals c (.slice a c.cells.length p) (.slice b c.words.length q)))∧(l 1=true→l 4=false→∃ g1 g2:Nat,s 26=.agg (cvals c (.slice (some ⟨g1,0,none⟩) c.cells.length c.cells.length) (.slice (some ⟨g2,0,none⟩) c.words.length c.words.length))∧Row wx g1 52 c.cells.length 3 (cellF c.cells)∧Row wx g2 2 c.words.length 1 (intF c.words))∧(l 2=true→s 27=.agg (hvals h))∧(l 3=true→s 28=.agg (hvals h))∧(l 4=true→s 29=.tuple #[.agg (cvals x.1 (s 1003) (s 1004)),.agg (hvals x.2.1),.bool x.2.2]∧OCells wx w1.heap.size (s 1003) x.1.cells∧OInts wx w1.heap.size (s 1004) x.1.words)∧(l 5=true→s 24=.tuple #[.agg (cvals x.1 (s 1003) (s 1004)),.agg (hvals x.2.1),.bool x.2.2])∧(l 6=true→s 30=.agg (cvals x.1 (s 1003) (s 1004)))∧(l 7=true→s 31=.agg (hvals x.2.1))∧(l 8=true→s 32=.bool x.2.2)∧(l 9=true→IsBox wx (s 6) w1.heap.size (cond (l 11) (cvals x.1 (s 1003) (s 1004)) (cvals Ch.zero (.slice none 0 0) (.slice none 0 0))) 33)∧(l 10=true→IsBox wx (s 7) w1.heap.size (cond (l 12) (hvals x.2.1) (hvals Ha.zero)) 36)∧(l 13=true→s 8=.bool x.2.2)) (by kernel_rfl) (by kernel_rfl) (by kernel_rfl) (fun s=>by (simp only [fill,fillA,List.setIfInBounds_toArray,List.set_cons_zero,List.set_cons_succ];rfl)) (fun s=>⟨(Below.refl _ _).drew,fun h=>absurd h Bool.false_ne_true,fun h=>absurd h Bool.false_ne_true,fun h=>absurd h Bool.false_ne_true,fun h=>absurd h Bool.false_ne_true,fun h=>absurd h Bool.false_ne_true,fun h=>absurd h Bool.false_ne_true,fun h=>absurd h Bool.false_ne_true,fun h=>absurd h Bool.false_ne_true,fun h=>absurd h Bool.false_ne_true,fun h=>absurd h Bool.false_ne_true,fun h=>absurd h Bool.false_ne_true,fun h=>absurd h Bool.false_ne_true⟩) ?_ ?_
    refine ⟨?_,?_,?_,?_,?_,?_,?_,?_,?_,?_,?_,?_,?_,?_,trivial⟩;rotate_left 14
    intro l s w5 hall hf
    have hB:=hf.1
    have X1:=(hf.2.2.2.2.2.1 (hall 4 rfl)).2.1
    have X2:=(hf.2.2.2.2.2.1 (hall 4 rfl)).2.2
    obtain ⟨b6,ea,lo_b6,z_b6⟩:=hf.2.2.2.2.2.2.2.2.2.2.1 (hall 9 rfl)
    obtain ⟨b7,eb,lo_b7,z_b7⟩:=hf.2.2.2.2.2.2.2.2.2.2.2.1 (hall 10 rfl)
    have ec:=hf.2.2.2.2.2.2.2.2.2.2.2.2 (hall 13 rfl)
    rw [hall 11 rfl] at z_b6
    rw [hall 12 rfl] at z_b7
    dsimp only [cond] at z_b6 z_b7
    simp only [ea,eb,ec]
    clear ea eb ec hf hall
    generalize s 1003=v1 at *
    generalize s 1004=v2 at *
    have hC5:Below w1.heap.size w1 w5:=hB
    have hB5:Below w.heap.size w w5:=bT hB1 hB
    clear hB
    obtain ⟨x_b6,f_b6,l_b6⟩:=bO z_b6
    obtain ⟨x_b7,f_b7,l_b7⟩:=bO z_b7
    have u_w:=l_wp
    have u_b6:=l_b6
    have u_b7:=l_b7
    have u_5:=hC5.size
    replace z_w:=hpS z_w hC5
    clear x_w f_w l_w
    obtain ⟨x_w,f_w,l_w⟩:=bO z_w
    replace z_wp:=hpS z_wp hC5
    clear x_wp f_wp l_wp
    obtain ⟨x_wp,f_wp,l_wp⟩:=bO z_wp
    have lX:∀ i,(v1.ownBlock=some i∨v2.ownBlock=some i)→i<w5.heap.size:=fun i hi=>hi.elim (fun h=>(X1.lt i h).2) (fun h=>(X2.lt i h).2)
    replace X1:=OCells.new X1
    replace X2:=OInts.new X2
    obtain ⟨xa,xc,rfl,_⟩:=X1.seg
    obtain ⟨xb,xd,rfl,_⟩:=X2.seg
    go_wp2_with fail
    refine (toChan_any c a b p q _ ((H1.out.below (by exact zB)).more (by (try simp) <;> omega)) ((H2.out.below (by exact zB)).more (by (try simp) <;> omega)) n1 n2).mono ?_
    rintro _ w6 ⟨⟨g3,g4,rfl,lg3,lg4,Rg3,Rg4⟩,hbw6⟩
    have hB6:Below w.heap.size w w6:=bT (by exact zB) hbw6
    have hC6:Below w5.heap.size w5 w6:=bT (by exact zB) hbw6
    replace X1:=X1.below hC6
    replace X2:=X2.below hC6
    have hsw6:=hbw6.size;(try (simp at hsw6));have zz:=hQ hbw6 (b:=w.heap.size);(first|(simp [go_sem,z_w,l_w] at zz)|(simp [go_sem] at zz));(try clear x_w f_w);(try clear z_w);have z_w:=zz;clear zz;(try clear l_w);obtain ⟨x_w,f_w,l_w⟩:=bO z_w;have zz:=hQ hbw6 (b:=w.heap.size+1);(first|(simp [go_sem,z_wp,l_wp] at zz)|(simp [go_sem] at zz));(try clear x_wp f_wp);(try clear z_wp);have z_wp:=zz;clear zz;(try clear l_wp);obtain ⟨x_wp,f_wp,l_wp⟩:=bO z_wp;have zz:=hQ hbw6 (b:=b6);(first|(simp [go_sem,z_b6,l_b6] at zz)|(simp [go_sem] at zz));(try clear x_b6 f_b6);(try clear z_b6);have z_b6:=zz;clear zz;(try clear l_b6);obtain ⟨x_b6,f_b6,l_b6⟩:=bO z_b6;have zz:=hQ hbw6 (b:=b7);(first|(simp [go_sem,z_b7,l_b7] at zz)|(simp [go_sem] at zz));(try clear x_b7 f_b7);(try clear z_b7);have z_b7:=zz;clear zz;(try clear l_b7);obtain ⟨x_b7,f_b7,l_b7⟩:=bO z_b7
    clear hbw6
    have bg3:=Rg3.lt
    have bg4:=Rg4.lt
    have hne:g3≠g4:=row_ne Rg3 Rg4 (by decide)
    try simp at lg3 lg4
    go_upto_region 7 with fail
    generalize hw7:World.alloc w6 _=w7
    have z_w6:hp w7 w6.heap.size=some (.cells (cvals c (.slice (some ⟨g3,0,none⟩) c.cells.length c.cells.length) (.slice (some ⟨g4,0,none⟩) c.words.length c.words.length)) 33):=by rw [← hw7];simp [go_sem] <;> rfl
    have hC7:Below w6.heap.size w6 w7:=by rw [← hw7];exact belowAlloc _ _
    clear hw7
    have hB7:Below w.heap.size w w7:=bT hB6 hC7
    have C3:NewC w7 w.heap.size (.slice (some ⟨g3,0,none⟩) c.cells.length c.cells.length) c.cells:=.inr ⟨g3,_,rfl,by have:=hB5.size;omega,(Rg3.belowS hC7).lie⟩
    have C4:NewI w7 w.heap.size (.slice (some ⟨g4,0,none⟩) c.words.length c.words.length) c.words:=.inr ⟨g4,_,rfl,by have:=hB5.size;omega,(Rg4.belowS hC7).lie⟩
    clear Rg3 Rg4
    have hs7:=hC7.size
    have u_6:=hC6.size
    have u_w6:=(bO z_w6).2.2
    obtain ⟨x_w6,f_w6,l_w6⟩:=bO z_w6
    replace X1:=X1.below hC7
    replace X2:=X2.below hC7
    replace z_w:=hpS z_w hC7
    clear x_w f_w l_w
    obtain ⟨x_w,f_w,l_w⟩:=bO z_w
    replace z_wp:=hpS z_wp hC7
    clear x_wp f_wp l_wp
    obtain ⟨x_wp,f_wp,l_wp⟩:=bO z_wp
    replace z_b6:=hpS z_b6 hC7
    clear x_b6 f_b6 l_b6
    obtain ⟨x_b6,f_b6,l_b6⟩:=bO z_b6
    replace z_b7:=hpS z_b7 hC7
    clear x_b7 f_b7 l_b7
    obtain ⟨x_b7,f_b7,l_b7⟩:=bO z_b7
    refine wp_region_inv [[],[],[1],[0,1,2],[0,1,2,3],[0,1,2,3,4],[0,1,2,3,4],[0,1,2,3,4],[],[],[0,1,2,3,4,5,8],[0,1,2,3,4,6,9],[0,1,2,3,4,7]] [36,37,38,39,35,40,41,42,10,11,12] (fun l s wx=>(Below w7.heap.size w7 wx)∧(l 0=true→s 36=.agg (cvals c (.slice (some ⟨g3,0,none⟩) c.cells.length c.cells.length) (.slice (some ⟨g4,0,none⟩) c.words.length c.words.length)))∧(l 1=true→s 37=.agg (hvals h))∧(l 2=true→s 38=.agg (hvals h))∧(l 3=true→s 39=.tuple #[.agg (cvals x.1 (s 1003) (s 1004)),.agg (hvals x.2.1),.bool x.2.2]∧OCells wx w7.heap.size (s 1003) x.1.cells∧OInts wx w7.heap.size (s 1004) x.1.words)∧(l 4=true→s 35=.tuple #[.agg (cvals x.1 (s 1003) (s 1004)),.agg (hvals x.2.1),.bool x.2.2])∧(l 5=true→s 40=.agg (cvals x.1 (s 1003) (s 1004)))∧(l 6=true→s 41=.agg (hvals x.2.1))∧(l 7=true→s 42=.bool x.2.2)∧(l 8=true→IsBox wx (s 10) w7.heap.size (cond (l 10) (cvals x.1 (s 1003) (s 1004)) (cvals Ch.zero (.slice none 0 0) (.slice none 0 0))) 33)∧(l 9=true→IsBox wx (s 11) w7.heap.size (cond (l 11) (hvals x.2.1) (hvals Ha.zero)) 36)∧(l 12=true→s 12=.bool x.2.2)) (by kernel_rfl) (by kernel_rfl) (by kernel_rfl) (fun s=>by (simp only [fill,fillA,List.setIfInBounds_toArray,List.set_cons_zero,List.set_cons_succ];rfl)) (fun s=>⟨(Below.refl _ _).drew,fun h=>absurd h Bool.false_ne_true,fun h=>absurd h Bool.false_ne_true,fun h=>absurd h Bool.false_ne_true,fun h=>absurd h Bool.false_ne_true,fun h=>absurd h Bool.false_ne_true,fun h=>absurd h Bool.false_ne_true,fun h=>absurd h Bool.false_ne_true,fun h=>absurd h Bool.false_ne_true,fun h=>absurd h Bool.false_ne_true,fun h=>absurd h Bool.false_ne_true,fun h=>absurd h Bool.false_ne_true⟩) ?_ ?_
    refine ⟨?_,?_,?_,?_,?_,?_,?_,?_,?_,?_,?_,?_,?_,trivial⟩;rotate_left 13
    intro l s w8 hall hf
    have hB:=hf.1
    have Y1:=(hf.2.2.2.2.1 (hall 3 rfl)).2.1
    have Y2:=(hf.2.2.2.2.1 (hall 3 rfl)).2.2
    obtain ⟨b10,ea,lo_b10,z_b10⟩:=hf.2.2.2.2.2.2.2.2.2.1 (hall 8 rfl)
    obtain ⟨b11,eb,lo_b11,z_b11⟩:=hf.2.2.2.2.2.2.2.2.2.2.1 (hall 9 rfl)
    have ec:=hf.2.2.2.2.2.2.2.2.2.2.2 (hall 12 rfl)
    rw [hall 10 rfl] at z_b10
    rw [hall 11 rfl] at z_b11
    dsimp only [cond] at z_b10 z_b11
    simp only [ea,eb,ec]
    clear ea eb ec hf hall
    generalize s 1003=y1 at *
    generalize s 1004=y2 at *
    have hC8:Below w7.heap.size w7 w8:=hB
    have hB8:Below w.heap.size w w8:=bT hB7 hB
    clear hB
    have hs8:=hC8.size
    obtain ⟨x_b10,f_b10,l_b10⟩:=bO z_b10
    obtain ⟨x_b11,f_b11,l_b11⟩:=bO z_b11
    replace X1:=X1.below hC8
    replace X2:=X2.below hC8
    replace C3:=C3.below hC8
    replace C4:=C4.below hC8
    replace z_w:=hpS z_w hC8
    clear x_w f_w l_w
    obtain ⟨x_w,f_w,l_w⟩:=bO z_w
    replace z_wp:=hpS z_wp hC8
    clear x_wp f_wp l_wp
    obtain ⟨x_wp,f_wp,l_wp⟩:=bO z_wp
    replace z_b6:=hpS z_b6 hC8
    clear x_b6 f_b6 l_b6
    obtain ⟨x_b6,f_b6,l_b6⟩:=bO z_b6
    replace z_b7:=hpS z_b7 hC8
    clear x_b7 f_b7 l_b7
    obtain ⟨x_b7,f_b7,l_b7⟩:=bO z_b7
    replace z_w6:=hpS z_w6 hC8
    clear x_w6 f_w6 l_w6
    obtain ⟨x_w6,f_w6,l_w6⟩:=bO z_w6
    have yne:∀ i,y1.ownBlock=some i→y2.ownBlock≠some i:=OCells.ne Y1 Y2
    have yA:∀ i,(y1.ownBlock=some i∨y2.ownBlock=some i)→i≠b10∧i≠b11:=fun i hi=>hi.elim (fun h=>⟨own_offs Y1 z_b10 (by decide) i h,own_offs Y1 z_b11 (by decide) i h⟩) (fun h=>⟨own_offs Y2 z_b10 (by decide) i h,own_offs Y2 z_b11 (by decide) i h⟩)
    have lY:∀ i,(y1.ownBlock=some i∨y2.ownBlock=some i)→w7.heap.size≤i∧i<w8.heap.size:=fun i hi=>hi.elim (fun h=>Y1.lt i h) (fun h=>Y2.lt i h)
    replace Y1:=OCells.new Y1
    replace Y2:=OInts.new Y2
    obtain ⟨ya,yc,rfl,_⟩:=Y1.seg
    obtain ⟨yb,yd,rfl,_⟩:=Y2.seg
    go_wp2_with fail
    refine (eqChan_any x.1 _ _ _ _ _ _ _ _ _ (Y1.segAt (by exact zB)) (Y2.segAt (by exact zB)) (X1.segAt (by exact zB)) (X2.segAt (by exact zB)) n3 n4).mono ?_
    rintro _ w9 ⟨rfl,hbw9⟩
    have hB9:Below w.heap.size w w9:=bT (by exact zB) hbw9
    have hC9:Below w8.heap.size w8 w9:=bT (by exact zB) hbw9
    replace X1:=X1.below hC9
    replace X2:=X2.below hC9
    replace C3:=C3.below hC9
    replace C4:=C4.below hC9
    replace Y1:=Y1.below hC9
    replace Y2:=Y2.below hC9
    have hsw9:=hbw9.size;(try (simp at hsw9));have zz:=hQ hbw9 (b:=w.heap.size);(first|(simp [go_sem,z_w,l_w] at zz)|(simp [go_sem] at zz));(try clear x_w f_w);(try clear z_w);have z_w:=zz;clear zz;(try clear l_w);obtain ⟨x_w,f_w,l_w⟩:=bO z_w;have zz:=hQ hbw9 (b:=w.heap.size+1);(first|(simp [go_sem,z_wp,l_wp] at zz)|(simp [go_sem] at zz));(try clear x_wp f_wp);(try clear z_wp);have z_wp:=zz;clear zz;(try clear l_wp);obtain ⟨x_wp,f_wp,l_wp⟩:=bO z_wp;have zz:=hQ hbw9 (b:=b6);(first|(simp [go_sem,z_b6,l_b6] at zz)|(simp [go_sem] at zz));(try clear x_b6 f_b6);(try clear z_b6);have z_b6:=zz;clear zz;(try clear l_b6);obtain ⟨x_b6,f_b6,l_b6⟩:=bO z_b6;have zz:=hQ hbw9 (b:=b7);(first|(simp [go_sem,z_b7,l_b7] at zz)|(simp [go_sem] at zz));(try clear x_b7 f_b7);(try clear z_b7);have z_b7:=zz;clear zz;(try clear l_b7);obtain ⟨x_b7,f_b7,l_b7⟩:=bO z_b7;have zz:=hQ hbw9 (b:=w6.heap.size);(first|(simp [go_sem,z_w6,l_w6] at zz)|(simp [go_sem] at zz));(try clear x_w6 f_w6);(try clear z_w6);have z_w6:=zz;clear zz;(try clear l_w6);obtain ⟨x_w6,f_w6,l_w6⟩:=bO z_w6;have zz:=hQ hbw9 (b:=b10);(first|(simp [go_sem,z_b10,l_b10] at zz)|(simp [go_sem] at zz));(try clear x_b10 f_b10);(try clear z_b10);have z_b10:=zz;clear zz;(try clear l_b10);obtain ⟨x_b10,f_b10,l_b10⟩:=bO z_b10;have zz:=hQ hbw9 (b:=b11);(first|(simp [go_sem,z_b11,l_b11] at zz)|(simp [go_sem] at zz));(try clear x_b11 f_b11);(try clear z_b11);have z_b11:=zz;clear zz;(try clear l_b11);obtain ⟨x_b11,f_b11,l_b11⟩:=bO z_b11
    clear hbw9
    go_wp2_with fail
    refine (eqHand_any x.2.1 _).mono ?_
    rintro _ w10 ⟨rfl,hbw10⟩
    have hB10:Below w.heap.size w w10:=bT (by exact zB) hbw10
    have hC10:Below w9.heap.size w9 w10:=bT (by exact zB) hbw10
    replace X1:=X1.below hC10
    replace X2:=X2.below hC10
    replace C3:=C3.below hC10
    replace C4:=C4.below hC10
    replace Y1:=Y1.below hC10
    replace Y2:=Y2.below hC10
    have hsw10:=hbw10.size;(try (simp at hsw10));have zz:=hQ hbw10 (b:=w.heap.size);(first|(simp [go_sem,z_w,l_w] at zz)|(simp [go_sem] at zz));(try clear x_w f_w);(try clear z_w);have z_w:=zz;clear zz;(try clear l_w);obtain ⟨x_w,f_w,l_w⟩:=bO z_w;have zz:=hQ hbw10 (b:=w.heap.size+1);(first|(simp [go_sem,z_wp,l_wp] at zz)|(simp [go_sem] at zz));(try clear x_wp f_wp);(try clear z_wp);have z_wp:=zz;clear zz;(try clear l_wp);obtain ⟨x_wp,f_wp,l_wp⟩:=bO z_wp;have zz:=hQ hbw10 (b:=b6);(first|(simp [go_sem,z_b6,l_b6] at zz)|(simp [go_sem] at zz));(try clear x_b6 f_b6);(try clear z_b6);have z_b6:=zz;clear zz;(try clear l_b6);obtain ⟨x_b6,f_b6,l_b6⟩:=bO z_b6;have zz:=hQ hbw10 (b:=b7);(first|(simp [go_sem,z_b7,l_b7] at zz)|(simp [go_sem] at zz));(try clear x_b7 f_b7);(try clear z_b7);have z_b7:=zz;clear zz;(try clear l_b7);obtain ⟨x_b7,f_b7,l_b7⟩:=bO z_b7;have zz:=hQ hbw10 (b:=w6.heap.size);(first|(simp [go_sem,z_w6,l_w6] at zz)|(simp [go_sem] at zz));(try clear x_w6 f_w6);(try clear z_w6);have z_w6:=zz;clear zz;(try clear l_w6);obtain ⟨x_w6,f_w6,l_w6⟩:=bO z_w6;have zz:=hQ hbw10 (b:=b10);(first|(simp [go_sem,z_b10,l_b10] at zz)|(simp [go_sem] at zz));(try clear x_b10 f_b10);(try clear z_b10);have z_b10:=zz;clear zz;(try clear l_b10);obtain ⟨x_b10,f_b10,l_b10⟩:=bO z_b10;have zz:=hQ hbw10 (b:=b11);(first|(simp [go_sem,z_b11,l_b11] at zz)|(simp [go_sem] at zz));(try clear x_b11 f_b11);(try clear z_b11);have z_b11:=zz;clear zz;(try clear l_b11);obtain ⟨x_b11,f_b11,l_b11⟩:=bO z_b11
    clear hbw10
    go_upto_region 10 with fail
    refine wp_region_inv [[],[],[1],[0,1,2],[0,1,2,3]] [58,59,60,61,62] (fun l s wx=>(Below w10.heap.size w10 wx)∧(l 0=true→s 58=.agg (cvals c (.slice (some ⟨g3,0,none⟩) c.cells.length c.cells.length) (.slice (some ⟨g4,0,none⟩) c.words.length c.words.length)))∧(l 1=true→s 59=.agg (cvals c (.slice a c.cells.length p) (.slice b c.words.length q)))∧(l 2=true→∃ g1 g2:Nat,s 60=.agg (cvals c (.slice (some ⟨g1,0,none⟩) c.cells.length c.cells.length) (.slice (some ⟨g2,0,none⟩) c.words.length c.words.length))∧Row wx g1 52 c.cells.length 3 (cellF c.cells)∧Row wx g2 2 c.words.length 1 (intF c.words))∧(l 3=true→s 61=.bool true)∧(l 4=true→s 62=.bool false)) (by kernel_rfl) (by kernel_rfl) (by kernel_rfl) (fun s=>by (simp only [fill,fillA,List.setIfInBounds_toArray,List.set_cons_zero,List.set_cons_succ];rfl)) (fun s=>⟨(Below.refl _ _).drew,fun h=>absurd h Bool.false_ne_true,fun h=>absurd h Bool.false_ne_true,fun h=>absurd h Bool.false_ne_true,fun h=>absurd h Bool.false_ne_true,fun h=>absurd h Bool.false_ne_true⟩) ?_ ?_
    refine ⟨?_,?_,?_,?_,?_,trivial⟩;rotate_left 5
    intro l s w11 hall hf
    have hB:=hf.1
    have ec:=hf.2.2.2.2.2 (hall 4 rfl)
    simp only [ec]
    clear ec hf hall
    have hC11:Below w10.heap.size w10 w11:=hB
    have hB11:Below w.heap.size w w11:=bT hB10 hB
    clear hB
    have hs11:=hC11.size
    replace X1:=X1.below hC11
    replace X2:=X2.below hC11
    replace C3:=C3.below hC11
    replace C4:=C4.below hC11
    replace Y1:=Y1.below hC11
    replace Y2:=Y2.below hC11
    replace z_w:=hpS z_w hC11
    clear x_w f_w l_w
    obtain ⟨x_w,f_w,l_w⟩:=bO z_w
    replace z_wp:=hpS z_wp hC11
    clear x_wp f_wp l_wp
    obtain ⟨x_wp,f_wp,l_wp⟩:=bO z_wp
    replace z_b6:=hpS z_b6 hC11
    clear x_b6 f_b6 l_b6
    obtain ⟨x_b6,f_b6,l_b6⟩:=bO z_b6
    replace z_b7:=hpS z_b7 hC11
    clear x_b7 f_b7 l_b7
    obtain ⟨x_b7,f_b7,l_b7⟩:=bO z_b7
    replace z_w6:=hpS z_w6 hC11
    clear x_w6 f_w6 l_w6
    obtain ⟨x_w6,f_w6,l_w6⟩:=bO z_w6
    replace z_b10:=hpS z_b10 hC11
    clear x_b10 f_b10 l_b10
    obtain ⟨x_b10,f_b10,l_b10⟩:=bO z_b10
    replace z_b11:=hpS z_b11 hC11
    clear x_b11 f_b11 l_b11
    obtain ⟨x_b11,f_b11,l_b11⟩:=bO z_b11
    have bb6:w1.heap.size≤b6:=lo_b6
    have q1:=hB1.size
    have q5:=hC5.size
    have q6:=hC6.size
    go_wp2_with fail
    refine (markChan_any c.cells.length c.words.length (cellF c.cells) (intF c.words) _ _ _ _ _ _ _ _ 1 (1+3*c.cells.length) _ (C3.below (by exact zB)) (C4.below (by exact zB)) (fun i h1 h2=>hne (by simp [Value.ownBlock] at h1 h2;omega)) (by omega) (by omega) rfl n1 n2).mono ?_
    rintro _ w12 ⟨rfl,_,_,hO⟩
    replace hO:Onl (some g3) (some g4) w11 w12:=onlT (onlB (by exact zB)) hO
    have hs12:=hO.2.2.2.1
    have hB12:Below w.heap.size w w12:=bOnl hB11 hO (fun i h=>by simp at h;omega) (fun i h=>by simp at h;omega)
    replace X1:=X1.keptO hO (fun i h e=>by have:=lX i (.inl h);simp at e;omega) (fun i h e=>by have:=lX i (.inl h);simp at e;omega)
    replace X2:=X2.keptO hO (fun i h e=>by have:=lX i (.inr h);simp at e;omega) (fun i h e=>by have:=lX i (.inr h);simp at e;omega)
    replace Y1:=Y1.keptO hO (fun i h e=>by have:=lY i (.inl h);simp at e;omega) (fun i h e=>by have:=lY i (.inl h);simp at e;omega)
    replace Y2:=Y2.keptO hO (fun i h e=>by have:=lY i (.inr h);simp at e;omega) (fun i h e=>by have:=lY i (.inr h);simp at e;omega)
    replace z_w:=(onlHp hO l_w (by simp;omega) (by simp;omega)).trans z_w
    clear x_w f_w l_w
    obtain ⟨x_w,f_w,l_w⟩:=bO z_w
    replace z_wp:=(onlHp hO l_wp (by simp;omega) (by simp;omega)).trans z_wp
    clear x_wp f_wp l_wp
    obtain ⟨x_wp,f_wp,l_wp⟩:=bO z_wp
    replace z_b6:=(onlHp hO l_b6 (by simp;omega) (by simp;omega)).trans z_b6
    clear x_b6 f_b6 l_b6
    obtain ⟨x_b6,f_b6,l_b6⟩:=bO z_b6
    replace z_b7:=(onlHp hO l_b7 (by simp;omega) (by simp;omega)).trans z_b7
    clear x_b7 f_b7 l_b7
    obtain ⟨x_b7,f_b7,l_b7⟩:=bO z_b7
    replace z_w6:=(onlHp hO l_w6 (by simp;omega) (by simp;omega)).trans z_w6
    clear x_w6 f_w6 l_w6
    obtain ⟨x_w6,f_w6,l_w6⟩:=bO z_w6
    replace z_b10:=(onlHp hO l_b10 (by simp;omega) (by simp;omega)).trans z_b10
    clear x_b10 f_b10 l_b10
    obtain ⟨x_b10,f_b10,l_b10⟩:=bO z_b10
    replace z_b11:=(onlHp hO l_b11 (by simp;omega) (by simp;omega)).trans z_b11
    clear x_b11 f_b11 l_b11
    obtain ⟨x_b11,f_b11,l_b11⟩:=bO z_b11
    clear C3 C4 hO
    go_wp2_with fail
    refine (eqChan_any x.1 _ _ _ _ _ _ _ _ _ (Y1.segAt (by exact zB)) (Y2.segAt (by exact zB)) (X1.segAt (by exact zB)) (X2.segAt (by exact zB)) n3 n4).mono ?_
    rintro _ w13 ⟨rfl,hbw13⟩
    have hB13:Below w.heap.size w w13:=bT (by exact zB) hbw13
    have hC13:Below w12.heap.size w12 w13:=bT (by exact zB) hbw13
    replace X1:=X1.below hC13
    replace X2:=X2.below hC13
    replace Y1:=Y1.below hC13
    replace Y2:=Y2.below hC13
    have hsw13:=hbw13.size;(try (simp at hsw13));have zz:=hQ hbw13 (b:=w.heap.size);(first|(simp [go_sem,z_w,l_w] at zz)|(simp [go_sem] at zz));(try clear x_w f_w);(try clear z_w);have z_w:=zz;clear zz;(try clear l_w);obtain ⟨x_w,f_w,l_w⟩:=bO z_w;have zz:=hQ hbw13 (b:=w.heap.size+1);(first|(simp [go_sem,z_wp,l_wp] at zz)|(simp [go_sem] at zz));(try clear x_wp f_wp);(try clear z_wp);have z_wp:=zz;clear zz;(try clear l_wp);obtain ⟨x_wp,f_wp,l_wp⟩:=bO z_wp;have zz:=hQ hbw13 (b:=b6);(first|(simp [go_sem,z_b6,l_b6] at zz)|(simp [go_sem] at zz));(try clear x_b6 f_b6);(try clear z_b6);have z_b6:=zz;clear zz;(try clear l_b6);obtain ⟨x_b6,f_b6,l_b6⟩:=bO z_b6;have zz:=hQ hbw13 (b:=b7);(first|(simp [go_sem,z_b7,l_b7] at zz)|(simp [go_sem] at zz));(try clear x_b7 f_b7);(try clear z_b7);have z_b7:=zz;clear zz;(try clear l_b7);obtain ⟨x_b7,f_b7,l_b7⟩:=bO z_b7;have zz:=hQ hbw13 (b:=w6.heap.size);(first|(simp [go_sem,z_w6,l_w6] at zz)|(simp [go_sem] at zz));(try clear x_w6 f_w6);(try clear z_w6);have z_w6:=zz;clear zz;(try clear l_w6);obtain ⟨x_w6,f_w6,l_w6⟩:=bO z_w6;have zz:=hQ hbw13 (b:=b10);(first|(simp [go_sem,z_b10,l_b10] at zz)|(simp [go_sem] at zz));(try clear x_b10 f_b10);(try clear z_b10);have z_b10:=zz;clear zz;(try clear l_b10);obtain ⟨x_b10,f_b10,l_b10⟩:=bO z_b10;have zz:=hQ hbw13 (b:=b11);(first|(simp [go_sem,z_b11,l_b11] at zz)|(simp [go_sem] at zz));(try clear x_b11 f_b11);(try clear z_b11);have z_b11:=zz;clear zz;(try clear l_b11);obtain ⟨x_b11,f_b11,l_b11⟩:=bO z_b11
    clear hbw13
    go_wp2_with fail
    refine (eqHand_any x.2.1 _).mono ?_
    rintro _ w14 ⟨rfl,hbw14⟩
    have hB14:Below w.heap.size w w14:=bT (by exact zB) hbw14
    have hC14:Below w13.heap.size w13 w14:=bT (by exact zB) hbw14
    replace X1:=X1.below hC14
    replace X2:=X2.below hC14
    replace Y1:=Y1.below hC14
    replace Y2:=Y2.below hC14
    have hsw14:=hbw14.size;(try (simp at hsw14));have zz:=hQ hbw14 (b:=w.heap.size);(first|(simp [go_sem,z_w,l_w] at zz)|(simp [go_sem] at zz));(try clear x_w f_w);(try clear z_w);have z_w:=zz;clear zz;(try clear l_w);obtain ⟨x_w,f_w,l_w⟩:=bO z_w;have zz:=hQ hbw14 (b:=w.heap.size+1);(first|(simp [go_sem,z_wp,l_wp] at zz)|(simp [go_sem] at zz));(try clear x_wp f_wp);(try clear z_wp);have z_wp:=zz;clear zz;(try clear l_wp);obtain ⟨x_wp,f_wp,l_wp⟩:=bO z_wp;have zz:=hQ hbw14 (b:=b6);(first|(simp [go_sem,z_b6,l_b6] at zz)|(simp [go_sem] at zz));(try clear x_b6 f_b6);(try clear z_b6);have z_b6:=zz;clear zz;(try clear l_b6);obtain ⟨x_b6,f_b6,l_b6⟩:=bO z_b6;have zz:=hQ hbw14 (b:=b7);(first|(simp [go_sem,z_b7,l_b7] at zz)|(simp [go_sem] at zz));(try clear x_b7 f_b7);(try clear z_b7);have z_b7:=zz;clear zz;(try clear l_b7);obtain ⟨x_b7,f_b7,l_b7⟩:=bO z_b7;have zz:=hQ hbw14 (b:=w6.heap.size);(first|(simp [go_sem,z_w6,l_w6] at zz)|(simp [go_sem] at zz));(try clear x_w6 f_w6);(try clear z_w6);have z_w6:=zz;clear zz;(try clear l_w6);obtain ⟨x_w6,f_w6,l_w6⟩:=bO z_w6;have zz:=hQ hbw14 (b:=b10);(first|(simp [go_sem,z_b10,l_b10] at zz)|(simp [go_sem] at zz));(try clear x_b10 f_b10);(try clear z_b10);have z_b10:=zz;clear zz;(try clear l_b10);obtain ⟨x_b10,f_b10,l_b10⟩:=bO z_b10;have zz:=hQ hbw14 (b:=b11);(first|(simp [go_sem,z_b11,l_b11] at zz)|(simp [go_sem] at zz));(try clear x_b11 f_b11);(try clear z_b11);have z_b11:=zz;clear zz;(try clear l_b11);obtain ⟨x_b11,f_b11,l_b11⟩:=bO z_b11
    clear hbw14
    go_wp2_with fail
    refine (markChan_any x.1.cells.length x.1.words.length (cellF x.1.cells) (intF x.1.words) _ _ _ _ _ _ _ _ 1 (1+3*x.1.cells.length) _ (Y1.below (by exact zB)) (Y2.below (by exact zB)) yne (by omega) (by omega) rfl n3 n4).mono ?_
    rintro _ w15 ⟨rfl,Z1,Z2,hO⟩
    replace hO:Onl _ _ w14 w15:=onlT (onlB (by exact zB)) hO
    have hs15:=hO.2.2.2.1
    have hB15:Below w.heap.size w w15:=bOnl hB14 hO (fun i h=>by have:=lY i (.inl h);omega) (fun i h=>by have:=lY i (.inr h);omega)
    replace X1:=X1.keptO hO (fun i h e=>by have:=lX i (.inl h);have:=lY i (.inl e);omega) (fun i h e=>by have:=lX i (.inl h);have:=lY i (.inr e);omega)
    replace X2:=X2.keptO hO (fun i h e=>by have:=lX i (.inr h);have:=lY i (.inl e);omega) (fun i h e=>by have:=lX i (.inr h);have:=lY i (.inr e);omega)
    replace z_w:=(onlHp hO l_w (fun e=>by have:=lY _ (.inl e.symm);omega) (fun e=>by have:=lY _ (.inr e.symm);omega)).trans z_w
    clear x_w f_w l_w
    obtain ⟨x_w,f_w,l_w⟩:=bO z_w
    replace z_wp:=(onlHp hO l_wp (fun e=>by have:=lY _ (.inl e.symm);omega) (fun e=>by have:=lY _ (.inr e.symm);omega)).trans z_wp
    clear x_wp f_wp l_wp
    obtain ⟨x_wp,f_wp,l_wp⟩:=bO z_wp
    replace z_b6:=(onlHp hO l_b6 (fun e=>by have:=lY _ (.inl e.symm);omega) (fun e=>by have:=lY _ (.inr e.symm);omega)).trans z_b6
    clear x_b6 f_b6 l_b6
    obtain ⟨x_b6,f_b6,l_b6⟩:=bO z_b6
    replace z_b7:=(onlHp hO l_b7 (fun e=>by have:=lY _ (.inl e.symm);omega) (fun e=>by have:=lY _ (.inr e.symm);omega)).trans z_b7
    clear x_b7 f_b7 l_b7
    obtain ⟨x_b7,f_b7,l_b7⟩:=bO z_b7
    replace z_w6:=(onlHp hO l_w6 (fun e=>by have:=lY _ (.inl e.symm);omega) (fun e=>by have:=lY _ (.inr e.symm);omega)).trans z_w6
    clear x_w6 f_w6 l_w6
    obtain ⟨x_w6,f_w6,l_w6⟩:=bO z_w6
    replace z_b10:=(onlHp hO l_b10 (fun e=>(yA _ (.inl e.symm)).1 rfl) (fun e=>(yA _ (.inr e.symm)).1 rfl)).trans z_b10
    clear x_b10 f_b10 l_b10
    obtain ⟨x_b10,f_b10,l_b10⟩:=bO z_b10
    replace z_b11:=(onlHp hO l_b11 (fun e=>(yA _ (.inl e.symm)).2 rfl) (fun e=>(yA _ (.inr e.symm)).2 rfl)).trans z_b11
    clear x_b11 f_b11 l_b11
    obtain ⟨x_b11,f_b11,l_b11⟩:=bO z_b11
    clear Y1 Y2 hO
    have Y1:=Z1
    have Y2:=Z2
    clear Z1 Z2
    go_wp2_with fail
    refine (heldChan_any x.1.cells.length x.1.words.length _ _ _ _ _ _ _ _ 1 (1+3*x.1.cells.length) _ (Y1.below (by exact zB)) (Y2.below (by exact zB)) (by omega) (by omega) rfl n3 n4).mono ?_
    rintro _ w16 ⟨rfl,hbw16⟩
    have hB16:Below w.heap.size w w16:=bT (by exact zB) hbw16
    have hC16:Below w15.heap.size w15 w16:=bT (by exact zB) hbw16
    replace X1:=X1.below hC16
    replace X2:=X2.below hC16
    replace Y1:=Y1.below hC16
    replace Y2:=Y2.below hC16
    have hsw16:=hbw16.size;(try (simp at hsw16));have zz:=hQ hbw16 (b:=w.heap.size);(first|(simp [go_sem,z_w,l_w] at zz)|(simp [go_sem] at zz));(try clear x_w f_w);(try clear z_w);have z_w:=zz;clear zz;(try clear l_w);obtain ⟨x_w,f_w,l_w⟩:=bO z_w;have zz:=hQ hbw16 (b:=w.heap.size+1);(first|(simp [go_sem,z_wp,l_wp] at zz)|(simp [go_sem] at zz));(try clear x_wp f_wp);(try clear z_wp);have z_wp:=zz;clear zz;(try clear l_wp);obtain ⟨x_wp,f_wp,l_wp⟩:=bO z_wp;have zz:=hQ hbw16 (b:=b6);(first|(simp [go_sem,z_b6,l_b6] at zz)|(simp [go_sem] at zz));(try clear x_b6 f_b6);(try clear z_b6);have z_b6:=zz;clear zz;(try clear l_b6);obtain ⟨x_b6,f_b6,l_b6⟩:=bO z_b6;have zz:=hQ hbw16 (b:=b7);(first|(simp [go_sem,z_b7,l_b7] at zz)|(simp [go_sem] at zz));(try clear x_b7 f_b7);(try clear z_b7);have z_b7:=zz;clear zz;(try clear l_b7);obtain ⟨x_b7,f_b7,l_b7⟩:=bO z_b7;have zz:=hQ hbw16 (b:=w6.heap.size);(first|(simp [go_sem,z_w6,l_w6] at zz)|(simp [go_sem] at zz));(try clear x_w6 f_w6);(try clear z_w6);have z_w6:=zz;clear zz;(try clear l_w6);obtain ⟨x_w6,f_w6,l_w6⟩:=bO z_w6;have zz:=hQ hbw16 (b:=b10);(first|(simp [go_sem,z_b10,l_b10] at zz)|(simp [go_sem] at zz));(try clear x_b10 f_b10);(try clear z_b10);have z_b10:=zz;clear zz;(try clear l_b10);obtain ⟨x_b10,f_b10,l_b10⟩:=bO z_b10;have zz:=hQ hbw16 (b:=b11);(first|(simp [go_sem,z_b11,l_b11] at zz)|(simp [go_sem] at zz));(try clear x_b11 f_b11);(try clear z_b11);have z_b11:=zz;clear zz;(try clear l_b11);obtain ⟨x_b11,f_b11,l_b11⟩:=bO z_b11
    clear hbw16
    go_upto_region 24 with fail
    refine wp_region_inv [[],[0],[],[2],[0,1,2,3],[0,1,2,3,4],[0,1,2,3,4,5],[0,1,2,3,4,5],[0,1,2,3,4,5],[],[],[0,1,2,3,4,5,6,9],[0,1,2,3,4,5,7,10],[0,1,2,3,4,5,8]] [97,98,99,100,101,96,102,103,104,16,17,18] (fun l s wx=>(Below w16.heap.size w16 wx)∧(l 0=true→s 97=.agg (cvals c (.slice a c.cells.length p) (.slice b c.words.length q)))∧(l 1=true→l 4=false→∃ g1 g2:Nat,s 98=.agg (cvals c (.slice (some ⟨g1,0,none⟩) c.cells.length c.cells.length) (.slice (some ⟨g2,0,none⟩) c.words.length c.words.length))∧Row wx g1 52 c.cells.length 3 (cellF c.cells)∧Row wx g2 2 c.words.length 1 (intF c.words))∧(l 2=true→s 99=.agg (hvals h))∧(l 3=true→s 100=.agg (hvals h))∧(l 4=true→s 101=.tuple #[.agg (cvals x.1 (s 1003) (s 1004)),.agg (hvals x.2.1),.bool x.2.2]∧OCells wx w16.heap.size (s 1003) x.1.cells∧OInts wx w16.heap.size (s 1004) x.1.words)∧(l 5=true→s 96=.tuple #[.agg (cvals x.1 (s 1003) (s 1004)),.agg (hvals x.2.1),.bool x.2.2])∧(l 6=true→s 102=.agg (cvals x.1 (s 1003) (s 1004)))∧(l 7=true→s 103=.agg (hvals x.2.1))∧(l 8=true→s 104=.bool x.2.2)∧(l 9=true→IsBox wx (s 16) w16.heap.size (cond (l 11) (cvals x.1 (s 1003) (s 1004)) (cvals Ch.zero (.slice none 0 0) (.slice none 0 0))) 33)∧(l 10=true→IsBox wx (s 17) w16.heap.size (cond (l 12) (hvals x.2.1) (hvals Ha.zero)) 36)∧(l 13=true→s 18=.bool x.2.2)) (by kernel_rfl) (by kernel_rfl) (by kernel_rfl) (fun s=>by (simp only [fill,fillA,List.setIfInBounds_toArray,List.set_cons_zero,List.set_cons_succ];rfl)) (fun s=>⟨(Below.refl _ _).drew,fun h=>absurd h Bool.false_ne_true,fun h=>absurd h Bool.false_ne_true,fun h=>absurd h Bool.false_ne_true,fun h=>absurd h Bool.false_ne_true,fun h=>absurd h Bool.false_ne_true,fun h=>absurd h Bool.false_ne_true,fun h=>absurd h Bool.false_ne_true,fun h=>absurd h Bool.false_ne_true,fun h=>absurd h Bool.false_ne_true,fun h=>absurd h Bool.false_ne_true,fun h=>absurd h Bool.false_ne_true,fun h=>absurd h Bool.false_ne_true⟩) ?_ ?_
    refine ⟨?_,?_,?_,?_,?_,?_,?_,?_,?_,?_,?_,?_,?_,?_,trivial⟩;rotate_left 14
    intro l s w17 hall hf
    have hB:=hf.1
    have U1:=(hf.2.2.2.2.2.1 (hall 4 rfl)).2.1
    have U2:=(hf.2.2.2.2.2.1 (hall 4 rfl)).2.2
    obtain ⟨b16,ea,lo_b16,z_b16⟩:=hf.2.2.2.2.2.2.2.2.2.2.1 (hall 9 rfl)
    obtain ⟨b17,eb,lo_b17,z_b17⟩:=hf.2.2.2.2.2.2.2.2.2.2.2.1 (hall 10 rfl)
    have ec:=hf.2.2.2.2.2.2.2.2.2.2.2.2 (hall 13 rfl)
    rw [hall 11 rfl] at z_b16
    rw [hall 12 rfl] at z_b17
    dsimp only [cond] at z_b16 z_b17
    simp only [ea,eb,ec]
    clear ea eb ec hf hall
    generalize s 1003=u1 at *
    generalize s 1004=u2 at *
    have hC17:Below w16.heap.size w16 w17:=hB
    have hB17:Below w.heap.size w w17:=bT hB16 hB
    clear hB
    have hs17:=hC17.size
    obtain ⟨x_b16,f_b16,l_b16⟩:=bO z_b16
    obtain ⟨x_b17,f_b17,l_b17⟩:=bO z_b17
    replace X1:=X1.below hC17
    replace X2:=X2.below hC17
    replace Y1:=Y1.below hC17
    replace Y2:=Y2.below hC17
    replace z_w:=hpS z_w hC17
    clear x_w f_w l_w
    obtain ⟨x_w,f_w,l_w⟩:=bO z_w
    replace z_wp:=hpS z_wp hC17
    clear x_wp f_wp l_wp
    obtain ⟨x_wp,f_wp,l_wp⟩:=bO z_wp
    replace z_b6:=hpS z_b6 hC17
    clear x_b6 f_b6 l_b6
    obtain ⟨x_b6,f_b6,l_b6⟩:=bO z_b6
    replace z_b7:=hpS z_b7 hC17
    clear x_b7 f_b7 l_b7
    obtain ⟨x_b7,f_b7,l_b7⟩:=bO z_b7
    replace z_w6:=hpS z_w6 hC17
    clear x_w6 f_w6 l_w6
    obtain ⟨x_w6,f_w6,l_w6⟩:=bO z_w6
    replace z_b10:=hpS z_b10 hC17
    clear x_b10 f_b10 l_b10
    obtain ⟨x_b10,f_b10,l_b10⟩:=bO z_b10
    replace z_b11:=hpS z_b11 hC17
    clear x_b11 f_b11 l_b11
    obtain ⟨x_b11,f_b11,l_b11⟩:=bO z_b11
    replace U1:=OCells.new U1
    replace U2:=OInts.new U2
    obtain ⟨ua,uc,rfl,_⟩:=U1.seg
    obtain ⟨ub,ud,rfl,_⟩:=U2.seg
    go_wp2_with fail
    refine (eqChan_any x.1 _ _ _ _ _ _ _ _ _ (U1.segAt (by exact zB)) (U2.segAt (by exact zB)) (X1.segAt (by exact zB)) (X2.segAt (by exact zB)) n3 n4).mono ?_
    rintro _ w18 ⟨rfl,hbw18⟩
    have hB18:Below w.heap.size w w18:=bT (by exact zB) hbw18
    have hC18:Below w17.heap.size w17 w18:=bT (by exact zB) hbw18
    replace X1:=X1.below hC18
    replace X2:=X2.below hC18
    replace Y1:=Y1.below hC18
    replace Y2:=Y2.below hC18
    replace U1:=U1.below hC18
    replace U2:=U2.below hC18
    have hsw18:=hbw18.size;(try (simp at hsw18));have zz:=hQ hbw18 (b:=w.heap.size);(first|(simp [go_sem,z_w,l_w] at zz)|(simp [go_sem] at zz));(try clear x_w f_w);(try clear z_w);have z_w:=zz;clear zz;(try clear l_w);obtain ⟨x_w,f_w,l_w⟩:=bO z_w;have zz:=hQ hbw18 (b:=w.heap.size+1);(first|(simp [go_sem,z_wp,l_wp] at zz)|(simp [go_sem] at zz));(try clear x_wp f_wp);(try clear z_wp);have z_wp:=zz;clear zz;(try clear l_wp);obtain ⟨x_wp,f_wp,l_wp⟩:=bO z_wp;have zz:=hQ hbw18 (b:=b6);(first|(simp [go_sem,z_b6,l_b6] at zz)|(simp [go_sem] at zz));(try clear x_b6 f_b6);(try clear z_b6);have z_b6:=zz;clear zz;(try clear l_b6);obtain ⟨x_b6,f_b6,l_b6⟩:=bO z_b6;have zz:=hQ hbw18 (b:=b7);(first|(simp [go_sem,z_b7,l_b7] at zz)|(simp [go_sem] at zz));(try clear x_b7 f_b7);(try clear z_b7);have z_b7:=zz;clear zz;(try clear l_b7);obtain ⟨x_b7,f_b7,l_b7⟩:=bO z_b7;have zz:=hQ hbw18 (b:=w6.heap.size);(first|(simp [go_sem,z_w6,l_w6] at zz)|(simp [go_sem] at zz));(try clear x_w6 f_w6);(try clear z_w6);have z_w6:=zz;clear zz;(try clear l_w6);obtain ⟨x_w6,f_w6,l_w6⟩:=bO z_w6;have zz:=hQ hbw18 (b:=b10);(first|(simp [go_sem,z_b10,l_b10] at zz)|(simp [go_sem] at zz));(try clear x_b10 f_b10);(try clear z_b10);have z_b10:=zz;clear zz;(try clear l_b10);obtain ⟨x_b10,f_b10,l_b10⟩:=bO z_b10;have zz:=hQ hbw18 (b:=b11);(first|(simp [go_sem,z_b11,l_b11] at zz)|(simp [go_sem] at zz));(try clear x_b11 f_b11);(try clear z_b11);have z_b11:=zz;clear zz;(try clear l_b11);obtain ⟨x_b11,f_b11,l_b11⟩:=bO z_b11;have zz:=hQ hbw18 (b:=b16);(first|(simp [go_sem,z_b16,l_b16] at zz)|(simp [go_sem] at zz));(try clear x_b16 f_b16);(try clear z_b16);have z_b16:=zz;clear zz;(try clear l_b16);obtain ⟨x_b16,f_b16,l_b16⟩:=bO z_b16;have zz:=hQ hbw18 (b:=b17);(first|(simp [go_sem,z_b17,l_b17] at zz)|(simp [go_sem] at zz));(try clear x_b17 f_b17);(try clear z_b17);have z_b17:=zz;clear zz;(try clear l_b17);obtain ⟨x_b17,f_b17,l_b17⟩:=bO z_b17
    clear hbw18
    go_wp2_with fail
    refine (eqHand_any x.2.1 _).mono ?_
    rintro _ w19 ⟨rfl,hbw19⟩
    have hB19:Below w.heap.size w w19:=bT (by exact zB) hbw19
    have hC19:Below w18.heap.size w18 w19:=bT (by exact zB) hbw19
    replace X1:=X1.below hC19
    replace X2:=X2.below hC19
    replace Y1:=Y1.below hC19
    replace Y2:=Y2.below hC19
    replace U1:=U1.below hC19
    replace U2:=U2.below hC19
    have hsw19:=hbw19.size;(try (simp at hsw19));have zz:=hQ hbw19 (b:=w.heap.size);(first|(simp [go_sem,z_w,l_w] at zz)|(simp [go_sem] at zz));(try clear x_w f_w);(try clear z_w);have z_w:=zz;clear zz;(try clear l_w);obtain ⟨x_w,f_w,l_w⟩:=bO z_w;have zz:=hQ hbw19 (b:=w.heap.size+1);(first|(simp [go_sem,z_wp,l_wp] at zz)|(simp [go_sem] at zz));(try clear x_wp f_wp);(try clear z_wp);have z_wp:=zz;clear zz;(try clear l_wp);obtain ⟨x_wp,f_wp,l_wp⟩:=bO z_wp;have zz:=hQ hbw19 (b:=b6);(first|(simp [go_sem,z_b6,l_b6] at zz)|(simp [go_sem] at zz));(try clear x_b6 f_b6);(try clear z_b6);have z_b6:=zz;clear zz;(try clear l_b6);obtain ⟨x_b6,f_b6,l_b6⟩:=bO z_b6;have zz:=hQ hbw19 (b:=b7);(first|(simp [go_sem,z_b7,l_b7] at zz)|(simp [go_sem] at zz));(try clear x_b7 f_b7);(try clear z_b7);have z_b7:=zz;clear zz;(try clear l_b7);obtain ⟨x_b7,f_b7,l_b7⟩:=bO z_b7;have zz:=hQ hbw19 (b:=w6.heap.size);(first|(simp [go_sem,z_w6,l_w6] at zz)|(simp [go_sem] at zz));(try clear x_w6 f_w6);(try clear z_w6);have z_w6:=zz;clear zz;(try clear l_w6);obtain ⟨x_w6,f_w6,l_w6⟩:=bO z_w6;have zz:=hQ hbw19 (b:=b10);(first|(simp [go_sem,z_b10,l_b10] at zz)|(simp [go_sem] at zz));(try clear x_b10 f_b10);(try clear z_b10);have z_b10:=zz;clear zz;(try clear l_b10);obtain ⟨x_b10,f_b10,l_b10⟩:=bO z_b10;have zz:=hQ hbw19 (b:=b11);(first|(simp [go_sem,z_b11,l_b11] at zz)|(simp [go_sem] at zz));(try clear x_b11 f_b11);(try clear z_b11);have z_b11:=zz;clear zz;(try clear l_b11);obtain ⟨x_b11,f_b11,l_b11⟩:=bO z_b11;have zz:=hQ hbw19 (b:=b16);(first|(simp [go_sem,z_b16,l_b16] at zz)|(simp [go_sem] at zz));(try clear x_b16 f_b16);(try clear z_b16);have z_b16:=zz;clear zz;(try clear l_b16);obtain ⟨x_b16,f_b16,l_b16⟩:=bO z_b16;have zz:=hQ hbw19 (b:=b17);(first|(simp [go_sem,z_b17,l_b17] at zz)|(simp [go_sem] at zz));(try clear x_b17 f_b17);(try clear z_b17);have z_b17:=zz;clear zz;(try clear l_b17);obtain ⟨x_b17,f_b17,l_b17⟩:=bO z_b17
    clear hbw19
    go_wp2_with fail
    refine (heldChan_any x.1.cells.length x.1.words.length _ _ _ _ _ _ _ _ 1 (1+3*x.1.cells.length) _ (Y1.below (by exact zB)) (Y2.below (by exact zB)) (by omega) (by omega) rfl n3 n4).mono ?_
    rintro _ w20 ⟨rfl,hbw20⟩
    have hB20:Below w.heap.size w w20:=bT (by exact zB) hbw20
    have hC20:Below w19.heap.size w19 w20:=bT (by exact zB) hbw20
    replace X1:=X1.below hC20
    replace X2:=X2.below hC20
    replace Y1:=Y1.below hC20
    replace Y2:=Y2.below hC20
    replace U1:=U1.below hC20
    replace U2:=U2.below hC20
    have hsw20:=hbw20.size;(try (simp at hsw20));have zz:=hQ hbw20 (b:=w.heap.size);(first|(simp [go_sem,z_w,l_w] at zz)|(simp [go_sem] at zz));(try clear x_w f_w);(try clear z_w);have z_w:=zz;clear zz;(try clear l_w);obtain ⟨x_w,f_w,l_w⟩:=bO z_w;have zz:=hQ hbw20 (b:=w.heap.size+1);(first|(simp [go_sem,z_wp,l_wp] at zz)|(simp [go_sem] at zz));(try clear x_wp f_wp);(try clear z_wp);have z_wp:=zz;clear zz;(try clear l_wp);obtain ⟨x_wp,f_wp,l_wp⟩:=bO z_wp;have zz:=hQ hbw20 (b:=b6);(first|(simp [go_sem,z_b6,l_b6] at zz)|(simp [go_sem] at zz));(try clear x_b6 f_b6);(try clear z_b6);have z_b6:=zz;clear zz;(try clear l_b6);obtain ⟨x_b6,f_b6,l_b6⟩:=bO z_b6;have zz:=hQ hbw20 (b:=b7);(first|(simp [go_sem,z_b7,l_b7] at zz)|(simp [go_sem] at zz));(try clear x_b7 f_b7);(try clear z_b7);have z_b7:=zz;clear zz;(try clear l_b7);obtain ⟨x_b7,f_b7,l_b7⟩:=bO z_b7;have zz:=hQ hbw20 (b:=w6.heap.size);(first|(simp [go_sem,z_w6,l_w6] at zz)|(simp [go_sem] at zz));(try clear x_w6 f_w6);(try clear z_w6);have z_w6:=zz;clear zz;(try clear l_w6);obtain ⟨x_w6,f_w6,l_w6⟩:=bO z_w6;have zz:=hQ hbw20 (b:=b10);(first|(simp [go_sem,z_b10,l_b10] at zz)|(simp [go_sem] at zz));(try clear x_b10 f_b10);(try clear z_b10);have z_b10:=zz;clear zz;(try clear l_b10);obtain ⟨x_b10,f_b10,l_b10⟩:=bO z_b10;have zz:=hQ hbw20 (b:=b11);(first|(simp [go_sem,z_b11,l_b11] at zz)|(simp [go_sem] at zz));(try clear x_b11 f_b11);(try clear z_b11);have z_b11:=zz;clear zz;(try clear l_b11);obtain ⟨x_b11,f_b11,l_b11⟩:=bO z_b11;have zz:=hQ hbw20 (b:=b16);(first|(simp [go_sem,z_b16,l_b16] at zz)|(simp [go_sem] at zz));(try clear x_b16 f_b16);(try clear z_b16);have z_b16:=zz;clear zz;(try clear l_b16);obtain ⟨x_b16,f_b16,l_b16⟩:=bO z_b16;have zz:=hQ hbw20 (b:=b17);(first|(simp [go_sem,z_b17,l_b17] at zz)|(simp [go_sem] at zz));(try clear x_b17 f_b17);(try clear z_b17);have z_b17:=zz;clear zz;(try clear l_b17);obtain ⟨x_b17,f_b17,l_b17⟩:=bO z_b17
    clear hbw20
    go_wp2
    go_ret
    exact ⟨rfl,hB20⟩
    · intro l s wx hl hd hn hf0 K hK
      have hf:=Lib.hid hf0
      clear hf0
      have hB:=hf.out.1
      have z:=hpS z_w hB
      go_simp
      refine hK.out (upd s 25 (.agg (cvals c (.slice a c.cells.length p) (.slice b c.words.length q)))) _ _ (by simp [upd_at] <;> rfl) ⟨hB,fun _=>rfl,fun h=>absurd h (by rw [show upd l 0 true 1=l 1 from rfl,hn 1 rfl];exact Bool.false_ne_true),fun h=>hf.out.2.2.2.1 h,fun h=>hf.out.2.2.2.2.1 h,fun h=>absurd h (by rw [show upd l 0 true 4=l 4 from rfl,hn 4 rfl];exact Bool.false_ne_true),fun h=>absurd h (by rw [show upd l 0 true 5=l 5 from rfl,hn 5 rfl];exact Bool.false_ne_true),fun h=>absurd h (by rw [show upd l 0 true 6=l 6 from rfl,hn 6 rfl];exact Bool.false_ne_true),fun h=>absurd h (by rw [show upd l 0 true 7=l 7 from rfl,hn 7 rfl];exact Bool.false_ne_true),fun h=>absurd h (by rw [show upd l 0 true 8=l 8 from rfl,hn 8 rfl];exact Bool.false_ne_true),fun h=>hf.out.2.2.2.2.2.2.2.2.2.2.1 h,fun h=>hf.out.2.2.2.2.2.2.2.2.2.2.2.1 h,fun h=>absurd h (by rw [show upd l 0 true 13=l 13 from rfl,hn 13 rfl];exact Bool.false_ne_true)⟩
    · intro l s wx hl hd hn hf0 K hK
      have hf:=Lib.hid hf0
      clear hf0
      have hB:=hf.out.1
      have e0:=(hf.out.2.1 (hd 0 rfl))
      go_simp
      go_at_call 7
      refine (toChan_any c a b p q _ ((H1.out.below (bT hB1 hB)).more (bT hB1 hB).size) ((H2.out.below (bT hB1 hB)).more (bT hB1 hB).size) n1 n2).mono ?_
      rintro _ wy ⟨⟨g1,g2,rfl,_,_,R1,R2⟩,hE⟩
      refine hK.out (upd s 26 (.agg (cvals c (.slice (some ⟨g1,0,none⟩) c.cells.length c.cells.length) (.slice (some ⟨g2,0,none⟩) c.words.length c.words.length)))) _ _ (by simp [upd_at,e0] <;> rfl) ⟨bT hB hE,fun h=>hf.out.2.1 h,fun _ _=>⟨g1,g2,rfl,R1,R2⟩,fun h=>hf.out.2.2.2.1 h,fun h=>hf.out.2.2.2.2.1 h,fun h=>absurd h (by rw [show upd l 1 true 4=l 4 from rfl,hn 4 rfl];exact Bool.false_ne_true),fun h=>absurd h (by rw [show upd l 1 true 5=l 5 from rfl,hn 5 rfl];exact Bool.false_ne_true),fun h=>absurd h (by rw [show upd l 1 true 6=l 6 from rfl,hn 6 rfl];exact Bool.false_ne_true),fun h=>absurd h (by rw [show upd l 1 true 7=l 7 from rfl,hn 7 rfl];exact Bool.false_ne_true),fun h=>absurd h (by rw [show upd l 1 true 8=l 8 from rfl,hn 8 rfl];exact Bool.false_ne_true),fun h=>IsBox.below (hf.out.2.2.2.2.2.2.2.2.2.2.1 h) hE,fun h=>IsBox.below (hf.out.2.2.2.2.2.2.2.2.2.2.2.1 h) hE,fun h=>absurd h (by rw [show upd l 1 true 13=l 13 from rfl,hn 13 rfl];exact Bool.false_ne_true)⟩
    · intro l s wx hl hd hn hf0 K hK
      have hf:=Lib.hid hf0
      clear hf0
      have hB:=hf.out.1
      have z:=hpS z_wp hB
      go_simp
      refine hK.out (upd s 27 (.agg (hvals h))) _ _ (by simp [upd_at] <;> rfl) ⟨hB,fun h=>hf.out.2.1 h,fun h=>hf.out.2.2.1 h,fun _=>rfl,fun h=>absurd h (by rw [show upd l 2 true 3=l 3 from rfl,hn 3 rfl];exact Bool.false_ne_true),fun h=>absurd h (by rw [show upd l 2 true 4=l 4 from rfl,hn 4 rfl];exact Bool.false_ne_true),fun h=>absurd h (by rw [show upd l 2 true 5=l 5 from rfl,hn 5 rfl];exact Bool.false_ne_true),fun h=>absurd h (by rw [show upd l 2 true 6=l 6 from rfl,hn 6 rfl];exact Bool.false_ne_true),fun h=>absurd h (by rw [show upd l 2 true 7=l 7 from rfl,hn 7 rfl];exact Bool.false_ne_true),fun h=>absurd h (by rw [show upd l 2 true 8=l 8 from rfl,hn 8 rfl];exact Bool.false_ne_true),fun h=>hf.out.2.2.2.2.2.2.2.2.2.2.1 h,fun h=>hf.out.2.2.2.2.2.2.2.2.2.2.2.1 h,fun h=>absurd h (by rw [show upd l 2 true 13=l 13 from rfl,hn 13 rfl];exact Bool.false_ne_true)⟩
    · intro l s wx hl hd hn hf0 K hK
      have hf:=Lib.hid hf0
      clear hf0
      have hB:=hf.out.1
      have e2:=(hf.out.2.2.2.1 (hd 2 rfl))
      go_simp
      go_at_call 8
      refine (toHand_any h _).mono ?_
      rintro _ wy ⟨rfl,hE⟩
      refine hK.out (upd s 28 (.agg (hvals h))) _ _ (by simp [upd_at,e2] <;> rfl) ⟨bT hB hE,fun h=>hf.out.2.1 h,fun h=>fun h4=>(let ⟨g1,g2,e,R1,R2⟩:=(hf.out.2.2.1 h) h4;⟨g1,g2,e,R1.belowS hE,R2.belowS hE⟩),fun h=>hf.out.2.2.2.1 h,fun _=>rfl,fun h=>absurd h (by rw [show upd l 3 true 4=l 4 from rfl,hn 4 rfl];exact Bool.false_ne_true),fun h=>absurd h (by rw [show upd l 3 true 5=l 5 from rfl,hn 5 rfl];exact Bool.false_ne_true),fun h=>absurd h (by rw [show upd l 3 true 6=l 6 from rfl,hn 6 rfl];exact Bool.false_ne_true),fun h=>absurd h (by rw [show upd l 3 true 7=l 7 from rfl,hn 7 rfl];exact Bool.false_ne_true),fun h=>absurd h (by rw [show upd l 3 true 8=l 8 from rfl,hn 8 rfl];exact Bool.false_ne_true),fun h=>IsBox.below (hf.out.2.2.2.2.2.2.2.2.2.2.1 h) hE,fun h=>IsBox.below (hf.out.2.2.2.2.2.2.2.2.2.2.2.1 h) hE,fun h=>absurd h (by rw [show upd l 3 true 13=l 13 from rfl,hn 13 rfl];exact Bool.false_ne_true)⟩
    · intro l s wx hl hd hn hf0 K hK
      have hf:=Lib.hid hf0
      clear hf0
      have hB:=hf.out.1
      have et:=hf.out.2.2.2.2.1 (hd 3 rfl)
      obtain ⟨g1,g2,ec,R1,R2⟩:=hf.out.2.2.1 (hd 1 rfl) hl
      go_simp
      go_at_call 6
      refine (HS.out _ _ _ _ _ R1.seg (fun e=>by cases e) R2.seg (fun e=>by cases e)).mono ?_
      rintro _ wy ⟨⟨v1,v2,rfl,X1,X2,_,_⟩,hE⟩
      refine hK.out (upd (upd (upd s 1003 (v1)) 1004 (v2)) 29 (.tuple #[.agg (cvals x.1 v1 v2),.agg (hvals x.2.1),.bool x.2.2])) _ _ (by simp [upd_at,ec,et] <;> rfl) ⟨bT hB hE,fun h=>hf.out.2.1 h,fun _ h4=>absurd h4 (by rw [show upd l 4 true 4=true from rfl];decide),fun h=>hf.out.2.2.2.1 h,fun h=>hf.out.2.2.2.2.1 h,fun _=>⟨rfl,own_lo X1 hB.size,own_lo X2 hB.size⟩,fun h=>absurd h (by rw [show upd l 4 true 5=l 5 from rfl,hn 5 rfl];exact Bool.false_ne_true),fun h=>absurd h (by rw [show upd l 4 true 6=l 6 from rfl,hn 6 rfl];exact Bool.false_ne_true),fun h=>absurd h (by rw [show upd l 4 true 7=l 7 from rfl,hn 7 rfl];exact Bool.false_ne_true),fun h=>absurd h (by rw [show upd l 4 true 8=l 8 from rfl,hn 8 rfl];exact Bool.false_ne_true),fun h=>by (have ee:l 11=false:=hn 11 rfl);(have F:=hf.out.2.2.2.2.2.2.2.2.2.2.1 h);rw [ee] at F;rw [show upd l 4 true 11=false from ee];exact F.below hE,fun h=>by (have ee:l 12=false:=hn 12 rfl);(have F:=hf.out.2.2.2.2.2.2.2.2.2.2.2.1 h);rw [ee] at F;rw [show upd l 4 true 12=false from ee];exact F.below hE,fun h=>absurd h (by rw [show upd l 4 true 13=l 13 from rfl,hn 13 rfl];exact Bool.false_ne_true)⟩
    · intro l s wx hl hd hn hf0 K hK
      have hf:=Lib.hid hf0
      clear hf0
      have hB:=hf.out.1
      have e4:=(hf.out.2.2.2.2.2.1 (hd 4 rfl)).1
      go_simp
      refine hK.out (upd s 24 (.tuple #[.agg (cvals x.1 (s 1003) (s 1004)),.agg (hvals x.2.1),.bool x.2.2])) _ _ (by simp [upd_at,e4] <;> rfl) ⟨hB,fun h=>hf.out.2.1 h,fun h=>hf.out.2.2.1 h,fun h=>hf.out.2.2.2.1 h,fun h=>hf.out.2.2.2.2.1 h,fun h=>hf.out.2.2.2.2.2.1 h,fun _=>rfl,fun h=>absurd h (by rw [show upd l 5 true 6=l 6 from rfl,hn 6 rfl];exact Bool.false_ne_true),fun h=>absurd h (by rw [show upd l 5 true 7=l 7 from rfl,hn 7 rfl];exact Bool.false_ne_true),fun h=>absurd h (by rw [show upd l 5 true 8=l 8 from rfl,hn 8 rfl];exact Bool.false_ne_true),fun h=>hf.out.2.2.2.2.2.2.2.2.2.2.1 h,fun h=>hf.out.2.2.2.2.2.2.2.2.2.2.2.1 h,fun h=>absurd h (by rw [show upd l 5 true 13=l 13 from rfl,hn 13 rfl];exact Bool.false_ne_true)⟩
    · intro l s wx hl hd hn hf0 K hK
      have hf:=Lib.hid hf0
      clear hf0
      have hB:=hf.out.1
      have e5:=(hf.out.2.2.2.2.2.2.1 (hd 5 rfl))
      go_simp
      refine hK.out (upd s 30 (.agg (cvals x.1 (s 1003) (s 1004)))) _ _ (by simp [upd_at,e5] <;> rfl) ⟨hB,fun h=>hf.out.2.1 h,fun h=>hf.out.2.2.1 h,fun h=>hf.out.2.2.2.1 h,fun h=>hf.out.2.2.2.2.1 h,fun h=>hf.out.2.2.2.2.2.1 h,fun h=>hf.out.2.2.2.2.2.2.1 h,fun _=>rfl,fun h=>hf.out.2.2.2.2.2.2.2.2.1 h,fun h=>hf.out.2.2.2.2.2.2.2.2.2.1 h,fun h=>hf.out.2.2.2.2.2.2.2.2.2.2.1 h,fun h=>hf.out.2.2.2.2.2.2.2.2.2.2.2.1 h,fun h=>hf.out.2.2.2.2.2.2.2.2.2.2.2.2 h⟩
    · intro l s wx hl hd hn hf0 K hK
      have hf:=Lib.hid hf0
      clear hf0
      have hB:=hf.out.1
      have e5:=(hf.out.2.2.2.2.2.2.1 (hd 5 rfl))
      go_simp
      refine hK.out (upd s 31 (.agg (hvals x.2.1))) _ _ (by simp [upd_at,e5] <;> rfl) ⟨hB,fun h=>hf.out.2.1 h,fun h=>hf.out.2.2.1 h,fun h=>hf.out.2.2.2.1 h,fun h=>hf.out.2.2.2.2.1 h,fun h=>hf.out.2.2.2.2.2.1 h,fun h=>hf.out.2.2.2.2.2.2.1 h,fun h=>hf.out.2.2.2.2.2.2.2.1 h,fun _=>rfl,fun h=>hf.out.2.2.2.2.2.2.2.2.2.1 h,fun h=>hf.out.2.2.2.2.2.2.2.2.2.2.1 h,fun h=>hf.out.2.2.2.2.2.2.2.2.2.2.2.1 h,fun h=>hf.out.2.2.2.2.2.2.2.2.2.2.2.2 h⟩
    · intro l s wx hl hd hn hf0 K hK
      have hf:=Lib.hid hf0
      clear hf0
      have hB:=hf.out.1
      have e5:=(hf.out.2.2.2.2.2.2.1 (hd 5 rfl))
      go_simp
      refine hK.out (upd s 32 (.bool x.2.2)) _ _ (by simp [upd_at,e5] <;> rfl) ⟨hB,fun h=>hf.out.2.1 h,fun h=>hf.out.2.2.1 h,fun h=>hf.out.2.2.2.1 h,fun h=>hf.out.2.2.2.2.1 h,fun h=>hf.out.2.2.2.2.2.1 h,fun h=>hf.out.2.2.2.2.2.2.1 h,fun h=>hf.out.2.2.2.2.2.2.2.1 h,fun h=>hf.out.2.2.2.2.2.2.2.2.1 h,fun _=>rfl,fun h=>hf.out.2.2.2.2.2.2.2.2.2.2.1 h,fun h=>hf.out.2.2.2.2.2.2.2.2.2.2.2.1 h,fun h=>absurd h (by rw [show upd l 8 true 13=l 13 from rfl,hn 13 rfl];exact Bool.false_ne_true)⟩
    · intro l s wx hl hd hn hf0 K hK
      have hf:=Lib.hid hf0
      clear hf0
      have hB:=hf.out.1
      go_simp
      refine hK.out (upd s 6 (.pointer (some ⟨wx.heap.size,0,none⟩))) _ _ (by simp [upd_at] <;> rfl) ⟨bT hB (belowAlloc _ _),fun h=>hf.out.2.1 h,fun h=>fun h4=>(let ⟨g1,g2,e,R1,R2⟩:=(hf.out.2.2.1 h) h4;⟨g1,g2,e,R1.belowS (belowAlloc _ _),R2.belowS (belowAlloc _ _)⟩),fun h=>hf.out.2.2.2.1 h,fun h=>hf.out.2.2.2.2.1 h,fun h=>(let ⟨e,X1,X2⟩:=(hf.out.2.2.2.2.2.1 h);⟨e,own_below X1 (belowAlloc _ _),own_below X2 (belowAlloc _ _)⟩),fun h=>hf.out.2.2.2.2.2.2.1 h,fun h=>hf.out.2.2.2.2.2.2.2.1 h,fun h=>hf.out.2.2.2.2.2.2.2.2.1 h,fun h=>hf.out.2.2.2.2.2.2.2.2.2.1 h,fun _=>by rw [show upd l 9 true 11=false from hn 11 rfl];exact IsBox.new hB.size,fun h=>IsBox.below (hf.out.2.2.2.2.2.2.2.2.2.2.2.1 h) (belowAlloc _ _),fun h=>hf.out.2.2.2.2.2.2.2.2.2.2.2.2 h⟩
    · intro l s wx hl hd hn hf0 K hK
      have hf:=Lib.hid hf0
      clear hf0
      have hB:=hf.out.1
      go_simp
      refine hK.out (upd s 7 (.pointer (some ⟨wx.heap.size,0,none⟩))) _ _ (by simp [upd_at] <;> rfl) ⟨bT hB (belowAlloc _ _),fun h=>hf.out.2.1 h,fun h=>fun h4=>(let ⟨g1,g2,e,R1,R2⟩:=(hf.out.2.2.1 h) h4;⟨g1,g2,e,R1.belowS (belowAlloc _ _),R2.belowS (belowAlloc _ _)⟩),fun h=>hf.out.2.2.2.1 h,fun h=>hf.out.2.2.2.2.1 h,fun h=>(let ⟨e,X1,X2⟩:=(hf.out.2.2.2.2.2.1 h);⟨e,own_below X1 (belowAlloc _ _),own_below X2 (belowAlloc _ _)⟩),fun h=>hf.out.2.2.2.2.2.2.1 h,fun h=>hf.out.2.2.2.2.2.2.2.1 h,fun h=>hf.out.2.2.2.2.2.2.2.2.1 h,fun h=>hf.out.2.2.2.2.2.2.2.2.2.1 h,fun h=>IsBox.below (hf.out.2.2.2.2.2.2.2.2.2.2.1 h) (belowAlloc _ _),fun _=>by rw [show upd l 10 true 12=false from hn 12 rfl];exact IsBox.new hB.size,fun h=>hf.out.2.2.2.2.2.2.2.2.2.2.2.2 h⟩
    · intro l s wx hl hd hn hf0 K hK
      have hf:=Lib.hid hf0
      clear hf0
      have hB:=hf.out.1
      have e4:=(hf.out.2.2.2.2.2.1 (hd 4 rfl))
      have e6:=(hf.out.2.2.2.2.2.2.2.1 (hd 6 rfl))
      have X1:=e4.2.1
      have X2:=e4.2.2
      clear e4
      obtain ⟨bb,eb,hlo,zb⟩:=hf.out.2.2.2.2.2.2.2.2.2.2.1 (hd 9 rfl)
      rw [hl] at zb
      dsimp only [cond] at zb
      obtain ⟨xa,xp,ea,_⟩:=X1.seg
      obtain ⟨xb,xq,eb2,_⟩:=X2.seg
      rw [ea,eb2] at e6
      go_simp
      have zn:hp (setBox wx bb (cvals x.1 (.slice xa x.1.cells.length xp) (.slice xb x.1.words.length xq))) bb=some (.cells (cvals x.1 (s 1003) (s 1004)) 33):=by rw [ea,eb2];exact hp_set zb
      refine hK.out (s) _ _ (by simp [upd_at,eb,e6,ea,eb2] <;> rfl) ⟨bBx hB hlo,fun h=>hf.out.2.1 h,fun _ h4=>absurd ((hd 4 rfl).symm.trans h4) (by decide),fun h=>hf.out.2.2.2.1 h,fun h=>hf.out.2.2.2.2.1 h,fun h=>⟨(hf.out.2.2.2.2.2.1 h).1,own_far (hf.out.2.2.2.2.2.1 h).2.1 zb (by decide),own_far (hf.out.2.2.2.2.2.1 h).2.2 zb (by decide)⟩,fun h=>hf.out.2.2.2.2.2.2.1 h,fun h=>hf.out.2.2.2.2.2.2.2.1 h,fun h=>hf.out.2.2.2.2.2.2.2.2.1 h,fun h=>hf.out.2.2.2.2.2.2.2.2.2.1 h,fun _=>⟨bb,eb,hlo,zn⟩,fun h=>IsBox.far (hf.out.2.2.2.2.2.2.2.2.2.2.2.1 h) zb (by decide),fun h=>hf.out.2.2.2.2.2.2.2.2.2.2.2.2 h⟩
    · intro l s wx hl hd hn hf0 K hK
      have hf:=Lib.hid hf0
      clear hf0
      have hB:=hf.out.1
      have e4:=(hf.out.2.2.2.2.2.1 (hd 4 rfl))
      have e7:=(hf.out.2.2.2.2.2.2.2.2.1 (hd 7 rfl))
      have X1:=e4.2.1
      have X2:=e4.2.2
      clear e4
      obtain ⟨bb,eb,hlo,zb⟩:=hf.out.2.2.2.2.2.2.2.2.2.2.2.1 (hd 10 rfl)
      rw [hl] at zb
      dsimp only [cond] at zb
      go_simp
      have zn:hp (setBox wx bb (hvals x.2.1)) bb=some (.cells (hvals x.2.1) 36):=by exact hp_set zb
      refine hK.out (s) _ _ (by simp [upd_at,eb,e7] <;> rfl) ⟨bBx hB hlo,fun h=>hf.out.2.1 h,fun _ h4=>absurd ((hd 4 rfl).symm.trans h4) (by decide),fun h=>hf.out.2.2.2.1 h,fun h=>hf.out.2.2.2.2.1 h,fun h=>⟨(hf.out.2.2.2.2.2.1 h).1,own_far (hf.out.2.2.2.2.2.1 h).2.1 zb (by decide),own_far (hf.out.2.2.2.2.2.1 h).2.2 zb (by decide)⟩,fun h=>hf.out.2.2.2.2.2.2.1 h,fun h=>hf.out.2.2.2.2.2.2.2.1 h,fun h=>hf.out.2.2.2.2.2.2.2.2.1 h,fun h=>hf.out.2.2.2.2.2.2.2.2.2.1 h,fun h=>IsBox.far (hf.out.2.2.2.2.2.2.2.2.2.2.1 h) zb (by decide),fun _=>⟨bb,eb,hlo,zn⟩,fun h=>hf.out.2.2.2.2.2.2.2.2.2.2.2.2 h⟩
    · intro l s wx hl hd hn hf0 K hK
      have hf:=Lib.hid hf0
      clear hf0
      have hB:=hf.out.1
      have e8:=(hf.out.2.2.2.2.2.2.2.2.2.1 (hd 8 rfl))
      go_simp
      refine hK.out (upd s 8 (.bool x.2.2)) _ _ (by simp [upd_at,e8] <;> rfl) ⟨hB,fun h=>hf.out.2.1 h,fun h=>hf.out.2.2.1 h,fun h=>hf.out.2.2.2.1 h,fun h=>hf.out.2.2.2.2.1 h,fun h=>hf.out.2.2.2.2.2.1 h,fun h=>hf.out.2.2.2.2.2.2.1 h,fun h=>hf.out.2.2.2.2.2.2.2.1 h,fun h=>hf.out.2.2.2.2.2.2.2.2.1 h,fun h=>hf.out.2.2.2.2.2.2.2.2.2.1 h,fun h=>hf.out.2.2.2.2.2.2.2.2.2.2.1 h,fun h=>hf.out.2.2.2.2.2.2.2.2.2.2.2.1 h,fun _=>rfl⟩
    · intro l s wx hl hd hn hf0 K hK
      have hf:=Lib.hid hf0
      clear hf0
      have hB:=hf.out.1
      have z:=hpS z_w6 hB
      go_simp
      refine hK.out (upd s 36 (.agg (cvals c (.slice (some ⟨g3,0,none⟩) c.cells.length c.cells.length) (.slice (some ⟨g4,0,none⟩) c.words.length c.words.length)))) _ _ (by simp [upd_at] <;> rfl) ⟨hB,fun _=>rfl,fun h=>hf.out.2.2.1 h,fun h=>hf.out.2.2.2.1 h,fun h=>absurd h (by rw [show upd l 0 true 3=l 3 from rfl,hn 3 rfl];exact Bool.false_ne_true),fun h=>absurd h (by rw [show upd l 0 true 4=l 4 from rfl,hn 4 rfl];exact Bool.false_ne_true),fun h=>absurd h (by rw [show upd l 0 true 5=l 5 from rfl,hn 5 rfl];exact Bool.false_ne_true),fun h=>absurd h (by rw [show upd l 0 true 6=l 6 from rfl,hn 6 rfl];exact Bool.false_ne_true),fun h=>absurd h (by rw [show upd l 0 true 7=l 7 from rfl,hn 7 rfl];exact Bool.false_ne_true),fun h=>hf.out.2.2.2.2.2.2.2.2.2.1 h,fun h=>hf.out.2.2.2.2.2.2.2.2.2.2.1 h,fun h=>absurd h (by rw [show upd l 0 true 12=l 12 from rfl,hn 12 rfl];exact Bool.false_ne_true)⟩
    · intro l s wx hl hd hn hf0 K hK
      have hf:=Lib.hid hf0
      clear hf0
      have hB:=hf.out.1
      have z:=hpS z_wp hB
      go_simp
      refine hK.out (upd s 37 (.agg (hvals h))) _ _ (by simp [upd_at] <;> rfl) ⟨hB,fun h=>hf.out.2.1 h,fun _=>rfl,fun h=>absurd h (by rw [show upd l 1 true 2=l 2 from rfl,hn 2 rfl];exact Bool.false_ne_true),fun h=>absurd h (by rw [show upd l 1 true 3=l 3 from rfl,hn 3 rfl];exact Bool.false_ne_true),fun h=>absurd h (by rw [show upd l 1 true 4=l 4 from rfl,hn 4 rfl];exact Bool.false_ne_true),fun h=>absurd h (by rw [show upd l 1 true 5=l 5 from rfl,hn 5 rfl];exact Bool.false_ne_true),fun h=>absurd h (by rw [show upd l 1 true 6=l 6 from rfl,hn 6 rfl];exact Bool.false_ne_true),fun h=>absurd h (by rw [show upd l 1 true 7=l 7 from rfl,hn 7 rfl];exact Bool.false_ne_true),fun h=>hf.out.2.2.2.2.2.2.2.2.2.1 h,fun h=>hf.out.2.2.2.2.2.2.2.2.2.2.1 h,fun h=>absurd h (by rw [show upd l 1 true 12=l 12 from rfl,hn 12 rfl];exact Bool.false_ne_true)⟩
    · intro l s wx hl hd hn hf0 K hK
      have hf:=Lib.hid hf0
      clear hf0
      have hB:=hf.out.1
      have e1:=(hf.out.2.2.1 (hd 1 rfl))
      go_simp
      go_at_call 8
      refine (toHand_any h _).mono ?_
      rintro _ wy ⟨rfl,hE⟩
      refine hK.out (upd s 38 (.agg (hvals h))) _ _ (by simp [upd_at,e1] <;> rfl) ⟨bT hB hE,fun h=>hf.out.2.1 h,fun h=>hf.out.2.2.1 h,fun _=>rfl,fun h=>absurd h (by rw [show upd l 2 true 3=l 3 from rfl,hn 3 rfl];exact Bool.false_ne_true),fun h=>absurd h (by rw [show upd l 2 true 4=l 4 from rfl,hn 4 rfl];exact Bool.false_ne_true),fun h=>absurd h (by rw [show upd l 2 true 5=l 5 from rfl,hn 5 rfl];exact Bool.false_ne_true),fun h=>absurd h (by rw [show upd l 2 true 6=l 6 from rfl,hn 6 rfl];exact Bool.false_ne_true),fun h=>absurd h (by rw [show upd l 2 true 7=l 7 from rfl,hn 7 rfl];exact Bool.false_ne_true),fun h=>IsBox.below (hf.out.2.2.2.2.2.2.2.2.2.1 h) hE,fun h=>IsBox.below (hf.out.2.2.2.2.2.2.2.2.2.2.1 h) hE,fun h=>absurd h (by rw [show upd l 2 true 12=l 12 from rfl,hn 12 rfl];exact Bool.false_ne_true)⟩
    · intro l s wx hl hd hn hf0 K hK
      have hf:=Lib.hid hf0
      clear hf0
      have hB:=hf.out.1
      have et:=hf.out.2.2.2.1 (hd 2 rfl)
      have ec:=hf.out.2.1 (hd 0 rfl)
      go_simp
      go_at_call 9
      refine (HI.out _ _ _ _ _ (C3.segAt hB) (fun e=>by cases e) (C4.segAt hB) (fun e=>by cases e)).mono ?_
      rintro _ wy ⟨⟨v1,v2,rfl,X1,X2,_,_⟩,hE⟩
      refine hK.out (upd (upd (upd s 1003 (v1)) 1004 (v2)) 39 (.tuple #[.agg (cvals x.1 v1 v2),.agg (hvals x.2.1),.bool x.2.2])) _ _ (by simp [upd_at,ec,et] <;> rfl) ⟨bT hB hE,fun h=>hf.out.2.1 h,fun h=>hf.out.2.2.1 h,fun h=>hf.out.2.2.2.1 h,fun _=>⟨rfl,own_lo X1 hB.size,own_lo X2 hB.size⟩,fun h=>absurd h (by rw [show upd l 3 true 4=l 4 from rfl,hn 4 rfl];exact Bool.false_ne_true),fun h=>absurd h (by rw [show upd l 3 true 5=l 5 from rfl,hn 5 rfl];exact Bool.false_ne_true),fun h=>absurd h (by rw [show upd l 3 true 6=l 6 from rfl,hn 6 rfl];exact Bool.false_ne_true),fun h=>absurd h (by rw [show upd l 3 true 7=l 7 from rfl,hn 7 rfl];exact Bool.false_ne_true),fun h=>by (have ee:l 10=false:=hn 10 rfl);(have F:=hf.out.2.2.2.2.2.2.2.2.2.1 h);rw [ee] at F;rw [show upd l 3 true 10=false from ee];exact F.below hE,fun h=>by (have ee:l 11=false:=hn 11 rfl);(have F:=hf.out.2.2.2.2.2.2.2.2.2.2.1 h);rw [ee] at F;rw [show upd l 3 true 11=false from ee];exact F.below hE,fun h=>absurd h (by rw [show upd l 3 true 12=l 12 from rfl,hn 12 rfl];exact Bool.false_ne_true)⟩
    · intro l s wx hl hd hn hf0 K hK
      have hf:=Lib.hid hf0
      clear hf0
      have hB:=hf.out.1
      have e3:=(hf.out.2.2.2.2.1 (hd 3 rfl)).1
      go_simp
      refine hK.out (upd s 35 (.tuple #[.agg (cvals x.1 (s 1003) (s 1004)),.agg (hvals x.2.1),.bool x.2.2])) _ _ (by simp [upd_at,e3] <;> rfl) ⟨hB,fun h=>hf.out.2.1 h,fun h=>hf.out.2.2.1 h,fun h=>hf.out.2.2.2.1 h,fun h=>hf.out.2.2.2.2.1 h,fun _=>rfl,fun h=>absurd h (by rw [show upd l 4 true 5=l 5 from rfl,hn 5 rfl];exact Bool.false_ne_true),fun h=>absurd h (by rw [show upd l 4 true 6=l 6 from rfl,hn 6 rfl];exact Bool.false_ne_true),fun h=>absurd h (by rw [show upd l 4 true 7=l 7 from rfl,hn 7 rfl];exact Bool.false_ne_true),fun h=>hf.out.2.2.2.2.2.2.2.2.2.1 h,fun h=>hf.out.2.2.2.2.2.2.2.2.2.2.1 h,fun h=>absurd h (by rw [show upd l 4 true 12=l 12 from rfl,hn 12 rfl];exact Bool.false_ne_true)⟩
    · intro l s wx hl hd hn hf0 K hK
      have hf:=Lib.hid hf0
      clear hf0
      have hB:=hf.out.1
      have e4:=(hf.out.2.2.2.2.2.1 (hd 4 rfl))
      go_simp
      refine hK.out (upd s 40 (.agg (cvals x.1 (s 1003) (s 1004)))) _ _ (by simp [upd_at,e4] <;> rfl) ⟨hB,fun h=>hf.out.2.1 h,fun h=>hf.out.2.2.1 h,fun h=>hf.out.2.2.2.1 h,fun h=>hf.out.2.2.2.2.1 h,fun h=>hf.out.2.2.2.2.2.1 h,fun _=>rfl,fun h=>hf.out.2.2.2.2.2.2.2.1 h,fun h=>hf.out.2.2.2.2.2.2.2.2.1 h,fun h=>hf.out.2.2.2.2.2.2.2.2.2.1 h,fun h=>hf.out.2.2.2.2.2.2.2.2.2.2.1 h,fun h=>hf.out.2.2.2.2.2.2.2.2.2.2.2 h⟩
    · intro l s wx hl hd hn hf0 K hK
      have hf:=Lib.hid hf0
      clear hf0
      have hB:=hf.out.1
      have e4:=(hf.out.2.2.2.2.2.1 (hd 4 rfl))
      go_simp
      refine hK.out (upd s 41 (.agg (hvals x.2.1))) _ _ (by simp [upd_at,e4] <;> rfl) ⟨hB,fun h=>hf.out.2.1 h,fun h=>hf.out.2.2.1 h,fun h=>hf.out.2.2.2.1 h,fun h=>hf.out.2.2.2.2.1 h,fun h=>hf.out.2.2.2.2.2.1 h,fun h=>hf.out.2.2.2.2.2.2.1 h,fun _=>rfl,fun h=>hf.out.2.2.2.2.2.2.2.2.1 h,fun h=>hf.out.2.2.2.2.2.2.2.2.2.1 h,fun h=>hf.out.2.2.2.2.2.2.2.2.2.2.1 h,fun h=>hf.out.2.2.2.2.2.2.2.2.2.2.2 h⟩
    · intro l s wx hl hd hn hf0 K hK
      have hf:=Lib.hid hf0
      clear hf0
      have hB:=hf.out.1
      have e4:=(hf.out.2.2.2.2.2.1 (hd 4 rfl))
      go_simp
      refine hK.out (upd s 42 (.bool x.2.2)) _ _ (by simp [upd_at,e4] <;> rfl) ⟨hB,fun h=>hf.out.2.1 h,fun h=>hf.out.2.2.1 h,fun h=>hf.out.2.2.2.1 h,fun h=>hf.out.2.2.2.2.1 h,fun h=>hf.out.2.2.2.2.2.1 h,fun h=>hf.out.2.2.2.2.2.2.1 h,fun h=>hf.out.2.2.2.2.2.2.2.1 h,fun _=>rfl,fun h=>hf.out.2.2.2.2.2.2.2.2.2.1 h,fun h=>hf.out.2.2.2.2.2.2.2.2.2.2.1 h,fun h=>absurd h (by rw [show upd l 7 true 12=l 12 from rfl,hn 12 rfl];exact Bool.false_ne_true)⟩
    · intro l s wx hl hd hn hf0 K hK
      have hf:=Lib.hid hf0
      clear hf0
      have hB:=hf.out.1
      go_simp
      refine hK.out (upd s 10 (.pointer (some ⟨wx.heap.size,0,none⟩))) _ _ (by simp [upd_at] <;> rfl) ⟨bT hB (belowAlloc _ _),fun h=>hf.out.2.1 h,fun h=>hf.out.2.2.1 h,fun h=>hf.out.2.2.2.1 h,fun h=>(let ⟨e,X1,X2⟩:=(hf.out.2.2.2.2.1 h);⟨e,own_below X1 (belowAlloc _ _),own_below X2 (belowAlloc _ _)⟩),fun h=>hf.out.2.2.2.2.2.1 h,fun h=>hf.out.2.2.2.2.2.2.1 h,fun h=>hf.out.2.2.2.2.2.2.2.1 h,fun h=>hf.out.2.2.2.2.2.2.2.2.1 h,fun _=>by rw [show upd l 8 true 10=false from hn 10 rfl];exact IsBox.new hB.size,fun h=>IsBox.below (hf.out.2.2.2.2.2.2.2.2.2.2.1 h) (belowAlloc _ _),fun h=>hf.out.2.2.2.2.2.2.2.2.2.2.2 h⟩
    · intro l s wx hl hd hn hf0 K hK
      have hf:=Lib.hid hf0
      clear hf0
      have hB:=hf.out.1
      go_simp
      refine hK.out (upd s 11 (.pointer (some ⟨wx.heap.size,0,none⟩))) _ _ (by simp [upd_at] <;> rfl) ⟨bT hB (belowAlloc _ _),fun h=>hf.out.2.1 h,fun h=>hf.out.2.2.1 h,fun h=>hf.out.2.2.2.1 h,fun h=>(let ⟨e,X1,X2⟩:=(hf.out.2.2.2.2.1 h);⟨e,own_below X1 (belowAlloc _ _),own_below X2 (belowAlloc _ _)⟩),fun h=>hf.out.2.2.2.2.2.1 h,fun h=>hf.out.2.2.2.2.2.2.1 h,fun h=>hf.out.2.2.2.2.2.2.2.1 h,fun h=>hf.out.2.2.2.2.2.2.2.2.1 h,fun h=>IsBox.below (hf.out.2.2.2.2.2.2.2.2.2.1 h) (belowAlloc _ _),fun _=>by rw [show upd l 9 true 11=false from hn 11 rfl];exact IsBox.new hB.size,fun h=>hf.out.2.2.2.2.2.2.2.2.2.2.2 h⟩
    · intro l s wx hl hd hn hf0 K hK
      have hf:=Lib.hid hf0
      clear hf0
      have hB:=hf.out.1
      have e3:=(hf.out.2.2.2.2.1 (hd 3 rfl))
      have e5:=(hf.out.2.2.2.2.2.2.1 (hd 5 rfl))
      have X1:=e3.2.1
      have X2:=e3.2.2
      clear e3
      obtain ⟨bb,eb,hlo,zb⟩:=hf.out.2.2.2.2.2.2.2.2.2.1 (hd 8 rfl)
      rw [hl] at zb
      dsimp only [cond] at zb
      obtain ⟨xa,xp,ea,_⟩:=X1.seg
      obtain ⟨xb,xq,eb2,_⟩:=X2.seg
      rw [ea,eb2] at e5
      go_simp
      have zn:hp (setBox wx bb (cvals x.1 (.slice xa x.1.cells.length xp) (.slice xb x.1.words.length xq))) bb=some (.cells (cvals x.1 (s 1003) (s 1004)) 33):=by rw [ea,eb2];exact hp_set zb
      refine hK.out (s) _ _ (by simp [upd_at,eb,e5,ea,eb2] <;> rfl) ⟨bBx hB hlo,fun h=>hf.out.2.1 h,fun h=>hf.out.2.2.1 h,fun h=>hf.out.2.2.2.1 h,fun h=>⟨(hf.out.2.2.2.2.1 h).1,own_far (hf.out.2.2.2.2.1 h).2.1 zb (by decide),own_far (hf.out.2.2.2.2.1 h).2.2 zb (by decide)⟩,fun h=>hf.out.2.2.2.2.2.1 h,fun h=>hf.out.2.2.2.2.2.2.1 h,fun h=>hf.out.2.2.2.2.2.2.2.1 h,fun h=>hf.out.2.2.2.2.2.2.2.2.1 h,fun _=>⟨bb,eb,hlo,zn⟩,fun h=>IsBox.far (hf.out.2.2.2.2.2.2.2.2.2.2.1 h) zb (by decide),fun h=>hf.out.2.2.2.2.2.2.2.2.2.2.2 h⟩
    · intro l s wx hl hd hn hf0 K hK
      have hf:=Lib.hid hf0
      clear hf0
      have hB:=hf.out.1
      have e3:=(hf.out.2.2.2.2.1 (hd 3 rfl))
      have e6:=(hf.out.2.2.2.2.2.2.2.1 (hd 6 rfl))
      have X1:=e3.2.1
      have X2:=e3.2.2
      clear e3
      obtain ⟨bb,eb,hlo,zb⟩:=hf.out.2.2.2.2.2.2.2.2.2.2.1 (hd 9 rfl)
      rw [hl] at zb
      dsimp only [cond] at zb
      go_simp
      have zn:hp (setBox wx bb (hvals x.2.1)) bb=some (.cells (hvals x.2.1) 36):=by exact hp_set zb
      refine hK.out (s) _ _ (by simp [upd_at,eb,e6] <;> rfl) ⟨bBx hB hlo,fun h=>hf.out.2.1 h,fun h=>hf.out.2.2.1 h,fun h=>hf.out.2.2.2.1 h,fun h=>⟨(hf.out.2.2.2.2.1 h).1,own_far (hf.out.2.2.2.2.1 h).2.1 zb (by decide),own_far (hf.out.2.2.2.2.1 h).2.2 zb (by decide)⟩,fun h=>hf.out.2.2.2.2.2.1 h,fun h=>hf.out.2.2.2.2.2.2.1 h,fun h=>hf.out.2.2.2.2.2.2.2.1 h,fun h=>hf.out.2.2.2.2.2.2.2.2.1 h,fun h=>IsBox.far (hf.out.2.2.2.2.2.2.2.2.2.1 h) zb (by decide),fun _=>⟨bb,eb,hlo,zn⟩,fun h=>hf.out.2.2.2.2.2.2.2.2.2.2.2 h⟩
    · intro l s wx hl hd hn hf0 K hK
      have hf:=Lib.hid hf0
      clear hf0
      have hB:=hf.out.1
      have e7:=(hf.out.2.2.2.2.2.2.2.2.1 (hd 7 rfl))
      go_simp
      refine hK.out (upd s 12 (.bool x.2.2)) _ _ (by simp [upd_at,e7] <;> rfl) ⟨hB,fun h=>hf.out.2.1 h,fun h=>hf.out.2.2.1 h,fun h=>hf.out.2.2.2.1 h,fun h=>hf.out.2.2.2.2.1 h,fun h=>hf.out.2.2.2.2.2.1 h,fun h=>hf.out.2.2.2.2.2.2.1 h,fun h=>hf.out.2.2.2.2.2.2.2.1 h,fun h=>hf.out.2.2.2.2.2.2.2.2.1 h,fun h=>hf.out.2.2.2.2.2.2.2.2.2.1 h,fun h=>hf.out.2.2.2.2.2.2.2.2.2.2.1 h,fun _=>rfl⟩
    · intro l s wx hl hd hn hf0 K hK
      have hf:=Lib.hid hf0
      clear hf0
      have hB:=hf.out.1
      have z:=hpS z_w6 hB
      go_simp
      refine hK.out (upd s 58 (.agg (cvals c (.slice (some ⟨g3,0,none⟩) c.cells.length c.cells.length) (.slice (some ⟨g4,0,none⟩) c.words.length c.words.length)))) _ _ (by simp [upd_at] <;> rfl) ⟨hB,fun _=>rfl,fun h=>hf.out.2.2.1 h,fun h=>hf.out.2.2.2.1 h,fun h=>absurd h (by rw [show upd l 0 true 3=l 3 from rfl,hn 3 rfl];exact Bool.false_ne_true),fun h=>absurd h (by rw [show upd l 0 true 4=l 4 from rfl,hn 4 rfl];exact Bool.false_ne_true)⟩
    · intro l s wx hl hd hn hf0 K hK
      have hf:=Lib.hid hf0
      clear hf0
      have hB:=hf.out.1
      have z:=hpS z_w hB
      go_simp
      refine hK.out (upd s 59 (.agg (cvals c (.slice a c.cells.length p) (.slice b c.words.length q)))) _ _ (by simp [upd_at] <;> rfl) ⟨hB,fun h=>hf.out.2.1 h,fun _=>rfl,fun h=>absurd h (by rw [show upd l 1 true 2=l 2 from rfl,hn 2 rfl];exact Bool.false_ne_true),fun h=>absurd h (by rw [show upd l 1 true 3=l 3 from rfl,hn 3 rfl];exact Bool.false_ne_true),fun h=>absurd h (by rw [show upd l 1 true 4=l 4 from rfl,hn 4 rfl];exact Bool.false_ne_true)⟩
    · intro l s wx hl hd hn hf0 K hK
      have hf:=Lib.hid hf0
      clear hf0
      have hB:=hf.out.1
      have e1:=(hf.out.2.2.1 (hd 1 rfl))
      go_simp
      go_at_call 7
      refine (toChan_any c a b p q _ ((H1.out.below (bT hB10 hB)).more (bT hB10 hB).size) ((H2.out.below (bT hB10 hB)).more (bT hB10 hB).size) n1 n2).mono ?_
      rintro _ wy ⟨⟨g1,g2,rfl,_,_,R1,R2⟩,hE⟩
      refine hK.out (upd s 60 (.agg (cvals c (.slice (some ⟨g1,0,none⟩) c.cells.length c.cells.length) (.slice (some ⟨g2,0,none⟩) c.words.length c.words.length)))) _ _ (by simp [upd_at,e1] <;> rfl) ⟨bT hB hE,fun h=>hf.out.2.1 h,fun h=>hf.out.2.2.1 h,fun _=>⟨g1,g2,rfl,R1,R2⟩,fun h=>absurd h (by rw [show upd l 2 true 3=l 3 from rfl,hn 3 rfl];exact Bool.false_ne_true),fun h=>absurd h (by rw [show upd l 2 true 4=l 4 from rfl,hn 4 rfl];exact Bool.false_ne_true)⟩
    · intro l s wx hl hd hn hf0 K hK
      have hf:=Lib.hid hf0
      clear hf0
      have hB:=hf.out.1
      have e0:=(hf.out.2.1 (hd 0 rfl))
      obtain ⟨g1,g2,e2,R1,R2⟩:=hf.out.2.2.2.1 (hd 2 rfl)
      go_simp
      go_at_call 10
      refine (eqChan_any c _ _ _ _ _ _ _ _ _ (C3.segAt hB) (C4.segAt hB) R1.seg R2.seg n1 n2).mono ?_
      rintro _ wy ⟨rfl,hE⟩
      refine hK.out (upd s 61 (.bool true)) _ _ (by simp [upd_at,e0,e2] <;> rfl) ⟨bT hB hE,fun h=>hf.out.2.1 h,fun h=>hf.out.2.2.1 h,fun h=>(let ⟨g1,g2,e,R1,R2⟩:=(hf.out.2.2.2.1 h);⟨g1,g2,e,R1.belowS hE,R2.belowS hE⟩),fun _=>rfl,fun h=>absurd h (by rw [show upd l 3 true 4=l 4 from rfl,hn 4 rfl];exact Bool.false_ne_true)⟩
    · intro l s wx hl hd hn hf0 K hK
      have hf:=Lib.hid hf0
      clear hf0
      have hB:=hf.out.1
      have e3:=(hf.out.2.2.2.2.1 (hd 3 rfl))
      go_simp
      refine hK.out (upd s 62 (.bool false)) _ _ (by simp [upd_at,e3] <;> rfl) ⟨hB,fun h=>hf.out.2.1 h,fun h=>hf.out.2.2.1 h,fun h=>hf.out.2.2.2.1 h,fun h=>hf.out.2.2.2.2.1 h,fun _=>rfl⟩
    · intro l s wx hl hd hn hf0 K hK
      have hf:=Lib.hid hf0
      clear hf0
      have hB:=hf.out.1
      have z:=hpS z_w hB
      go_simp
      refine hK.out (upd s 97 (.agg (cvals c (.slice a c.cells.length p) (.slice b c.words.length q)))) _ _ (by simp [upd_at] <;> rfl) ⟨hB,fun _=>rfl,fun h=>absurd h (by rw [show upd l 0 true 1=l 1 from rfl,hn 1 rfl];exact Bool.false_ne_true),fun h=>hf.out.2.2.2.1 h,fun h=>hf.out.2.2.2.2.1 h,fun h=>absurd h (by rw [show upd l 0 true 4=l 4 from rfl,hn 4 rfl];exact Bool.false_ne_true),fun h=>absurd h (by rw [show upd l 0 true 5=l 5 from rfl,hn 5 rfl];exact Bool.false_ne_true),fun h=>absurd h (by rw [show upd l 0 true 6=l 6 from rfl,hn 6 rfl];exact Bool.false_ne_true),fun h=>absurd h (by rw [show upd l 0 true 7=l 7 from rfl,hn 7 rfl];exact Bool.false_ne_true),fun h=>absurd h (by rw [show upd l 0 true 8=l 8 from rfl,hn 8 rfl];exact Bool.false_ne_true),fun h=>hf.out.2.2.2.2.2.2.2.2.2.2.1 h,fun h=>hf.out.2.2.2.2.2.2.2.2.2.2.2.1 h,fun h=>absurd h (by rw [show upd l 0 true 13=l 13 from rfl,hn 13 rfl];exact Bool.false_ne_true)⟩
    · intro l s wx hl hd hn hf0 K hK
      have hf:=Lib.hid hf0
      clear hf0
      have hB:=hf.out.1
      have e0:=(hf.out.2.1 (hd 0 rfl))
      go_simp
      go_at_call 7
      refine (toChan_any c a b p q _ ((H1.out.below (bT hB16 hB)).more (bT hB16 hB).size) ((H2.out.below (bT hB16 hB)).more (bT hB16 hB).size) n1 n2).mono ?_
      rintro _ wy ⟨⟨g1,g2,rfl,_,_,R1,R2⟩,hE⟩
      refine hK.out (upd s 98 (.agg (cvals c (.slice (some ⟨g1,0,none⟩) c.cells.length c.cells.length) (.slice (some ⟨g2,0,none⟩) c.words.length c.words.length)))) _ _ (by simp [upd_at,e0] <;> rfl) ⟨bT hB hE,fun h=>hf.out.2.1 h,fun _ _=>⟨g1,g2,rfl,R1,R2⟩,fun h=>hf.out.2.2.2.1 h,fun h=>hf.out.2.2.2.2.1 h,fun h=>absurd h (by rw [show upd l 1 true 4=l 4 from rfl,hn 4 rfl];exact Bool.false_ne_true),fun h=>absurd h (by rw [show upd l 1 true 5=l 5 from rfl,hn 5 rfl];exact Bool.false_ne_true),fun h=>absurd h (by rw [show upd l 1 true 6=l 6 from rfl,hn 6 rfl];exact Bool.false_ne_true),fun h=>absurd h (by rw [show upd l 1 true 7=l 7 from rfl,hn 7 rfl];exact Bool.false_ne_true),fun h=>absurd h (by rw [show upd l 1 true 8=l 8 from rfl,hn 8 rfl];exact Bool.false_ne_true),fun h=>IsBox.below (hf.out.2.2.2.2.2.2.2.2.2.2.1 h) hE,fun h=>IsBox.below (hf.out.2.2.2.2.2.2.2.2.2.2.2.1 h) hE,fun h=>absurd h (by rw [show upd l 1 true 13=l 13 from rfl,hn 13 rfl];exact Bool.false_ne_true)⟩
    · intro l s wx hl hd hn hf0 K hK
      have hf:=Lib.hid hf0
      clear hf0
      have hB:=hf.out.1
      have z:=hpS z_wp hB
      go_simp
      refine hK.out (upd s 99 (.agg (hvals h))) _ _ (by simp [upd_at] <;> rfl) ⟨hB,fun h=>hf.out.2.1 h,fun h=>hf.out.2.2.1 h,fun _=>rfl,fun h=>absurd h (by rw [show upd l 2 true 3=l 3 from rfl,hn 3 rfl];exact Bool.false_ne_true),fun h=>absurd h (by rw [show upd l 2 true 4=l 4 from rfl,hn 4 rfl];exact Bool.false_ne_true),fun h=>absurd h (by rw [show upd l 2 true 5=l 5 from rfl,hn 5 rfl];exact Bool.false_ne_true),fun h=>absurd h (by rw [show upd l 2 true 6=l 6 from rfl,hn 6 rfl];exact Bool.false_ne_true),fun h=>absurd h (by rw [show upd l 2 true 7=l 7 from rfl,hn 7 rfl];exact Bool.false_ne_true),fun h=>absurd h (by rw [show upd l 2 true 8=l 8 from rfl,hn 8 rfl];exact Bool.false_ne_true),fun h=>hf.out.2.2.2.2.2.2.2.2.2.2.1 h,fun h=>hf.out.2.2.2.2.2.2.2.2.2.2.2.1 h,fun h=>absurd h (by rw [show upd l 2 true 13=l 13 from rfl,hn 13 rfl];exact Bool.false_ne_true)⟩
    · intro l s wx hl hd hn hf0 K hK
      have hf:=Lib.hid hf0
      clear hf0
      have hB:=hf.out.1
      have e2:=(hf.out.2.2.2.1 (hd 2 rfl))
      go_simp
      go_at_call 8
      refine (toHand_any h _).mono ?_
      rintro _ wy ⟨rfl,hE⟩
      refine hK.out (upd s 100 (.agg (hvals h))) _ _ (by simp [upd_at,e2] <;> rfl) ⟨bT hB hE,fun h=>hf.out.2.1 h,fun h=>fun h4=>(let ⟨g1,g2,e,R1,R2⟩:=(hf.out.2.2.1 h) h4;⟨g1,g2,e,R1.belowS hE,R2.belowS hE⟩),fun h=>hf.out.2.2.2.1 h,fun _=>rfl,fun h=>absurd h (by rw [show upd l 3 true 4=l 4 from rfl,hn 4 rfl];exact Bool.false_ne_true),fun h=>absurd h (by rw [show upd l 3 true 5=l 5 from rfl,hn 5 rfl];exact Bool.false_ne_true),fun h=>absurd h (by rw [show upd l 3 true 6=l 6 from rfl,hn 6 rfl];exact Bool.false_ne_true),fun h=>absurd h (by rw [show upd l 3 true 7=l 7 from rfl,hn 7 rfl];exact Bool.false_ne_true),fun h=>absurd h (by rw [show upd l 3 true 8=l 8 from rfl,hn 8 rfl];exact Bool.false_ne_true),fun h=>IsBox.below (hf.out.2.2.2.2.2.2.2.2.2.2.1 h) hE,fun h=>IsBox.below (hf.out.2.2.2.2.2.2.2.2.2.2.2.1 h) hE,fun h=>absurd h (by rw [show upd l 3 true 13=l 13 from rfl,hn 13 rfl];exact Bool.false_ne_true)⟩
    · intro l s wx hl hd hn hf0 K hK
      have hf:=Lib.hid hf0
      clear hf0
      have hB:=hf.out.1
      have et:=hf.out.2.2.2.2.1 (hd 3 rfl)
      obtain ⟨g1,g2,ec,R1,R2⟩:=hf.out.2.2.1 (hd 1 rfl) hl
      go_simp
      go_at_call 9
      refine (HI.out _ _ _ _ _ R1.seg (fun e=>by cases e) R2.seg (fun e=>by cases e)).mono ?_
      rintro _ wy ⟨⟨v1,v2,rfl,X1,X2,_,_⟩,hE⟩
      refine hK.out (upd (upd (upd s 1003 (v1)) 1004 (v2)) 101 (.tuple #[.agg (cvals x.1 v1 v2),.agg (hvals x.2.1),.bool x.2.2])) _ _ (by simp [upd_at,ec,et] <;> rfl) ⟨bT hB hE,fun h=>hf.out.2.1 h,fun _ h4=>absurd h4 (by rw [show upd l 4 true 4=true from rfl];decide),fun h=>hf.out.2.2.2.1 h,fun h=>hf.out.2.2.2.2.1 h,fun _=>⟨rfl,own_lo X1 hB.size,own_lo X2 hB.size⟩,fun h=>absurd h (by rw [show upd l 4 true 5=l 5 from rfl,hn 5 rfl];exact Bool.false_ne_true),fun h=>absurd h (by rw [show upd l 4 true 6=l 6 from rfl,hn 6 rfl];exact Bool.false_ne_true),fun h=>absurd h (by rw [show upd l 4 true 7=l 7 from rfl,hn 7 rfl];exact Bool.false_ne_true),fun h=>absurd h (by rw [show upd l 4 true 8=l 8 from rfl,hn 8 rfl];exact Bool.false_ne_true),fun h=>by (have ee:l 11=false:=hn 11 rfl);(have F:=hf.out.2.2.2.2.2.2.2.2.2.2.1 h);rw [ee] at F;rw [show upd l 4 true 11=false from ee];exact F.below hE,fun h=>by (have ee:l 12=false:=hn 12 rfl);(have F:=hf.out.2.2.2.2.2.2.2.2.2.2.2.1 h);rw [ee] at F;rw [show upd l 4 true 12=false from ee];exact F.below hE,fun h=>absurd h (by rw [show upd l 4 true 13=l 13 from rfl,hn 13 rfl];exact Bool.false_ne_true)⟩
    · intro l s wx hl hd hn hf0 K hK
      have hf:=Lib.hid hf0
      clear hf0
      have hB:=hf.out.1
      have e4:=(hf.out.2.2.2.2.2.1 (hd 4 rfl)).1
      go_simp
      refine hK.out (upd s 96 (.tuple #[.agg (cvals x.1 (s 1003) (s 1004)),.agg (hvals x.2.1),.bool x.2.2])) _ _ (by simp [upd_at,e4] <;> rfl) ⟨hB,fun h=>hf.out.2.1 h,fun h=>hf.out.2.2.1 h,fun h=>hf.out.2.2.2.1 h,fun h=>hf.out.2.2.2.2.1 h,fun h=>hf.out.2.2.2.2.2.1 h,fun _=>rfl,fun h=>absurd h (by rw [show upd l 5 true 6=l 6 from rfl,hn 6 rfl];exact Bool.false_ne_true),fun h=>absurd h (by rw [show upd l 5 true 7=l 7 from rfl,hn 7 rfl];exact Bool.false_ne_true),fun h=>absurd h (by rw [show upd l 5 true 8=l 8 from rfl,hn 8 rfl];exact Bool.false_ne_true),fun h=>hf.out.2.2.2.2.2.2.2.2.2.2.1 h,fun h=>hf.out.2.2.2.2.2.2.2.2.2.2.2.1 h,fun h=>absurd h (by rw [show upd l 5 true 13=l 13 from rfl,hn 13 rfl];exact Bool.false_ne_true)⟩
    · intro l s wx hl hd hn hf0 K hK
      have hf:=Lib.hid hf0
      clear hf0
      have hB:=hf.out.1
      have e5:=(hf.out.2.2.2.2.2.2.1 (hd 5 rfl))
      go_simp
      refine hK.out (upd s 102 (.agg (cvals x.1 (s 1003) (s 1004)))) _ _ (by simp [upd_at,e5] <;> rfl) ⟨hB,fun h=>hf.out.2.1 h,fun h=>hf.out.2.2.1 h,fun h=>hf.out.2.2.2.1 h,fun h=>hf.out.2.2.2.2.1 h,fun h=>hf.out.2.2.2.2.2.1 h,fun h=>hf.out.2.2.2.2.2.2.1 h,fun _=>rfl,fun h=>hf.out.2.2.2.2.2.2.2.2.1 h,fun h=>hf.out.2.2.2.2.2.2.2.2.2.1 h,fun h=>hf.out.2.2.2.2.2.2.2.2.2.2.1 h,fun h=>hf.out.2.2.2.2.2.2.2.2.2.2.2.1 h,fun h=>hf.out.2.2.2.2.2.2.2.2.2.2.2.2 h⟩
    · intro l s wx hl hd hn hf0 K hK
      have hf:=Lib.hid hf0
      clear hf0
      have hB:=hf.out.1
      have e5:=(hf.out.2.2.2.2.2.2.1 (hd 5 rfl))
      go_simp
      refine hK.out (upd s 103 (.agg (hvals x.2.1))) _ _ (by simp [upd_at,e5] <;> rfl) ⟨hB,fun h=>hf.out.2.1 h,fun h=>hf.out.2.2.1 h,fun h=>hf.out.2.2.2.1 h,fun h=>hf.out.2.2.2.2.1 h,fun h=>hf.out.2.2.2.2.2.1 h,fun h=>hf.out.2.2.2.2.2.2.1 h,fun h=>hf.out.2.2.2.2.2.2.2.1 h,fun _=>rfl,fun h=>hf.out.2.2.2.2.2.2.2.2.2.1 h,fun h=>hf.out.2.2.2.2.2.2.2.2.2.2.1 h,fun h=>hf.out.2.2.2.2.2.2.2.2.2.2.2.1 h,fun h=>hf.out.2.2.2.2.2.2.2.2.2.2.2.2 h⟩
    · intro l s wx hl hd hn hf0 K hK
      have hf:=Lib.hid hf0
      clear hf0
      have hB:=hf.out.1
      have e5:=(hf.out.2.2.2.2.2.2.1 (hd 5 rfl))
      go_simp
      refine hK.out (upd s 104 (.bool x.2.2)) _ _ (by simp [upd_at,e5] <;> rfl) ⟨hB,fun h=>hf.out.2.1 h,fun h=>hf.out.2.2.1 h,fun h=>hf.out.2.2.2.1 h,fun h=>hf.out.2.2.2.2.1 h,fun h=>hf.out.2.2.2.2.2.1 h,fun h=>hf.out.2.2.2.2.2.2.1 h,fun h=>hf.out.2.2.2.2.2.2.2.1 h,fun h=>hf.out.2.2.2.2.2.2.2.2.1 h,fun _=>rfl,fun h=>hf.out.2.2.2.2.2.2.2.2.2.2.1 h,fun h=>hf.out.2.2.2.2.2.2.2.2.2.2.2.1 h,fun h=>absurd h (by rw [show upd l 8 true 13=l 13 from rfl,hn 13 rfl];exact Bool.false_ne_true)⟩
    · intro l s wx hl hd hn hf0 K hK
      have hf:=Lib.hid hf0
      clear hf0
      have hB:=hf.out.1
      go_simp
      refine hK.out (upd s 16 (.pointer (some ⟨wx.heap.size,0,none⟩))) _ _ (by simp [upd_at] <;> rfl) ⟨bT hB (belowAlloc _ _),fun h=>hf.out.2.1 h,fun h=>fun h4=>(let ⟨g1,g2,e,R1,R2⟩:=(hf.out.2.2.1 h) h4;⟨g1,g2,e,R1.belowS (belowAlloc _ _),R2.belowS (belowAlloc _ _)⟩),fun h=>hf.out.2.2.2.1 h,fun h=>hf.out.2.2.2.2.1 h,fun h=>(let ⟨e,X1,X2⟩:=(hf.out.2.2.2.2.2.1 h);⟨e,own_below X1 (belowAlloc _ _),own_below X2 (belowAlloc _ _)⟩),fun h=>hf.out.2.2.2.2.2.2.1 h,fun h=>hf.out.2.2.2.2.2.2.2.1 h,fun h=>hf.out.2.2.2.2.2.2.2.2.1 h,fun h=>hf.out.2.2.2.2.2.2.2.2.2.1 h,fun _=>by rw [show upd l 9 true 11=false from hn 11 rfl];exact IsBox.new hB.size,fun h=>IsBox.below (hf.out.2.2.2.2.2.2.2.2.2.2.2.1 h) (belowAlloc _ _),fun h=>hf.out.2.2.2.2.2.2.2.2.2.2.2.2 h⟩
    · intro l s wx hl hd hn hf0 K hK
      have hf:=Lib.hid hf0
      clear hf0
      have hB:=hf.out.1
      go_simp
      refine hK.out (upd s 17 (.pointer (some ⟨wx.heap.size,0,none⟩))) _ _ (by simp [upd_at] <;> rfl) ⟨bT hB (belowAlloc _ _),fun h=>hf.out.2.1 h,fun h=>fun h4=>(let ⟨g1,g2,e,R1,R2⟩:=(hf.out.2.2.1 h) h4;⟨g1,g2,e,R1.belowS (belowAlloc _ _),R2.belowS (belowAlloc _ _)⟩),fun h=>hf.out.2.2.2.1 h,fun h=>hf.out.2.2.2.2.1 h,fun h=>(let ⟨e,X1,X2⟩:=(hf.out.2.2.2.2.2.1 h);⟨e,own_below X1 (belowAlloc _ _),own_below X2 (belowAlloc _ _)⟩),fun h=>hf.out.2.2.2.2.2.2.1 h,fun h=>hf.out.2.2.2.2.2.2.2.1 h,fun h=>hf.out.2.2.2.2.2.2.2.2.1 h,fun h=>hf.out.2.2.2.2.2.2.2.2.2.1 h,fun h=>IsBox.below (hf.out.2.2.2.2.2.2.2.2.2.2.1 h) (belowAlloc _ _),fun _=>by rw [show upd l 10 true 12=false from hn 12 rfl];exact IsBox.new hB.size,fun h=>hf.out.2.2.2.2.2.2.2.2.2.2.2.2 h⟩
    · intro l s wx hl hd hn hf0 K hK
      have hf:=Lib.hid hf0
      clear hf0
      have hB:=hf.out.1
      have e4:=(hf.out.2.2.2.2.2.1 (hd 4 rfl))
      have e6:=(hf.out.2.2.2.2.2.2.2.1 (hd 6 rfl))
      have X1:=e4.2.1
      have X2:=e4.2.2
      clear e4
      obtain ⟨bb,eb,hlo,zb⟩:=hf.out.2.2.2.2.2.2.2.2.2.2.1 (hd 9 rfl)
      rw [hl] at zb
      dsimp only [cond] at zb
      obtain ⟨xa,xp,ea,_⟩:=X1.seg
      obtain ⟨xb,xq,eb2,_⟩:=X2.seg
      rw [ea,eb2] at e6
      go_simp
      have zn:hp (setBox wx bb (cvals x.1 (.slice xa x.1.cells.length xp) (.slice xb x.1.words.length xq))) bb=some (.cells (cvals x.1 (s 1003) (s 1004)) 33):=by rw [ea,eb2];exact hp_set zb
      refine hK.out (s) _ _ (by simp [upd_at,eb,e6,ea,eb2] <;> rfl) ⟨bBx hB hlo,fun h=>hf.out.2.1 h,fun _ h4=>absurd ((hd 4 rfl).symm.trans h4) (by decide),fun h=>hf.out.2.2.2.1 h,fun h=>hf.out.2.2.2.2.1 h,fun h=>⟨(hf.out.2.2.2.2.2.1 h).1,own_far (hf.out.2.2.2.2.2.1 h).2.1 zb (by decide),own_far (hf.out.2.2.2.2.2.1 h).2.2 zb (by decide)⟩,fun h=>hf.out.2.2.2.2.2.2.1 h,fun h=>hf.out.2.2.2.2.2.2.2.1 h,fun h=>hf.out.2.2.2.2.2.2.2.2.1 h,fun h=>hf.out.2.2.2.2.2.2.2.2.2.1 h,fun _=>⟨bb,eb,hlo,zn⟩,fun h=>IsBox.far (hf.out.2.2.2.2.2.2.2.2.2.2.2.1 h) zb (by decide),fun h=>hf.out.2.2.2.2.2.2.2.2.2.2.2.2 h⟩
    · intro l s wx hl hd hn hf0 K hK
      have hf:=Lib.hid hf0
      clear hf0
      have hB:=hf.out.1
      have e4:=(hf.out.2.2.2.2.2.1 (hd 4 rfl))
      have e7:=(hf.out.2.2.2.2.2.2.2.2.1 (hd 7 rfl))
      have X1:=e4.2.1
      have X2:=e4.2.2
      clear e4
      obtain ⟨bb,eb,hlo,zb⟩:=hf.out.2.2.2.2.2.2.2.2.2.2.2.1 (hd 10 rfl)
      rw [hl] at zb
      dsimp only [cond] at zb
      go_simp
      have zn:hp (setBox wx bb (hvals x.2.1)) bb=some (.cells (hvals x.2.1) 36):=by exact hp_set zb
      refine hK.out (s) _ _ (by simp [upd_at,eb,e7] <;> rfl) ⟨bBx hB hlo,fun h=>hf.out.2.1 h,fun _ h4=>absurd ((hd 4 rfl).symm.trans h4) (by decide),fun h=>hf.out.2.2.2.1 h,fun h=>hf.out.2.2.2.2.1 h,fun h=>⟨(hf.out.2.2.2.2.2.1 h).1,own_far (hf.out.2.2.2.2.2.1 h).2.1 zb (by decide),own_far (hf.out.2.2.2.2.2.1 h).2.2 zb (by decide)⟩,fun h=>hf.out.2.2.2.2.2.2.1 h,fun h=>hf.out.2.2.2.2.2.2.2.1 h,fun h=>hf.out.2.2.2.2.2.2.2.2.1 h,fun h=>hf.out.2.2.2.2.2.2.2.2.2.1 h,fun h=>IsBox.far (hf.out.2.2.2.2.2.2.2.2.2.2.1 h) zb (by decide),fun _=>⟨bb,eb,hlo,zn⟩,fun h=>hf.out.2.2.2.2.2.2.2.2.2.2.2.2 h⟩
    · intro l s wx hl hd hn hf0 K hK
      have hf:=Lib.hid hf0
      clear hf0
      have hB:=hf.out.1
      have e8:=(hf.out.2.2.2.2.2.2.2.2.2.1 (hd 8 rfl))
      go_simp
      refine hK.out (upd s 18 (.bool x.2.2)) _ _ (by simp [upd_at,e8] <;> rfl) ⟨hB,fun h=>hf.out.2.1 h,fun h=>hf.out.2.2.1 h,fun h=>hf.out.2.2.2.1 h,fun h=>hf.out.2.2.2.2.1 h,fun h=>hf.out.2.2.2.2.2.1 h,fun h=>hf.out.2.2.2.2.2.2.1 h,fun h=>hf.out.2.2.2.2.2.2.2.1 h,fun h=>hf.out.2.2.2.2.2.2.2.2.1 h,fun h=>hf.out.2.2.2.2.2.2.2.2.2.1 h,fun h=>hf.out.2.2.2.2.2.2.2.2.2.2.1 h,fun h=>hf.out.2.2.2.2.2.2.2.2.2.2.2.1 h,fun _=>rfl⟩
end Go.Proofs.Ytkiingmgpobgnaa
set_option maxRecDepth 100000
set_option linter.unusedSimpArgs false
set_option linter.unusedVariables false
namespace Go.Proofs.Ytkiingmgpobgnaa
open Go.ChangeShapes Go.WideShapes Go.ChangeAt Go.RowKit Go.Deep
theorem own:ownKnob Try.prog.godebug=none:=by kernel_rfl
theorem laidOut:laidOutB Try.prog=true:=by kernel_rfl
section
variable {H:Type} {enc:TypeId × Value→H} {P:Program} {w:World} {spare:Nat→Bool} {held:Bool}
/-- A slice of elements that can be read lies in memory as said. -/
theorem dSlice {α:Type} (k:Nat) (val:α→Nat→Value) (Q:α→Prop) (d0:α) {t e:TypeId} (ht:P.underlying t=some (.slice e)) (hk:P.cellsOf e=k) (hk0:0<k)
    (dec:∀ (fuel:Nat) (cs:List Value) (x:DataW H × List MemPlace),DataW.trod enc P w 0 spare held fuel e cs=some x→∃ c:α,Q c∧∀ j,j<k→cs[j]?=some (val c j))
    {fuel:Nat} {cs:List Value} {x:DataW H × List MemPlace} (h:DataW.trod enc P w 0 spare held fuel t cs=some x) :
    ∃ (a:Option Addr) (l:List α) (cap:Nat),cs=[.slice a l.length cap]∧l.length≤cap∧cap≤maxLen∧(∀ c ∈ l,Q c)∧Seg w w.heap.size a l.length k (fun i j=>val (l.getD i d0) j):=by
  rcases open_slice ht h with ⟨hcs,_⟩|⟨ad,len,cap,m,n,D,Pl,hcs,_,hl,hm,hmm,_,hi⟩
  · exact ⟨none,[],0,hcs,Nat.le_refl _,Nat.zero_le _,by simp,.inl rfl⟩
  · have hlm:len≤m:=by rw [hmm];split <;> omega
    have hx:∀ i:Nat,∃ c:α,i<len→(Q c∧∀ j,j<k→w.cell? (ad.add (i*k+j))=some (val c j)):=by
      intro i
      by_cases hlt:i<len
      · obtain ⟨cs',hc,htr⟩:=hi i (by omega)
        rw [hk] at hc
        obtain ⟨_,_,hat⟩:=World.cells?_some hc
        obtain ⟨c,hq,hv⟩:=dec _ _ _ htr
        refine ⟨c,fun _=>⟨hq,fun j hj=>?_⟩⟩
        rw [← Go.Deep.add_add,hat j hj,hv j hj]
      · exact ⟨d0,fun h=>absurd h hlt⟩
    obtain ⟨g,hg⟩:=Classical.axiomOfChoice hx
    refine ⟨some ad,(List.range len).map g,cap,by simpa using hcs,by simpa using hl,hm,?_,?_⟩
    · intro c hc
      obtain ⟨i,hi',rfl⟩:=List.mem_map.1 hc
      exact (hg i (List.mem_range.1 hi')).1
    · by_cases h0:len=0
      · exact .inl (by simpa using h0)
      · obtain ⟨b,off,spot⟩:=ad
        have hz:=(hg 0 (by omega)).2 0 hk0
        have hspot:spot=none:=by simpa [Addr.add] using World.cell?_spot hz
        subst hspot
        refine .inr ⟨b,off,rfl,?_,fun i j hi' hj=>?_⟩
        · have:=block_lt_of_cell hz
          simpa [Addr.add] using this
        · have hlt:i<len:=by simpa using hi'
          have:=(hg i hlt).2 j hj
          rw [add_plain,← Nat.add_assoc] at this
          rw [this]
          simp [List.getD,hlt]
end
/-- Every field is one int64, in its place. -/
def allInts (P:Program) (fs:Array Field):Bool:=fs.toList.zipIdx.all fun (f,i)=>decide (f.offset=i) && decide (P.cellsOf f.type=1) && (match P.underlying f.type with|some (.int .i64)=>true|_=>false)
theorem allInts_at {P:Program} {fs:Array Field} (h:allInts P fs=true) {j:Nat} {f:Field} (hj:fs[j]?=some f):f.offset=j∧P.cellsOf f.type=1∧P.underlying f.type=some (.int .i64):=by
  have hm:(f,j) ∈ fs.toList.zipIdx:=by
    rw [List.mem_zipIdx_iff_getElem?]
    simpa using hj
  have:=List.all_eq_true.1 h _ hm
  simp only [Bool.and_eq_true,decide_eq_true_eq] at this
  refine ⟨this.1.1,this.1.2,?_⟩
  have h2:=this.2
  split at h2
  · assumption
  · cases h2
section
variable {H:Type} {enc:TypeId × Value→H} {P:Program} {w:World} {spare:Nat→Bool} {held:Bool}
theorem dInts {t:TypeId} {fs:Array Field} (ht:P.underlying t=some (.struct fs)) (hall:allInts P fs=true) (hC:P.cellsOf t=fs.size)
    {fuel:Nat} {cs:List Value} {x:DataW H × List MemPlace} (h:DataW.trod enc P w 0 spare held fuel t cs=some x) :
    cs.length=fs.size∧∃ g:Nat→Int,∀ j,j<fs.size→(cs[j]?=some (.int .i64 (g j))∧(Lit.int .i64 (g j)).wf=true):=by
  obtain ⟨xs,n,_,_,hlen,hxl,hf⟩:=DataW.trod_struct ht h
  have hx:∀ j:Nat,∃ a:Int,j<fs.size→(cs[j]?=some (.int .i64 a)∧(Lit.int .i64 a).wf=true):=by
    intro j
    by_cases hj:j<fs.size
    · obtain ⟨h1,h2,h3⟩:=allInts_at hall (Array.getElem?_eq_getElem hj)
      have g:=hf j _ (Array.getElem?_eq_getElem hj)
      rw [h1,h2,List.getElem?_eq_getElem (by omega)] at g
      obtain ⟨a,ea,_,wa⟩:=DataW.trod_int h3 g
      refine ⟨a,fun _=>⟨?_,wa⟩⟩
      have e:=congrArg (fun l:List Value=>l[0]?) ea
      simpa [List.getElem?_take,List.getElem?_drop] using e
    · exact ⟨0,fun h=>absurd h hj⟩
  obtain ⟨g,hg⟩:=Classical.axiomOfChoice hx
  exact ⟨hlen.trans hC,g,hg⟩
end
def C3.wf (c:C3):Prop:=(Lit.int .i64 c.s).wf=true∧(Lit.int .i64 c.e).wf=true∧(Lit.int .i64 c.t).wf=true
section
variable {H:Type} {enc:TypeId × Value→H} {w:World} {spare:Nat→Bool} {held:Bool}
theorem dCell (fuel:Nat) (cs:List Value) (x:DataW H × List MemPlace) (h:DataW.trod enc Try.prog w 0 spare held fuel 79 cs=some x) :
    ∃ c:C3,c.wf∧∀ j,j<3→cs[j]?=some (c.val j):=by
  obtain ⟨_,g,hg⟩:=dInts Try.underlying79 (by kernel_rfl) (by kernel_rfl) h
  refine ⟨⟨g 0,g 1,g 2⟩,⟨(hg 0 (by decide)).2,(hg 1 (by decide)).2,(hg 2 (by decide)).2⟩,fun j hj=>?_⟩
  have:j=0∨j=1∨j=2:=by omega
  rcases this with rfl|rfl|rfl
  · exact (hg 0 (by decide)).1
  · exact (hg 1 (by decide)).1
  · exact (hg 2 (by decide)).1
end
end Go.Proofs.Ytkiingmgpobgnaa
