/-
  Whether a world's deals are right, as the program asks it of a world behind a pointer; the list lies in memory.
-/
import Derived.Test.YtffhjmepfojhnaaGreatR04
import Derived.Test.YtffhjmepfojhnaaGreatR06
import Derived.Test.YtffhjmepfojhnaaGreatR05
import Derived.Test.YtffhjmepfojhnaaGreatR01
set_option maxRecDepth 100000
set_option maxHeartbeats 4000000
set_option linter.unusedSimpArgs false
set_option linter.unusedVariables false
namespace Go.Proofs.YtffhjmepfojhnaaGreat
section
open Go.RowKit
theorem CX {ds:List De} {n:Nat} {now:Int} {k:Nat} {h:De} (hk:k<ds.length) (hc:ds.getD k De.zero=h) (e:(ds.take k).all (iX n now)=true) (e1:iX n now h=true):(ds.take (k+1)).all (iX n now)=true:=by
 rw [fK _ k De.zero hk,hc,List.all_append,e];simp [e1]
theorem Gm {ds:List De} {n:Nat} {now:Int} {k:Nat} {h:De} (hk:k<ds.length) (hc:ds.getD k De.zero=h) (e:iX n now h=false):ds.all (iX n now)=false:=by
 rw [List.all_eq_false]
 refine ⟨ds[k],List.getElem_mem hk,?_⟩
 rw [← hc] at e
 simpa [List.getD,List.getElem?_eq_getElem hk] using e
def pV (ds:List De) (n:Nat) (now:Int):Bool:=decide (ds.length≤1000) && ds.all (iX n now)
theorem Fs {a:Bool} {b:Bool} (e:a=true):Value.bool (!b)=.bool (!(a && b)):=by rw [e];rfl
theorem Fu {a:Bool} {b:Bool} (e:a=false):Value.bool true=.bool (!(a && b)):=by rw [e];rfl
theorem Ap (ds:List De) (n:Nat) (now:Int) (B:Nat) (d e:Option Addr) (r s:Nat) (w:World) (x6:w.cell? ⟨B,6,none⟩=some (.slice d n r)) (x7:w.cell? ⟨B,7,none⟩=some (.slice e ds.length s)) (x8:w.cell? ⟨B,8,none⟩=some (.int .i64 now)) (lB:B<w.heap.size) (h4:Jo w w.heap.size e ds) (m:ds.length≤1099511627776) (mn:n≤1099511627776) :
  Calls Tryz.prog 100 #[.pointer (some ⟨B,0,none⟩)] w fun r w'=>r=.returned (.bool (pV ds n now))∧Below w.heap.size w w':=by
 by_cases i3:ds.length≤1000
 case neg =>
  have g2:decide (1000<(ds.length:Int))=true:=by simp;omega
  have e0:pV ds n now=false:=by simp [pV];omega
  rw [e0]
  clear e0 i3
  go_enter Tryz.func100,Tryz.ntmps100
  go_wp2
  go_ret
  exact ⟨rfl,by exact zB⟩
 have g2:decide (1000<(ds.length:Int))=false:=by simp;omega
 have e0:pV ds n now=ds.all (iX n now):=by simp [pV,i3]
 rw [e0]
 clear e0
 have H4:=Lib.hid h4
 clear h4
 go_enter Tryz.func100,Tryz.ntmps100
 go_wp2_with fail
 go_loopw [16] (fun i wr=>∃ k:Nat,k≤ds.length∧i=.int .i64 k∧Hid ((ds.take k).all (iX n now)=true)∧Below w.heap.size w wr) (fun i _=>ds.length - (intOf i).toNat)
 case atStart=>exact ⟨0,Nat.zero_le _,rfl,rfl,by exact zB⟩
 case round =>
  obtain ⟨k,hk,rfl,hall,hB⟩:=hrel
  by_cases hlt:k<ds.length
  ·obtain h0|⟨b4,o4,rfl,hb4,hc4⟩:=H4.out
   ·omega
   have cc:=fun j hj=>(hB.cell (p:=⟨b4,o4+k*7+j,none⟩) hb4).trans (hc4 k j hlt hj)
   have c0:=cc 0 tO
   have c1:=cc 1 tO
   have c2:=cc 2 tO
   have c3:=cc 3 tO
   have c4:=cc 4 tO
   have c5:=cc 5 tO
   have c6:=cc 6 tO
   clear cc hc4
   simp only [nW] at c0 c1 c2 c3 c4 c5 c6
   generalize hcg:ds.getD k De.zero=dd at c0 c1 c2 c3 c4 c5 c6
   simp [iY,Array.getD] at c0 c1 c2 c3 c4 c5 c6
   have HC:=Lib.hid hcg
   clear hcg
   have y6:=(hB.cell (p:=⟨B,6,none⟩) lB).trans x6
   have y8:=(hB.cell (p:=⟨B,8,none⟩) lB).trans x8
   have hk0:(0:Int)≤(k:Int):=by omega
   have hk1:(k:Int)<(ds.length:Int):=by omega
   go_wp2_with fail
   generalize lV:World.alloc wr _=w5
   have CW:hp w5 wr.heap.size=some (.cells #[.int .i64 dd.task,.int .i64 dd.code,.int .i64 dd.elem,.int .i64 dd.beg,.int .i64 dd.fin,.int .i64 dd.reply,.int .i64 dd.out] 44):=by rw [← lV];exact heap_alloc_new _ _
   have ll:Below wr.heap.size wr w5:=by rw [← lV];exact aQ _ _
   clear lV
   have CY:=hB.size
   replace y6:=(ll.cell (p:=⟨B,6,none⟩) (by simp;omega)).trans y6
   replace y8:=(ll.cell (p:=⟨B,8,none⟩) (by simp;omega)).trans y8
   have Vw:B<w5.heap.size:=by have:=ll.size;omega
   obtain ⟨q0,hq0⟩:∃ q,Hid (kG n dd.task=q):=⟨_,rfl⟩
   obtain ⟨q1,hq1⟩:∃ q,Hid (dm dd.beg 0 now=q):=⟨_,rfl⟩
   obtain ⟨q2,hq2⟩:∃ q,Hid (dm dd.fin 0 now=q):=⟨_,rfl⟩
   obtain ⟨q3,hq3⟩:∃ q,Hid (ng dd.code dd.elem dd.reply=q):=⟨_,rfl⟩
   obtain ⟨q4,hq4⟩:∃ q,Hid (dm dd.out 0 999=q):=⟨_,rfl⟩
   have hQ:iX n now dd=((((q0 && q1) && q2) && q3) && q4):=by simp only [iX,hq0.out,hq1.out,hq2.out,hq3.out,hq4.out];cases q0 <;> cases q1 <;> cases q2 <;> cases q3 <;> cases q4 <;> rfl
   have HQ:=Lib.hid hQ
   clear hQ c0 c1 c2 c3 c4 c5 c6 hk0 hk1 hb4
   refine bI [[],[],[1],[0,1,2],[0,1,2,3],[0,1,2,3,4],[0,1,2,3,4,5],[0,1,2,3,4,5,6],[0,1,2,3,4,5],[0,1,2,3,4,5,8],[0,1,2,3,4,5,8,9],[0,1,2,3,4,5,8,9,10],qB [8,9,10,11],qB [8,9,10,11,12],qB [8,9,10,11,12,13],qB [8,9,10,11,12,13,14],qC [],qC [16],qC [],qC [18],qC [18,19],qC [18,19,20],qC [16,17,18,19,20,21],qC [16,17,18,19,20,21,22],qD [],qD [24],qD [24,25],qD [24,25,26],qD [24,25],qD [24,25,28],qD [24,25,26,27,28,29],qD [24,25,26,27,28,29,30],qE [],qE [32],qE [32,33],qE [32,33,34],qE [32,33,34,35],qE [32,33,34,35,36],qE [32,33,34,35,36,37]] [20,21,22,23,24,25,26,27,28,29,30,31,32,33,34,35,36,37,38,39,40,41,42,43,44,45,46,47,48,49,50,51,52,53,54,55,56,57,58] (fun l s wx=>(Below w5.heap.size w5 wx)∧(l 0=true→s 20=.pointer (some ⟨B,0,none⟩))∧(l 1=true→s 21=.pointer (some ⟨wr.heap.size,0,none⟩))∧(l 2=true→s 22=.int .i64 dd.task)∧(l 3=true→s 23=.bool q0)∧(l 4=true→s 24=.bool (!q0))∧(l 5=true→s 25=.bool (!q0))∧(l 6=true→q0=true→s 26=.pointer (some ⟨wr.heap.size,3,none⟩))∧(l 7=true→q0=true→s 27=.int .i64 dd.beg)∧(l 8=true→q0=true→s 28=.pointer (some ⟨B,0,none⟩))∧(l 9=true→q0=true→s 29=.pointer (some ⟨B,0,none⟩))∧(l 10=true→q0=true→s 30=.pointer (some ⟨B,8,none⟩))∧(l 11=true→q0=true→s 31=.int .i64 now)∧(l 12=true→q0=true→s 32=.bool q1)∧(l 13=true→q0=true→s 33=.bool (!q1))∧(l 14=true→s 34=.bool (!(q0 && q1)))∧(l 15=true→s 35=.bool (!(q0 && q1)))∧(l 16=true→(q0 && q1)=true→s 36=.pointer (some ⟨wr.heap.size,4,none⟩))∧(l 17=true→(q0 && q1)=true→s 37=.int .i64 dd.fin)∧(l 18=true→(q0 && q1)=true→s 38=.pointer (some ⟨B,0,none⟩))∧(l 19=true→(q0 && q1)=true→s 39=.pointer (some ⟨B,0,none⟩))∧(l 20=true→(q0 && q1)=true→s 40=.pointer (some ⟨B,8,none⟩))∧(l 21=true→(q0 && q1)=true→s 41=.int .i64 now)∧(l 22=true→(q0 && q1)=true→s 42=.bool q2)∧(l 23=true→(q0 && q1)=true→s 43=.bool (!q2))∧(l 24=true→s 44=.bool (!((q0 && q1) && q2)))∧(l 25=true→s 45=.bool (!((q0 && q1) && q2)))∧(l 26=true→((q0 && q1) && q2)=true→s 46=.pointer (some ⟨wr.heap.size,1,none⟩))∧(l 27=true→((q0 && q1) && q2)=true→s 47=.agg #[.int .i64 dd.code,.int .i64 dd.elem])∧(l 28=true→((q0 && q1) && q2)=true→s 48=.pointer (some ⟨wr.heap.size,5,none⟩))∧(l 29=true→((q0 && q1) && q2)=true→s 49=.int .i64 dd.reply)∧(l 30=true→((q0 && q1) && q2)=true→s 50=.bool q3)∧(l 31=true→((q0 && q1) && q2)=true→s 51=.bool (!q3))∧(l 32=true→s 52=.bool (!(((q0 && q1) && q2) && q3)))∧(l 33=true→s 53=.bool (!(((q0 && q1) && q2) && q3)))∧(l 34=true→(((q0 && q1) && q2) && q3)=true→s 54=.pointer (some ⟨wr.heap.size,6,none⟩))∧(l 35=true→(((q0 && q1) && q2) && q3)=true→s 55=.int .i64 dd.out)∧(l 36=true→(((q0 && q1) && q2) && q3)=true→s 56=.bool q4)∧(l 37=true→(((q0 && q1) && q2) && q3)=true→s 57=.bool (!q4))∧(l 38=true→s 58=.bool (!((((q0 && q1) && q2) && q3) && q4)))) (by kernel_rfl) (by kernel_rfl) (by kernel_rfl) (fun s=>by (simp only [fill,fC,List.setIfInBounds_toArray,List.set_cons_zero,List.set_cons_succ];rfl)) (fun s=>⟨(Below.refl _ _).drew,nB,nB,nB,nB,nB,nB,nB,nB,nB,nB,nB,nB,nB,nB,nB,nB,nB,nB,nB,nB,nB,nB,nB,nB,nB,nB,nB,nB,nB,nB,nB,nB,nB,nB,nB,nB,nB,nB,nB⟩) ?_ ?_
   refine ⟨?_,?_,?_,?_,?_,?_,?_,?_,?_,?_,?_,?_,?_,?_,?_,?_,?_,?_,?_,?_,?_,?_,?_,?_,?_,?_,?_,?_,?_,?_,?_,?_,?_,?_,?_,?_,?_,?_,?_,trivial⟩;iterate 39 (intro l s wx hl hd hn hf K hK;rotate_left)
   ·intro l s w6 kK hf
    have ec:=(jC (jE (jE hf))).2.2.2 (kK 38 rfl)
    have hb6:Below w5.heap.size w5 w6:=hf.1
    simp only [ec]
    clear ec hf kK
    have I9:Below w.heap.size w w6:=bT hB (ll.trans (hb6.mono ll.size))
    cases hG:((((q0 && q1) && q2) && q3) && q4) with
    | true =>
     go_wp2
     go_roundw
     case rel=>exact ⟨k+1,by omega,by go_num,CX hlt HC.out hall.out (HQ.out.trans hG),I9⟩
     case measure=>simp [intOf];omega
    | false =>
     go_wp2
     go_ret
     exact ⟨bF (Gm hlt HC.out (HQ.out.trans hG)).symm,I9⟩
   ·go_simp
    refine hK.out (upd s 20 (.pointer (some ⟨B,0,none⟩))) _ _ (by simp [ae] <;> rfl) (kA (kX (fun _=>rfl) id) hf.out)
   ·go_simp
    refine hK.out (upd s 21 (.pointer (some ⟨wr.heap.size,0,none⟩))) _ _ (by simp [ae] <;> rfl) (kB (kX (fun _=>rfl) id) hf.out)
   ·have e1:=(hf.out.2.2.1 (hd 1 rfl))
    have z:=(bO (dS CW hf.out.1)).1 0
    go_simp
    refine hK.out (upd s 22 (.int .i64 dd.task)) _ _ (by simp [ae,e1] <;> rfl) (kB (kA (kX (fun _=>rfl) id)) hf.out)
   ·have e0:=(hf.out.2.1 (hd 0 rfl))
    have e2:=(hf.out.2.2.2.1 (hd 2 rfl))
    have z:=((hf.out.1).cell (p:=⟨B,6,none⟩) tO).trans y6
    go_simp
    go_at_call 50
    refine (lH n dd.task B d r _ z mn).mono ?_
    rintro _ _ ⟨rfl,rfl⟩
    rw [hq0.out]
    refine hK.out (upd s 23 (.bool q0)) _ _ (by simp [ae,e0,e2] <;> rfl) (kC (kX (fun _=>rfl) id) hf.out)
   ·have e3:=(hf.out.2.2.2.2.1 (hd 3 rfl))
    go_simp
    refine hK.out (upd s 24 (.bool (!q0))) _ _ (by simp [ae,e3] <;> rfl) (kC (kA (kX (fun _=>rfl) id)) hf.out)
   ·have e4:=((jC hf.out).2.1 (hd 4 rfl))
    go_simp
    refine hK.out (upd s 25 (.bool (!q0))) _ _ (by simp [ae,e4] <;> rfl) (kC (kB (kX (fun _=>rfl) id)) hf.out)
   ·have e5:=((jC hf.out).2.2.1 (hd 5 rfl))
    cases hG:(q0) with
    | true =>
     rw [hG] at e5
     go_simp
     refine hK.out (upd s 26 (.pointer (some ⟨wr.heap.size,3,none⟩))) _ _ (by simp [ae,e5] <;> rfl) (kC (kB (kA (kX (fun _ _=>rfl) id))) hf.out)
    | false =>
     rw [hG] at e5
     go_simp
     refine hK.out (upd s 26 (undef)) _ _ (by simp [ae,e5] <;> rfl) (kC (kB (kA (kX (fun _ h=>Bool.noConfusion (h.symm.trans hG)) id))) hf.out)
   ·have e5:=((jC hf.out).2.2.1 (hd 5 rfl))
    cases hG:(q0) with
    | true =>
     rw [hG] at e5
     have e6:=((jC hf.out).2.2.2.1 (hd 6 rfl)) hG
     have z:=(bO (dS CW hf.out.1)).1 3
     go_simp
     refine hK.out (upd s 27 (.int .i64 dd.beg)) _ _ (by simp [ae,e5,e6] <;> rfl) (kD (kX (fun _ _=>rfl) id) hf.out)
    | false =>
     rw [hG] at e5
     go_simp
     refine hK.out (upd s 27 (undef)) _ _ (by simp [ae,e5] <;> rfl) (kD (kX (fun _ h=>Bool.noConfusion (h.symm.trans hG)) id) hf.out)
   ·have e5:=((jC hf.out).2.2.1 (hd 5 rfl))
    cases hG:(q0) with
    | true =>
     rw [hG] at e5
     go_simp
     refine hK.out (upd s 28 (.pointer (some ⟨B,0,none⟩))) _ _ (by simp [ae,e5] <;> rfl) (kD (kA (kX (fun _ _=>rfl) id)) hf.out)
    | false =>
     rw [hG] at e5
     go_simp
     refine hK.out (upd s 28 (undef)) _ _ (by simp [ae,e5] <;> rfl) (kD (kA (kX (fun _ h=>Bool.noConfusion (h.symm.trans hG)) id)) hf.out)
   ·have e5:=((jC hf.out).2.2.1 (hd 5 rfl))
    cases hG:(q0) with
    | true =>
     rw [hG] at e5
     have e8:=((jD hf.out).2.1 (hd 8 rfl)) hG
     go_simp
     refine hK.out (upd s 29 (.pointer (some ⟨B,0,none⟩))) _ _ (by simp [ae,e5,e8] <;> rfl) (kD (kB (kX (fun _ _=>rfl) id)) hf.out)
    | false =>
     rw [hG] at e5
     go_simp
     refine hK.out (upd s 29 (undef)) _ _ (by simp [ae,e5] <;> rfl) (kD (kB (kX (fun _ h=>Bool.noConfusion (h.symm.trans hG)) id)) hf.out)
   ·have e5:=((jC hf.out).2.2.1 (hd 5 rfl))
    cases hG:(q0) with
    | true =>
     rw [hG] at e5
     have e9:=((jD hf.out).2.2.1 (hd 9 rfl)) hG
     go_simp
     refine hK.out (upd s 30 (.pointer (some ⟨B,8,none⟩))) _ _ (by simp [ae,e5,e9] <;> rfl) (kD (kB (kA (kX (fun _ _=>rfl) id))) hf.out)
    | false =>
     rw [hG] at e5
     go_simp
     refine hK.out (upd s 30 (undef)) _ _ (by simp [ae,e5] <;> rfl) (kD (kB (kA (kX (fun _ h=>Bool.noConfusion (h.symm.trans hG)) id))) hf.out)
   ·have e5:=((jC hf.out).2.2.1 (hd 5 rfl))
    cases hG:(q0) with
    | true =>
     rw [hG] at e5
     have e10:=((jD hf.out).2.2.2.1 (hd 10 rfl)) hG
     have z:=((hf.out.1).cell (p:=⟨B,8,none⟩) tO).trans y8
     go_simp
     refine hK.out (upd s 31 (.int .i64 now)) _ _ (by simp [ae,e5,e10] <;> rfl) (kD (kC (kX (fun _ _=>rfl) id)) hf.out)
    | false =>
     rw [hG] at e5
     go_simp
     refine hK.out (upd s 31 (undef)) _ _ (by simp [ae,e5] <;> rfl) (kD (kC (kX (fun _ h=>Bool.noConfusion (h.symm.trans hG)) id)) hf.out)
   ·have e5:=((jC hf.out).2.2.1 (hd 5 rfl))
    cases hG:(q0) with
    | true =>
     rw [hG] at e5
     have e7:=((jD hf.out).1 (hd 7 rfl)) hG
     have e11:=((jC (jD hf.out)).1 (hd 11 rfl)) hG
     go_simp
     go_at_call 45
     refine (dX dd.beg now _).mono ?_
     rintro _ _ ⟨rfl,rfl⟩
     rw [hq1.out]
     refine hK.out (upd s 32 (.bool q1)) _ _ (by simp [ae,e5,e7,e11] <;> rfl) (kD (kC (kA (kX (fun _ _=>rfl) id))) hf.out)
    | false =>
     rw [hG] at e5
     go_simp
     refine hK.out (upd s 32 (undef)) _ _ (by simp [ae,e5] <;> rfl) (kD (kC (kA (kX (fun _ h=>Bool.noConfusion (h.symm.trans hG)) id))) hf.out)
   ·have e5:=((jC hf.out).2.2.1 (hd 5 rfl))
    cases hG:(q0) with
    | true =>
     rw [hG] at e5
     have e12:=((jC (jD hf.out)).2.1 (hd 12 rfl)) hG
     go_simp
     refine hK.out (upd s 33 (.bool (!q1))) _ _ (by simp [ae,e5,e12] <;> rfl) (kD (kC (kB (kX (fun _ _=>rfl) id))) hf.out)
    | false =>
     rw [hG] at e5
     go_simp
     refine hK.out (upd s 33 (undef)) _ _ (by simp [ae,e5] <;> rfl) (kD (kC (kB (kX (fun _ h=>Bool.noConfusion (h.symm.trans hG)) id))) hf.out)
   ·have e5:=((jC hf.out).2.2.1 (hd 5 rfl))
    have e13:=((jC (jD hf.out)).2.2.1 (hd 13 rfl))
    cases hG:(q0) with
    | true =>
     rw [hG] at e5
     replace e13:=e13 hG
     go_simp
     refine hK.out (upd s 34 (.bool (!q1))) _ _ (by simp [ae,e5,e13] <;> rfl) (kD (kC (kB (kA (kX (fun _=>by rw [show (upd s 34 (.bool (!q1))) 34=.bool (!q1) from rfl];exact Fs hG) id)))) hf.out)
    | false =>
     clear e13
     rw [hG] at e5
     go_simp
     refine hK.out (upd s 34 (.bool true)) _ _ (by simp [ae,e5] <;> rfl) (kD (kC (kB (kA (kX (fun _=>by rw [show (upd s 34 (.bool true)) 34=.bool true from rfl];exact Fu hG) id)))) hf.out)
   ·have e14:=((jC (jD hf.out)).2.2.2.1 (hd 14 rfl))
    go_simp
    refine hK.out (upd s 35 (.bool (!(q0 && q1)))) _ _ (by simp [ae,e14] <;> rfl) (kE (kX (fun _=>rfl) id) hf.out)
   ·have e15:=((jE hf.out).1 (hd 15 rfl))
    cases hG:((q0 && q1)) with
    | true =>
     rw [hG] at e15
     go_simp
     refine hK.out (upd s 36 (.pointer (some ⟨wr.heap.size,4,none⟩))) _ _ (by simp [ae,e15] <;> rfl) (kE (kA (kX (fun _ _=>rfl) id)) hf.out)
    | false =>
     rw [hG] at e15
     go_simp
     refine hK.out (upd s 36 (undef)) _ _ (by simp [ae,e15] <;> rfl) (kE (kA (kX (fun _ h=>Bool.noConfusion (h.symm.trans hG)) id)) hf.out)
   ·have e15:=((jE hf.out).1 (hd 15 rfl))
    cases hG:((q0 && q1)) with
    | true =>
     rw [hG] at e15
     have e16:=((jE hf.out).2.1 (hd 16 rfl)) hG
     have z:=(bO (dS CW hf.out.1)).1 4
     go_simp
     refine hK.out (upd s 37 (.int .i64 dd.fin)) _ _ (by simp [ae,e15,e16] <;> rfl) (kE (kB (kX (fun _ _=>rfl) id)) hf.out)
    | false =>
     rw [hG] at e15
     go_simp
     refine hK.out (upd s 37 (undef)) _ _ (by simp [ae,e15] <;> rfl) (kE (kB (kX (fun _ h=>Bool.noConfusion (h.symm.trans hG)) id)) hf.out)
   ·have e15:=((jE hf.out).1 (hd 15 rfl))
    cases hG:((q0 && q1)) with
    | true =>
     rw [hG] at e15
     go_simp
     refine hK.out (upd s 38 (.pointer (some ⟨B,0,none⟩))) _ _ (by simp [ae,e15] <;> rfl) (kE (kB (kA (kX (fun _ _=>rfl) id))) hf.out)
    | false =>
     rw [hG] at e15
     go_simp
     refine hK.out (upd s 38 (undef)) _ _ (by simp [ae,e15] <;> rfl) (kE (kB (kA (kX (fun _ h=>Bool.noConfusion (h.symm.trans hG)) id))) hf.out)
   ·have e15:=((jE hf.out).1 (hd 15 rfl))
    cases hG:((q0 && q1)) with
    | true =>
     rw [hG] at e15
     have e18:=((jE hf.out).2.2.2.1 (hd 18 rfl)) hG
     go_simp
     refine hK.out (upd s 39 (.pointer (some ⟨B,0,none⟩))) _ _ (by simp [ae,e15,e18] <;> rfl) (kE (kC (kX (fun _ _=>rfl) id)) hf.out)
    | false =>
     rw [hG] at e15
     go_simp
     refine hK.out (upd s 39 (undef)) _ _ (by simp [ae,e15] <;> rfl) (kE (kC (kX (fun _ h=>Bool.noConfusion (h.symm.trans hG)) id)) hf.out)
   ·have e15:=((jE hf.out).1 (hd 15 rfl))
    cases hG:((q0 && q1)) with
    | true =>
     rw [hG] at e15
     have e19:=((jC (jE hf.out)).1 (hd 19 rfl)) hG
     go_simp
     refine hK.out (upd s 40 (.pointer (some ⟨B,8,none⟩))) _ _ (by simp [ae,e15,e19] <;> rfl) (kE (kC (kA (kX (fun _ _=>rfl) id))) hf.out)
    | false =>
     rw [hG] at e15
     go_simp
     refine hK.out (upd s 40 (undef)) _ _ (by simp [ae,e15] <;> rfl) (kE (kC (kA (kX (fun _ h=>Bool.noConfusion (h.symm.trans hG)) id))) hf.out)
   ·have e15:=((jE hf.out).1 (hd 15 rfl))
    cases hG:((q0 && q1)) with
    | true =>
     rw [hG] at e15
     have e20:=((jC (jE hf.out)).2.1 (hd 20 rfl)) hG
     have z:=((hf.out.1).cell (p:=⟨B,8,none⟩) tO).trans y8
     go_simp
     refine hK.out (upd s 41 (.int .i64 now)) _ _ (by simp [ae,e15,e20] <;> rfl) (kE (kC (kB (kX (fun _ _=>rfl) id))) hf.out)
    | false =>
     rw [hG] at e15
     go_simp
     refine hK.out (upd s 41 (undef)) _ _ (by simp [ae,e15] <;> rfl) (kE (kC (kB (kX (fun _ h=>Bool.noConfusion (h.symm.trans hG)) id))) hf.out)
   ·have e15:=((jE hf.out).1 (hd 15 rfl))
    cases hG:((q0 && q1)) with
    | true =>
     rw [hG] at e15
     have e17:=((jE hf.out).2.2.1 (hd 17 rfl)) hG
     have e21:=((jC (jE hf.out)).2.2.1 (hd 21 rfl)) hG
     go_simp
     go_at_call 45
     refine (dX dd.fin now _).mono ?_
     rintro _ _ ⟨rfl,rfl⟩
     rw [hq2.out]
     refine hK.out (upd s 42 (.bool q2)) _ _ (by simp [ae,e15,e17,e21] <;> rfl) (kE (kC (kB (kA (kX (fun _ _=>rfl) id)))) hf.out)
    | false =>
     rw [hG] at e15
     go_simp
     refine hK.out (upd s 42 (undef)) _ _ (by simp [ae,e15] <;> rfl) (kE (kC (kB (kA (kX (fun _ h=>Bool.noConfusion (h.symm.trans hG)) id)))) hf.out)
   ·have e15:=((jE hf.out).1 (hd 15 rfl))
    cases hG:((q0 && q1)) with
    | true =>
     rw [hG] at e15
     have e22:=((jC (jE hf.out)).2.2.2.1 (hd 22 rfl)) hG
     go_simp
     refine hK.out (upd s 43 (.bool (!q2))) _ _ (by simp [ae,e15,e22] <;> rfl) (kE (kD (kX (fun _ _=>rfl) id)) hf.out)
    | false =>
     rw [hG] at e15
     go_simp
     refine hK.out (upd s 43 (undef)) _ _ (by simp [ae,e15] <;> rfl) (kE (kD (kX (fun _ h=>Bool.noConfusion (h.symm.trans hG)) id)) hf.out)
   ·have e15:=((jE hf.out).1 (hd 15 rfl))
    have e23:=((jD (jE hf.out)).1 (hd 23 rfl))
    cases hG:((q0 && q1)) with
    | true =>
     rw [hG] at e15
     replace e23:=e23 hG
     go_simp
     refine hK.out (upd s 44 (.bool (!q2))) _ _ (by simp [ae,e15,e23] <;> rfl) (kE (kD (kA (kX (fun _=>by rw [show (upd s 44 (.bool (!q2))) 44=.bool (!q2) from rfl];exact Fs hG) id))) hf.out)
    | false =>
     clear e23
     rw [hG] at e15
     go_simp
     refine hK.out (upd s 44 (.bool true)) _ _ (by simp [ae,e15] <;> rfl) (kE (kD (kA (kX (fun _=>by rw [show (upd s 44 (.bool true)) 44=.bool true from rfl];exact Fu hG) id))) hf.out)
   ·have e24:=((jD (jE hf.out)).2.1 (hd 24 rfl))
    go_simp
    refine hK.out (upd s 45 (.bool (!((q0 && q1) && q2)))) _ _ (by simp [ae,e24] <;> rfl) (kE (kD (kB (kX (fun _=>rfl) id))) hf.out)
   ·have e25:=((jD (jE hf.out)).2.2.1 (hd 25 rfl))
    cases hG:(((q0 && q1) && q2)) with
    | true =>
     rw [hG] at e25
     go_simp
     refine hK.out (upd s 46 (.pointer (some ⟨wr.heap.size,1,none⟩))) _ _ (by simp [ae,e25] <;> rfl) (kE (kD (kB (kA (kX (fun _ _=>rfl) id)))) hf.out)
    | false =>
     rw [hG] at e25
     go_simp
     refine hK.out (upd s 46 (undef)) _ _ (by simp [ae,e25] <;> rfl) (kE (kD (kB (kA (kX (fun _ h=>Bool.noConfusion (h.symm.trans hG)) id)))) hf.out)
   ·have e25:=((jD (jE hf.out)).2.2.1 (hd 25 rfl))
    cases hG:(((q0 && q1) && q2)) with
    | true =>
     rw [hG] at e25
     have e26:=((jD (jE hf.out)).2.2.2.1 (hd 26 rfl)) hG
     have z:=(bO (dS CW hf.out.1)).1 1
     have z2:=(bO (dS CW hf.out.1)).1 2
     go_simp
     refine hK.out (upd s 47 (.agg #[.int .i64 dd.code,.int .i64 dd.elem])) _ _ (by simp [ae,e25,e26] <;> rfl) (kE (kD (kC (kX (fun _ _=>rfl) id))) hf.out)
    | false =>
     rw [hG] at e25
     go_simp
     refine hK.out (upd s 47 (undef)) _ _ (by simp [ae,e25] <;> rfl) (kE (kD (kC (kX (fun _ h=>Bool.noConfusion (h.symm.trans hG)) id))) hf.out)
   ·have e25:=((jD (jE hf.out)).2.2.1 (hd 25 rfl))
    cases hG:(((q0 && q1) && q2)) with
    | true =>
     rw [hG] at e25
     go_simp
     refine hK.out (upd s 48 (.pointer (some ⟨wr.heap.size,5,none⟩))) _ _ (by simp [ae,e25] <;> rfl) (kE (kD (kC (kA (kX (fun _ _=>rfl) id)))) hf.out)
    | false =>
     rw [hG] at e25
     go_simp
     refine hK.out (upd s 48 (undef)) _ _ (by simp [ae,e25] <;> rfl) (kE (kD (kC (kA (kX (fun _ h=>Bool.noConfusion (h.symm.trans hG)) id)))) hf.out)
   ·have e25:=((jD (jE hf.out)).2.2.1 (hd 25 rfl))
    cases hG:(((q0 && q1) && q2)) with
    | true =>
     rw [hG] at e25
     have e28:=((jC (jD (jE hf.out))).2.1 (hd 28 rfl)) hG
     have z:=(bO (dS CW hf.out.1)).1 5
     go_simp
     refine hK.out (upd s 49 (.int .i64 dd.reply)) _ _ (by simp [ae,e25,e28] <;> rfl) (kE (kD (kC (kB (kX (fun _ _=>rfl) id)))) hf.out)
    | false =>
     rw [hG] at e25
     go_simp
     refine hK.out (upd s 49 (undef)) _ _ (by simp [ae,e25] <;> rfl) (kE (kD (kC (kB (kX (fun _ h=>Bool.noConfusion (h.symm.trans hG)) id)))) hf.out)
   ·have e25:=((jD (jE hf.out)).2.2.1 (hd 25 rfl))
    cases hG:(((q0 && q1) && q2)) with
    | true =>
     rw [hG] at e25
     have e27:=((jC (jD (jE hf.out))).1 (hd 27 rfl)) hG
     have e29:=((jC (jD (jE hf.out))).2.2.1 (hd 29 rfl)) hG
     go_simp
     go_at_call 151
     refine (Al dd.code dd.elem dd.reply _).mono ?_
     rintro _ wy ⟨rfl,hE⟩
     rw [hq3.out]
     refine hK.out (upd s 50 (.bool q3)) _ _ (by simp [ae,e25,e27,e29] <;> rfl) (kX (bT hf.out.1 hE) (kE (kD (kC (kB (kX (fun _ _=>rfl) (kX (nU (hn 31 rfl)) (kX (nU (hn 32 rfl)) (kX (nU (hn 33 rfl)) (kX (nU (hn 34 rfl)) (kX (nU (hn 35 rfl)) (kX (nU (hn 36 rfl)) (kX (nU (hn 37 rfl)) (fun _=>nU (hn 38 rfl)))))))))))))) hf.out)
    | false =>
     rw [hG] at e25
     go_simp
     refine hK.out (upd s 50 (undef)) _ _ (by simp [ae,e25] <;> rfl) (kE (kD (kC (kB (kA (kX (fun _ h=>Bool.noConfusion (h.symm.trans hG)) id))))) hf.out)
   ·have e25:=((jD (jE hf.out)).2.2.1 (hd 25 rfl))
    cases hG:(((q0 && q1) && q2)) with
    | true =>
     rw [hG] at e25
     have e30:=((jC (jD (jE hf.out))).2.2.2.1 (hd 30 rfl)) hG
     go_simp
     refine hK.out (upd s 51 (.bool (!q3))) _ _ (by simp [ae,e25,e30] <;> rfl) (kE (kE (kX (fun _ _=>rfl) id)) hf.out)
    | false =>
     rw [hG] at e25
     go_simp
     refine hK.out (upd s 51 (undef)) _ _ (by simp [ae,e25] <;> rfl) (kE (kE (kX (fun _ h=>Bool.noConfusion (h.symm.trans hG)) id)) hf.out)
   ·have e25:=((jD (jE hf.out)).2.2.1 (hd 25 rfl))
    have e31:=((jE (jE hf.out)).1 (hd 31 rfl))
    cases hG:(((q0 && q1) && q2)) with
    | true =>
     rw [hG] at e25
     replace e31:=e31 hG
     go_simp
     refine hK.out (upd s 52 (.bool (!q3))) _ _ (by simp [ae,e25,e31] <;> rfl) (kE (kE (kA (kX (fun _=>by rw [show (upd s 52 (.bool (!q3))) 52=.bool (!q3) from rfl];exact Fs hG) id))) hf.out)
    | false =>
     clear e31
     rw [hG] at e25
     go_simp
     refine hK.out (upd s 52 (.bool true)) _ _ (by simp [ae,e25] <;> rfl) (kE (kE (kA (kX (fun _=>by rw [show (upd s 52 (.bool true)) 52=.bool true from rfl];exact Fu hG) id))) hf.out)
   ·have e32:=((jE (jE hf.out)).2.1 (hd 32 rfl))
    go_simp
    refine hK.out (upd s 53 (.bool (!(((q0 && q1) && q2) && q3)))) _ _ (by simp [ae,e32] <;> rfl) (kE (kE (kB (kX (fun _=>rfl) id))) hf.out)
   ·have e33:=((jE (jE hf.out)).2.2.1 (hd 33 rfl))
    cases hG:((((q0 && q1) && q2) && q3)) with
    | true =>
     rw [hG] at e33
     go_simp
     refine hK.out (upd s 54 (.pointer (some ⟨wr.heap.size,6,none⟩))) _ _ (by simp [ae,e33] <;> rfl) (kE (kE (kB (kA (kX (fun _ _=>rfl) id)))) hf.out)
    | false =>
     rw [hG] at e33
     go_simp
     refine hK.out (upd s 54 (undef)) _ _ (by simp [ae,e33] <;> rfl) (kE (kE (kB (kA (kX (fun _ h=>Bool.noConfusion (h.symm.trans hG)) id)))) hf.out)
   ·have e33:=((jE (jE hf.out)).2.2.1 (hd 33 rfl))
    cases hG:((((q0 && q1) && q2) && q3)) with
    | true =>
     rw [hG] at e33
     have e34:=((jE (jE hf.out)).2.2.2.1 (hd 34 rfl)) hG
     have z:=(bO (dS CW hf.out.1)).1 6
     go_simp
     refine hK.out (upd s 55 (.int .i64 dd.out)) _ _ (by simp [ae,e33,e34] <;> rfl) (kE (kE (kC (kX (fun _ _=>rfl) id))) hf.out)
    | false =>
     rw [hG] at e33
     go_simp
     refine hK.out (upd s 55 (undef)) _ _ (by simp [ae,e33] <;> rfl) (kE (kE (kC (kX (fun _ h=>Bool.noConfusion (h.symm.trans hG)) id))) hf.out)
   ·have e33:=((jE (jE hf.out)).2.2.1 (hd 33 rfl))
    cases hG:((((q0 && q1) && q2) && q3)) with
    | true =>
     rw [hG] at e33
     have e35:=((jC (jE (jE hf.out))).1 (hd 35 rfl)) hG
     go_simp
     go_at_call 45
     refine (dX dd.out 999 _).mono ?_
     rintro _ _ ⟨rfl,rfl⟩
     rw [hq4.out]
     refine hK.out (upd s 56 (.bool q4)) _ _ (by simp [ae,e33,e35] <;> rfl) (kE (kE (kC (kA (kX (fun _ _=>rfl) id)))) hf.out)
    | false =>
     rw [hG] at e33
     go_simp
     refine hK.out (upd s 56 (undef)) _ _ (by simp [ae,e33] <;> rfl) (kE (kE (kC (kA (kX (fun _ h=>Bool.noConfusion (h.symm.trans hG)) id)))) hf.out)
   ·have e33:=((jE (jE hf.out)).2.2.1 (hd 33 rfl))
    cases hG:((((q0 && q1) && q2) && q3)) with
    | true =>
     rw [hG] at e33
     have e36:=((jC (jE (jE hf.out))).2.1 (hd 36 rfl)) hG
     go_simp
     refine hK.out (upd s 57 (.bool (!q4))) _ _ (by simp [ae,e33,e36] <;> rfl) (kE (kE (kC (kB (kX (fun _ _=>rfl) id)))) hf.out)
    | false =>
     rw [hG] at e33
     go_simp
     refine hK.out (upd s 57 (undef)) _ _ (by simp [ae,e33] <;> rfl) (kE (kE (kC (kB (kX (fun _ h=>Bool.noConfusion (h.symm.trans hG)) id)))) hf.out)
   ·have e33:=((jE (jE hf.out)).2.2.1 (hd 33 rfl))
    have e37:=((jC (jE (jE hf.out))).2.2.1 (hd 37 rfl))
    cases hG:((((q0 && q1) && q2) && q3)) with
    | true =>
     rw [hG] at e33
     replace e37:=e37 hG
     go_simp
     refine hK.out (upd s 58 (.bool (!q4))) _ _ (by simp [ae,e33,e37] <;> rfl) (kE (kE (kC (kB (kA (fun _=>fun _=>by rw [show (upd s 58 (.bool (!q4))) 58=.bool (!q4) from rfl];exact Fs hG))))) hf.out)
    | false =>
     clear e37
     rw [hG] at e33
     go_simp
     refine hK.out (upd s 58 (.bool true)) _ _ (by simp [ae,e33] <;> rfl) (kE (kE (kC (kB (kA (fun _=>fun _=>by rw [show (upd s 58 (.bool true)) 58=.bool true from rfl];exact Fu hG))))) hf.out)
  ·have:k=ds.length:=by omega
   subst this
   have h1:=hall.out
   rw [List.take_length] at h1
   go_wp2
   go_ret
   exact ⟨bF h1.symm,hB⟩
end
section
open Go.RowKit
theorem Ru (n:Nat) (hn:n≤40) (g:Nat) (W:World):(Instr.sliceAt 142 (.pointer (some ⟨g,0,none⟩)) none (some (.int .i64 n)) (some (.int .i64 n))).run Tryz.prog W=.ok (.slice (some ⟨g,0,none⟩) n n) W:=by
  have hl:Tryz.prog.arrayLen 142=40:=by kernel_rfl
  rw [run_sliceAt_array_hm (P:=Tryz.prog) W 142 ⟨g,0,none⟩ Tryz.underlying142 .i64 .i64 n n tO tO tO]
  simp [go_sem,slicedAt]
theorem Rv (n:Nat) (hn:n≤40) (g:Nat) (W:World):(Instr.sliceAt 129 (.pointer (some ⟨g,0,none⟩)) none (some (.int .i64 n)) (some (.int .i64 n))).run Tryz.prog W=.ok (.slice (some ⟨g,0,none⟩) n n) W:=by
  have hl:Tryz.prog.arrayLen 129=40:=by kernel_rfl
  rw [run_sliceAt_array_hm (P:=Tryz.prog) W 129 ⟨g,0,none⟩ Tryz.underlying129 .i64 .i64 n n tO tO tO]
  simp [go_sem,slicedAt]
theorem J2 (n:Nat) (hn:n≤40) (g:Nat) (w:World):Calls Tryz.prog 108 #[.pointer (some ⟨g,0,none⟩),.int .i64 n] w fun r w'=>r=.returned (.slice (some ⟨g,0,none⟩) n n)∧w=w':=by
  have hcut:=Ru n hn g
  go_enter Tryz.func108,Tryz.ntmps108
  go_wp2
  go_ret
  exact ⟨rfl,rfl⟩
theorem J3 (n:Nat) (hn:n≤40) (g:Nat) (w:World):Calls Tryz.prog 96 #[.pointer (some ⟨g,0,none⟩),.int .i64 n] w fun r w'=>r=.returned (.slice (some ⟨g,0,none⟩) n n)∧w=w':=by
  have hcut:=Rv n hn g
  go_enter Tryz.func96,Tryz.ntmps96
  go_wp2
  go_ret
  exact ⟨rfl,rfl⟩
def nC (l:List Int):Bool:=decide (l.length≤80) && l.all (fun x=>dm x 0 2)
def lI (n:Nat) (cs:List C3):Bool:=decide (cs.length=40) && cs.all (fD n)
def countB (c:Ch):Bool:=dm c.sent 0 40 && (dm c.got 0 40 && dm c.fin 0 40)
theorem nD (c:Ch):aK c=(dm c.cap 0 4 && (countB c && (nC c.words && lI c.words.length c.cells))):=by
  unfold aK fq countB nC lI
  cases dm c.cap 0 4 <;> cases dm c.sent 0 40 <;> cases dm c.got 0 40 <;> cases dm c.fin 0 40 <;> cases decide (c.cells.length=40) <;> cases decide (c.words.length≤80) <;> cases c.cells.all (fD c.words.length) <;> cases c.words.all (fun x=>dm x 0 2) <;> rfl
theorem tL (c:Ch) (v1 v2:Value) (w:World) :
    Calls Tryz.prog 148 #[.agg #[.int .i64 c.cap,.int .i64 c.sent,.int .i64 c.got,.int .i64 c.fin,v1,v2]] w fun r w'=>r=.returned (.bool (countB c))∧Below w.heap.size w w':=by
  go_enter Tryz.func148,Tryz.ntmps148
  go_wp2_with (go_at_call 45;refine (dX _ _ _).mono ?_;rintro _ _ ⟨rfl,rfl⟩)
  all_goals go_ret
  all_goals exact ⟨bF (by simp [countB, *]),by exact zB⟩
theorem CZ {l:List Int} {k:Nat} {x:Int} (hk:k<l.length) (hc:l.getD k 0=x) (h:dm x 0 2=false):false=nC l:=by
  have:l.all (fun x=>dm x 0 2)=false:=by
    rw [List.all_eq_false]
    refine ⟨l[k],List.getElem_mem hk,?_⟩
    rw [← hc] at h
    simpa [List.getD,List.getElem?_eq_getElem hk] using h
  simp [nC,this]
theorem Da {l:List Int} (h:l.length≤80) (h2:(l.take l.length).all (fun x=>dm x 0 2)=true):true=nC l:=by
  rw [List.take_length] at h2
  simp only [nC,h2,h,decide_true];rfl
theorem Aq (l:List Int) (a:Option Addr) (p:Nat) (w:World) (h:eQ w w.heap.size a l) (hm:l.length≤maxLen) :
    Calls Tryz.prog 149 #[.slice a l.length p] w fun r w'=>r=.returned (.bool (nC l))∧Below w.heap.size w w':=by
  unfold maxLen at hm
  by_cases hlen:80<l.length
  · have hV:Hid (false=nC l):=by simp [nC,Hid];omega
    go_enter Tryz.func149,Tryz.ntmps149
    go_wp2
    go_ret
    exact ⟨bF hV.out,Below.refl _ _⟩
  · have hd:decide (80<(l.length:Int))=false:=by simp;omega
    have hle:l.length≤80:=by omega
    clear hlen
    have HS:=Lib.hid h
    clear h
    go_enter Tryz.func149,Tryz.ntmps149
    go_wp2
    go_loopw [10] (fun i wr=>∃ k:Nat,k≤l.length∧i=.int .i64 k∧Hid ((l.take k).all (fun x=>dm x 0 2)=true)∧Below w.heap.size w wr) (fun i _=>l.length - (intOf i).toNat)
    case atStart=>exact ⟨0,Nat.zero_le _,rfl,rfl,Below.refl _ _⟩
    case round =>
      obtain ⟨k,hk,rfl,hall,hB⟩:=hrel
      by_cases hlt:k<l.length
      · obtain h0|⟨b,o,rfl,hb,hc⟩:=HS.out
        · omega
        have c0:=(hB.cell (p:=⟨b,o+k*1+0,none⟩) hb).trans (hc k 0 hlt tO)
        simp only [gX,Nat.add_zero,Nat.mul_one] at c0
        clear hc
        generalize hcg:l.getD k 0=x at c0
        have HC:=Lib.hid hcg
        clear hcg
        go_wp2_with (go_at_call 45;refine (dX _ _ _).mono ?_;rintro _ _ ⟨rfl,rfl⟩)
        · go_ret
          exact ⟨bF (CZ hlt HC.out (not_true ‹_›)),hB⟩
        · go_roundw
          case rel=>exact ⟨k+1,by omega,by go_num,tF hlt HC.out hall.out (not_false ‹_›),hB⟩
          case measure=>simp [intOf];omega
      · have:k=l.length:=by omega
        subst this
        go_wp2
        go_ret
        exact ⟨bF (Da hle hall.out),hB⟩
theorem Db {n:Nat} {cs:List C3} {k:Nat} {c:C3} (hk:k<cs.length) (hc:cs.getD k ⟨0,0,0⟩=c) (h:fD n c=false):false=lI n cs:=by
  have:cs.all (fD n)=false:=by
    rw [List.all_eq_false]
    refine ⟨cs[k],List.getElem_mem hk,?_⟩
    rw [← hc] at h
    simpa [List.getD,List.getElem?_eq_getElem hk] using h
  simp [lI,this]
theorem Dc {n:Nat} {cs:List C3} (h:cs.length=40) (h2:(cs.take cs.length).all (fD n)=true):true=lI n cs:=by
  rw [List.take_length] at h2
  simp only [lI,h2,h,decide_true];rfl
theorem Ar {n:Nat} {cs:List C3} {k:Nat} {c:C3} (hk:k<cs.length) (hc:cs.getD k ⟨0,0,0⟩=c) (h:(cs.take k).all (fD n)=true) (h1:fD n c=true):(cs.take (k+1)).all (fD n)=true:=by
  rw [mY cs k hk,hc,List.all_append,h];simp [h1]
theorem Au (n:Nat) (cs:List C3) (a:Option Addr) (p:Nat) (w:World) (h:eY w w.heap.size a cs) (hm:cs.length≤maxLen) :
    Calls Tryz.prog 150 #[.slice a cs.length p,.int .i64 n] w fun r w'=>r=.returned (.bool (lI n cs))∧Below w.heap.size w w':=by
  unfold maxLen at hm
  by_cases hlen:cs.length=40
  · have hd:((cs.length:Int) != 40)=false:=by simp;omega
    have hle:cs.length≤40:=by omega
    have HL:=Lib.hid hlen
    clear hlen
    have HS:=Lib.hid h
    clear h
    go_enter Tryz.func150,Tryz.ntmps150
    go_wp2
    go_loopw [12] (fun i wr=>∃ k:Nat,k≤cs.length∧i=.int .i64 k∧Hid ((cs.take k).all (fD n)=true)∧Below w.heap.size w wr) (fun i _=>cs.length - (intOf i).toNat)
    case atStart=>exact ⟨0,Nat.zero_le _,rfl,rfl,Below.refl _ _⟩
    case round =>
      obtain ⟨k,hk,rfl,hall,hB⟩:=hrel
      have hs:=hB.size
      by_cases hlt:k<cs.length
      · obtain h0|⟨b,o,rfl,hb,hc⟩:=HS.out
        · omega
        have c0:=(hB.cell (p:=⟨b,o+k*3+0,none⟩) hb).trans (hc k 0 hlt tO)
        have c1:=(hB.cell (p:=⟨b,o+k*3+1,none⟩) hb).trans (hc k 1 hlt tO)
        have c2:=(hB.cell (p:=⟨b,o+k*3+2,none⟩) hb).trans (hc k 2 hlt tO)
        simp only [ib,C3.val,Nat.add_zero] at c0 c1 c2
        clear hc
        generalize hcg:cs.getD k ⟨0,0,0⟩=c at c0 c1 c2
        have HC:=Lib.hid hcg
        clear hcg
        go_wp2_with (go_at_call 181;refine (ny _ _ _ _).mono ?_;rintro _ w1 ⟨rfl,ah⟩;have hBw1:Below w.heap.size w w1:=bT zB ah;have ay:=ah.size;(try (simp at ay));have:=fun o=>ah.cell (p:=⟨wr.heap.size,o,none⟩) (by ((try simp);(try omega)));have:=fun o=>ah.frozen (p:=⟨wr.heap.size,o,none⟩) (by ((try simp);(try omega)));have:wr.heap.size<w1.heap.size:=tO;have:wr.heap.size≤w1.heap.size:=tO;have:wr.heap.size≤w1.heap.size+1:=tO)
        all_goals first
          | (go_ret;exact ⟨bF (Db hlt HC.out (by simp_all [fD,OV])),by exact zB⟩)
          | (go_roundw
             case rel=>exact ⟨k+1,by omega,by go_num,Ar hlt HC.out hall.out (by simp_all [fD,OV]),by exact zB⟩
             case measure=>simp [intOf];omega)
      · have:k=cs.length:=by omega
        subst this
        go_wp2
        go_ret
        exact ⟨bF (Dc HL.out hall.out),hB⟩
  · have hd:((cs.length:Int) != 40)=true:=by simp;omega
    have hV:Hid (false=lI n cs):=by simp [lI,Hid,hlen]
    clear hlen
    go_enter Tryz.func150,Tryz.ntmps150
    go_wp2
    go_ret
    exact ⟨bF hV.out,Below.refl _ _⟩
theorem fZ (c:Ch) (a b:Option Addr) (p q:Nat) (w:World) (h1:eY w w.heap.size a c.cells) (h2:eQ w w.heap.size b c.words) (m1:c.cells.length≤maxLen) (m2:c.words.length≤maxLen) :
    Calls Tryz.prog 98 #[.agg #[.int .i64 c.cap,.int .i64 c.sent,.int .i64 c.got,.int .i64 c.fin,.slice a c.cells.length p,.slice b c.words.length q]] w fun r w'=>r=.returned (.bool (aK c))∧Below w.heap.size w w':=by
  rw [nD]
  have H1:=Lib.hid h1
  have H2:=Lib.hid h2
  have M1:=Lib.hid m1
  have M2:=Lib.hid m2
  clear h1 h2 m1 m2
  go_enter Tryz.func98,Tryz.ntmps98
  go_wp2_with (first|(go_at_call 45;refine (dX _ _ _).mono ?_;rintro _ _ ⟨rfl,rfl⟩)|(go_at_call 148;refine (tL c _ _ _).mono ?_;rintro _ w1 ⟨rfl,ah⟩;have hBw1:Below w.heap.size w w1:=bT zB ah;have ay:=ah.size;(try (simp at ay));have:=fun o=>ah.cell (p:=⟨w.heap.size,o,none⟩) (by ((try simp);(try omega)));have:=fun o=>ah.frozen (p:=⟨w.heap.size,o,none⟩) (by ((try simp);(try omega)));have:w.heap.size<w1.heap.size:=tO;have:w.heap.size≤w1.heap.size:=tO;have:w.heap.size≤w1.heap.size+1:=tO)|(go_at_call 149;refine (Aq c.words b q _ ((H2.out.below zB).more (by (try simp);omega)) M2.out).mono ?_;rintro _ w2 ⟨rfl,hb2⟩;have hB2:Below w.heap.size w w2:=bT zB hb2;have hs2:=hb2.size;have:=fun o=>hb2.cell (p:=⟨w.heap.size,o,none⟩) (by (try simp);omega))|(go_at_call 150;refine (Au c.words.length c.cells a p _ ((H1.out.below zB).more (by (try simp);omega)) M1.out).mono ?_;rintro _ w3 ⟨rfl,hb3⟩;have hB3:Below w.heap.size w w3:=bT zB hb3))
  all_goals go_ret
  all_goals exact ⟨bF (by simp [*]),by exact zB⟩
end
section
open Go.RowKit
end
section
open Go.RowKit
end
section
open Go.RowKit
end
section
open Go.RowKit
end
end Go.Proofs.YtffhjmepfojhnaaGreat
