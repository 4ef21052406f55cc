/-
  The program's refusing, moving, beginning anew, and the touches of sending that write into no cell, on hands and channels that are kept whole; the lists are the call's own.
  The program's functions of chapter 2; lists lie in memory and hold at most what memory can hold.
  The program's functions of chapter 3 that tell a word, and its copies of lists; lists lie in memory and hold at most 2 ^ 40 elements.
  The program's copy of a channel: the same in new memory; lists lie in memory and hold at most 2 ^ 40 elements.
  The program's telling of a word: the closure that tells, and who makes it; lists hold at most 2 ^ 40 elements.
  The program's telling of a word to a waiter; lists lie in memory and hold at most 2 ^ 40 elements.
  A new waiter, of the reference model and of the program; lists lie in memory and hold at most 2 ^ 40 elements.
  The program's touches of sending that number, look, call and end, on hands and channels that are kept whole; the lists are the call's own.
  A drawn region by an invariant: what has come up is a function to Bool, what lies in the slots a function to values; each operation is carried out once, whatever came up before it; no condition.
  Boxes of a call's own, by what points at them; no condition.
  The program's touches of sending that write: laying, keeping, waiting, calling, done; on hands and channels that are kept whole; the lists are the call's own.
  The contracts of the program's Laid and Turned; no condition.
  The program's touches of sending that write into a cell: laying, keeping; on hands and channels that are kept whole; the lists are the call's own.
  The program's turning of a cell in a channel and its seeing of one, on hands and channels that are kept whole; the lists are the call's own.
  The program's waiting in a cell, on hands and channels that are kept whole; the lists are the call's own.
  The program's waiting to send and its calling, by what they hand on; on hands and channels that are kept whole; the lists are the call's own.
  The program's keeping in a cell, on hands and channels that are kept whole; the lists are the call's own.
  The program's putting, on hands and channels that are kept whole; the lists are the call's own.
-/
import Derived.Test.YtkiingmgpobgnaaGreatQ11
import Derived.Test.YtkiingmgpobgnaaGreatQ04
import Derived.Test.YtkiingmgpobgnaaGreatQ03
import Derived.Deep.RegionHeld3
import Derived.Test.YtkiingmgpobgnaaGreatQ01
import Derived.Test.YtkiingmgpobgnaaGreatQ02
import Derived.Laws.Cover3
import Derived.Deep.AppendLies
import Derived.BigRegion
import Derived.Deep.DeepCutAuto
import Derived.Test.YtkiingmgpobgnaaGreatQ06
set_option linter.unusedSimpArgs false
set_option linter.unusedVariables false
namespace Go.Proofs.YtkiingmgpobgnaaGreat
open Go.RowKit
set_option linter.unusedSimpArgs false
attribute [local simp] bx_size
attribute [local go_sem ↓] zeroHand zeroChan toLHand toLChan toVHand toVChan storeHand storeChan storeHandC storeChanC
theorem refused_any (w:World) (lo:Nat) (v1 v2:Value):Calls Tryz.prog 42 #[] w fun r w'=>StepR w w' lo v1 v2 nothing r∧Below w.heap.size w w':=by
  go_enter Tryz.func42,Tryz.ntmps42
  go_wp2
  refine bodyPost_ret (res_cct Tryz.results42 rfl (ldChan Ch.zero (.slice none 0 0) (.slice none 0 0) (by simp [go_sem])) rfl (ldHand Ha.zero (by simp [go_sem]))) rfl ⟨stepR_none _ _ _ _ _,by exact zB⟩
theorem moved_any (h:Ha) (k:Int) (w:World):Calls Tryz.prog 105 #[.agg (hvals h),.int .i64 k] w fun r w'=>r=.returned (.agg (hvals { h with pos:=k }))∧Below w.heap.size w w':=by
  go_enter Tryz.func105,Tryz.ntmps105
  go_wp2
  refine bodyPost_ret (res_c Tryz.results105 rfl (ldHand { h with pos:=k } (by simp [go_sem] <;> rfl))) rfl ⟨rfl,by exact zB⟩
theorem called_rest {k e:Int} (hc:callOk k e=true):called (resting 0 0) k e=(begun k e 0,0):=by
  have h0:handOk (resting 0 0)=true:=by decide
  have h1:(resting 0 0).pos=0:=rfl
  simp [called,h0,h1,hc]
set_option maxRecDepth 100000 in
set_option maxHeartbeats 2000000 in
theorem anew_any (h:Ha) (hc:callOk h.code h.elem=true) (w:World):Calls Tryz.prog 112 #[.agg (hvals h)] w fun r w'=>r=.returned (.agg (hvals (anew h)))∧Below w.heap.size w w':=by
  have CC:=called_any (resting 0 0) h.code h.elem
  rw [called_rest hc] at CC
  have e:{ begun h.code h.elem 0 with beg:=h.beg }=anew h:=rfl
  have E:=Lib.hid e
  clear e
  go_enter Tryz.func112,Tryz.ntmps112
  go_wp2_with fail
  go_region_held3 (fun w'=>hp w' w.heap.size=some (.cells (hvals h) 31)∧w'.cell? ⟨w.heap.size,1,none⟩=some (.int .i64 h.code)∧w'.cell? ⟨w.heap.size,2,none⟩=some (.int .i64 h.elem))
    (first|(simp [*,go_sem]))
    (first|(go_at_call 76;refine (resting_any 0 0 _).mono ?_;rintro _ w1 ⟨rfl,hbw1⟩;have hBw1:Below w.heap.size w w1:=bT (by exact zB) hbw1;have hsw1:=hbw1.size;(try (simp at hsw1));have zz:=hQ hbw1 (b:=w.heap.size);(first|(simp [go_sem,z_w,l_w] at zz)|(simp [go_sem] at zz));(try clear x_w f_w);(try clear z_w);have z_w:=zz;clear zz;(try clear l_w);obtain ⟨x_w,f_w,l_w⟩:=bO z_w;have zz:=hQ hbw1 (b:=w.heap.size+1);(first|(simp [go_sem,z_wp,l_wp] at zz)|(simp [go_sem] at zz));(try clear x_wp f_wp);(try clear z_wp);have z_wp:=zz;clear zz;(try clear l_wp);obtain ⟨x_wp,f_wp,l_wp⟩:=bO z_wp;have t0w1:=hpB hbw1 (b:=w.heap.size+1+1);(try simp [go_sem] at t0w1);(try have n0w1:=(bO t0w1).2.2);have kww1:w.heap.size<w1.heap.size:=(by omega);have qww1:w.heap.size<w1.heap.size+1:=(by omega);have kwpw1:w.heap.size+1<w1.heap.size:=(by omega);have qwpw1:w.heap.size+1<w1.heap.size+1:=(by omega))|(go_at_call 123;refine (CC _).mono ?_;rintro _ w2 ⟨rfl,hbw2⟩;have hBw2:Below w.heap.size w w2:=bT (by exact zB) hbw2;have hsw2:=hbw2.size;(try (simp at hsw2));have zz:=hQ hbw2 (b:=w.heap.size);(first|(simp [go_sem,z_w,l_w,qww1,qwpw1] at zz)|(simp [go_sem,qww1,qwpw1] at zz));(try clear x_w f_w);(try clear z_w);have z_w:=zz;clear zz;(try clear l_w);obtain ⟨x_w,f_w,l_w⟩:=bO z_w;have zz:=hQ hbw2 (b:=w.heap.size+1);(first|(simp [go_sem,z_wp,l_wp,qww1,qwpw1] at zz)|(simp [go_sem,qww1,qwpw1] at zz));(try clear x_wp f_wp);(try clear z_wp);have z_wp:=zz;clear zz;(try clear l_wp);obtain ⟨x_wp,f_wp,l_wp⟩:=bO z_wp;(first|(have m0w2:=(bO t0w1).2.2;have t0w2:=hpB hbw2 (b:=w.heap.size+1+1);(simp [go_sem,t0w1,m0w2] at t0w2))|(have t0w2:=hpB hbw2 (b:=w.heap.size+1+1);(try simp [go_sem] at t0w2)));(try have n0w2:=(bO t0w2).2.2);have t1w2:=hpB hbw2 (b:=w1.heap.size);(try simp [go_sem] at t1w2);(try have n1w2:=(bO t1w2).2.2);have kww2:w.heap.size<w2.heap.size:=(by omega);have qww2:w.heap.size<w2.heap.size+1:=(by omega);have kwpw2:w.heap.size+1<w2.heap.size:=(by omega);have qwpw2:w.heap.size+1<w2.heap.size+1:=(by omega)))
  all_goals (try (have y0:=(bO t0w2).1;have g0:=(bO t0w2).2.1))
  all_goals (try (have y1:=(bO t1w2).1;have g1:=(bO t1w2).2.1))
  all_goals go_wp2
  all_goals (refine bodyPost_ret (res_c Tryz.results112 rfl (ldHand (anew h) (by simp [go_sem, *] <;> rfl))) rfl ⟨rfl,by exact zB⟩)
set_option maxRecDepth 100000 in
set_option maxHeartbeats 2000000 in
theorem sendEnd_any (c:Ch) (h:Ha) (v1 v2:Value) (lo:Nat) (w:World) (h1:OCells w lo v1 c.cells) (h2:OInts w lo v2 c.words) :
    Calls Tryz.prog 92 #[.agg (cvals c v1 v2),.agg (hvals h)] w fun r w'=>StepO w w' lo v1 v2 ((c,{ h with fin:=c.fin,pos:=5 },true)) r:=by
  have b1:=fun j (hj:v1.ownBlock=some j)=>(h1.lt j hj).2
  have b2:=fun j (hj:v2.ownBlock=some j)=>(h2.lt j hj).2
  obtain ⟨a1,q1,rfl,_⟩:=h1.seg
  obtain ⟨a2,q2,rfl,_⟩:=h2.seg
  have O1:=Lib.hid h1
  have O2:=Lib.hid h2
  clear h1 h2
  have o1:=O1.out
  have o2:=O2.out
  go_enter Tryz.func92,Tryz.ntmps92
  go_wp2_with fail
  go_region_held3 (fun w'=>hp w' w.heap.size=some (.cells (cvals c (.slice a1 c.cells.length q1) (.slice a2 c.words.length q2)) 27)∧hp w' (w.heap.size+1)=some (.cells (hvals { h with fin:=c.fin }) 31))
    (first|(simp [*,go_sem]))
    (first|((go_at_call 105;refine bHit w (by exact zB) fun bb=>?_;refine (moved_any _ _ _).mono ?_;rintro _ w1 ⟨rfl,hbw1⟩;have hCw1:Below w.heap.size w w1:=bT bb hbw1;have hsw1:=hbw1.size;(try simp at hsw1);have zz:=q4 hbw1 (b:=w.heap.size);(try simp [go_sem] at zz);(try clear z_wppp x_wppp f_wppp l_wppp);(try clear z_wpp x_wpp f_wpp l_wpp);(try clear z_wp x_wp f_wp l_wp);(try clear z_w x_w f_w l_w);obtain ⟨z_wppp,z_wpp,z_wp,z_w⟩:=zz;obtain ⟨x_wppp,f_wppp,l_wppp⟩:=bO z_wppp;obtain ⟨x_wpp,f_wpp,l_wpp⟩:=bO z_wpp;obtain ⟨x_wp,f_wp,l_wp⟩:=bO z_wp;obtain ⟨x_w,f_w,l_w⟩:=bO z_w;have hKw1:Below w.heap.size w w1:=hCw1;clear hbw1 bb);have p1:=own_below o1 hKw1;have p2:=own_below o2 hKw1))
  go_wp2
  refine bodyPost_ret (res_cct Tryz.results92 rfl (ldChan c (.slice a1 c.cells.length q1) (.slice a2 c.words.length q2) (by simp [go_sem, *] <;> rfl)) rfl (ldHand { h with fin:=c.fin,pos:=5 } (by simp [go_sem, *] <;> rfl))) rfl ⟨⟨_,_,rfl,?_,?_,fresh_refl _ _,fresh_refl _ _⟩,onlB (by exact zB)⟩
  · exact zO p1 o1
  · exact zO p2 o2
set_option maxRecDepth 100000 in
set_option maxHeartbeats 2000000 in
theorem sendCome_any (c:Ch) (h:Ha) (v1 v2:Value) (lo:Nat) (w:World) (h1:OCells w lo v1 c.cells) (h2:OInts w lo v2 c.words) :
    Calls Tryz.prog 93 #[.agg (cvals c v1 v2),.agg (hvals h)] w fun r w'=>StepO w w' lo v1 v2 ((c,{ h with come:=c.got,pos:=6 },true)) r:=by
  have b1:=fun j (hj:v1.ownBlock=some j)=>(h1.lt j hj).2
  have b2:=fun j (hj:v2.ownBlock=some j)=>(h2.lt j hj).2
  obtain ⟨a1,q1,rfl,_⟩:=h1.seg
  obtain ⟨a2,q2,rfl,_⟩:=h2.seg
  have O1:=Lib.hid h1
  have O2:=Lib.hid h2
  clear h1 h2
  have o1:=O1.out
  have o2:=O2.out
  go_enter Tryz.func93,Tryz.ntmps93
  go_wp2_with fail
  go_region_held3 (fun w'=>hp w' w.heap.size=some (.cells (cvals c (.slice a1 c.cells.length q1) (.slice a2 c.words.length q2)) 27)∧hp w' (w.heap.size+1)=some (.cells (hvals { h with come:=c.got }) 31))
    (first|(simp [*,go_sem]))
    (first|((go_at_call 105;refine bHit w (by exact zB) fun bb=>?_;refine (moved_any _ _ _).mono ?_;rintro _ w1 ⟨rfl,hbw1⟩;have hCw1:Below w.heap.size w w1:=bT bb hbw1;have hsw1:=hbw1.size;(try simp at hsw1);have zz:=q4 hbw1 (b:=w.heap.size);(try simp [go_sem] at zz);(try clear z_wppp x_wppp f_wppp l_wppp);(try clear z_wpp x_wpp f_wpp l_wpp);(try clear z_wp x_wp f_wp l_wp);(try clear z_w x_w f_w l_w);obtain ⟨z_wppp,z_wpp,z_wp,z_w⟩:=zz;obtain ⟨x_wppp,f_wppp,l_wppp⟩:=bO z_wppp;obtain ⟨x_wpp,f_wpp,l_wpp⟩:=bO z_wpp;obtain ⟨x_wp,f_wp,l_wp⟩:=bO z_wp;obtain ⟨x_w,f_w,l_w⟩:=bO z_w;have hKw1:Below w.heap.size w w1:=hCw1;clear hbw1 bb);have p1:=own_below o1 hKw1;have p2:=own_below o2 hKw1))
  go_wp2
  refine bodyPost_ret (res_cct Tryz.results93 rfl (ldChan c (.slice a1 c.cells.length q1) (.slice a2 c.words.length q2) (by simp [go_sem, *] <;> rfl)) rfl (ldHand { h with come:=c.got,pos:=6 } (by simp [go_sem, *] <;> rfl))) rfl ⟨⟨_,_,rfl,?_,?_,fresh_refl _ _,fresh_refl _ _⟩,onlB (by exact zB)⟩
  · exact zO p1 o1
  · exact zO p2 o2
end Go.Proofs.YtkiingmgpobgnaaGreat
set_option linter.unusedSimpArgs false
set_option linter.unusedVariables false
namespace Go.Proofs.YtkiingmgpobgnaaGreat
open Go.RowKit
def wordsB (l:List Int):Bool:=decide (l.length≤80) && l.all (fun x=>inB x 0 2)
def cellsB (n:Nat) (cs:List C3):Bool:=decide (cs.length=40) && cs.all (cellFits n)
def countB (c:Ch):Bool:=inB c.sent 0 40 && (inB c.got 0 40 && inB c.fin 0 40)
theorem chanOk_parts (c:Ch):chanOk c=(inB c.cap 0 4 && (countB c && (wordsB c.words && cellsB c.words.length c.cells))):=by
  unfold chanOk chanHead countB wordsB cellsB
  cases inB c.cap 0 4 <;> cases inB c.sent 0 40 <;> cases inB c.got 0 40 <;> cases inB c.fin 0 40 <;> cases decide (c.cells.length=40) <;> cases decide (c.words.length≤80) <;> cases c.cells.all (cellFits c.words.length) <;> cases c.words.all (fun x=>inB x 0 2) <;> rfl
set_option maxRecDepth 100000 in
theorem countersOk_any (c:Ch) (v1 v2:Value) (w:World) :
    Calls Tryz.prog 36 #[.agg #[.int .i64 c.cap,.int .i64 c.sent,.int .i64 c.got,.int .i64 c.fin,v1,v2]] w fun r w'=>r=.returned (.bool (countB c))∧Below w.heap.size w w':=by
  go_enter Tryz.func36,Tryz.ntmps36
  go_wp2_with (go_at_call 35;refine (inRange_any _ _ _).mono ?_;rintro _ _ ⟨rfl,rfl⟩)
  all_goals go_ret
  all_goals exact ⟨ret_bool (by simp [countB, *]),by exact zB⟩
theorem wordsB_bad {l:List Int} {k:Nat} {x:Int} (hk:k<l.length) (hc:l.getD k 0=x) (h:inB x 0 2=false):false=wordsB l:=by
  have:l.all (fun x=>inB x 0 2)=false:=by
    rw [List.all_eq_false]
    refine ⟨l[k],List.getElem_mem hk,?_⟩
    rw [← hc] at h
    simpa [List.getD,List.getElem?_eq_getElem hk] using h
  simp [wordsB,this]
theorem wordsB_end {l:List Int} (h:l.length≤80) (h2:(l.take l.length).all (fun x=>inB x 0 2)=true):true=wordsB l:=by
  rw [List.take_length] at h2
  simp only [wordsB,h2,h,decide_true];rfl
set_option maxRecDepth 100000 in
set_option maxHeartbeats 400000 in
theorem wordsOk_any (l:List Int) (a:Option Addr) (p:Nat) (w:World) (h:Seg w w.heap.size a l.length 1 (intF l)) (hm:l.length≤maxLen) :
    Calls Tryz.prog 37 #[.slice a l.length p] w fun r w'=>r=.returned (.bool (wordsB l))∧Below w.heap.size w w':=by
  unfold maxLen at hm
  by_cases hlen:80<l.length
  · have hV:Hid (false=wordsB l):=by simp [wordsB,Hid];omega
    go_enter Tryz.func37,Tryz.ntmps37
    go_wp2
    go_ret
    exact ⟨ret_bool hV.out,Below.refl _ _⟩
  · have hd:decide (80<(l.length:Int))=false:=by simp;omega
    have hle:l.length≤80:=by omega
    clear hlen
    have HS:=Lib.hid h
    clear h
    go_enter Tryz.func37,Tryz.ntmps37
    go_wp2
    go_loopw [10] (fun i wr=>∃ k:Nat,k≤l.length∧i=.int .i64 k∧Hid ((l.take k).all (fun x=>inB x 0 2)=true)∧Below w.heap.size w wr) (fun i _=>l.length - (intOf i).toNat)
    case atStart=>exact ⟨0,Nat.zero_le _,rfl,rfl,Below.refl _ _⟩
    case round =>
      obtain ⟨k,hk,rfl,hall,hB⟩:=hrel
      by_cases hlt:k<l.length
      · obtain h0|⟨b,o,rfl,hb,hc⟩:=HS.out
        · omega
        have c0:=(hB.cell (p:=⟨b,o+k*1+0,none⟩) hb).trans (hc k 0 hlt (by omega))
        simp only [intF,Nat.add_zero,Nat.mul_one] at c0
        clear hc
        generalize hcg:l.getD k 0=x at c0
        have HC:=Lib.hid hcg
        clear hcg
        go_wp2_with (go_at_call 35;refine (inRange_any _ _ _).mono ?_;rintro _ _ ⟨rfl,rfl⟩)
        · go_ret
          exact ⟨ret_bool (wordsB_bad hlt HC.out (not_true ‹_›)),hB⟩
        · go_roundw
          case rel=>exact ⟨k+1,by omega,by go_num,words_snoc hlt HC.out hall.out (not_false ‹_›),hB⟩
          case measure=>simp [intOf];omega
      · have:k=l.length:=by omega
        subst this
        go_wp2
        go_ret
        exact ⟨ret_bool (wordsB_end hle hall.out),hB⟩
theorem cellsB_bad {n:Nat} {cs:List C3} {k:Nat} {c:C3} (hk:k<cs.length) (hc:cs.getD k ⟨0,0,0⟩=c) (h:cellFits n c=false):false=cellsB n cs:=by
  have:cs.all (cellFits n)=false:=by
    rw [List.all_eq_false]
    refine ⟨cs[k],List.getElem_mem hk,?_⟩
    rw [← hc] at h
    simpa [List.getD,List.getElem?_eq_getElem hk] using h
  simp [cellsB,this]
theorem cellsB_end {n:Nat} {cs:List C3} (h:cs.length=40) (h2:(cs.take cs.length).all (cellFits n)=true):true=cellsB n cs:=by
  rw [List.take_length] at h2
  simp only [cellsB,h2,h,decide_true];rfl
theorem cellsB_snoc {n:Nat} {cs:List C3} {k:Nat} {c:C3} (hk:k<cs.length) (hc:cs.getD k ⟨0,0,0⟩=c) (h:(cs.take k).all (cellFits n)=true) (h1:cellFits n c=true):(cs.take (k+1)).all (cellFits n)=true:=by
  rw [take_snocC cs k hk,hc,List.all_append,h];simp [h1]
set_option maxRecDepth 100000 in
set_option maxHeartbeats 400000 in
theorem cellsOk_any (n:Nat) (cs:List C3) (a:Option Addr) (p:Nat) (w:World) (h:Seg w w.heap.size a cs.length 3 (cellF cs)) (hm:cs.length≤maxLen) :
    Calls Tryz.prog 38 #[.slice a cs.length p,.int .i64 n] w fun r w'=>r=.returned (.bool (cellsB n cs))∧Below w.heap.size w w':=by
  unfold maxLen at hm
  by_cases hlen:cs.length=40
  · have hd:((cs.length:Int) != 40)=false:=by simp;omega
    have hle:cs.length≤40:=by omega
    have HL:=Lib.hid hlen
    clear hlen
    have HS:=Lib.hid h
    clear h
    go_enter Tryz.func38,Tryz.ntmps38
    go_wp2
    go_loopw [12] (fun i wr=>∃ k:Nat,k≤cs.length∧i=.int .i64 k∧Hid ((cs.take k).all (cellFits n)=true)∧Below w.heap.size w wr) (fun i _=>cs.length - (intOf i).toNat)
    case atStart=>exact ⟨0,Nat.zero_le _,rfl,rfl,Below.refl _ _⟩
    case round =>
      obtain ⟨k,hk,rfl,hall,hB⟩:=hrel
      have hs:=hB.size
      by_cases hlt:k<cs.length
      · obtain h0|⟨b,o,rfl,hb,hc⟩:=HS.out
        · omega
        have c0:=(hB.cell (p:=⟨b,o+k*3+0,none⟩) hb).trans (hc k 0 hlt (by omega))
        have c1:=(hB.cell (p:=⟨b,o+k*3+1,none⟩) hb).trans (hc k 1 hlt (by omega))
        have c2:=(hB.cell (p:=⟨b,o+k*3+2,none⟩) hb).trans (hc k 2 hlt (by omega))
        simp only [cellF,C3.val,Nat.add_zero] at c0 c1 c2
        clear hc
        generalize hcg:cs.getD k ⟨0,0,0⟩=c at c0 c1 c2
        have HC:=Lib.hid hcg
        clear hcg
        go_wp2_with (go_at_call 68;refine (cellOk_any _ _ _ _).mono ?_;rintro _ w1 ⟨rfl,hbw1⟩;have hBw1:Below w.heap.size w w1:=bT (by exact zB) hbw1;have hsw1:=hbw1.size;(try (simp at hsw1));have:=fun o=>hbw1.cell (p:=⟨wr.heap.size,o,none⟩) (by ((try simp);(try omega)));have:=fun o=>hbw1.frozen (p:=⟨wr.heap.size,o,none⟩) (by ((try simp);(try omega)));have:wr.heap.size<w1.heap.size:=(by omega);have:wr.heap.size≤w1.heap.size:=(by omega);have:wr.heap.size≤w1.heap.size+1:=(by omega))
        all_goals first
          | (go_ret;exact ⟨ret_bool (cellsB_bad hlt HC.out (by simp_all [cellFits,okC])),by exact zB⟩)
          | (go_roundw
             case rel=>exact ⟨k+1,by omega,by go_num,cellsB_snoc hlt HC.out hall.out (by simp_all [cellFits,okC]),by exact zB⟩
             case measure=>simp [intOf];omega)
      · have:k=cs.length:=by omega
        subst this
        go_wp2
        go_ret
        exact ⟨ret_bool (cellsB_end HL.out hall.out),hB⟩
  · have hd:((cs.length:Int) != 40)=true:=by simp;omega
    have hV:Hid (false=cellsB n cs):=by simp [cellsB,Hid,hlen]
    clear hlen
    go_enter Tryz.func38,Tryz.ntmps38
    go_wp2
    go_ret
    exact ⟨ret_bool hV.out,Below.refl _ _⟩
set_option maxRecDepth 100000 in
set_option maxHeartbeats 400000 in
theorem chanOk_any (c:Ch) (a b:Option Addr) (p q:Nat) (w:World) (h1:Seg w w.heap.size a c.cells.length 3 (cellF c.cells)) (h2:Seg w w.heap.size b c.words.length 1 (intF c.words)) (m1:c.cells.length≤maxLen) (m2:c.words.length≤maxLen) :
    Calls Tryz.prog 10 #[.agg #[.int .i64 c.cap,.int .i64 c.sent,.int .i64 c.got,.int .i64 c.fin,.slice a c.cells.length p,.slice b c.words.length q]] w fun r w'=>r=.returned (.bool (chanOk c))∧Below w.heap.size w w':=by
  rw [chanOk_parts]
  have H1:=Lib.hid h1
  have H2:=Lib.hid h2
  have M1:=Lib.hid m1
  have M2:=Lib.hid m2
  clear h1 h2 m1 m2
  go_enter Tryz.func10,Tryz.ntmps10
  go_wp2_with (first|(go_at_call 35;refine (inRange_any _ _ _).mono ?_;rintro _ _ ⟨rfl,rfl⟩)|(go_at_call 36;refine (countersOk_any c _ _ _).mono ?_;rintro _ w1 ⟨rfl,hbw1⟩;have hBw1:Below w.heap.size w w1:=bT (by exact zB) hbw1;have hsw1:=hbw1.size;(try (simp at hsw1));have:=fun o=>hbw1.cell (p:=⟨w.heap.size,o,none⟩) (by ((try simp);(try omega)));have:=fun o=>hbw1.frozen (p:=⟨w.heap.size,o,none⟩) (by ((try simp);(try omega)));have:w.heap.size<w1.heap.size:=(by omega);have:w.heap.size≤w1.heap.size:=(by omega);have:w.heap.size≤w1.heap.size+1:=(by omega))|(go_at_call 37;refine (wordsOk_any c.words b q _ ((H2.out.below (by exact zB)).more (by (try simp);omega)) M2.out).mono ?_;rintro _ w2 ⟨rfl,hb2⟩;have hB2:Below w.heap.size w w2:=bT (by exact zB) hb2;have hs2:=hb2.size;have:=fun o=>hb2.cell (p:=⟨w.heap.size,o,none⟩) (by (try simp);omega))|(go_at_call 38;refine (cellsOk_any c.words.length c.cells a p _ ((H1.out.below (by exact zB)).more (by (try simp);omega)) M1.out).mono ?_;rintro _ w3 ⟨rfl,hb3⟩;have hB3:Below w.heap.size w w3:=bT (by exact zB) hb3))
  all_goals go_ret
  all_goals exact ⟨ret_bool (by simp [*]),by exact zB⟩
end Go.Proofs.YtkiingmgpobgnaaGreat
set_option linter.unusedSimpArgs false
set_option linter.unusedVariables false
namespace Go.Proofs.YtkiingmgpobgnaaGreat
open Go.RowKit
set_option maxHeartbeats 400000 in
theorem isWaiter_any (c:Ch) (v:Int) (b:Option Addr) (q:Nat) (w:World) :
    Calls Tryz.prog 46 #[.slice b c.words.length q,.int .i64 v] w fun r w'=>r=.returned (.bool (hasW c v))∧Below w.heap.size w w':=by
  go_enter Tryz.func46,Tryz.ntmps46
  go_wp2
  all_goals go_ret
  all_goals exact ⟨ret_bool (by simp [hasW,inB, *] <;> omega),by exact zB⟩
theorem eqlNil (t e:TypeId) (a:Option Addr) (l c:Nat) (h:Tryz.prog.underlying t=some (.slice e)) (w:World):(binOp .eql t (.slice a l c) (.slice none 0 0)).run Tryz.prog w=.ok (.bool a.isNone) w:=by
  simp only [binOp]
  simp [run_equal_slice_nil w t e a l c h]
set_option maxHeartbeats 400000 in
theorem cloneI_any (l:List Int) (b:Option Addr) (q:Nat) (w:World) (h:Seg w w.heap.size b l.length 1 (intF l)) (hz:b=none→q=0) (hm:l.length≤1099511627776) :
    Calls Tryz.prog 88 #[.slice b l.length q] w fun r w'=>(∃ v,r=.returned v∧OInts w' w.heap.size v l)∧Below w.heap.size w w':=by
  obtain ⟨i0,hi0,hz0,hz1,hz2⟩:=info_parts infoInt
  have hE:=eqlNil _ _ b l.length q Tryz.underlying25
  rcases b with _|⟨bb,bo,sp⟩
  · obtain rfl:=hz rfl
    have hn:l.length=0:=by rcases h with h|⟨_,_,h,_⟩;exact h;cases h
    obtain rfl:l=[]:=List.eq_nil_of_length_eq_zero hn
    simp at hE
    go_enter Tryz.func88,Tryz.ntmps88
    go_wp2
    go_ret
    exact ⟨⟨_,rfl,World.ownsRow_nil _ _ _ _⟩,by exact zB⟩
  · have HN:Hid (∀ j u,(ints l)[j]?=some u→w.cell? ((⟨bb,bo,sp⟩:Addr).add j)=some u):=by
      rcases h with h0|⟨b',o',e,h1,h2⟩
      · obtain rfl:l=[]:=List.eq_nil_of_length_eq_zero h0
        intro j u hu;simp [ints] at hu
      · simp at e
        obtain ⟨rfl,rfl,rfl⟩:=e
        exact Seg.newsI (.inr ⟨bb,bo,rfl,h1,h2⟩)
    clear h hz
    simp at hE
    go_enter Tryz.func88,Tryz.ntmps88
    go_wp2_with (at_builtin;refine wpList_append_own _ rfl _ _ 25 rfl w.heap.size 2 i0 _ 1 8 Tryz.underlying25 hi0 hz0 hz1 hz2 rfl (by decide) _ 0 [] rfl (own_made _ _ _ _ (Nat.le_refl _)) ⟨bb,bo,sp⟩ l.length q (ints l) rfl (by simp [ints]) ?c0 (ints_one l) ?c3 ?c4 ?c5 ?_)
    case c0=>exact fun j u hu=>cell_alloc_of (HN.out j u hu)
    case c3=>unfold maxLen;omega
    case c4=>omega
    case c5=>simp
    intro v w1 hown hg _
    go_wp2
    go_ret
    exact ⟨⟨_,rfl,by simpa using hown⟩,bOwn (by exact zB) hg (by simp) (by simp [Value.ownBlock])⟩
set_option maxHeartbeats 400000 in
theorem cloneC_any (l:List C3) (b:Option Addr) (q:Nat) (w:World) (h:Seg w w.heap.size b l.length 3 (cellF l)) (hz:b=none→q=0) (hm:l.length≤1099511627776) :
    Calls Tryz.prog 87 #[.slice b l.length q] w fun r w'=>(∃ v,r=.returned v∧OCells w' w.heap.size v l)∧Below w.heap.size w w':=by
  obtain ⟨i0,hi0,hz0,hz1,hz2⟩:=info_parts infoCell'
  have hE:=eqlNil _ _ b l.length q Tryz.underlying24
  rcases b with _|⟨bb,bo,sp⟩
  · obtain rfl:=hz rfl
    have hn:l.length=0:=by rcases h with h|⟨_,_,h,_⟩;exact h;cases h
    obtain rfl:l=[]:=List.eq_nil_of_length_eq_zero hn
    simp at hE
    go_enter Tryz.func87,Tryz.ntmps87
    go_wp2
    go_ret
    exact ⟨⟨_,rfl,World.ownsRow_nil _ _ _ _⟩,by exact zB⟩
  · have HN:Hid (∀ j u,(flatC l)[j]?=some u→w.cell? ((⟨bb,bo,sp⟩:Addr).add j)=some u):=by
      rcases h with h0|⟨b',o',e,h1,h2⟩
      · obtain rfl:l=[]:=List.eq_nil_of_length_eq_zero h0
        intro j u hu;simp [flatC] at hu
      · simp at e
        obtain ⟨rfl,rfl,rfl⟩:=e
        exact Seg.newsC (.inr ⟨bb,bo,rfl,h1,h2⟩)
    clear h hz
    simp at hE
    go_enter Tryz.func87,Tryz.ntmps87
    go_wp2_with (at_builtin;refine wpList_append_own _ rfl _ _ 24 rfl w.heap.size 52 i0 _ 3 24 Tryz.underlying24 hi0 hz0 hz1 hz2 rfl (by decide) _ 0 [] rfl (own_made _ _ _ _ (Nat.le_refl _)) ⟨bb,bo,sp⟩ l.length q (flatC l) rfl (flatC_len l) ?c0 (flatC_one l) ?c3 ?c4 ?c5 ?_)
    case c0=>exact fun j u hu=>cell_alloc_of (HN.out j u hu)
    case c3=>unfold maxLen;omega
    case c4=>omega
    case c5=>simp
    intro v w1 hown hg _
    go_wp2
    go_ret
    exact ⟨⟨_,rfl,by simpa using hown⟩,bOwn (by exact zB) hg (by simp) (by simp [Value.ownBlock])⟩
end Go.Proofs.YtkiingmgpobgnaaGreat
set_option linter.unusedSimpArgs false
set_option linter.unusedVariables false
namespace Go.Proofs.YtkiingmgpobgnaaGreat
open Go.RowKit
set_option maxRecDepth 100000 in
set_option maxHeartbeats 1000000 in
theorem copied_any (c:Ch) (a b:Option Addr) (p q:Nat) (w:World) (h1:Seg w w.heap.size a c.cells.length 3 (cellF c.cells)) (z1:a=none→p=0) (h2:Seg w w.heap.size b c.words.length 1 (intF c.words)) (z2:b=none→q=0) (m1:c.cells.length≤1099511627776) (m2:c.words.length≤1099511627776) :
    Calls Tryz.prog 56 #[.agg #[.int .i64 c.cap,.int .i64 c.sent,.int .i64 c.got,.int .i64 c.fin,.slice a c.cells.length p,.slice b c.words.length q]] w fun r w' =>
      (∃ v1 v2,r=.returned (.agg #[.int .i64 c.cap,.int .i64 c.sent,.int .i64 c.got,.int .i64 c.fin,v1,v2])∧OCells w' w.heap.size v1 c.cells∧OInts w' w.heap.size v2 c.words)∧Below w.heap.size w w':=by
  obtain ⟨cap,sent,got,fin,cells,words⟩:=c
  simp only at *
  have H1:=Lib.hid h1
  have Z1:=Lib.hid z1
  have H2:=Lib.hid h2
  have Z2:=Lib.hid z2
  clear h1 h2 z1 z2
  go_enter Tryz.func56,Tryz.ntmps56
  go_wp2_with fail
  refine (cloneC_any cells a p _ ((H1.out.below (by exact zB)).more (by simp;try omega)) Z1.out m1).mono ?_
  rintro _ w1 ⟨⟨v1,rfl,o1⟩,hb1⟩
  have hs1:=hb1.size
  simp at hs1
  have:=fun o=>hb1.cell (p:=⟨w.heap.size,o,none⟩) (by simp;omega)
  have:=fun o=>hb1.frozen (p:=⟨w.heap.size,o,none⟩) (by simp;omega)
  have:=fun o=>hb1.cell (p:=⟨w.heap.size+1,o,none⟩) (by simp)
  have:=fun o=>hb1.frozen (p:=⟨w.heap.size+1,o,none⟩) (by simp)
  have hB1:Below w.heap.size w w1:=bT (by exact zB) hb1
  have k0:w.heap.size<w1.heap.size:=by omega
  have k1:w.heap.size+1<w1.heap.size:=by omega
  have o1':=own_lo o1 (lo':=w.heap.size+1+1) (by simp)
  obtain ⟨va,vc,rfl,_⟩:=OCells.seg o1
  clear o1 hb1
  go_wp2_with fail
  refine (cloneI_any words b q _ ((H2.out.below hB1).setOther (by simp [World.setCell];omega) (by simp)) Z2.out m2).mono ?_
  rintro _ w2 ⟨⟨v2,rfl,o2⟩,hb2⟩
  have p1:=own_below (own_store o1' (p:=⟨w.heap.size,4,none⟩) (own_ne o1' (by (try simp);try omega)) (.slice va cells.length vc)) hb2
  have p2:=own_lo o2 (lo':=w.heap.size+1+1) (by simp [World.setCell];omega)
  obtain ⟨vb,vd,rfl,_⟩:=OInts.seg o2
  clear o2
  have hs2:=hb2.size
  simp [World.setCell] at hs2
  have hB2:Below w.heap.size w w2:=bT (by exact zB) hb2
  have:=fun o=>hb2.cell (p:=⟨w.heap.size,o,none⟩) (by simp [World.setCell];omega)
  have:=fun o=>hb2.frozen (p:=⟨w.heap.size,o,none⟩) (by simp [World.setCell];omega)
  have:=fun o=>hb2.cell (p:=⟨w.heap.size+1,o,none⟩) (by simp [World.setCell];omega)
  have:=fun o=>hb2.frozen (p:=⟨w.heap.size+1,o,none⟩) (by simp [World.setCell];omega)
  clear hb2
  have:w.heap.size<w2.heap.size:=by omega
  have:w.heap.size+1<w2.heap.size:=by omega
  go_wp2_with fail
  refine bodyPost_ret (v:=.agg #[.int .i64 cap,.int .i64 sent,.int .i64 got,.int .i64 fin,.slice va cells.length vc,.slice vb words.length vd]) (by simp [results,Tryz.results56,go_sem, *]) rfl ⟨⟨_,_,rfl,?_,?_⟩,?_⟩
  · refine own_lo (lo:=w.heap.size+1+1) ?_ (by omega)
    repeat (first|with_reducible exact p1|((with_reducible refine own_store ?_ ?_ _);rotate_left;(focus exact own_ne p1 (by (try simp);try omega))))
  · refine own_lo (lo:=w.heap.size+1+1) ?_ (by omega)
    repeat (first|with_reducible exact p2|((with_reducible refine own_store ?_ ?_ _);rotate_left;(focus exact own_ne p2 (by (try simp);try omega))))
  · exact zB
end Go.Proofs.YtkiingmgpobgnaaGreat
set_option linter.unusedSimpArgs false
set_option linter.unusedVariables false
namespace Go.Proofs.YtkiingmgpobgnaaGreat
open Go.RowKit
theorem gr_of_below {w w':World} {row:Option Nat} (h:Below w.heap.size w w'):w.grownBy w' row:=⟨h.os,h.tape,h.output,h.size,fun i hi _=>h.block i hi⟩
theorem gr_set {w w':World} {g:Nat} (h:Below w.heap.size w w') (o:Nat) (u:Value):w.grownBy (w'.setCell ⟨g,o,none⟩ u) (some g) :=
  ⟨h.os,h.tape,h.output,by simp [World.setCell];exact h.size,fun i hi hn=>by rw [Below.heap_setCell w' ⟨g,o,none⟩ u i (fun e=>hn (by rw [e]))];exact h.block i hi⟩
set_option maxRecDepth 100000 in
set_option maxHeartbeats 1000000 in
theorem teller1_any (c:Ch) (v x:Int) (g1 g2:Nat) (v2:Value) (lo:Nat) (w:World) (h:OInts w lo v2 c.words) (c1:w.cell? ⟨g1,0,none⟩=some v2) (c2:w.cell? ⟨g2,0,none⟩=some (.int .i64 v)) (hm:c.words.length≤1099511627776) :
    Calls Tryz.prog 132 #[.int .i64 x,.pointer (some ⟨g1,0,none⟩),.pointer (some ⟨g2,0,none⟩)] w fun r w'=>r=.returned (.bool (tellB c v x))∧OInts w' lo v2 (tellC c v x).words∧w.grownBy w' v2.ownBlock:=by
  have l1:=World.block_lt_of_cell? w _ c1
  have l2:=World.block_lt_of_cell? w _ c2
  simp only at l1 l2
  by_cases hh:hasW c v=true
  · obtain ⟨a1,a2⟩:=hasW_iff.1 hh
    obtain ⟨i,rfl⟩:∃ i:Nat,v=(i:Int)+1:=⟨(v - 1).toNat,by omega⟩
    have hi:i<c.words.length:=by omega
    obtain ⟨g,cap,rfl,hlo,hlt,hcell,hfr⟩:=h.open1 hi
    have e:wordAt c ((i:Int)+1)=c.words.getD i 0:=by simp [wordAt]
    have HE:=Lib.hid e
    have HO:=Lib.hid h
    clear e h
    generalize c.words.getD i 0=y at hcell HE
    have hi0:(0:Int)≤(i:Int):=by omega
    have hi1:(i:Int)<(c.words.length:Int):=by omega
    go_enter Tryz.func132,Tryz.ntmps132
    go_wp2_with fail
    refine (isWaiter_any c _ _ cap _).mono ?_
    rintro _ w1 ⟨rfl,hb1⟩
    have d1:=(hb1.cell (p:=⟨g1,0,none⟩) l1).trans c1
    have d2:=(hb1.cell (p:=⟨g2,0,none⟩) l2).trans c2
    have d3:=(hb1.cell (p:=⟨g,i,none⟩) hlt).trans hcell
    have d4:=fun o=>(hb1.frozen (p:=⟨g,o,none⟩) hlt).trans (hfr o)
    have o1:=own_below HO.out hb1
    by_cases ht:tellB c ((i:Int)+1) x=true
    · have ht2:=ht
      unfold tellB at ht2
      rw [HE.out] at ht2
      simp [hh] at ht2
      obtain ⟨rfl,hin⟩:=ht2
      have HW:Hid ((tellC c ((i:Int)+1) x).words=c.words.set i x):=by unfold tellC;rw [if_pos ht];simp [Hid]
      have HT:=Lib.hid ht
      have hx:x=1∨x=2:=by simp [inB] at hin;omega
      have hx2:(x != 1 && x != 2)=false:=by rcases hx with rfl|rfl <;> rfl
      clear ht HE hin
      rcases hx with rfl|rfl
      all_goals go_wp2
      all_goals go_ret
      all_goals exact ⟨ret_bool (by rw [HT.out]),by rw [HW.out];exact OInts.set o1 hi _,gr_set hb1 _ _⟩
    · have e1:tellB c ((i:Int)+1) x=false:=by simpa using ht
      have HT:=Lib.hid e1
      have HW:=Lib.hid (tellC_no e1)
      unfold tellB at e1
      rw [HE.out] at e1
      simp [hh] at e1
      clear HE ht
      by_cases hy:y=0
      · subst hy
        have hin:=e1 rfl
        have hx1:(x != 1)=true:=by simp [inB] at hin;simp;omega
        have hx2:(x != 2)=true:=by simp [inB] at hin;simp;omega
        clear e1 hin
        go_wp2
        go_ret
        exact ⟨ret_bool (by rw [HT.out]),by rw [HW.out];exact o1,gr_of_below hb1⟩
      · have hy2:(y != 0)=true:=by simpa using hy
        clear e1 hy
        go_wp2
        go_ret
        exact ⟨ret_bool (by rw [HT.out]),by rw [HW.out];exact o1,gr_of_below hb1⟩
  · have e1:=tellB_no1 (x:=x) (by simpa using hh)
    have HT:=Lib.hid e1
    have HW:=Lib.hid (tellC_no e1)
    clear e1
    have HO:=Lib.hid h
    obtain ⟨a2,q2,rfl,_⟩:=h.seg
    clear h
    go_enter Tryz.func132,Tryz.ntmps132
    go_wp2_with fail
    refine (isWaiter_any c _ _ q2 _).mono ?_
    rintro _ w1 ⟨rfl,hb1⟩
    have o1:=own_below HO.out hb1
    go_wp2
    go_ret
    exact ⟨ret_bool (by rw [HT.out]),by rw [HW.out];exact o1,gr_of_below hb1⟩
/- What is answered to a telling and to a waiter. -/
def told (c:Ch) (v x:Int):Ch:=if chanOk c then tellC c v x else Ch.zero
def toldB (c:Ch) (v x:Int):Bool:=chanOk c && tellB c v x
def waitC (c:Ch):Ch:=if chanOk c then (if 80≤c.words.length then c else { c with words:=c.words ++ [0] }) else Ch.zero
def waitN (c:Ch):Int:=if chanOk c then (if 80≤c.words.length then 0 else c.words.length+1) else 0
theorem told_no {c:Ch} {v x:Int} (h:chanOk c=false):told c v x=Ch.zero∧toldB c v x=false:=by simp [told,toldB,h]
theorem told_yes {c:Ch} {v x:Int} (h:chanOk c=true):told c v x=tellC c v x∧toldB c v x=tellB c v x:=by simp [told,toldB,h]
theorem tellC_cells (c:Ch) (v x:Int):(tellC c v x).cells=c.cells∧(tellC c v x).cap=c.cap∧(tellC c v x).sent=c.sent∧(tellC c v x).got=c.got∧(tellC c v x).fin=c.fin:=by unfold tellC;split <;> simp
end Go.Proofs.YtkiingmgpobgnaaGreat
set_option linter.unusedSimpArgs false
set_option linter.unusedVariables false
namespace Go.Proofs.YtkiingmgpobgnaaGreat
open Go.RowKit
set_option linter.unusedSimpArgs false
theorem teller_any (a:Option Addr) (n p:Nat) (v:Int) (w:World) :
    Calls Tryz.prog 131 #[.slice a n p,.int .i64 v] w fun r w'=>r=.returned (.func (.func 132) #[] #[.pointer (some ⟨w.heap.size,0,none⟩),.pointer (some ⟨w.heap.size+1,0,none⟩)])∧w'.cell? ⟨w.heap.size,0,none⟩=some (.slice a n p)∧w'.cell? ⟨w.heap.size+1,0,none⟩=some (.int .i64 v)∧Below w.heap.size w w':=by
  go_enter Tryz.func131,Tryz.ntmps131
  go_wp2
  go_ret
  exact ⟨rfl,by simp [go_sem],by simp [go_sem],by exact zB⟩
set_option maxRecDepth 100000 in
set_option maxHeartbeats 1000000 in
theorem told_any (c:Ch) (v x:Int) (a b:Option Addr) (p q:Nat) (w:World) (h1:Seg w w.heap.size a c.cells.length 3 (cellF c.cells)) (z1:a=none→p=0) (h2:Seg w w.heap.size b c.words.length 1 (intF c.words)) (z2:b=none→q=0) (m1:c.cells.length≤1099511627776) (m2:c.words.length≤1099511627776) :
    Calls Tryz.prog 126 #[.agg #[.int .i64 c.cap,.int .i64 c.sent,.int .i64 c.got,.int .i64 c.fin,.slice a c.cells.length p,.slice b c.words.length q],.int .i64 v,.int .i64 x] w fun r w' =>
      (∃ v1 v2,r=.returned (.tuple #[.agg #[.int .i64 (told c v x).cap,.int .i64 (told c v x).sent,.int .i64 (told c v x).got,.int .i64 (told c v x).fin,v1,v2],.bool (toldB c v x)])∧OCells w' w.heap.size v1 (told c v x).cells∧OInts w' w.heap.size v2 (told c v x).words)∧Below w.heap.size w w':=by
  have H1:=Lib.hid h1
  have H2:=Lib.hid h2
  have Z1:=Lib.hid z1
  have Z2:=Lib.hid z2
  have n1:c.cells.length≤maxLen:=by unfold maxLen;omega
  have n2:c.words.length≤maxLen:=by unfold maxLen;omega
  clear h1 h2 z1 z2
  by_cases hc:chanOk c=true
  · obtain ⟨e1,e2⟩:=told_yes (v:=v) (x:=x) hc
    obtain ⟨f1,f2,f3,f4,f5⟩:=tellC_cells c v x
    have E:=Lib.hid (And.intro e1 e2)
    have FF:=Lib.hid (tellC_cells c v x)
    clear e1 e2 f1 f2 f3 f4 f5
    go_enter Tryz.func126,Tryz.ntmps126
    go_wp2_with fail;refine bHit w (by exact zB) fun bb=>?_;refine (chanOk_any c a b p q _ ((H1.out.below bb).more bb.size) ((H2.out.below bb).more bb.size) n1 n2).mono ?_;rintro _ w1 ⟨rfl,hbw1⟩;have hCw1:Below w.heap.size w w1:=bT bb hbw1;have hsw1:=hbw1.size;(try simp at hsw1);have zz:=And.intro (fun o=>hbw1.cell (p:=⟨w.heap.size+1,o,none⟩) (by (try simp) <;> omega)) <| And.intro (fun o=>hbw1.frozen (p:=⟨w.heap.size+1,o,none⟩) (by (try simp) <;> omega)) <| And.intro (fun o=>hbw1.cell (p:=⟨w.heap.size,o,none⟩) (by (try simp) <;> omega)) <| fun o=>hbw1.frozen (p:=⟨w.heap.size,o,none⟩) (by (try simp) <;> omega);(try simp [go_sem] at zz);(try clear x_wp f_wp);(try clear x_w f_w);obtain ⟨x_wp,f_wp,x_w,f_w⟩:=zz;(try clear l_wp);have l_wp:w.heap.size+1<w1.heap.size:=(by omega);(try clear l_w);have l_w:w.heap.size<w1.heap.size:=(by omega);clear hbw1 bb
    rw [hc]
    go_wp2_with fail;refine bHit w (by exact zB) fun bb=>?_;refine (copied_any c a b p q _ ((H1.out.below bb).more bb.size) Z1.out ((H2.out.below bb).more bb.size) Z2.out m1 m2).mono ?_;rintro _ w2 ⟨⟨v1,v2,rfl,o1,o2⟩,hbw2⟩;have hCw2:Below w.heap.size w w2:=bT bb hbw2;have hsw2:=hbw2.size;(try simp at hsw2);have zz:=And.intro (fun o=>hbw2.cell (p:=⟨w.heap.size+1,o,none⟩) (by (try simp) <;> omega)) <| And.intro (fun o=>hbw2.frozen (p:=⟨w.heap.size+1,o,none⟩) (by (try simp) <;> omega)) <| And.intro (fun o=>hbw2.cell (p:=⟨w.heap.size,o,none⟩) (by (try simp) <;> omega)) <| fun o=>hbw2.frozen (p:=⟨w.heap.size,o,none⟩) (by (try simp) <;> omega);(first|simp [go_sem,x_wp,f_wp,x_w,f_w,l_w,l_wp] at zz|simp [go_sem,x_wp,x_w,l_w,l_wp] at zz|simp [go_sem] at zz|skip);(try clear x_wp f_wp);(try clear x_w f_w);obtain ⟨x_wp,f_wp,x_w,f_w⟩:=zz;(try clear l_wp);have l_wp:w.heap.size+1<w2.heap.size:=(by omega);(try clear l_w);have l_w:w.heap.size<w2.heap.size:=(by omega);clear hbw2 bb
    try simp at o1 o2
    have O1:=Lib.hid o1
    have O2:=Lib.hid o2
    obtain ⟨va,vc,rfl,_⟩:=OCells.seg o1
    obtain ⟨vb,vd,rfl,_⟩:=OInts.seg o2
    clear o1 o2
    have o1:=O1.out
    have o2:=O2.out
    go_wp2_with fail;refine bHit w (by exact zB) fun bb=>?_;refine bHit w2 (by exact zB) fun bk=>?_;refine (teller_any _ _ _ _ _).mono ?_;rintro _ w3 ⟨rfl,d1,d2,hbw3⟩;have hCw3:Below w.heap.size w w3:=bT bb hbw3;have hsw3:=hbw3.size;(try simp at hsw3);have zz:=And.intro (fun o=>hbw3.cell (p:=⟨w2.heap.size,o,none⟩) (by (try simp) <;> omega)) <| And.intro (fun o=>hbw3.frozen (p:=⟨w2.heap.size,o,none⟩) (by (try simp) <;> omega)) <| And.intro (fun o=>hbw3.cell (p:=⟨w.heap.size+1,o,none⟩) (by (try simp) <;> omega)) <| And.intro (fun o=>hbw3.frozen (p:=⟨w.heap.size+1,o,none⟩) (by (try simp) <;> omega)) <| And.intro (fun o=>hbw3.cell (p:=⟨w.heap.size,o,none⟩) (by (try simp) <;> omega)) <| fun o=>hbw3.frozen (p:=⟨w.heap.size,o,none⟩) (by (try simp) <;> omega);(first|simp [go_sem,x_wp,f_wp,x_w,f_w,l_w,l_wp] at zz|simp [go_sem,x_wp,x_w,l_w,l_wp] at zz|simp [go_sem] at zz|skip);(try clear x_w2 f_w2);(try clear x_wp f_wp);(try clear x_w f_w);obtain ⟨x_w2,f_w2,x_wp,f_wp,x_w,f_w⟩:=zz;(try clear l_w2);have l_w2:w2.heap.size<w3.heap.size:=(by omega);(try clear l_wp);have l_wp:w.heap.size+1<w3.heap.size:=(by omega);(try clear l_w);have l_w:w.heap.size<w3.heap.size:=(by omega);have hKw3:Below w2.heap.size w2 w3:=bT bk hbw3;clear hbw3 bb bk
    simp at d1 d2
    have q1:=own_below o1 hKw3
    have q2:=own_below o2 hKw3
    have b2:=fun j (hj:(Value.slice vb c.words.length vd).ownBlock=some j)=>o2.lt j hj
    have nw1:some (w.heap.size+1)≠(Value.slice vb c.words.length vd).ownBlock:=fun e=>by have:=(b2 _ e.symm).1;omega
    have nw2:some w2.heap.size≠(Value.slice vb c.words.length vd).ownBlock:=fun e=>by have:=(b2 _ e.symm).2;omega
    have nw0:some w.heap.size≠(Value.slice vb c.words.length vd).ownBlock:=fun e=>by have:=(b2 _ e.symm).1;omega
    go_wp2_with fail
    go_region_with (first|(refine (teller1_any c v x (w2.heap.size+1) (w2.heap.size+1+1) (.slice vb c.words.length vd) w1.heap.size _ (by exact zO q2 o2) (by simpa [go_sem] using d1) (by simpa [go_sem] using d2) m2).mono ?_;rintro _ w4 ⟨rfl,p2,hg4⟩;have hsw4:=hg4.size;(try (simp at hsw4));have zz:=And.intro (fun o=>hg4.cell_far ⟨w2.heap.size,o,none⟩ (by (try simp) <;> omega) (by assumption)) <| And.intro (fun o=>hg4.frozen_far ⟨w2.heap.size,o,none⟩ (by (try simp) <;> omega) (by assumption)) <| And.intro (fun o=>hg4.cell_far ⟨w.heap.size+1,o,none⟩ (by (try simp) <;> omega) (by assumption)) <| And.intro (fun o=>hg4.frozen_far ⟨w.heap.size+1,o,none⟩ (by (try simp) <;> omega) (by assumption)) <| And.intro (fun o=>hg4.cell_far ⟨w.heap.size,o,none⟩ (by (try simp) <;> omega) (by assumption)) <| fun o=>hg4.frozen_far ⟨w.heap.size,o,none⟩ (by (try simp) <;> omega) (by assumption);(first|simp [go_sem,x_w2,f_w2,x_wp,f_wp,x_w,f_w,l_w,l_w2,l_wp] at zz|simp [go_sem,x_w2,x_wp,x_w,l_w,l_w2,l_wp] at zz|simp [go_sem] at zz|skip);(try clear x_w2 f_w2);(try clear x_wp f_wp);(try clear x_w f_w);obtain ⟨x_w2,f_w2,x_wp,f_wp,x_w,f_w⟩:=zz;(try clear l_w2);have l_w2:w2.heap.size<w4.heap.size:=(by omega);(try clear l_wp);have l_wp:w.heap.size+1<w4.heap.size:=(by omega);(try clear l_w);have l_w:w.heap.size<w4.heap.size:=(by omega);have p1:=(World.ownsRow.drew q1).kept hg4 (own_off q1 q2);have hB4:Below w.heap.size w w4:=bOwn (by exact zB) hg4 (by (try simp) <;> omega) (fun k hk=>by have:=(b2 k hk).1;omega)))
    all_goals go_wp2
    all_goals (obtain ⟨e1,e2⟩:=E.out;obtain ⟨f1,f2,f3,f4,f5⟩:=FF.out;rw [e1,e2,f1,f2,f3,f4,f5])
    all_goals (refine bodyPost_ret (v:=.tuple #[.agg #[.int .i64 c.cap,.int .i64 c.sent,.int .i64 c.got,.int .i64 c.fin,.slice va c.cells.length vc,.slice vb c.words.length vd],.bool (tellB c v x)]) (by simp [results,Tryz.results126,go_sem, *]) rfl ⟨⟨_,_,rfl,own_lo (lo:=w1.heap.size) ?_ (by omega),own_lo (lo:=w1.heap.size) ?_ (by omega)⟩,by exact zB⟩)
    all_goals (have P1:OCells _ _ _ _:=p1)
    all_goals first|(repeat first|with_reducible exact p2|with_reducible refine oAl ?_ _|with_reducible refine oDr ?_|((with_reducible first|refine own_store ?_ ?_ _|refine own_box ?_ ?_);rotate_left;focus first|(refine own_ne o2 ?_;(try dsimp only);omega)|(refine own_ne' o2 ?_;(try dsimp only);omega)))|skip
    all_goals first|(repeat first|with_reducible exact p1|with_reducible refine oAl ?_ _|with_reducible refine oDr ?_|((with_reducible first|refine own_store ?_ ?_ _|refine own_box ?_ ?_);rotate_left;focus first|(refine own_ne o1 ?_;(try dsimp only);omega)|(refine own_ne' o1 ?_;(try dsimp only);omega)))|skip
  · have hc2:chanOk c=false:=by simpa using hc
    obtain ⟨e1,e2⟩:=told_no (v:=v) (x:=x) hc2
    have E:=Lib.hid (And.intro e1 e2)
    clear e1 e2 hc
    go_enter Tryz.func126,Tryz.ntmps126
    go_wp2_with fail;refine bHit w (by exact zB) fun bb=>?_;refine (chanOk_any c a b p q _ ((H1.out.below bb).more bb.size) ((H2.out.below bb).more bb.size) n1 n2).mono ?_;rintro _ w1 ⟨rfl,hbw1⟩;have hCw1:Below w.heap.size w w1:=bT bb hbw1;have hsw1:=hbw1.size;(try simp at hsw1);have zz:=And.intro (fun o=>hbw1.cell (p:=⟨w.heap.size+1,o,none⟩) (by (try simp) <;> omega)) <| And.intro (fun o=>hbw1.frozen (p:=⟨w.heap.size+1,o,none⟩) (by (try simp) <;> omega)) <| And.intro (fun o=>hbw1.cell (p:=⟨w.heap.size,o,none⟩) (by (try simp) <;> omega)) <| fun o=>hbw1.frozen (p:=⟨w.heap.size,o,none⟩) (by (try simp) <;> omega);(try simp [go_sem] at zz);(try clear x_wp f_wp);(try clear x_w f_w);obtain ⟨x_wp,f_wp,x_w,f_w⟩:=zz;(try clear l_wp);have l_wp:w.heap.size+1<w1.heap.size:=(by omega);(try clear l_w);have l_w:w.heap.size<w1.heap.size:=(by omega);clear hbw1 bb
    rw [hc2]
    go_wp2
    rw [E.out.1,E.out.2]
    refine bodyPost_ret (v:=.tuple #[.agg #[.int .i64 Ch.zero.cap,.int .i64 Ch.zero.sent,.int .i64 Ch.zero.got,.int .i64 Ch.zero.fin,.slice none 0 0,.slice none 0 0],.bool false]) (by simp [results,Tryz.results126,go_sem,Ch.zero, *]) rfl ⟨⟨_,_,rfl,World.ownsRow_nil _ _ _ _,World.ownsRow_nil _ _ _ _⟩,by exact zB⟩
end Go.Proofs.YtkiingmgpobgnaaGreat
set_option linter.unusedSimpArgs false
set_option linter.unusedVariables false
namespace Go.Proofs.YtkiingmgpobgnaaGreat
open Go.RowKit
set_option linter.unusedSimpArgs false
theorem waitC_no {c:Ch} (h:chanOk c=false):waitC c=Ch.zero∧waitN c=0:=by simp [waitC,waitN,h]
theorem waitC_full {c:Ch} (h:chanOk c=true) (h2:80≤c.words.length):waitC c=c∧waitN c=0:=by simp [waitC,waitN,h,h2]
theorem waitC_more {c:Ch} (h:chanOk c=true) (h2:¬ 80≤c.words.length):waitC c={ c with words:=c.words ++ [0] }∧waitN c=c.words.length+1:=by simp [waitC,waitN,h,h2]
set_option maxRecDepth 100000 in
set_option maxHeartbeats 1000000 in
theorem waiter_any (c:Ch) (a b:Option Addr) (p q:Nat) (w:World) (h1:Seg w w.heap.size a c.cells.length 3 (cellF c.cells)) (z1:a=none→p=0) (h2:Seg w w.heap.size b c.words.length 1 (intF c.words)) (z2:b=none→q=0) (m1:c.cells.length≤1099511627776) (m2:c.words.length≤1099511627776) :
    Calls Tryz.prog 130 #[.agg #[.int .i64 c.cap,.int .i64 c.sent,.int .i64 c.got,.int .i64 c.fin,.slice a c.cells.length p,.slice b c.words.length q]] w fun r w' =>
      (∃ v1 v2,r=.returned (.tuple #[.agg #[.int .i64 (waitC c).cap,.int .i64 (waitC c).sent,.int .i64 (waitC c).got,.int .i64 (waitC c).fin,v1,v2],.int .i64 (waitN c)])∧OCells w' w.heap.size v1 (waitC c).cells∧OInts w' w.heap.size v2 (waitC c).words)∧Below w.heap.size w w':=by
  have H1:=Lib.hid h1
  have H2:=Lib.hid h2
  have Z1:=Lib.hid z1
  have Z2:=Lib.hid z2
  have n1:c.cells.length≤maxLen:=by unfold maxLen;omega
  have n2:c.words.length≤maxLen:=by unfold maxLen;omega
  clear h1 h2 z1 z2
  by_cases hc:chanOk c=true
  · by_cases hf:80≤c.words.length
    · have hf80:c.words.length=80:=by
        have:=hc
        simp [chanOk,chanHead] at this
        omega
      have E:=Lib.hid (waitC_full hc hf)
      have hfi:(80:Int)≤(c.words.length:Int):=by omega
      have HFE:Hid ((c.words.length:Int)=80):=Lib.hid (by omega)
      clear hf80
      go_enter Tryz.func130,Tryz.ntmps130
      go_wp2_with fail;refine bHit w (by exact zB) fun bb=>?_;refine (chanOk_any c a b p q _ ((H1.out.below bb).more bb.size) ((H2.out.below bb).more bb.size) n1 n2).mono ?_;rintro _ w1 ⟨rfl,hbw1⟩;have hCw1:Below w.heap.size w w1:=bT bb hbw1;have hsw1:=hbw1.size;(try simp at hsw1);have zz:=And.intro (fun o=>hbw1.cell (p:=⟨w.heap.size+1,o,none⟩) (by (try simp) <;> omega)) <| And.intro (fun o=>hbw1.frozen (p:=⟨w.heap.size+1,o,none⟩) (by (try simp) <;> omega)) <| And.intro (fun o=>hbw1.cell (p:=⟨w.heap.size,o,none⟩) (by (try simp) <;> omega)) <| fun o=>hbw1.frozen (p:=⟨w.heap.size,o,none⟩) (by (try simp) <;> omega);(try simp [go_sem] at zz);(try clear x_wp f_wp);(try clear x_w f_w);obtain ⟨x_wp,f_wp,x_w,f_w⟩:=zz;(try clear l_wp);have l_wp:w.heap.size+1<w1.heap.size:=(by omega);(try clear l_w);have l_w:w.heap.size<w1.heap.size:=(by omega);clear hbw1 bb
      rw [hc]
      go_wp2_with fail;refine bHit w (by exact zB) fun bb=>?_;refine (copied_any c a b p q _ ((H1.out.below bb).more bb.size) Z1.out ((H2.out.below bb).more bb.size) Z2.out m1 m2).mono ?_;rintro _ w2 ⟨⟨v1,v2,rfl,o1,o2⟩,hbw2⟩;have hCw2:Below w.heap.size w w2:=bT bb hbw2;have hsw2:=hbw2.size;(try simp at hsw2);have zz:=And.intro (fun o=>hbw2.cell (p:=⟨w.heap.size+1,o,none⟩) (by (try simp) <;> omega)) <| And.intro (fun o=>hbw2.frozen (p:=⟨w.heap.size+1,o,none⟩) (by (try simp) <;> omega)) <| And.intro (fun o=>hbw2.cell (p:=⟨w.heap.size,o,none⟩) (by (try simp) <;> omega)) <| fun o=>hbw2.frozen (p:=⟨w.heap.size,o,none⟩) (by (try simp) <;> omega);(first|simp [go_sem,x_wp,f_wp,x_w,f_w,l_w,l_wp] at zz|simp [go_sem,x_wp,x_w,l_w,l_wp] at zz|simp [go_sem] at zz|skip);(try clear x_wp f_wp);(try clear x_w f_w);obtain ⟨x_wp,f_wp,x_w,f_w⟩:=zz;(try clear l_wp);have l_wp:w.heap.size+1<w2.heap.size:=(by omega);(try clear l_w);have l_w:w.heap.size<w2.heap.size:=(by omega);clear hbw2 bb
      try simp at o1 o2
      have O1:=Lib.hid o1
      have O2:=Lib.hid o2
      obtain ⟨va,vc,rfl,_⟩:=OCells.seg o1
      obtain ⟨vb,vd,rfl,_⟩:=OInts.seg o2
      clear o1 o2
      have hfe:=HFE.out
      go_wp2_with fail
      have o1:=O1.out
      have o2:=O2.out
      obtain ⟨e1,e2⟩:=E.out
      rw [e1,e2]
      refine bodyPost_ret (v:=.tuple #[.agg #[.int .i64 c.cap,.int .i64 c.sent,.int .i64 c.got,.int .i64 c.fin,.slice va c.cells.length vc,.slice vb c.words.length vd],.int .i64 0]) (by simp [results,Tryz.results130,go_sem, *]) rfl ⟨⟨_,_,rfl,own_lo (lo:=w1.heap.size) ?_ (by omega),own_lo (lo:=w1.heap.size) ?_ (by omega)⟩,by exact zB⟩
      · exact zO o1 o1
      · exact zO o2 o2
    · have E:=Lib.hid (waitC_more hc hf)
      have hfi:¬ (80:Int)≤(c.words.length:Int):=by omega
      have hfe:(c.words.length:Int)≠80:=by omega
      obtain ⟨i0,hi0,hz0,hz1,hz2⟩:=info_parts infoInt
      go_enter Tryz.func130,Tryz.ntmps130
      go_wp2_with fail;refine bHit w (by exact zB) fun bb=>?_;refine (chanOk_any c a b p q _ ((H1.out.below bb).more bb.size) ((H2.out.below bb).more bb.size) n1 n2).mono ?_;rintro _ w1 ⟨rfl,hbw1⟩;have hCw1:Below w.heap.size w w1:=bT bb hbw1;have hsw1:=hbw1.size;(try simp at hsw1);have zz:=And.intro (fun o=>hbw1.cell (p:=⟨w.heap.size+1,o,none⟩) (by (try simp) <;> omega)) <| And.intro (fun o=>hbw1.frozen (p:=⟨w.heap.size+1,o,none⟩) (by (try simp) <;> omega)) <| And.intro (fun o=>hbw1.cell (p:=⟨w.heap.size,o,none⟩) (by (try simp) <;> omega)) <| fun o=>hbw1.frozen (p:=⟨w.heap.size,o,none⟩) (by (try simp) <;> omega);(try simp [go_sem] at zz);(try clear x_wp f_wp);(try clear x_w f_w);obtain ⟨x_wp,f_wp,x_w,f_w⟩:=zz;(try clear l_wp);have l_wp:w.heap.size+1<w1.heap.size:=(by omega);(try clear l_w);have l_w:w.heap.size<w1.heap.size:=(by omega);clear hbw1 bb
      rw [hc]
      go_wp2_with fail;refine bHit w (by exact zB) fun bb=>?_;refine (copied_any c a b p q _ ((H1.out.below bb).more bb.size) Z1.out ((H2.out.below bb).more bb.size) Z2.out m1 m2).mono ?_;rintro _ w2 ⟨⟨v1,v2,rfl,o1,o2⟩,hbw2⟩;have hCw2:Below w.heap.size w w2:=bT bb hbw2;have hsw2:=hbw2.size;(try simp at hsw2);have zz:=And.intro (fun o=>hbw2.cell (p:=⟨w.heap.size+1,o,none⟩) (by (try simp) <;> omega)) <| And.intro (fun o=>hbw2.frozen (p:=⟨w.heap.size+1,o,none⟩) (by (try simp) <;> omega)) <| And.intro (fun o=>hbw2.cell (p:=⟨w.heap.size,o,none⟩) (by (try simp) <;> omega)) <| fun o=>hbw2.frozen (p:=⟨w.heap.size,o,none⟩) (by (try simp) <;> omega);(first|simp [go_sem,x_wp,f_wp,x_w,f_w,l_w,l_wp] at zz|simp [go_sem,x_wp,x_w,l_w,l_wp] at zz|simp [go_sem] at zz|skip);(try clear x_wp f_wp);(try clear x_w f_w);obtain ⟨x_wp,f_wp,x_w,f_w⟩:=zz;(try clear l_wp);have l_wp:w.heap.size+1<w2.heap.size:=(by omega);(try clear l_w);have l_w:w.heap.size<w2.heap.size:=(by omega);clear hbw2 bb
      try simp at o1 o2
      have O1:=Lib.hid o1
      have O2:=Lib.hid o2
      obtain ⟨va,vc,rfl,_⟩:=OCells.seg o1
      obtain ⟨vb,vd,rfl,_⟩:=OInts.seg o2
      clear o1 o2
      have o1:=O1.out
      have o2:=O2.out
      have b2:=fun j (hj:(Value.slice vb c.words.length vd).ownBlock=some j)=>o2.lt j hj
      have mw:∀ j,j<w1.heap.size∨w2.heap.size≤j→some j≠(Value.slice vb c.words.length vd).ownBlock:=fun j hj e=>by have:=b2 _ e.symm;omega
      have mw0:=mw w.heap.size (by omega)
      have mw1:=mw (w.heap.size+1) (by omega)
      have mw2:=mw w2.heap.size (by omega)
      go_wp2_with (at_builtin;refine wpList_append_lies _ rfl _ _ 25 rfl w1.heap.size 2 i0 _ 1 8 Tryz.underlying25 hi0 hz0 hz1 hz2 rfl (by decide) (.slice vb c.words.length vd) c.words.length (ints c.words) rfl (World.ownsRow.alloc (World.ownsRow.alloc o2 _) _) ⟨w2.heap.size+1,0,none⟩ 1 1 [.int .i64 0] rfl rfl ?c2 (by simp [Value.oneCell']) (by omega) ?c3 ?c4 ?c5 (w2.heap.size+1+1) (by simp) ?_)
      case c2=>have:=cell_one_new (w2.alloc (.cells #[.int .i64 c.cap,.int .i64 c.sent,.int .i64 c.got,.int .i64 c.fin,.slice va c.cells.length vc,.slice vb c.words.length vd] 27)) (.int .i64 0) 2;simpa using this
      case c3=>unfold maxLen;omega
      case c4=>omega
      case c5=>simp;omega
      intro g4b q4 w4 o4 g4 hat hlt4
      have l_w2:w2.heap.size<w2.heap.size+1:=by omega
      have hsw4:=g4.size;(try (simp at hsw4));have zz:=And.intro (fun o=>g4.cell_far ⟨w2.heap.size,o,none⟩ (by (try simp) <;> omega) (by assumption)) <| And.intro (fun o=>g4.frozen_far ⟨w2.heap.size,o,none⟩ (by (try simp) <;> omega) (by assumption)) <| And.intro (fun o=>g4.cell_far ⟨w.heap.size+1,o,none⟩ (by (try simp) <;> omega) (by assumption)) <| And.intro (fun o=>g4.frozen_far ⟨w.heap.size+1,o,none⟩ (by (try simp) <;> omega) (by assumption)) <| And.intro (fun o=>g4.cell_far ⟨w.heap.size,o,none⟩ (by (try simp) <;> omega) (by assumption)) <| fun o=>g4.frozen_far ⟨w.heap.size,o,none⟩ (by (try simp) <;> omega) (by assumption);(first|simp [go_sem,x_wp,f_wp,x_w,f_w,l_w,l_w2,l_wp] at zz|simp [go_sem,x_wp,x_w,l_w,l_w2,l_wp] at zz|simp [go_sem] at zz|skip);(try clear x_w2 f_w2);(try clear x_wp f_wp);(try clear x_w f_w);obtain ⟨x_w2,f_w2,x_wp,f_wp,x_w,f_w⟩:=zz;(try clear l_w2);have l_w2:w2.heap.size<w4.heap.size:=(by omega);(try clear l_wp);have l_wp:w.heap.size+1<w4.heap.size:=(by omega);(try clear l_w);have l_w:w.heap.size<w4.heap.size:=(by omega)
      have p1:OCells w4 w1.heap.size (.slice va c.cells.length vc) c.cells:=((World.ownsRow.alloc (World.ownsRow.alloc o1 _) _)).kept g4 (own_off o1 o2)
      have p2:OInts w4 w1.heap.size (.slice (some ⟨g4b,0,none⟩) (c.words.length+1) q4) (c.words ++ [0]):=OInts.snoc o4
      have hgb:∀ j,j<w1.heap.size∨(w2.heap.size≤j∧j<w2.heap.size+1)→(Value.slice (some ⟨g4b,0,none⟩) (c.words.length+1) q4).ownBlock≠some j:=fun j h1 e=>by
        have e2:g4b=j:=by simpa [Value.ownBlock] using e
        rcases hat with hat|hat
        · have:=b2 _ hat;omega
        · omega
      have hB4:Below w.heap.size w w4:=bOwn (by exact zB) g4 (by (try simp) <;> omega) (fun k hk=>by have:=(b2 k hk).1;omega)
      clear o4 g4
      go_wp2_with fail
      go_region
      all_goals go_wp2_with fail
      all_goals (obtain ⟨e1,e2⟩:=E.out;rw [e1,e2])
      all_goals refine bodyPost_ret (v:=.tuple #[.agg #[.int .i64 c.cap,.int .i64 c.sent,.int .i64 c.got,.int .i64 c.fin,.slice va c.cells.length vc,.slice (some ⟨g4b,0,none⟩) (c.words.length+1) q4],.int .i64 (c.words.length+1)]) (by simp [results,Tryz.results130,go_sem, *]) rfl ⟨⟨_,_,rfl,own_lo (lo:=w1.heap.size) ?_ (by omega),own_lo (lo:=w1.heap.size) ?_ (by omega)⟩,by exact zB⟩
      all_goals first|(repeat first|with_reducible exact p1|with_reducible refine oAl ?_ _|with_reducible refine oDr ?_|((with_reducible first|refine own_store ?_ ?_ _|refine own_box ?_ ?_);rotate_left;focus first|(refine own_ne o1 ?_;(try dsimp only);omega)|(refine own_ne' o1 ?_;(try dsimp only);omega)))|skip
      all_goals (first|(repeat first|with_reducible exact p2|with_reducible refine oAl ?_ _|with_reducible refine oDr ?_|((with_reducible first|refine own_store ?_ ?_ _|refine own_box ?_ ?_);rotate_left;focus first|(refine own_ne p2 ?_;(try dsimp only);omega)|(refine own_ne' p2 ?_;(try dsimp only);omega)|exact hgb _ (by (try dsimp only) <;> omega)))|skip)
  · have hc2:chanOk c=false:=by simpa using hc
    have E:=Lib.hid (waitC_no hc2)
    clear hc
    go_enter Tryz.func130,Tryz.ntmps130
    go_wp2_with fail;refine bHit w (by exact zB) fun bb=>?_;refine (chanOk_any c a b p q _ ((H1.out.below bb).more bb.size) ((H2.out.below bb).more bb.size) n1 n2).mono ?_;rintro _ w1 ⟨rfl,hbw1⟩;have hCw1:Below w.heap.size w w1:=bT bb hbw1;have hsw1:=hbw1.size;(try simp at hsw1);have zz:=And.intro (fun o=>hbw1.cell (p:=⟨w.heap.size+1,o,none⟩) (by (try simp) <;> omega)) <| And.intro (fun o=>hbw1.frozen (p:=⟨w.heap.size+1,o,none⟩) (by (try simp) <;> omega)) <| And.intro (fun o=>hbw1.cell (p:=⟨w.heap.size,o,none⟩) (by (try simp) <;> omega)) <| fun o=>hbw1.frozen (p:=⟨w.heap.size,o,none⟩) (by (try simp) <;> omega);(try simp [go_sem] at zz);(try clear x_wp f_wp);(try clear x_w f_w);obtain ⟨x_wp,f_wp,x_w,f_w⟩:=zz;(try clear l_wp);have l_wp:w.heap.size+1<w1.heap.size:=(by omega);(try clear l_w);have l_w:w.heap.size<w1.heap.size:=(by omega);clear hbw1 bb
    rw [hc2]
    go_wp2
    rw [E.out.1,E.out.2]
    refine bodyPost_ret (v:=.tuple #[.agg #[.int .i64 Ch.zero.cap,.int .i64 Ch.zero.sent,.int .i64 Ch.zero.got,.int .i64 Ch.zero.fin,.slice none 0 0,.slice none 0 0],.int .i64 0]) (by simp [results,Tryz.results130,go_sem,Ch.zero, *]) rfl ⟨⟨_,_,rfl,World.ownsRow_nil _ _ _ _,World.ownsRow_nil _ _ _ _⟩,by exact zB⟩
end Go.Proofs.YtkiingmgpobgnaaGreat
set_option linter.unusedSimpArgs false
set_option linter.unusedVariables false
namespace Go.Proofs.YtkiingmgpobgnaaGreat
open Go.RowKit
set_option linter.unusedSimpArgs false
attribute [local simp] bx_size
attribute [local go_sem ↓] zeroHand zeroChan toLHand toLChan toVHand toVChan storeHand storeChan storeHandC storeChanC
set_option maxRecDepth 100000 in
set_option maxHeartbeats 2000000 in
theorem sendNumber_a (c:Ch) (h:Ha) (v1 v2:Value) (lo:Nat) (w:World) (h1:OCells w lo v1 c.cells) (h2:OInts w lo v2 c.words) (hs:c.sent=40) :
    Calls Tryz.prog 89 #[.agg (cvals c v1 v2),.agg (hvals h)] w fun r w'=>StepO w w' lo v1 v2 ((c,resting 4 0,true)) r:=by
  have b1:=fun j (hj:v1.ownBlock=some j)=>(h1.lt j hj).2
  have b2:=fun j (hj:v2.ownBlock=some j)=>(h2.lt j hj).2
  obtain ⟨a1,q1,rfl,_⟩:=h1.seg
  obtain ⟨a2,q2,rfl,_⟩:=h2.seg
  have O1:=Lib.hid h1
  have O2:=Lib.hid h2
  clear h1 h2
  have o1:=O1.out
  have o2:=O2.out
  go_enter Tryz.func89,Tryz.ntmps89
  go_wp2_with fail
  go_region_held3 (fun w'=>hp w' w.heap.size=some (.cells (cvals c (.slice a1 c.cells.length q1) (.slice a2 c.words.length q2)) 27)∧hp w' (w.heap.size+1)=some (.cells (hvals h) 31))
    (first|(simp [*,go_sem]))
    (first|((go_at_call 76;refine bHit w (by exact zB) fun bb=>?_;refine (resting_any _ _ _).mono ?_;rintro _ w1 ⟨rfl,hbw1⟩;have hCw1:Below w.heap.size w w1:=bT bb hbw1;have hsw1:=hbw1.size;(try simp at hsw1);have zz:=q4 hbw1 (b:=w.heap.size);(try simp [go_sem] at zz);(try clear z_wppp x_wppp f_wppp l_wppp);(try clear z_wpp x_wpp f_wpp l_wpp);(try clear z_wp x_wp f_wp l_wp);(try clear z_w x_w f_w l_w);obtain ⟨z_wppp,z_wpp,z_wp,z_w⟩:=zz;obtain ⟨x_wppp,f_wppp,l_wppp⟩:=bO z_wppp;obtain ⟨x_wpp,f_wpp,l_wpp⟩:=bO z_wpp;obtain ⟨x_wp,f_wp,l_wp⟩:=bO z_wp;obtain ⟨x_w,f_w,l_w⟩:=bO z_w;have hKw1:Below w.heap.size w w1:=hCw1;clear hbw1 bb);have p1:=own_below o1 hKw1;have p2:=own_below o2 hKw1))
  go_wp2
  refine bodyPost_ret (res_cct Tryz.results89 rfl (ldChan c (.slice a1 c.cells.length q1) (.slice a2 c.words.length q2) (by simp [go_sem, *] <;> rfl)) rfl (ldHand (resting 4 0) (by simp [go_sem, *] <;> first|rfl|simp [seenAs,anew,hci]))) rfl ⟨⟨_,_,rfl,?_,?_,fresh_refl _ _,fresh_refl _ _⟩,onlB (by exact zB)⟩
  · exact zO p1 o1
  · exact zO p2 o2
set_option maxRecDepth 100000 in
set_option maxHeartbeats 2000000 in
theorem sendNumber_b (c:Ch) (h:Ha) (v1 v2:Value) (lo:Nat) (w:World) (h1:OCells w lo v1 c.cells) (h2:OInts w lo v2 c.words) (hs:¬ c.sent=40) (hsr:0≤c.sent∧c.sent≤40) :
    Calls Tryz.prog 89 #[.agg (cvals c v1 v2),.agg (hvals h)] w fun r w'=>StepO w w' lo v1 v2 (({ c with sent:=c.sent+1 },{ h with cell:=c.sent,pos:=2 },true)) r:=by
  have b1:=fun j (hj:v1.ownBlock=some j)=>(h1.lt j hj).2
  have b2:=fun j (hj:v2.ownBlock=some j)=>(h2.lt j hj).2
  obtain ⟨a1,q1,rfl,_⟩:=h1.seg
  obtain ⟨a2,q2,rfl,_⟩:=h2.seg
  have O1:=Lib.hid h1
  have O2:=Lib.hid h2
  clear h1 h2
  have o1:=O1.out
  have o2:=O2.out
  go_enter Tryz.func89,Tryz.ntmps89
  go_wp2_with fail
  go_region_held3 (fun w'=>hp w' w.heap.size=some (.cells (cvals { c with sent:=c.sent+1 } (.slice a1 c.cells.length q1) (.slice a2 c.words.length q2)) 27)∧hp w' (w.heap.size+1)=some (.cells (hvals { h with cell:=c.sent }) 31))
    (first|(simp [*,go_sem]))
    (first|((go_at_call 105;refine bHit w (by exact zB) fun bb=>?_;refine (moved_any _ _ _).mono ?_;rintro _ w1 ⟨rfl,hbw1⟩;have hCw1:Below w.heap.size w w1:=bT bb hbw1;have hsw1:=hbw1.size;(try simp at hsw1);have zz:=q4 hbw1 (b:=w.heap.size);(try simp [go_sem] at zz);(try clear z_wppp x_wppp f_wppp l_wppp);(try clear z_wpp x_wpp f_wpp l_wpp);(try clear z_wp x_wp f_wp l_wp);(try clear z_w x_w f_w l_w);obtain ⟨z_wppp,z_wpp,z_wp,z_w⟩:=zz;obtain ⟨x_wppp,f_wppp,l_wppp⟩:=bO z_wppp;obtain ⟨x_wpp,f_wpp,l_wpp⟩:=bO z_wpp;obtain ⟨x_wp,f_wp,l_wp⟩:=bO z_wp;obtain ⟨x_w,f_w,l_w⟩:=bO z_w;have hKw1:Below w.heap.size w w1:=hCw1;clear hbw1 bb);have p1:=own_below o1 hKw1;have p2:=own_below o2 hKw1))
  go_wp2
  refine bodyPost_ret (res_cct Tryz.results89 rfl (ldChan { c with sent:=c.sent+1 } (.slice a1 c.cells.length q1) (.slice a2 c.words.length q2) (by simp [go_sem, *] <;> rfl)) rfl (ldHand { h with cell:=c.sent,pos:=2 } (by simp [go_sem, *] <;> first|rfl|simp [seenAs,anew,hci]))) rfl ⟨⟨_,_,rfl,?_,?_,fresh_refl _ _,fresh_refl _ _⟩,onlB (by exact zB)⟩
  · exact zO p1 o1
  · exact zO p2 o2
def lk6 (c:Ch) (h:Ha):St:=if (look6 c h).2 then (c,(look6 c h).1,true) else nothing
end Go.Proofs.YtkiingmgpobgnaaGreat
set_option linter.unusedSimpArgs false
set_option linter.unusedVariables false
namespace Go.Proofs.YtkiingmgpobgnaaGreat
open Go.RowKit
def upd {α:Type} (f:Nat→α) (k:Nat) (v:α):Nat→α:=fun j=>cond (Nat.beq j k) v (f j)
theorem upd_at {α:Type} (f:Nat→α) (k j:Nat) (v:α):upd f k v j=if j=k then v else f j:=by
  unfold upd
  by_cases h:j=k
  · subst h;simp
  · have:Nat.beq j k=false:=by cases hb:Nat.beq j k with
      | false=>rfl
      | true=>exact absurd (Nat.eq_of_beq_eq_true hb) h
    simp [this,h]
theorem nU {b:Bool} {P:Prop} (e:b=false) (h:b=true):P:=by rw [e] at h;cases h
def fillA (t:Array Value):List Nat→(Nat→Value)→Array Value
  | [],_=>t
  | d :: ds,s=>(fillA t ds s).setIfInBounds d (s d)
def fill (a:Act) (ds:List Nat) (s:Nat→Value):Act:=⟨fillA a.tmps ds s,a.defers⟩
theorem fillA_size (t:Array Value) (ds:List Nat) (s:Nat→Value):(fillA t ds s).size=t.size:=by
  induction ds with
  | nil=>rfl
  | cons d ds ih=>simp [fillA,ih]
theorem fillA_get (t:Array Value) (ds:List Nat) (s:Nat→Value) (k:Nat):(fillA t ds s)[k]?=if k ∈ ds then (t[k]?).map (fun _=>s k) else t[k]?:=by
  induction ds with
  | nil=>simp [fillA]
  | cons d ds ih =>
    simp only [fillA,Array.getElem?_setIfInBounds,fillA_size]
    by_cases h:d=k
    · subst h
      by_cases hl:d<t.size
      · simp [hl]
      · simp [hl]
    · have h2:¬ k=d:=fun e=>h e.symm
      simp only [h,if_false,List.mem_cons,h2,false_or]
      exact ih
theorem fill_self (a:Act) (ds:List Nat):fill a ds (fun k=>a.tmps.getD k undef)=a:=by
  unfold fill
  have:fillA a.tmps ds (fun k=>a.tmps.getD k undef)=a.tmps:=by
    apply Array.ext_getElem?
    intro k
    rw [fillA_get]
    by_cases hl:k<a.tmps.size
    · simp [hl]
    · simp [hl]
  rw [this]
/-- How many have not come up yet. -/
def left (l:Nat→Bool):Nat→Nat
  | 0=>0
  | n+1=>left l n+cond (l n) 0 1
theorem left_far (l:Nat→Bool) (i n:Nat) (h:n≤i):left (upd l i true) n=left l n:=by
  induction n with
  | zero=>rfl
  | succ n ih =>
    have:upd l i true n=l n:=by rw [upd_at,if_neg (by omega)]
    simp [left,ih (by omega),this]
theorem left_upd (l:Nat→Bool) (i n:Nat) (h:i<n) (hi:l i=false):left (upd l i true) n+1=left l n:=by
  induction n with
  | zero=>omega
  | succ n ih =>
    by_cases e:i=n
    · subst e
      have:upd l i true i=true:=by rw [upd_at,if_pos rfl]
      simp [left,left_far l i i (Nat.le_refl _),this,hi]
    · have:upd l i true n=l n:=by rw [upd_at,if_neg (by omega)]
      have:=ih (by omega)
      simp only [left, *]
      omega
theorem left_zero (l:Nat→Bool) (n:Nat) (h:left l n=0):∀ i,i<n→l i=true:=by
  induction n with
  | zero=>intro i hi;omega
  | succ n ih =>
    intro i hi
    simp only [left] at h
    by_cases e:i=n
    · subst e
      cases hl:l i with
      | true=>rfl
      | false=>simp [hl] at h
    · exact ih (by omega) i (by omega)
/-- The lists of what must have come up before each, held against the region: each waits for earlier ones alone, and each that is listed is waited for, or one that is waited for waits for it. -/
def waitsOk (T:List (List Nat)):Nat→List Oper→Bool
  | _,[]=>true
  | i,o :: os=>(o.after.toList.all fun e=>!Region.binds .any e || Nat.blt e.on i) && ((T.getD i []).all fun t=>o.after.toList.any fun e=>Region.binds .any e && (Nat.beq e.on t || (T.getD e.on []).any fun u=>Nat.beq u t)) && waitsOk T (i+1) os
theorem waitsOk_at {T:List (List Nat)} {j:Nat} {o:Oper}:∀ (os:List Oper) (i:Nat),waitsOk T i os=true→os[j]?=some o →
    (∀ e ∈ o.after,Region.binds .any e=true→e.on<i+j)∧∀ t ∈ T.getD (i+j) [],∃ e ∈ o.after,Region.binds .any e=true∧(e.on=t∨t ∈ T.getD e.on []):=by
  induction j with
  | zero =>
    intro os i h ho
    cases os with
    | nil=>simp at ho
    | cons p os =>
      simp at ho
      subst ho
      simp only [waitsOk,Bool.and_eq_true] at h
      obtain ⟨⟨h1,h2⟩,_⟩:=h
      refine ⟨fun e he hb=>?_,fun t ht=>?_⟩
      · have:=List.all_eq_true.1 h1 e (by simpa using he)
        simp [hb] at this
        simpa [Nat.blt_eq] using this
      · have:=List.all_eq_true.1 h2 t (by simpa using ht)
        obtain ⟨e,he,h3⟩:=List.any_eq_true.1 this
        simp only [Bool.and_eq_true,Bool.or_eq_true] at h3
        refine ⟨e,by simpa using he,h3.1,?_⟩
        rcases h3.2 with h4|h4
        · exact .inl (Nat.eq_of_beq_eq_true h4)
        · obtain ⟨u,hu,h5⟩:=List.any_eq_true.1 h4
          exact .inr ((Nat.eq_of_beq_eq_true h5) ▸ hu)
  | succ j ih =>
    intro os i h ho
    cases os with
    | nil=>simp at ho
    | cons p os =>
      simp at ho
      simp only [waitsOk,Bool.and_eq_true] at h
      have:=ih os (i+1) h.2 ho
      rw [show i+(j+1)=i+1+j by omega]
      exact this
section
variable {P:Program} {ops:Array Oper} {Q:Exit→Act→World→Prop}
/-- One operation, whatever came up before it. -/
def StepAt (P:Program) (ops:Array Oper) (Q:Exit→Act→World→Prop) (T:List (List Nat)) (F:(Nat→Value)→Act) (Φ:(Nat→Bool)→(Nat→Value)→World→Prop) (i:Nat) (o:Oper):Prop :=
  ∀ (l:Nat→Bool) (s:Nat→Value) (w:World),l i=false→(∀ t,(T.getD i []).any (Nat.beq t)=true→l t=true)→(∀ j,(T.getD j []).any (Nat.beq i)=true→l j=false)→Φ l s w →
    ∀ K':Act→World→Prop,Shut (∀ s' a' w',a'=F s'→Φ (upd l i true) s' w'→K' a' w')→if Region.wanted o (yielded ops (F s).tmps)=true then Oper.wp P o (F s) w K' Q else K' ((F s).put o.dst undef) w
def Steps (P:Program) (ops:Array Oper) (Q:Exit→Act→World→Prop) (T:List (List Nat)) (F:(Nat→Value)→Act) (Φ:(Nat→Bool)→(Nat→Value)→World→Prop):Nat→List Oper→Prop
  | _,[]=>True
  | i,o :: os=>StepAt P ops Q T F Φ i o∧Steps P ops Q T F Φ (i+1) os
theorem Steps.at {T:List (List Nat)} {F:(Nat→Value)→Act} {Φ:(Nat→Bool)→(Nat→Value)→World→Prop} {j:Nat} {o:Oper}:∀ (os:List Oper) (i:Nat),Steps P ops Q T F Φ i os→os[j]?=some o→StepAt P ops Q T F Φ (i+j) o:=by
  induction j with
  | zero =>
    intro os i h ho
    cases os with
    | nil=>simp at ho
    | cons p os=>simp at ho;subst ho;exact h.1
  | succ j ih =>
    intro os i h ho
    cases os with
    | nil=>simp at ho
    | cons p os =>
      simp at ho
      have:=ih os (i+1) h.2 ho
      rw [show i+(j+1)=i+1+j by omega]
      exact this
theorem any_beq {L:List Nat} {t:Nat}:L.any (Nat.beq t)=true↔t ∈ L:=by
  rw [List.any_eq_true]
  constructor
  · rintro ⟨x,hx,he⟩
    exact (Nat.eq_of_beq_eq_true he) ▸ hx
  · intro h
    exact ⟨t,h,by simp⟩
theorem wpAny_inv {T:List (List Nat)} {F:(Nat→Value)→Act} {Φ:(Nat→Bool)→(Nat→Value)→World→Prop} (hT:waitsOk T 0 ops.toList=true) (hTl:Nat.ble T.length ops.size=true) (steps:Steps P ops Q T F Φ 0 ops.toList)
    (fin:∀ (l:Nat→Bool) (s:Nat→Value) (w:World),(∀ i,Nat.blt i ops.size=true→l i=true)→Φ l s w→Q .normal (F s) w) :
    ∀ (fuel:Nat) (listed:Array Bool) (l:Nat→Bool) (s:Nat→Value) (w:World),listed.size=ops.size→(∀ i,i<ops.size→listed[i]?=some (l i))→left l ops.size≤fuel →
      (∀ i e o,ops[i]?=some o→e ∈ o.after→Region.binds .any e=true→l i=true→l e.on=true)→Φ l s w→wpAny P .any ops Q fuel listed (F s) w:=by
  have W:∀ i o,ops[i]?=some o→(∀ e ∈ o.after,Region.binds .any e=true→e.on<i)∧∀ t ∈ T.getD i [],∃ e ∈ o.after,Region.binds .any e=true∧(e.on=t∨t ∈ T.getD e.on []):=by
    intro i o ho
    have:=waitsOk_at (j:=i) ops.toList 0 hT (by simpa using ho)
    simpa using this
  have up:∀ (l:Nat→Bool),(∀ i e o,ops[i]?=some o→e ∈ o.after→Region.binds .any e=true→l i=true→l e.on=true)→∀ n i,i<n→i<ops.size→l i=true→∀ t ∈ T.getD i [],l t=true:=by
    intro l hc n
    induction n with
    | zero=>intro i hi;omega
    | succ n ih =>
      intro i hi hs hl t ht
      have ho:ops[i]?=some ops[i]:=by simp [hs]
      obtain ⟨e,he,hb,h3⟩:=(W i _ ho).2 t ht
      have h1:=hc i e _ ho he hb hl
      have h2:=(W i _ ho).1 e he hb
      rcases h3 with h3|h3
      · exact h3 ▸ h1
      · exact ih e.on (by omega) (by omega) h1 t h3
  have all:∀ (listed:Array Bool) (l:Nat→Bool),listed.size=ops.size→(∀ i,i<ops.size→listed[i]?=some (l i))→Region.ready .any ops listed=[]→∀ n i,i<n→i<ops.size→l i=true:=by
    intro listed l hsz hl hr n
    induction n with
    | zero=>intro i hi;omega
    | succ n ih =>
      intro i hi hs
      cases hli:l i with
      | true=>rfl
      | false =>
        have ho:ops[i]?=some ops[i]:=by simp [hs]
        have hm:i ∈ Region.ready .any ops listed:=mem_ready.2 ⟨by simp [Array.getD_eq_getD_getElem?,hl i hs,hli],_,ho,fun e he hb=>by
          have h2:=(W i _ ho).1 e he hb
          have h3:=ih e.on (by omega) (by omega)
          simp [Array.getD_eq_getD_getElem?,hl e.on (by omega),h3]⟩
        rw [hr] at hm
        cases hm
  intro fuel
  induction fuel with
  | zero =>
    intro listed l s w hsz hl hf hc hΦ
    have h0:=left_zero l ops.size (by omega)
    refine ⟨?_,fin l s w (fun i hi=>h0 i (by simpa [Nat.blt_eq] using hi)) hΦ⟩
    apply List.eq_nil_iff_forall_not_mem.2
    intro i hi
    obtain ⟨h1,o,ho,_⟩:=mem_ready.1 hi
    have hs:i<ops.size:=(Array.getElem?_eq_some_iff.1 ho).1
    rw [Array.getD_eq_getD_getElem?,hl i hs,h0 i hs] at h1
    cases h1
  | succ fuel ih =>
    intro listed l s w hsz hl hf hc hΦ
    refine ⟨fun hr=>fin l s w (fun i hi=>all listed l hsz hl hr (i+1) i (by omega) (by simpa [Nat.blt_eq] using hi)) hΦ,fun i hi=>?_⟩
    obtain ⟨h1,o,ho,hall⟩:=mem_ready.1 hi
    have hs:i<ops.size:=(Array.getElem?_eq_some_iff.1 ho).1
    have hli:l i=false:=by
      rw [Array.getD_eq_getD_getElem?,hl i hs] at h1
      simpa using h1
    have hd:∀ e ∈ o.after,Region.binds .any e=true→l e.on=true:=fun e he hb=>by
      have h2:=hall e he hb
      have h3:=(W i o ho).1 e he hb
      rw [Array.getD_eq_getD_getElem?,hl e.on (by omega)] at h2
      simpa using h2
    have hst:=Steps.at (j:=i) ops.toList 0 steps (by simpa using ho)
    rw [Nat.zero_add] at hst
    refine wpOp_step ho fun K' hK=>hst l s w hli (fun t ht=>?_) (fun j hj=>?_) hΦ K' (fun s' a' w' ea hΦ'=>hK _ _ ?_)
    · obtain ⟨e,he,hb,h3⟩:=(W i o ho).2 t (any_beq.1 ht)
      rcases h3 with h3|h3
      · exact h3 ▸ hd e he hb
      · exact up l hc (e.on+1) e.on (by omega) (by have:=(W i o ho).1 e he hb;omega) (hd e he hb) t h3
    · have hj2:=any_beq.1 hj
      cases hlj:l j with
      | false=>rfl
      | true =>
        by_cases hjs:j<ops.size
        · have:=up l hc (j+1) j (by omega) hjs hlj i hj2
          rw [hli] at this
          cases this
        · have h5:=Nat.le_of_ble_eq_true hTl
          simp [List.getD_eq_getElem?_getD,List.getElem?_eq_none (show T.length≤j by omega)] at hj2
    · subst ea
      refine ih _ (upd l i true) s' w' (by simpa using hsz) (fun k hk=>?_) (by have:=left_upd l i ops.size hs hli;omega) (fun k e o2 ho2 he hb hk=>?_) hΦ'
      · rw [Array.getElem?_setIfInBounds,upd_at,hl k hk]
        by_cases e:i=k
        · subst e;simp [hsz,hs]
        · have e2:¬ k=i:=fun x=>e x.symm
          simp [e,e2]
      · rw [upd_at] at hk ⊢
        by_cases e1:e.on=i
        · simp [e1]
        · rw [if_neg e1]
          by_cases e2:k=i
          · subst e2
            rw [ho] at ho2
            obtain rfl:=Option.some.inj ho2
            exact hd e he hb
          · rw [if_neg e2] at hk
            exact hc k e o2 ho2 he hb hk
/-- A drawn region: the frame F by what lies in the slots, the invariant Φ by what has come up. -/
theorem wp_region_inv {id:Nat} {a:Act} {w:World} (T:List (List Nat)) (ds:List Nat) (Φ:(Nat→Bool)→(Nat→Value)→World→Prop) {F:(Nat→Value)→Act} (hm:P.follows .mixedOrders=true) (hT:waitsOk T 0 ops.toList=true) (hTl:Nat.ble T.length ops.size=true)
    (hF:∀ s,fill a ds s=F s) (h0:∀ s,Φ (fun _=>false) s w.drew) (steps:Steps P ops Q T F Φ 0 ops.toList)
    (fin:∀ (l:Nat→Bool) (s:Nat→Value) (w:World),(∀ i,Nat.blt i ops.size=true→l i=true)→Φ l s w→Q .normal (F s) w):(Code.region id ops true).wp P Q a w:=by
  refine wp_region_any hm ?_
  have:=wpAny_inv hT hTl steps fin ops.size (Array.replicate ops.size false) (fun _=>false) (fun k=>a.tmps.getD k undef) w.drew (by simp) (fun i hi=>by simp [hi]) (by
    generalize ops.size=n
    induction n with
    | zero=>simp [left]
    | succ n ih=>simp [left];exact ih) (fun i e o _ _ _ h=>by cases h) (h0 _)
  rw [← hF,fill_self] at this
  exact this
end
end Go.Proofs.YtkiingmgpobgnaaGreat
set_option linter.unusedSimpArgs false
set_option linter.unusedVariables false
namespace Go.Proofs.YtkiingmgpobgnaaGreat
open Go.RowKit
variable {w w':World} {v:Value} {lo b:Nat} {x y ys:Array Value} {T T':TypeId}
theorem belowAlloc (w:World) (o:Obj):Below w.heap.size w (w.alloc o):=(Below.refl _ _).alloc (Nat.le_refl _) o
theorem hpS (h:hp w b=some (.cells x T)) (hb:Below w.heap.size w w'):hp w' b=some (.cells x T):=(hpB hb (bO h).2.2).trans h
def IsBox (w:World) (v:Value) (lo:Nat) (x:Array Value) (T:TypeId):Prop:=∃ b,v=.pointer (some ⟨b,0,none⟩)∧lo≤b∧hp w b=some (.cells x T)
theorem IsBox.below (h:IsBox w v lo x T) (hb:Below w.heap.size w w'):IsBox w' v lo x T:=by
  obtain ⟨b,e,hl,hz⟩:=h
  exact ⟨b,e,hl,hpS hz hb⟩
theorem IsBox.new (h:lo≤w.heap.size):IsBox (w.alloc (.cells x T)) (.pointer (some ⟨w.heap.size,0,none⟩)) lo x T :=
  ⟨_,rfl,h,heap_alloc_new w _⟩
theorem hp_far (hz:hp w b=some (.cells y T')) {b':Nat} (h:hp w b'=some (.cells x T)) (hne:T≠T'):hp (setBox w b ys) b'=some (.cells x T):=by
  have:b'≠b:=by
    rintro rfl
    rw [hz] at h
    simp at h
    exact hne h.2.symm
  exact (bx_heap_ne this).trans h
theorem hp_set (hz:hp w b=some (.cells y T)):hp (setBox w b ys) b=some (.cells ys T):=by rw [bx_heap_at,hz];rfl
theorem IsBox.far (h:IsBox w v lo x T) (hz:hp w b=some (.cells y T')) (hne:T≠T'):IsBox (setBox w b ys) v lo x T:=by
  obtain ⟨b',e,hl,h⟩:=h
  exact ⟨b',e,hl,hp_far hz h hne⟩
theorem own_far {e:TypeId} {k m:Nat} {u:Value} {xs:List Value} (h:w.ownsRow lo e k u m xs) (hz:hp w b=some (.cells y T')) (hne:e≠T'):(setBox w b ys).ownsRow lo e k u m xs:=by
  refine own_box h fun e2=>?_
  rcases h.2 with ⟨rfl,_⟩|⟨g,cap,cur,rfl,_,hg,_⟩
  · cases e2
  · simp [Value.ownBlock] at e2
    subst e2
    unfold hp at hz
    rw [hz] at hg
    simp at hg
    exact hne hg.2.symm
theorem own_offs {e:TypeId} {k m:Nat} {u:Value} {xs:List Value} (h:w.ownsRow lo e k u m xs) (hz:hp w b=some (.cells y T')) (hne:e≠T'):∀ i,u.ownBlock=some i→i≠b:=by
  rintro i e2 rfl
  rcases h.2 with ⟨rfl,_⟩|⟨g,cap,cur,rfl,_,hg,_⟩
  · cases e2
  · simp [Value.ownBlock] at e2
    subst e2
    unfold hp at hz
    rw [hz] at hg
    simp at hg
    exact hne hg.2.symm
end Go.Proofs.YtkiingmgpobgnaaGreat
set_option linter.unusedSimpArgs false
set_option linter.unusedVariables false
namespace Go.Proofs.YtkiingmgpobgnaaGreat
open Go.RowKit
set_option linter.unusedSimpArgs false
attribute [local simp] bx_size
attribute [local go_sem ↓] zeroHand zeroChan toLHand toLChan toVHand toVChan storeHand storeChan storeHandC storeChanC
theorem own_zcap {w:World} {lo:Nat} {e:TypeId} {k n p m:Nat} {a:Option Addr} {xs:List Value} (h:w.ownsRow lo e k (.slice a n p) m xs) (ha:a=none):p=0:=by
  rcases h.2 with ⟨h1,_⟩|⟨g,cap,cur,h1,_⟩
  · simp at h1;exact h1.2.2
  · subst ha;simp at h1
theorem tellC_ints (c:Ch) (v x:Int) (a b:Value):cvals (tellC c v x) a b=cvals c a b:=by unfold tellC;split <;> rfl
theorem chan_len {c:Ch} (e:chanOk c=true):c.cells.length=40∧c.words.length≤80:=by
  simp [chanOk,chanHead] at e
  omega
theorem pTold_any (c:Ch) (v x:Int) (v1 v2:Value) (lo:Nat) (w:World) (h1:OCells w lo v1 c.cells) (h2:OInts w lo v2 c.words) (hc:chanOk c=true) :
    Calls Tryz.prog 126 #[.agg (cvals c v1 v2),.int .i64 v,.int .i64 x] w fun r w'=>(∃ y1 y2,r=.returned (.tuple #[.agg (cvals c y1 y2),.bool (tellB c v x)])∧OCells w' w.heap.size y1 c.cells∧OInts w' w.heap.size y2 (tellC c v x).words)∧Below w.heap.size w w':=by
  obtain ⟨n1,n2⟩:=chan_len hc
  obtain ⟨a,p,rfl,g1⟩:=h1.seg
  obtain ⟨b,q,rfl,g2⟩:=h2.seg
  refine (told_any c v x a b p q w g1 (own_zcap h1) g2 (own_zcap h2) (by omega) (by omega)).mono ?_
  rintro _ w' ⟨⟨y1,y2,rfl,k1,k2⟩,hb⟩
  obtain ⟨e1,e2⟩:=told_yes (v:=v) (x:=x) hc
  rw [e1] at k1 k2
  rw [(tellC_cells c v x).1] at k1
  refine ⟨⟨y1,y2,?_,k1,k2⟩,hb⟩
  rw [e1,e2]
  show Ending.returned (.tuple #[.agg (cvals (tellC c v x) y1 y2),_])=_
  rw [tellC_ints]
theorem pFull_any (c:Ch) (v1 v2:Value) (lo:Nat) (w:World) (h1:OCells w lo v1 c.cells) (h2:OInts w lo v2 c.words) (hc:chanOk c=true) (hf:80≤c.words.length) :
    Calls Tryz.prog 130 #[.agg (cvals c v1 v2)] w fun r w'=>(∃ y1 y2,r=.returned (.tuple #[.agg (cvals c y1 y2),.int .i64 0])∧OCells w' w.heap.size y1 c.cells∧OInts w' w.heap.size y2 c.words)∧Below w.heap.size w w':=by
  obtain ⟨n1,n2⟩:=chan_len hc
  obtain ⟨a,p,rfl,g1⟩:=h1.seg
  obtain ⟨b,q,rfl,g2⟩:=h2.seg
  refine (waiter_any c a b p q w g1 (own_zcap h1) g2 (own_zcap h2) (by omega) (by omega)).mono ?_
  rintro _ w' ⟨⟨y1,y2,rfl,k1,k2⟩,hb⟩
  obtain ⟨e1,e2⟩:=waitC_full hc hf
  rw [e1] at k1 k2
  refine ⟨⟨y1,y2,?_,k1,k2⟩,hb⟩
  rw [e1,e2]
  rfl
theorem pMore_any (c:Ch) (v1 v2:Value) (lo:Nat) (w:World) (h1:OCells w lo v1 c.cells) (h2:OInts w lo v2 c.words) (hc:chanOk c=true) (hf:¬ 80≤c.words.length) :
    Calls Tryz.prog 130 #[.agg (cvals c v1 v2)] w fun r w'=>(∃ y1 y2,r=.returned (.tuple #[.agg (cvals c y1 y2),.int .i64 ((c.words.length:Int)+1)])∧OCells w' w.heap.size y1 c.cells∧OInts w' w.heap.size y2 (c.words ++ [0]))∧Below w.heap.size w w':=by
  obtain ⟨n1,n2⟩:=chan_len hc
  obtain ⟨a,p,rfl,g1⟩:=h1.seg
  obtain ⟨b,q,rfl,g2⟩:=h2.seg
  refine (waiter_any c a b p q w g1 (own_zcap h1) g2 (own_zcap h2) (by omega) (by omega)).mono ?_
  rintro _ w' ⟨⟨y1,y2,rfl,k1,k2⟩,hb⟩
  obtain ⟨e1,e2⟩:=waitC_more hc hf
  rw [e1] at k1 k2
  refine ⟨⟨y1,y2,?_,k1,k2⟩,hb⟩
  rw [e1,e2]
  rfl
/-- What a call answers that writes into nothing that was there. -/
def StepB (w w':World) (lo:Nat) (v1 v2:Value) (x:St) (r:Ending):Prop:=StepR w w' lo v1 v2 x r∧Below w.heap.size w w'
set_option maxRecDepth 100000 in
set_option maxHeartbeats 2000000 in
theorem woken_yes (c:Ch) (y z:Ha) (v1 v2:Value) (lo:Nat) (w:World) (h1:OCells w lo v1 c.cells) (h2:OInts w lo v2 c.words) (hc:chanOk c=true) (hlo:lo≤w.heap.size) (ht:tellB c y.wait 1=true) :
    Calls Tryz.prog 115 #[.agg (cvals c v1 v2),.agg (hvals y),.agg (hvals z)] w fun r w'=>StepB w w' lo v1 v2 ((tellC c y.wait 1,y,true)) r:=by
  have b1:=fun j (hj:v1.ownBlock=some j)=>(h1.lt j hj).2
  have b2:=fun j (hj:v2.ownBlock=some j)=>(h2.lt j hj).2
  obtain ⟨a1,q1,rfl,_⟩:=h1.seg
  obtain ⟨a2,q2,rfl,_⟩:=h2.seg
  have O1:=Lib.hid h1
  have O2:=Lib.hid h2
  clear h1 h2
  have o1:=O1.out
  have o2:=O2.out
  go_enter Tryz.func115,Tryz.ntmps115
  go_wp2_with fail;refine bHit w (by exact zB) fun bb=>?_;refine (pTold_any c y.wait 1 _ _ lo _ (by exact zO o1 o1) (by exact zO o2 o2) hc).mono ?_;rintro _ w1 ⟨⟨y1,y2,rfl,oY1,oY2⟩,hbw1⟩;have hCw1:Below w.heap.size w w1:=bT bb hbw1;have hsw1:=hbw1.size;(try simp at hsw1);have zz:=And.intro (hQ hbw1 (b:=w.heap.size+1+1+1+1)) <| And.intro (hQ hbw1 (b:=w.heap.size+1+1+1)) <| And.intro (hQ hbw1 (b:=w.heap.size+1+1)) <| And.intro (hQ hbw1 (b:=w.heap.size+1)) <| hQ hbw1 (b:=w.heap.size);(try simp [go_sem] at zz);(try clear z_wpppp x_wpppp f_wpppp l_wpppp);(try clear z_wppp x_wppp f_wppp l_wppp);(try clear z_wpp x_wpp f_wpp l_wpp);(try clear z_wp x_wp f_wp l_wp);(try clear z_w x_w f_w l_w);obtain ⟨z_wpppp,z_wppp,z_wpp,z_wp,z_w⟩:=zz;obtain ⟨x_wpppp,f_wpppp,l_wpppp⟩:=bO z_wpppp;obtain ⟨x_wppp,f_wppp,l_wppp⟩:=bO z_wppp;obtain ⟨x_wpp,f_wpp,l_wpp⟩:=bO z_wpp;obtain ⟨x_wp,f_wp,l_wp⟩:=bO z_wp;obtain ⟨x_w,f_w,l_w⟩:=bO z_w;have hKw1:Below w.heap.size w w1:=hCw1;clear hbw1 bb
  rw [ht]
  try simp at oY1 oY2
  have fY1:Fresh w (.slice a1 c.cells.length q1) y1:=fun j hj=>.inr (by have:=(oY1.lt j hj).1;(try simp at this);omega)
  have fY2:Fresh w (.slice a2 c.words.length q2) y2:=fun j hj=>.inr (by have:=(oY2.lt j hj).1;(try simp at this);omega)
  obtain ⟨ya,yp,rfl,_⟩:=oY1.seg
  obtain ⟨yb,yq,rfl,_⟩:=oY2.seg
  have r1:=own_lo (lo':=lo) oY1 (by omega)
  have r2:=own_lo (lo':=lo) oY2 (by omega)
  have k0:w.heap.size<w1.heap.size:=by omega
  have k1:w.heap.size+1<w1.heap.size:=by omega
  have k2:w.heap.size+1+1<w1.heap.size:=by omega
  have k3:w.heap.size+1+1+1<w1.heap.size:=by omega
  have k4:w.heap.size+1+1+1+1<w1.heap.size:=by omega
  go_wp2_with fail
  go_region
  go_wp2
  refine bodyPost_ret (res_cct Tryz.results115 rfl (ldChan c (.slice ya c.cells.length yp) (.slice yb (tellC c y.wait 1).words.length yq) (by simp [go_sem, *] <;> rfl)) rfl (ldHand y (by simp [go_sem, *] <;> rfl))) rfl ⟨⟨.slice ya c.cells.length yp,.slice yb (tellC c y.wait 1).words.length yq,by (rw [tellC_ints];rfl),?_,?_,fY1,fY2⟩,by exact zB⟩
  · show OCells _ lo _ (tellC c y.wait 1).cells
    rw [(tellC_cells c y.wait 1).1]
    exact zO r1 oY1
  · exact zO r2 oY2
set_option maxRecDepth 100000 in
set_option maxHeartbeats 2000000 in
theorem woken_no (c:Ch) (y z:Ha) (v1 v2:Value) (lo:Nat) (w:World) (h1:OCells w lo v1 c.cells) (h2:OInts w lo v2 c.words) (hc:chanOk c=true) (hlo:lo≤w.heap.size) (ht:tellB c y.wait 1=false) :
    Calls Tryz.prog 115 #[.agg (cvals c v1 v2),.agg (hvals y),.agg (hvals z)] w fun r w'=>StepB w w' lo v1 v2 ((c,z,true)) r:=by
  have b1:=fun j (hj:v1.ownBlock=some j)=>(h1.lt j hj).2
  have b2:=fun j (hj:v2.ownBlock=some j)=>(h2.lt j hj).2
  obtain ⟨a1,q1,rfl,_⟩:=h1.seg
  obtain ⟨a2,q2,rfl,_⟩:=h2.seg
  have O1:=Lib.hid h1
  have O2:=Lib.hid h2
  clear h1 h2
  have o1:=O1.out
  have o2:=O2.out
  go_enter Tryz.func115,Tryz.ntmps115
  go_wp2_with fail;refine bHit w (by exact zB) fun bb=>?_;refine (pTold_any c y.wait 1 _ _ lo _ (by exact zO o1 o1) (by exact zO o2 o2) hc).mono ?_;rintro _ w1 ⟨⟨y1,y2,rfl,oY1,oY2⟩,hbw1⟩;have hCw1:Below w.heap.size w w1:=bT bb hbw1;have hsw1:=hbw1.size;(try simp at hsw1);have zz:=And.intro (hQ hbw1 (b:=w.heap.size+1+1+1+1)) <| And.intro (hQ hbw1 (b:=w.heap.size+1+1+1)) <| And.intro (hQ hbw1 (b:=w.heap.size+1+1)) <| And.intro (hQ hbw1 (b:=w.heap.size+1)) <| hQ hbw1 (b:=w.heap.size);(try simp [go_sem] at zz);(try clear z_wpppp x_wpppp f_wpppp l_wpppp);(try clear z_wppp x_wppp f_wppp l_wppp);(try clear z_wpp x_wpp f_wpp l_wpp);(try clear z_wp x_wp f_wp l_wp);(try clear z_w x_w f_w l_w);obtain ⟨z_wpppp,z_wppp,z_wpp,z_wp,z_w⟩:=zz;obtain ⟨x_wpppp,f_wpppp,l_wpppp⟩:=bO z_wpppp;obtain ⟨x_wppp,f_wppp,l_wppp⟩:=bO z_wppp;obtain ⟨x_wpp,f_wpp,l_wpp⟩:=bO z_wpp;obtain ⟨x_wp,f_wp,l_wp⟩:=bO z_wp;obtain ⟨x_w,f_w,l_w⟩:=bO z_w;have hKw1:Below w.heap.size w w1:=hCw1;clear hbw1 bb
  rw [ht]
  obtain ⟨ya,yp,rfl,_⟩:=oY1.seg
  obtain ⟨yb,yq,rfl,_⟩:=oY2.seg
  have p1:=own_below o1 hKw1
  have p2:=own_below o2 hKw1
  have k0:w.heap.size<w1.heap.size:=by omega
  have k1:w.heap.size+1<w1.heap.size:=by omega
  have k2:w.heap.size+1+1<w1.heap.size:=by omega
  have k3:w.heap.size+1+1+1<w1.heap.size:=by omega
  have k4:w.heap.size+1+1+1+1<w1.heap.size:=by omega
  go_wp2_with fail
  go_region
  go_wp2
  refine bodyPost_ret (res_cct Tryz.results115 rfl (ldChan c (.slice a1 c.cells.length q1) (.slice a2 c.words.length q2) (by simp [go_sem, *] <;> rfl)) rfl (ldHand z (by simp [go_sem, *] <;> first|rfl|simp [seenAs,anew,hci]))) rfl ⟨⟨_,_,rfl,?_,?_,fresh_refl _ _,fresh_refl _ _⟩,by exact zB⟩
  · exact zO p1 o1
  · exact zO p2 o2
def wkS (c:Ch) (y z:Ha):St:=if tellB c y.wait 1 then (tellC c y.wait 1,y,true) else (c,z,true)
set_option maxRecDepth 100000 in
set_option maxHeartbeats 2000000 in
theorem woken_any (c:Ch) (y z:Ha) (v1 v2:Value) (lo:Nat) (w:World) (h1:OCells w lo v1 c.cells) (h2:OInts w lo v2 c.words) (hc:chanOk c=true) (hlo:lo≤w.heap.size) :
    Calls Tryz.prog 115 #[.agg (cvals c v1 v2),.agg (hvals y),.agg (hvals z)] w fun r w'=>StepB w w' lo v1 v2 (wkS c y z) r:=by
  cases ht:tellB c y.wait 1 with
  | true =>
    rw [show wkS c y z=(tellC c y.wait 1,y,true) by simp [wkS,ht]]
    exact woken_yes c y z v1 v2 lo w h1 h2 hc hlo ht
  | false =>
    rw [show wkS c y z=(c,z,true) by simp [wkS,ht]]
    exact woken_no c y z v1 v2 lo w h1 h2 hc hlo ht
set_option maxRecDepth 100000 in
set_option maxHeartbeats 2000000 in
theorem sendDone_any (c:Ch) (h:Ha) (v1 v2:Value) (lo:Nat) (w:World) (h1:OCells w lo v1 c.cells) (h2:OInts w lo v2 c.words) (hc0:0≤h.cell) (hc1:h.cell<c.cells.length) :
    Calls Tryz.prog 96 #[.agg (cvals c v1 v2),.agg (hvals h)] w fun r w'=>StepO w w' lo v1 v2 ((stateC c h.cell 7,resting 1 0,true)) r:=by
  obtain ⟨i,hci⟩:∃ i:Nat,h.cell=(i:Int):=⟨h.cell.toNat,by omega⟩
  have hi:i<c.cells.length:=by omega
  have hi0:(0:Int)≤(i:Int):=by omega
  have hi1:(i:Int)<(c.cells.length:Int):=by omega
  have hne:=h1.ne h2
  obtain ⟨a2,q2,rfl,_⟩:=h2.seg
  obtain ⟨g,q1,rfl,hlo1,hlt,hcell,hfr⟩:=h1.open1 hi
  have O1:=Lib.hid h1
  have O2:=Lib.hid h2
  have lg0:g<w.heap.size+1:=by omega
  have lg1:g<w.heap.size+1+1:=by omega
  have lg2:g<w.heap.size+1+1+1:=by omega
  have ng0:g≠w.heap.size:=by omega
  have ng1:g≠w.heap.size+1:=by omega
  have ng2:g≠w.heap.size+1+1:=by omega
  have ng3:g≠w.heap.size+1+1+1:=by omega
  have mg0:w.heap.size≠g:=by omega
  have mg1:w.heap.size+1≠g:=by omega
  have mg2:w.heap.size+1+1≠g:=by omega
  have mg3:w.heap.size+1+1+1≠g:=by omega
  have hx:Hid (cellAt c h.cell=c.cells.getD i ⟨0,0,0⟩):=by simp [cellAt,Hid,hci]
  have c0:=hcell 0 (by omega)
  have c1:=hcell 1 (by omega)
  have c2:=hcell 2 (by omega)
  simp only [C3.val,Nat.add_zero] at c0 c1 c2
  rw [show stateC c h.cell 7=stateC c i 7 by rw [hci]]
  have e1:=stateC_cells c i 7
  have P1:=fun W (o:OCells W lo (.slice (some ⟨g,0,none⟩) c.cells.length q1) c.cells)=>OCells.setS o hi 7
  rw [← e1] at P1
  clear hx hcell h1 h2 e1
  generalize c.cells.getD i ⟨0,0,0⟩=x at *
  have o1:=O1.out
  have o2:=O2.out
  go_enter Tryz.func96,Tryz.ntmps96
  have P2:=own_store (p:=⟨g,i*3,none⟩) o2 (hne g rfl) (.int .i64 7)
  go_wp2_with fail
  go_region_held3 (fun w'=>hp w' w.heap.size=some (.cells (cvals c (.slice (some ⟨g,0,none⟩) c.cells.length q1) (.slice a2 c.words.length q2)) 27)∧hp w' (w.heap.size+1)=some (.cells (hvals h) 31))
    (first|(simp [*,go_sem]))
    (first|(go_at_call 76;refine (resting_any _ _ _).mono ?_;rintro _ w1 ⟨rfl,hbw1⟩;have hGw1:Gr g w w1:=gT (by (repeat (first|with_reducible assumption|with_reducible exact gR _ _|with_reducible refine gA ?_|with_reducible refine gD ?_|with_reducible refine gS ?_ (.inl rfl)|((with_reducible refine gBx ?_ (.inr ?_));rotate_left;(focus ((try dsimp only);(try simp);(try omega))))|((with_reducible refine gS ?_ (.inr ?_));rotate_left;(focus ((try dsimp only);(try simp);(try omega))))))) (gOfB hbw1);have hsw1:=hbw1.size;(try (simp at hsw1));have zz:=hQ hbw1 (b:=w.heap.size);(first|(simp [go_sem,z_w,l_w,hlt,lg0,lg1,lg2] at zz)|(simp [go_sem,hlt,lg0,lg1,lg2] at zz));(try clear x_w f_w);(try clear z_w);have z_w:=zz;clear zz;(try clear l_w);obtain ⟨x_w,f_w,l_w⟩:=bO z_w;have zz:=hQ hbw1 (b:=w.heap.size+1);(first|(simp [go_sem,z_wp,l_wp,hlt,lg0,lg1,lg2] at zz)|(simp [go_sem,hlt,lg0,lg1,lg2] at zz));(try clear x_wp f_wp);(try clear z_wp);have z_wp:=zz;clear zz;(try clear l_wp);obtain ⟨x_wp,f_wp,l_wp⟩:=bO z_wp;have zz:=hQ hbw1 (b:=w.heap.size+1+1);(first|(simp [go_sem,z_wpp,l_wpp,hlt,lg0,lg1,lg2] at zz)|(simp [go_sem,hlt,lg0,lg1,lg2] at zz));(try clear x_wpp f_wpp);(try clear z_wpp);have z_wpp:=zz;clear zz;(try clear l_wpp);obtain ⟨x_wpp,f_wpp,l_wpp⟩:=bO z_wpp;have zz:=hQ hbw1 (b:=w.heap.size+1+1+1);(first|(simp [go_sem,z_wppp,l_wppp,hlt,lg0,lg1,lg2] at zz)|(simp [go_sem,hlt,lg0,lg1,lg2] at zz));(try clear x_wppp f_wppp);(try clear z_wppp);have z_wppp:=zz;clear zz;(try clear l_wppp);obtain ⟨x_wppp,f_wppp,l_wppp⟩:=bO z_wppp;have p1:OCells w1 lo (.slice (some ⟨g,0,none⟩) c.cells.length q1) (stateC c i 7).cells:=own_below (by exact zO (P1 _ o1) o1) hbw1;have p2:OInts w1 lo (.slice a2 c.words.length q2) c.words:=own_below (by exact zO P2 o2) hbw1))
  go_wp2
  refine bodyPost_ret (res_cct Tryz.results96 rfl (ldChan (stateC c i 7) (.slice (some ⟨g,0,none⟩) c.cells.length q1) (.slice a2 c.words.length q2) (by simp [go_sem, *] <;> rfl)) rfl (ldHand (resting 1 0) (by simp [go_sem, *] <;> first|rfl|simp [seenAs,anew,hci]))) rfl ⟨⟨_,_,rfl,?_,?_,fresh_refl _ _,fresh_refl _ _⟩,onl1 (show w.grownBy _ (some g) from (by (repeat (first|with_reducible assumption|with_reducible exact gR _ _|with_reducible refine gA ?_|with_reducible refine gD ?_|with_reducible refine gS ?_ (.inl rfl)|((with_reducible refine gBx ?_ (.inr ?_));rotate_left;(focus ((try dsimp only);(try simp);(try omega))))|((with_reducible refine gS ?_ (.inr ?_));rotate_left;(focus ((try dsimp only);(try simp);(try omega))))))))⟩
  · show OCells _ lo (.slice (some ⟨g,0,none⟩) c.cells.length q1) (stateC c i 7).cells
    exact zO p1 o1
  · show OInts _ lo (.slice a2 c.words.length q2) c.words
    exact zO p2 o2
end Go.Proofs.YtkiingmgpobgnaaGreat
set_option linter.unusedSimpArgs false
set_option linter.unusedVariables false
namespace Go.Proofs.YtkiingmgpobgnaaGreat
open Go.RowKit
set_option maxHeartbeats 400000 in
theorem laid_any (s e t m:Int) (w:World):Calls Tryz.prog 110 #[.agg #[.int .i64 s,.int .i64 e,.int .i64 t],.int .i64 m] w fun r w'=>r=.returned (.agg #[.int .i64 s,.int .i64 (laidF s e t m),.int .i64 t])∧Below w.heap.size w w':=by
  go_enter Tryz.func110,Tryz.ntmps110
  go_wp2_with (first|(go_at_call 68;refine (cellOk_any _ _ _ _).mono ?_;rintro _ w1 ⟨rfl,hbw1⟩;have hBw1:Below w.heap.size w w1:=bT (by exact zB) hbw1;have hsw1:=hbw1.size;(try (simp at hsw1));have:=fun o=>hbw1.cell (p:=⟨w.heap.size,o,none⟩) (by ((try simp);(try omega)));have:=fun o=>hbw1.frozen (p:=⟨w.heap.size,o,none⟩) (by ((try simp);(try omega)));have:=fun o=>hbw1.cell (p:=⟨w.heap.size+1,o,none⟩) (by ((try simp);(try omega)));have:=fun o=>hbw1.frozen (p:=⟨w.heap.size+1,o,none⟩) (by ((try simp);(try omega)));have:w.heap.size<w1.heap.size:=(by omega);have:w.heap.size≤w1.heap.size:=(by omega);have:w.heap.size≤w1.heap.size+1:=(by omega);have:w.heap.size+1<w1.heap.size:=(by omega);have:w.heap.size+1≤w1.heap.size:=(by omega);have:w.heap.size+1≤w1.heap.size+1:=(by omega))|(go_at_call 35;refine (inRange_any _ _ _).mono ?_;rintro _ _ ⟨rfl,rfl⟩))
  · rw [laidF_2 ‹_›];exact bodyPost_ret (v:=.agg #[.int .i64 s,.int .i64 e,.int .i64 t]) (by simp [results,Tryz.results110,go_sem, *]) rfl ⟨rfl,by exact zB⟩
  · rw [laidF_3 ‹_› ‹_›];exact bodyPost_ret (v:=.agg #[.int .i64 s,.int .i64 m,.int .i64 t]) (by simp [results,Tryz.results110,go_sem, *]) rfl ⟨rfl,by exact zB⟩
  · rw [laidF_1 ‹_›];exact bodyPost_ret (v:=.agg #[.int .i64 s,.int .i64 e,.int .i64 t]) (by simp [results,Tryz.results110,go_sem, *]) rfl ⟨rfl,by exact zB⟩
set_option maxHeartbeats 400000 in
theorem turned_any (s e t f n v:Int) (w:World):Calls Tryz.prog 129 #[.agg #[.int .i64 s,.int .i64 e,.int .i64 t],.int .i64 f,.int .i64 n,.int .i64 v] w fun r w'=>TurnR s e t f n v r∧Below w.heap.size w w':=by
  by_cases hsf:s=f
  · subst hsf
    go_enter Tryz.func129,Tryz.ntmps129
    go_wp2_with (go_at_call 68;refine (cellOk_any _ _ _ _).mono ?_;rintro _ w1 ⟨rfl,hbw1⟩;have hBw1:Below w.heap.size w w1:=bT (by exact zB) hbw1;have hsw1:=hbw1.size;(try (simp at hsw1));have:=fun o=>hbw1.cell (p:=⟨w.heap.size,o,none⟩) (by ((try simp);(try omega)));have:=fun o=>hbw1.frozen (p:=⟨w.heap.size,o,none⟩) (by ((try simp);(try omega)));have:=fun o=>hbw1.cell (p:=⟨w.heap.size+1,o,none⟩) (by ((try simp);(try omega)));have:=fun o=>hbw1.frozen (p:=⟨w.heap.size+1,o,none⟩) (by ((try simp);(try omega)));have:=fun o=>hbw1.cell (p:=⟨w.heap.size+1+1,o,none⟩) (by ((try simp);(try omega)));have:=fun o=>hbw1.frozen (p:=⟨w.heap.size+1+1,o,none⟩) (by ((try simp);(try omega)));have:w.heap.size<w1.heap.size:=(by omega);have:w.heap.size≤w1.heap.size:=(by omega);have:w.heap.size≤w1.heap.size+1:=(by omega);have:w.heap.size+1<w1.heap.size:=(by omega);have:w.heap.size+1≤w1.heap.size:=(by omega);have:w.heap.size+1≤w1.heap.size+1:=(by omega);have:w.heap.size+1+1<w1.heap.size:=(by omega);have:w.heap.size+1+1≤w1.heap.size:=(by omega);have:w.heap.size+1+1≤w1.heap.size+1:=(by omega))
    all_goals first
      | (refine bodyPost_ret (v:=.tuple #[.agg #[.int .i64 n,.int .i64 e,.int .i64 v],.bool true]) (by simp [results,Tryz.results129,go_sem, *]) rfl ⟨turnR_yes (turn_4 ‹_› ‹_›),by exact zB⟩)
      | (refine bodyPost_ret (v:=.tuple #[.agg #[.int .i64 s,.int .i64 e,.int .i64 t],.bool false]) (by simp [results,Tryz.results129,go_sem, *]) rfl ⟨turnR_no (by first|exact turn_2 ‹_›|exact turn_3 ‹_›),by exact zB⟩)
  · go_enter Tryz.func129,Tryz.ntmps129
    go_wp2_with (go_at_call 68;refine (cellOk_any _ _ _ _).mono ?_;rintro _ w1 ⟨rfl,hbw1⟩;have hBw1:Below w.heap.size w w1:=bT (by exact zB) hbw1;have hsw1:=hbw1.size;(try (simp at hsw1));have:=fun o=>hbw1.cell (p:=⟨w.heap.size,o,none⟩) (by ((try simp);(try omega)));have:=fun o=>hbw1.frozen (p:=⟨w.heap.size,o,none⟩) (by ((try simp);(try omega)));have:=fun o=>hbw1.cell (p:=⟨w.heap.size+1,o,none⟩) (by ((try simp);(try omega)));have:=fun o=>hbw1.frozen (p:=⟨w.heap.size+1,o,none⟩) (by ((try simp);(try omega)));have:=fun o=>hbw1.cell (p:=⟨w.heap.size+1+1,o,none⟩) (by ((try simp);(try omega)));have:=fun o=>hbw1.frozen (p:=⟨w.heap.size+1+1,o,none⟩) (by ((try simp);(try omega)));have:w.heap.size<w1.heap.size:=(by omega);have:w.heap.size≤w1.heap.size:=(by omega);have:w.heap.size≤w1.heap.size+1:=(by omega);have:w.heap.size+1<w1.heap.size:=(by omega);have:w.heap.size+1≤w1.heap.size:=(by omega);have:w.heap.size+1≤w1.heap.size+1:=(by omega);have:w.heap.size+1+1<w1.heap.size:=(by omega);have:w.heap.size+1+1≤w1.heap.size:=(by omega);have:w.heap.size+1+1≤w1.heap.size+1:=(by omega))
    all_goals (refine bodyPost_ret (v:=.tuple #[.agg #[.int .i64 s,.int .i64 e,.int .i64 t],.bool false]) (by simp [results,Tryz.results129,go_sem, *]) rfl ⟨turnR_no (by first|exact turn_1 ‹_›|exact turn_2 ‹_›),by exact zB⟩)
end Go.Proofs.YtkiingmgpobgnaaGreat
set_option linter.unusedSimpArgs false
set_option linter.unusedVariables false
namespace Go.Proofs.YtkiingmgpobgnaaGreat
open Go.RowKit
set_option linter.unusedSimpArgs false
attribute [local simp] bx_size
attribute [local go_sem ↓] zeroHand zeroChan toLHand toLChan toVHand toVChan storeHand storeChan storeHandC storeChanC
set_option maxRecDepth 100000 in
set_option maxHeartbeats 2000000 in
theorem sendLay_any (c:Ch) (h:Ha) (v1 v2:Value) (lo:Nat) (w:World) (h1:OCells w lo v1 c.cells) (h2:OInts w lo v2 c.words) (hc0:0≤h.cell) (hc1:h.cell<c.cells.length) :
    Calls Tryz.prog 90 #[.agg (cvals c v1 v2),.agg (hvals h)] w fun r w'=>StepO w w' lo v1 v2 ((layC c h.cell h.elem,{ h with pos:=3 },true)) r:=by
  obtain ⟨i,hci⟩:∃ i:Nat,h.cell=(i:Int):=⟨h.cell.toNat,by omega⟩
  have hi:i<c.cells.length:=by omega
  have hi0:(0:Int)≤(i:Int):=by omega
  have hi1:(i:Int)<(c.cells.length:Int):=by omega
  have hne:=h1.ne h2
  obtain ⟨a2,q2,rfl,_⟩:=h2.seg
  obtain ⟨g,q1,rfl,hlo1,hlt,hcell,hfr⟩:=h1.open1 hi
  have O1:=Lib.hid h1
  have O2:=Lib.hid h2
  have lg0:g<w.heap.size+1:=by omega
  have lg1:g<w.heap.size+1+1:=by omega
  have lg2:g<w.heap.size+1+1+1:=by omega
  have ng0:g≠w.heap.size:=by omega
  have ng1:g≠w.heap.size+1:=by omega
  have ng2:g≠w.heap.size+1+1:=by omega
  have ng3:g≠w.heap.size+1+1+1:=by omega
  have mg0:w.heap.size≠g:=by omega
  have mg1:w.heap.size+1≠g:=by omega
  have mg2:w.heap.size+1+1≠g:=by omega
  have mg3:w.heap.size+1+1+1≠g:=by omega
  have hx:Hid (cellAt c h.cell=c.cells.getD i ⟨0,0,0⟩):=by simp [cellAt,Hid,hci]
  have c0:=hcell 0 (by omega)
  have c1:=hcell 1 (by omega)
  have c2:=hcell 2 (by omega)
  simp only [C3.val,Nat.add_zero] at c0 c1 c2
  rw [show layC c h.cell h.elem=layC c i h.elem by rw [hci]]
  have hlc:Hid ((layC c i h.elem).cells=c.cells.set i ⟨(c.cells.getD i ⟨0,0,0⟩).s,laidF (c.cells.getD i ⟨0,0,0⟩).s (c.cells.getD i ⟨0,0,0⟩).e (c.cells.getD i ⟨0,0,0⟩).t h.elem,(c.cells.getD i ⟨0,0,0⟩).t⟩):=by simp [layC,setAt,cellAt,Hid]
  clear hx hcell h1 h2
  generalize c.cells.getD i ⟨0,0,0⟩=x at *
  obtain ⟨s,e,t⟩:=x
  simp only at c0 c1 c2
  have o1:=O1.out
  have o2:=O2.out
  go_enter Tryz.func90,Tryz.ntmps90
  go_wp2_with fail
  refine wp_region_held_drew (S:=fun w'=>w'.cell? ⟨w.heap.size,4,none⟩=some (.slice (some ⟨g,0,none⟩) c.cells.length q1)∧w'.cell? ⟨w.heap.size+1,3,none⟩=some (.int .i64 i)∧w'.cell? ⟨w.heap.size+1,2,none⟩=some (.int .i64 h.elem)) (by kernel_rfl) (by simp [*,go_sem]) (fun hS0=>?_)
  refine wpAnyH_take (i:=0) (oi:=⟨some 7,_,_,_,_,_⟩) (v:=?_) rfl (by kernel_rfl) (by kernel_rfl) (by kernel_rfl) (fun _ _ _ h=>h) (Or.inl ⟨by rfl,?_⟩) (by assumption) ?_;rotate_left;(focus (intro w' hSw;(try dsimp only at hSw);go_simp;(try with_reducible rfl)));(try rotate_left);(try simp only [Act.put,List.setIfInBounds_toArray,List.set_cons_zero,List.set_cons_succ])
  refine wpAnyH_take (i:=1) (oi:=⟨some 8,_,_,_,_,_⟩) (v:=?_) rfl (by kernel_rfl) (by kernel_rfl) (by kernel_rfl) (fun _ _ _ h=>h) (Or.inl ⟨by rfl,?_⟩) (by assumption) ?_;rotate_left;(focus (intro w' hSw;(try dsimp only at hSw);go_simp;(try with_reducible rfl)));(try rotate_left);(try simp only [Act.put,List.setIfInBounds_toArray,List.set_cons_zero,List.set_cons_succ])
  refine wpAnyH_take (i:=2) (oi:=⟨some 9,_,_,_,_,_⟩) (v:=?_) rfl (by kernel_rfl) (by kernel_rfl) (by kernel_rfl) (fun _ _ _ h=>h) (Or.inl ⟨by rfl,?_⟩) (by assumption) ?_;rotate_left;(focus (intro w' hSw;(try dsimp only at hSw);go_simp;(try with_reducible rfl)));(try rotate_left);(try simp only [Act.put,List.setIfInBounds_toArray,List.set_cons_zero,List.set_cons_succ])
  refine wpAnyH_take (i:=3) (oi:=⟨some 10,_,_,_,_,_⟩) (v:=?_) rfl (by kernel_rfl) (by kernel_rfl) (by kernel_rfl) (fun _ _ _ h=>h) (Or.inl ⟨by rfl,?_⟩) (by assumption) ?_;rotate_left;(focus (intro w' hSw;(try dsimp only at hSw);go_simp;(try with_reducible rfl)));(try rotate_left);(try simp only [Act.put,List.setIfInBounds_toArray,List.set_cons_zero,List.set_cons_succ])
  refine wpAnyH_take (i:=4) (oi:=⟨some 11,_,_,_,_,_⟩) (v:=?_) rfl (by kernel_rfl) (by kernel_rfl) (by kernel_rfl) (fun _ _ _ h=>h) (Or.inl ⟨by rfl,?_⟩) (by assumption) ?_;rotate_left;(focus (intro w' hSw;(try dsimp only at hSw);go_simp;(try with_reducible rfl)));(try rotate_left);(try simp only [Act.put,List.setIfInBounds_toArray,List.set_cons_zero,List.set_cons_succ])
  refine wpAnyH_take (i:=5) (oi:=⟨some 12,_,_,_,_,_⟩) (v:=?_) rfl (by kernel_rfl) (by kernel_rfl) (by kernel_rfl) (fun _ _ _ h=>h) (Or.inl ⟨by rfl,?_⟩) (by assumption) ?_;rotate_left;(focus (intro w' hSw;(try dsimp only at hSw);go_simp;(try with_reducible rfl)));(try rotate_left);(try simp only [Act.put,List.setIfInBounds_toArray,List.set_cons_zero,List.set_cons_succ])
  refine wpAnyH_take (i:=6) (oi:=⟨some 13,_,_,_,_,_⟩) (v:=?_) rfl (by kernel_rfl) (by kernel_rfl) (by kernel_rfl) (fun _ _ _ h=>h) (Or.inl ⟨by rfl,?_⟩) (by assumption) ?_;rotate_left;(focus (intro w' hSw;(try dsimp only at hSw);go_simp;(try with_reducible rfl)));(try rotate_left);(try simp only [Act.put,List.setIfInBounds_toArray,List.set_cons_zero,List.set_cons_succ])
  refine wpAnyH_take (i:=7) (oi:=⟨some 14,_,_,_,_,_⟩) (v:=?_) rfl (by kernel_rfl) (by kernel_rfl) (by kernel_rfl) (fun _ _ _ h=>h) (Or.inl ⟨by rfl,?_⟩) (by assumption) ?_;rotate_left;(focus (intro w' hSw;(try dsimp only at hSw);go_simp;(try with_reducible rfl)));(try rotate_left);(try simp only [Act.put,List.setIfInBounds_toArray,List.set_cons_zero,List.set_cons_succ])
  refine wpAnyH_take (i:=8) (oi:=⟨some 15,_,_,_,_,_⟩) (v:=?_) rfl (by kernel_rfl) (by kernel_rfl) (by kernel_rfl) (fun _ _ _ h=>h) (Or.inl ⟨by rfl,?_⟩) (by assumption) ?_;rotate_left;(focus (intro w' hSw;(try dsimp only at hSw);go_simp;(try with_reducible rfl)));(try rotate_left);(try simp only [Act.put,List.setIfInBounds_toArray,List.set_cons_zero,List.set_cons_succ])
  refine wpAnyH_take (i:=10) (oi:=⟨some 17,_,_,_,_,_⟩) (v:=?_) rfl (by kernel_rfl) (by kernel_rfl) (by kernel_rfl) (fun _ _ _ h=>h) (Or.inl ⟨by rfl,?_⟩) (by assumption) ?_;rotate_left;(focus (intro w' hSw;(try dsimp only at hSw);go_simp;(try with_reducible rfl)));(try rotate_left);(try simp only [Act.put,List.setIfInBounds_toArray,List.set_cons_zero,List.set_cons_succ])
  refine wpAnyH_take (i:=11) (oi:=⟨some 18,_,_,_,_,_⟩) (v:=?_) rfl (by kernel_rfl) (by kernel_rfl) (by kernel_rfl) (fun _ _ _ h=>h) (Or.inl ⟨by rfl,?_⟩) (by assumption) ?_;rotate_left;(focus (intro w' hSw;(try dsimp only at hSw);go_simp;(try with_reducible rfl)));(try rotate_left);(try simp only [Act.put,List.setIfInBounds_toArray,List.set_cons_zero,List.set_cons_succ])
  refine wpAnyH_take (i:=12) (oi:=⟨some 19,_,_,_,_,_⟩) (v:=?_) rfl (by kernel_rfl) (by kernel_rfl) (by kernel_rfl) (fun _ _ _ h=>h) (Or.inl ⟨by rfl,?_⟩) (by assumption) ?_;rotate_left;(focus (intro w' hSw;(try dsimp only at hSw);go_simp;(try with_reducible rfl)));(try rotate_left);(try simp only [Act.put,List.setIfInBounds_toArray,List.set_cons_zero,List.set_cons_succ])
  refine wpAnyH_ready (rs:=[9]) (by kernel_rfl) (by simp) ?_
  refine AllReadyH.cons (o:=⟨some 16,_,_,_,_,_⟩) rfl (fun K hK=>?_) AllReadyH.nil
  go_simp
  refine hK.out _ _ hS0 (fun hS9=>?_)
  clear hK
  (try simp only [Act.put,List.setIfInBounds_toArray,List.set_cons_zero,List.set_cons_succ])
  refine wpAnyH_ready (rs:=[13]) (by kernel_rfl) (by simp) ?_
  refine AllReadyH.cons (o:=⟨some 20,_,_,_,_,_⟩) rfl (fun K hK=>?_) AllReadyH.nil
  go_simp
  go_at_call 110
  refine (laid_any s e t h.elem _).mono ?_
  rintro _ w4 ⟨rfl,hbw4⟩
  have hCw4:Below w.heap.size w w4:=bT (by exact zB) hbw4
  have y0:=(hCw4.cell (p:=⟨g,i*3,none⟩) hlt).trans c0
  have y1:=(hCw4.cell (p:=⟨g,i*3+1,none⟩) hlt).trans c1
  have y2:=(hCw4.cell (p:=⟨g,i*3+2,none⟩) hlt).trans c2
  have yf:=fun o=>(hCw4.frozen (p:=⟨g,o,none⟩) hlt).trans (hfr o)
  have hsw4:=hbw4.size;(try simp at hsw4);have zz:=q4 hbw4 (b:=w.heap.size);(try simp [go_sem] at zz);(try clear z_wppp x_wppp f_wppp l_wppp);(try clear z_wpp x_wpp f_wpp l_wpp);(try clear z_wp x_wp f_wp l_wp);(try clear z_w x_w f_w l_w);obtain ⟨z_wppp,z_wpp,z_wp,z_w⟩:=zz;obtain ⟨x_wppp,f_wppp,l_wppp⟩:=bO z_wppp;obtain ⟨x_wpp,f_wpp,l_wpp⟩:=bO z_wpp;obtain ⟨x_wp,f_wp,l_wp⟩:=bO z_wp;obtain ⟨x_w,f_w,l_w⟩:=bO z_w;clear hbw4
  refine hK.out _ _ (by simp [*,go_sem]) (fun hS4=>?_)
  clear hK
  (try simp only [Act.put,List.setIfInBounds_toArray,List.set_cons_zero,List.set_cons_succ])
  refine wpAnyH_take (i:=14) (oi:=⟨some 21,_,_,_,_,_⟩) (v:=?_) rfl (by kernel_rfl) (by kernel_rfl) (by kernel_rfl) (fun _ _ _ h=>h) (Or.inl ⟨by rfl,?_⟩) (by assumption) ?_;rotate_left;(focus (intro w' hSw;(try dsimp only at hSw);go_simp;(try with_reducible rfl)));(try rotate_left);(try simp only [Act.put,List.setIfInBounds_toArray,List.set_cons_zero,List.set_cons_succ])
  refine wpAnyH_ready (rs:=[15]) (by kernel_rfl) (by simp) ?_
  refine AllReadyH.cons (o:=⟨none,_,_,_,_,_⟩) rfl (fun K hK=>?_) AllReadyH.nil
  go_simp
  refine hK.out _ _ (by simp [*,go_sem]) (fun hS5=>?_)
  clear hK
  (try simp only [Act.put,List.setIfInBounds_toArray,List.set_cons_zero,List.set_cons_succ])
  refine wpAnyH_done (by kernel_rfl) ?_ _
  obtain ⟨w5,hw5⟩:∃ w5,w5=((w4.setCell ⟨g,i*3,none⟩ (.int .i64 s)).setCell ⟨g,i*3+1,none⟩ (.int .i64 (laidF s e t h.elem))).setCell ⟨g,i*3+2,none⟩ (.int .i64 t):=⟨_,rfl⟩
  have r1:OCells w5 lo (.slice (some ⟨g,0,none⟩) c.cells.length q1) (layC c i h.elem).cells:=by rw [hw5];rw [hlc.out];simpa using OCells.set (own_below o1 hCw4) hi ⟨s,(laidF s e t h.elem),t⟩
  have r2:OInts w5 lo (.slice a2 c.words.length q2) c.words:=by rw [hw5];exact own_store (own_store (own_store (own_below o2 hCw4) (hne g rfl) _) (hne g rfl) _) (hne g rfl) _
  have hgw5:w4.grownBy w5 (some g):=by rw [hw5];exact gS (gS (gS (gR _ _) (.inl rfl)) (.inl rfl)) (.inl rfl)
  rw [← hw5]
  clear hw5
  have sg0:some w.heap.size≠some g:=by simp;omega
  have sg1:some (w.heap.size+1)≠some g:=by simp;omega
  have sg2:some (w.heap.size+1+1)≠some g:=by simp;omega
  have sg3:some (w.heap.size+1+1+1)≠some g:=by simp;omega
  have hsw5:=hgw5.size;(try (simp at hsw5));have zz:=And.intro (grHp hgw5 (b:=w.heap.size+1+1+1) (by (try simp) <;> omega) (by assumption)) <| And.intro (grHp hgw5 (b:=w.heap.size+1+1) (by (try simp) <;> omega) (by assumption)) <| And.intro (grHp hgw5 (b:=w.heap.size+1) (by (try simp) <;> omega) (by assumption)) <| grHp hgw5 (b:=w.heap.size) (by (try simp) <;> omega) (by assumption);(first|simp [go_sem,z_wppp,z_wpp,z_wp,z_w,l_w,l_wp,l_wpp,l_wppp] at zz|simp [go_sem] at zz|skip);(try clear z_wppp x_wppp f_wppp l_wppp);(try clear z_wpp x_wpp f_wpp l_wpp);(try clear z_wp x_wp f_wp l_wp);(try clear z_w x_w f_w l_w);obtain ⟨z_wppp,z_wpp,z_wp,z_w⟩:=zz;obtain ⟨x_wppp,f_wppp,l_wppp⟩:=bO z_wppp;obtain ⟨x_wpp,f_wpp,l_wpp⟩:=bO z_wpp;obtain ⟨x_wp,f_wp,l_wp⟩:=bO z_wp;obtain ⟨x_w,f_w,l_w⟩:=bO z_w
  have hG5:Gr g w w5:=gT (gOfB hCw4) hgw5
  clear hgw5
  clear y0 y1 y2 yf hS0 hS9 hS4 hS5
  go_wp2_with fail
  go_region_held3 (fun w'=>hp w' w.heap.size=some (.cells (cvals c (.slice (some ⟨g,0,none⟩) c.cells.length q1) (.slice a2 c.words.length q2)) 27)∧hp w' (w.heap.size+1)=some (.cells (hvals h) 31))
    (first|(simp [*,go_sem]))
    (first|(go_at_call 105;refine (moved_any _ _ _).mono ?_;rintro _ w6 ⟨rfl,hbw6⟩;have hGw6:Gr g w w6:=gT (by (repeat (first|with_reducible assumption|with_reducible exact gR _ _|with_reducible refine gA ?_|with_reducible refine gD ?_|with_reducible refine gS ?_ (.inl rfl)|((with_reducible refine gBx ?_ (.inr ?_));rotate_left;(focus ((try dsimp only);(try simp);(try omega))))|((with_reducible refine gS ?_ (.inr ?_));rotate_left;(focus ((try dsimp only);(try simp);(try omega))))))) (gOfB hbw6);have hsw6:=hbw6.size;(try (simp at hsw6));have zz:=hQ hbw6 (b:=w.heap.size);(first|(simp [go_sem,z_w,l_w] at zz)|(simp [go_sem] at zz));(try clear x_w f_w);(try clear z_w);have z_w:=zz;clear zz;(try clear l_w);obtain ⟨x_w,f_w,l_w⟩:=bO z_w;have zz:=hQ hbw6 (b:=w.heap.size+1);(first|(simp [go_sem,z_wp,l_wp] at zz)|(simp [go_sem] at zz));(try clear x_wp f_wp);(try clear z_wp);have z_wp:=zz;clear zz;(try clear l_wp);obtain ⟨x_wp,f_wp,l_wp⟩:=bO z_wp;have zz:=hQ hbw6 (b:=w.heap.size+1+1);(first|(simp [go_sem,z_wpp,l_wpp] at zz)|(simp [go_sem] at zz));(try clear x_wpp f_wpp);(try clear z_wpp);have z_wpp:=zz;clear zz;(try clear l_wpp);obtain ⟨x_wpp,f_wpp,l_wpp⟩:=bO z_wpp;have zz:=hQ hbw6 (b:=w.heap.size+1+1+1);(first|(simp [go_sem,z_wppp,l_wppp] at zz)|(simp [go_sem] at zz));(try clear x_wppp f_wppp);(try clear z_wppp);have z_wppp:=zz;clear zz;(try clear l_wppp);obtain ⟨x_wppp,f_wppp,l_wppp⟩:=bO z_wppp;have p1:OCells w6 lo (.slice (some ⟨g,0,none⟩) c.cells.length q1) (layC c i h.elem).cells:=own_below (by exact zO r1 o1) hbw6;have p2:OInts w6 lo (.slice a2 c.words.length q2) c.words:=own_below (by exact zO r2 o2) hbw6))
  go_wp2
  refine bodyPost_ret (res_cct Tryz.results90 rfl (ldChan (layC c i h.elem) (.slice (some ⟨g,0,none⟩) c.cells.length q1) (.slice a2 c.words.length q2) (by simp [go_sem, *] <;> rfl)) rfl (ldHand { h with pos:=3 } (by simp [go_sem, *] <;> first|rfl|simp [seenAs,anew,hci]))) rfl ⟨⟨_,_,rfl,?_,?_,fresh_refl _ _,fresh_refl _ _⟩,onl1 (show w.grownBy _ (some g) from (by (repeat (first|with_reducible assumption|with_reducible exact gR _ _|with_reducible refine gA ?_|with_reducible refine gD ?_|with_reducible refine gS ?_ (.inl rfl)|((with_reducible refine gBx ?_ (.inr ?_));rotate_left;(focus ((try dsimp only);(try simp);(try omega))))|((with_reducible refine gS ?_ (.inr ?_));rotate_left;(focus ((try dsimp only);(try simp);(try omega))))))))⟩
  · show OCells _ lo (.slice (some ⟨g,0,none⟩) c.cells.length q1) (layC c i h.elem).cells
    exact zO p1 o1
  · show OInts _ lo (.slice a2 c.words.length q2) c.words
    exact zO p2 o2
end Go.Proofs.YtkiingmgpobgnaaGreat
set_option linter.unusedSimpArgs false
set_option linter.unusedVariables false
namespace Go.Proofs.YtkiingmgpobgnaaGreat
open Go.RowKit
set_option linter.unusedSimpArgs false
set_option maxRecDepth 100000 in
set_option maxHeartbeats 2000000 in
theorem turnedIn_any (c:Ch) (i:Nat) (f t v:Int) (v1 v2:Value) (lo:Nat) (w:World) (h1:OCells w lo v1 c.cells) (h2:OInts w lo v2 c.words) (hi:i<c.cells.length) :
    Calls Tryz.prog 124 #[.agg (cvals c v1 v2),.int .i64 i,.int .i64 f,.int .i64 t,.int .i64 v] w fun r w'=>r=.returned (.bool (turnCB c i f t v))∧OCells w' lo v1 (turnC c i f t v).cells∧OInts w' lo v2 c.words∧w.grownBy w' v1.ownBlock:=by
  have O2:=Lib.hid h2
  have hne:=h1.ne h2
  obtain ⟨b,q,rfl,_⟩:=h2.seg
  obtain ⟨g,cap,rfl,hlo,hlt,hcell,hfr⟩:=h1.open1 hi
  have O1:=Lib.hid h1
  have c0:=hcell 0 (by omega)
  have c1:=hcell 1 (by omega)
  have c2:=hcell 2 (by omega)
  simp only [C3.val,Nat.add_zero] at c0 c1 c2
  have hi0:(0:Int)≤(i:Int):=by omega
  have hi1:(i:Int)<(c.cells.length:Int):=by omega
  have hgw:w.heap.size≠g:=by omega
  have hgw2:w.heap.size+1≠g:=by omega
  have hgw3:g≠w.heap.size:=by omega
  have hgw4:g≠w.heap.size+1:=by omega
  rw [turnC_cells,turnCB_at]
  unfold turnXB turnX
  generalize hcg:c.cells.getD i ⟨0,0,0⟩=x at c0 c1 c2
  clear h1 h2 hcell hcg
  unfold cvals
  go_enter Tryz.func124,Tryz.ntmps124
  go_wp2_with fail;refine bHit w (by exact zB) fun bb=>?_;refine (turned_any _ _ _ f t v _).mono ?_;rintro _ w1 ⟨hr,hbw1⟩;have hCw1:Below w.heap.size w w1:=bT bb hbw1;have hsw1:=hbw1.size;(try simp at hsw1);have zz:=And.intro (fun o=>hbw1.cell (p:=⟨w.heap.size,o,none⟩) (by (try simp) <;> omega)) <| fun o=>hbw1.frozen (p:=⟨w.heap.size,o,none⟩) (by (try simp) <;> omega);(try simp [go_sem] at zz);(try clear x_w f_w);obtain ⟨x_w,f_w⟩:=zz;(try clear l_w);have l_w:w.heap.size<w1.heap.size:=(by omega);have hKw1:Below w.heap.size w w1:=hCw1;clear hbw1 bb
  unfold TurnR at hr
  subst hr
  have o1:=O1.out
  have o2:=O2.out
  have p1:=own_below o1 hCw1
  have p2:=own_below o2 hCw1
  have d1:=fun o=>(hCw1.cell (p:=⟨g,o,none⟩) hlt)
  have d2:=fun o=>(hCw1.frozen (p:=⟨g,o,none⟩) hlt)
  have hgw5:g<w1.heap.size:=by omega
  have hgw6:w1.heap.size≠g:=by omega
  have hgw7:g≠w1.heap.size:=by omega
  have P1:=OCells.set p1 hi (turnX x f t v)
  simp only [turnX] at P1
  go_wp2
  go_ret
  refine ⟨rfl,?_,?_,?_⟩
  · exact zO P1 o1
  · (repeat first|with_reducible exact p2|with_reducible refine oAl ?_ _|with_reducible refine oDr ?_|((with_reducible first|refine own_store ?_ ?_ _|refine own_box ?_ ?_);rotate_left;focus first|(refine own_ne o2 ?_;(try dsimp only);omega)|(refine own_ne' o2 ?_;(try dsimp only);omega)|exact fun h=>OCells.ne o1 o2 _ rfl h))
  · have hg1:Gr g w w1:=gOfB hCw1
    show Gr g w _
    (repeat (first|with_reducible assumption|with_reducible exact gR _ _|with_reducible refine gA ?_|with_reducible refine gD ?_|with_reducible refine gS ?_ (.inl rfl)|((with_reducible refine gBx ?_ (.inr ?_));rotate_left;(focus ((try dsimp only);(try simp);(try omega))))|((with_reducible refine gS ?_ (.inr ?_));rotate_left;(focus ((try dsimp only);(try simp);(try omega))))))
attribute [local simp] bx_size
attribute [local go_sem ↓] zeroHand zeroChan toLHand toLChan toVHand toVChan storeHand storeChan storeHandC storeChanC
set_option maxRecDepth 100000 in
set_option maxHeartbeats 1000000 in
theorem saw_any (h:Ha) (s e t:Int) (w:World):Calls Tryz.prog 111 #[.agg (hvals h),.agg #[.int .i64 s,.int .i64 e,.int .i64 t]] w fun r w'=>r=.returned (.agg (hvals { h with seen:=s,wait:=t }))∧Below w.heap.size w w':=by
  go_enter Tryz.func111,Tryz.ntmps111
  go_wp2_with fail
  go_region
  all_goals go_wp2
  all_goals exact bodyPost_ret (res_c Tryz.results111 rfl (ldHand { h with seen:=s,wait:=t } (by simp [go_sem, *] <;> rfl))) rfl ⟨rfl,by exact zB⟩
end Go.Proofs.YtkiingmgpobgnaaGreat
set_option linter.unusedSimpArgs false
set_option linter.unusedVariables false
namespace Go.Proofs.YtkiingmgpobgnaaGreat
open Go.RowKit
set_option linter.unusedSimpArgs false
attribute [local simp] bx_size
attribute [local go_sem ↓] zeroHand zeroChan toLHand toLChan toVHand toVChan storeHand storeChan storeHandC storeChanC
theorem pMore2_any (c:Ch) (v1 v2:Value) (lo:Nat) (L:List Int) (m:Int) (w:World) (h1:OCells w lo v1 c.cells) (h2:OInts w lo v2 c.words) (hc:chanOk c=true) (hf:¬ 80≤c.words.length) (hL:L=c.words ++ [0]) (hm:m=(c.words.length:Int)+1) :
    Calls Tryz.prog 130 #[.agg (cvals c v1 v2)] w fun r w'=>(∃ y1 y2,r=.returned (.tuple #[.agg (cvals c y1 y2),.int .i64 m])∧OCells w' w.heap.size y1 c.cells∧OInts w' w.heap.size y2 L)∧Below w.heap.size w w':=by
  subst hL hm
  exact pMore_any c v1 v2 lo w h1 h2 hc hf
set_option maxRecDepth 100000 in
set_option maxHeartbeats 2000000 in
theorem waited_full (c:Ch) (st:Int) (y z:Ha) (v1 v2:Value) (lo:Nat) (w:World) (h1:OCells w lo v1 c.cells) (h2:OInts w lo v2 c.words) (hc:chanOk c=true) (hf:80≤c.words.length) :
    Calls Tryz.prog 125 #[.agg (cvals c v1 v2),.int .i64 st,.agg (hvals y),.agg (hvals z)] w fun r w'=>StepB w w' lo v1 v2 ((c,resting 4 0,true)) r:=by
  have b1:=fun j (hj:v1.ownBlock=some j)=>(h1.lt j hj).2
  have b2:=fun j (hj:v2.ownBlock=some j)=>(h2.lt j hj).2
  obtain ⟨a1,q1,rfl,_⟩:=h1.seg
  obtain ⟨a2,q2,rfl,_⟩:=h2.seg
  have O1:=Lib.hid h1
  have O2:=Lib.hid h2
  clear h1 h2
  have o1:=O1.out
  have o2:=O2.out
  go_enter Tryz.func125,Tryz.ntmps125
  go_wp2_with fail;refine bHit w (by exact zB) fun bb=>?_;refine (pFull_any c _ _ lo _ (by exact zO o1 o1) (by exact zO o2 o2) hc hf).mono ?_;rintro _ w1 ⟨⟨y1,y2,rfl,oY1,oY2⟩,hbw1⟩;have hCw1:Below w.heap.size w w1:=bT bb hbw1;have hsw1:=hbw1.size;(try simp at hsw1);have zz:=And.intro (hQ hbw1 (b:=w.heap.size+1+1+1+1)) <| And.intro (hQ hbw1 (b:=w.heap.size+1+1+1)) <| And.intro (hQ hbw1 (b:=w.heap.size+1+1)) <| And.intro (hQ hbw1 (b:=w.heap.size+1)) <| hQ hbw1 (b:=w.heap.size);(try simp [go_sem] at zz);(try clear z_wpppp x_wpppp f_wpppp l_wpppp);(try clear z_wppp x_wppp f_wppp l_wppp);(try clear z_wpp x_wpp f_wpp l_wpp);(try clear z_wp x_wp f_wp l_wp);(try clear z_w x_w f_w l_w);obtain ⟨z_wpppp,z_wppp,z_wpp,z_wp,z_w⟩:=zz;obtain ⟨x_wpppp,f_wpppp,l_wpppp⟩:=bO z_wpppp;obtain ⟨x_wppp,f_wppp,l_wppp⟩:=bO z_wppp;obtain ⟨x_wpp,f_wpp,l_wpp⟩:=bO z_wpp;obtain ⟨x_wp,f_wp,l_wp⟩:=bO z_wp;obtain ⟨x_w,f_w,l_w⟩:=bO z_w;have hKw1:Below w.heap.size w w1:=hCw1;clear hbw1 bb
  obtain ⟨ya,yp,rfl,_⟩:=oY1.seg
  obtain ⟨yb,yq,rfl,_⟩:=oY2.seg
  have k0:w.heap.size<w1.heap.size:=by omega
  have k1:w.heap.size+1<w1.heap.size:=by omega
  have k2:w.heap.size+1+1<w1.heap.size:=by omega
  have k3:w.heap.size+1+1+1<w1.heap.size:=by omega
  have k4:w.heap.size+1+1+1+1<w1.heap.size:=by omega
  go_wp2_with fail
  go_region_held3 (fun w'=>hp w' w.heap.size=some (.cells (cvals c (.slice a1 c.cells.length q1) (.slice a2 c.words.length q2)) 27)∧hp w' (w.heap.size+1)=some (.cells (hvals y) 31))
    (first|(simp [*,go_sem]))
    (first|((go_at_call 76;refine bHit w (by exact zB) fun bb=>?_;refine (resting_any _ _ _).mono ?_;rintro _ w2 ⟨rfl,hbw2⟩;have hCw2:Below w.heap.size w w2:=bT bb hbw2;have hsw2:=hbw2.size;(try simp at hsw2);have zz:=And.intro (hQ hbw2 (b:=w.heap.size+1+1+1+1)) <| And.intro (hQ hbw2 (b:=w.heap.size+1+1+1)) <| And.intro (hQ hbw2 (b:=w.heap.size+1+1)) <| And.intro (hQ hbw2 (b:=w.heap.size+1)) <| hQ hbw2 (b:=w.heap.size);(first|simp [go_sem,z_wpppp,z_wppp,z_wpp,z_wp,z_w,l_w,l_wp,l_wpp,l_wppp,l_wpppp,k0,k1,k2,k3,k4] at zz|simp [go_sem] at zz|skip);(try clear z_wpppp x_wpppp f_wpppp l_wpppp);(try clear z_wppp x_wppp f_wppp l_wppp);(try clear z_wpp x_wpp f_wpp l_wpp);(try clear z_wp x_wp f_wp l_wp);(try clear z_w x_w f_w l_w);obtain ⟨z_wpppp,z_wppp,z_wpp,z_wp,z_w⟩:=zz;obtain ⟨x_wpppp,f_wpppp,l_wpppp⟩:=bO z_wpppp;obtain ⟨x_wppp,f_wppp,l_wppp⟩:=bO z_wppp;obtain ⟨x_wpp,f_wpp,l_wpp⟩:=bO z_wpp;obtain ⟨x_wp,f_wp,l_wp⟩:=bO z_wp;obtain ⟨x_w,f_w,l_w⟩:=bO z_w;have hKw2:Below w.heap.size w w2:=hCw2;clear hbw2 bb);have p1:=own_below o1 hKw2;have p2:=own_below o2 hKw2))
  go_wp2
  refine bodyPost_ret (res_cct Tryz.results125 rfl (ldChan c (.slice a1 c.cells.length q1) (.slice a2 c.words.length q2) (by simp [go_sem, *] <;> rfl)) rfl (ldHand (resting 4 0) (by simp [go_sem, *] <;> first|rfl|simp [seenAs,anew,hci]))) rfl ⟨⟨_,_,rfl,?_,?_,fresh_refl _ _,fresh_refl _ _⟩,by exact zB⟩
  · exact zO p1 o1
  · exact zO p2 o2
set_option maxRecDepth 100000 in
set_option maxHeartbeats 4000000 in
theorem waited_no (c:Ch) (st:Int) (y z:Ha) (v1 v2:Value) (lo:Nat) (w:World) (h1:OCells w lo v1 c.cells) (h2:OInts w lo v2 c.words) (hc0:0≤y.cell) (hc1:y.cell<c.cells.length) (hc:chanOk c=true) (hlo:lo≤w.heap.size) (hf:¬ 80≤c.words.length) (m:Int) (hm:m=(c.words.length:Int)+1) (ht:turnCB c y.cell y.seen st m=false) :
    Calls Tryz.prog 125 #[.agg (cvals c v1 v2),.int .i64 st,.agg (hvals y),.agg (hvals z)] w fun r w'=>StepB w w' lo v1 v2 ((c,z,true)) r:=by
  obtain ⟨i,hci⟩:∃ i:Nat,y.cell=(i:Int):=⟨y.cell.toNat,by omega⟩
  have hi:i<c.cells.length:=by omega
  have hm0:(m == 0)=false:=by simp;omega
  have hmz:¬ m=0:=by omega
  obtain ⟨L,hL⟩:∃ L,L=c.words ++ [0]:=⟨_,rfl⟩
  have PM2:=Lib.hid fun v1 v2 lo W a1 a2=>pMore2_any c v1 v2 lo L m W a1 a2 hc hf hL hm
  have T:=Lib.hid fun (u1 u2:Value) (lo:Nat) (W:World) (x1:OCells W lo u1 c.cells) (x2:OInts W lo u2 L)=>turnedIn_any { c with words:=L } i y.seen st m u1 u2 lo W x1 x2 hi
  have ht2:turnCB { c with words:=L } i y.seen st m=false:=by rw [← ht,hci];rfl
  rw [ht2] at T
  clear hm hf hL ht ht2 hc0 hc1
  have b1:=fun j (hj:v1.ownBlock=some j)=>(h1.lt j hj).2
  have b2:=fun j (hj:v2.ownBlock=some j)=>(h2.lt j hj).2
  have o1:=h1
  have o2:=h2
  obtain ⟨a1,q1,e1,_⟩:=h1.seg
  obtain ⟨a2,q2,e2,_⟩:=h2.seg
  subst e1 e2
  clear h1 h2
  go_enter Tryz.func125,Tryz.ntmps125
  go_wp2_with fail;refine bHit w (by exact zB) fun bb=>?_;refine (PM2.out _ _ lo _ (by exact zO o1 o1) (by exact zO o2 o2)).mono ?_;rintro _ w1 ⟨⟨y1,y2,rfl,oY1,oY2⟩,hbw1⟩;have hCw1:Below w.heap.size w w1:=bT bb hbw1;have hsw1:=hbw1.size;(try simp at hsw1);have zz:=And.intro (hQ hbw1 (b:=w.heap.size+1+1+1+1)) <| And.intro (hQ hbw1 (b:=w.heap.size+1+1+1)) <| And.intro (hQ hbw1 (b:=w.heap.size+1+1)) <| And.intro (hQ hbw1 (b:=w.heap.size+1)) <| hQ hbw1 (b:=w.heap.size);(try simp [go_sem] at zz);(try clear z_wpppp x_wpppp f_wpppp l_wpppp);(try clear z_wppp x_wppp f_wppp l_wppp);(try clear z_wpp x_wpp f_wpp l_wpp);(try clear z_wp x_wp f_wp l_wp);(try clear z_w x_w f_w l_w);obtain ⟨z_wpppp,z_wppp,z_wpp,z_wp,z_w⟩:=zz;obtain ⟨x_wpppp,f_wpppp,l_wpppp⟩:=bO z_wpppp;obtain ⟨x_wppp,f_wppp,l_wppp⟩:=bO z_wppp;obtain ⟨x_wpp,f_wpp,l_wpp⟩:=bO z_wpp;obtain ⟨x_wp,f_wp,l_wp⟩:=bO z_wp;obtain ⟨x_w,f_w,l_w⟩:=bO z_w;have hKw1:Below w.heap.size w w1:=hCw1;clear hbw1 bb
  try simp at oY1 oY2
  have fY1:Fresh w (.slice a1 c.cells.length q1) y1:=fun j hj=>.inr (by have:=(oY1.lt j hj).1;omega)
  have fY2:Fresh w (.slice a2 c.words.length q2) y2:=fun j hj=>.inr (by have:=(oY2.lt j hj).1;omega)
  have n0:some (w.heap.size)≠y1.ownBlock:=fun e=>by have:=(oY1.lt _ e.symm).1;omega
  have n1:some (w.heap.size+1)≠y1.ownBlock:=fun e=>by have:=(oY1.lt _ e.symm).1;omega
  have n2:some (w.heap.size+1+1)≠y1.ownBlock:=fun e=>by have:=(oY1.lt _ e.symm).1;omega
  have n3:some (w.heap.size+1+1+1)≠y1.ownBlock:=fun e=>by have:=(oY1.lt _ e.symm).1;omega
  have n4:some (w.heap.size+1+1+1+1)≠y1.ownBlock:=fun e=>by have:=(oY1.lt _ e.symm).1;omega
  have n5:some w1.heap.size≠y1.ownBlock:=fun e=>by have:=(oY1.lt _ e.symm).2;omega
  have lY1:∀ k,y1.ownBlock=some k→w.heap.size≤k:=fun k hk=>by have:=(oY1.lt k hk).1;omega
  obtain ⟨ya,yp,e1,_⟩:=oY1.seg
  obtain ⟨yb,yq,e2,_⟩:=oY2.seg
  subst e1 e2
  have k0:w.heap.size<w1.heap.size:=by omega
  have k1:w.heap.size+1<w1.heap.size:=by omega
  have k2:w.heap.size+1+1<w1.heap.size:=by omega
  have k3:w.heap.size+1+1+1<w1.heap.size:=by omega
  have k4:w.heap.size+1+1+1+1<w1.heap.size:=by omega
  have r1:=own_lo (lo':=lo) oY1 (by omega)
  have r2:=own_lo (lo':=lo) oY2 (by omega)
  go_wp2_with fail;refine (T.out _ _ lo _ (by exact zO r1 oY1) (by exact zO r2 oY2)).mono ?_;rintro _ w2 ⟨rfl,p1,p2,hgw2⟩;have hsw2:=hgw2.size;(try (simp at hsw2));have zz:=And.intro (grHp hgw2 (b:=w1.heap.size) (by (try simp) <;> omega) (by assumption)) <| And.intro (grHp hgw2 (b:=w.heap.size+1+1+1+1) (by (try simp) <;> omega) (by assumption)) <| And.intro (grHp hgw2 (b:=w.heap.size+1+1+1) (by (try simp) <;> omega) (by assumption)) <| And.intro (grHp hgw2 (b:=w.heap.size+1+1) (by (try simp) <;> omega) (by assumption)) <| And.intro (grHp hgw2 (b:=w.heap.size+1) (by (try simp) <;> omega) (by assumption)) <| grHp hgw2 (b:=w.heap.size) (by (try simp) <;> omega) (by assumption);(first|simp [go_sem,z_wpppp,z_wppp,z_wpp,z_wp,z_w,l_w,l_wp,l_wpp,l_wppp,l_wpppp,k0,k1,k2,k3,k4] at zz|simp [go_sem] at zz|skip);(try clear z_w1 x_w1 f_w1 l_w1);(try clear z_wpppp x_wpppp f_wpppp l_wpppp);(try clear z_wppp x_wppp f_wppp l_wppp);(try clear z_wpp x_wpp f_wpp l_wpp);(try clear z_wp x_wp f_wp l_wp);(try clear z_w x_w f_w l_w);obtain ⟨z_w1,z_wpppp,z_wppp,z_wpp,z_wp,z_w⟩:=zz;obtain ⟨x_w1,f_w1,l_w1⟩:=bO z_w1;obtain ⟨x_wpppp,f_wpppp,l_wpppp⟩:=bO z_wpppp;obtain ⟨x_wppp,f_wppp,l_wppp⟩:=bO z_wppp;obtain ⟨x_wpp,f_wpp,l_wpp⟩:=bO z_wpp;obtain ⟨x_wp,f_wp,l_wp⟩:=bO z_wp;obtain ⟨x_w,f_w,l_w⟩:=bO z_w;have hGw2:=grB (w:=w) (by exact zB) hgw2;clear hgw2
  have hO2:Onl (Value.slice ya c.cells.length yp).ownBlock (Value.slice ya c.cells.length yp).ownBlock w w2:=onl1 hGw2
  have hB2:Below w.heap.size w w2:=bOnl (Below.refl _ _) hO2 lY1 lY1
  have hs2:=hB2.size
  have j0:w.heap.size<w2.heap.size:=by omega
  have j1:w.heap.size+1<w2.heap.size:=by omega
  have j2:w.heap.size+1+1<w2.heap.size:=by omega
  have j3:w.heap.size+1+1+1<w2.heap.size:=by omega
  have j4:w.heap.size+1+1+1+1<w2.heap.size:=by omega
  have s1:=own_below o1 hB2
  have s2:=own_below o2 hB2
  go_wp2_with fail
  go_region
  all_goals go_wp2
  all_goals (refine bodyPost_ret (res_cct Tryz.results125 rfl (ldChan c (.slice a1 c.cells.length q1) (.slice a2 c.words.length q2) (by simp [go_sem, *] <;> rfl)) rfl (ldHand z (by simp [go_sem, *] <;> rfl))) rfl ⟨⟨_,_,rfl,?_,?_,fresh_refl _ _,fresh_refl _ _⟩,by exact zB⟩)
  all_goals first|(show OCells _ _ _ c.cells;exact zO s1 o1)|skip
  all_goals (show OInts _ _ _ c.words;exact zO s2 o2)
set_option maxRecDepth 100000 in
set_option maxHeartbeats 4000000 in
theorem waited_yes (c:Ch) (st:Int) (y z:Ha) (v1 v2:Value) (lo:Nat) (w:World) (h1:OCells w lo v1 c.cells) (h2:OInts w lo v2 c.words) (hc0:0≤y.cell) (hc1:y.cell<c.cells.length) (hc:chanOk c=true) (hlo:lo≤w.heap.size) (hf:¬ 80≤c.words.length) (m:Int) (hm:m=(c.words.length:Int)+1) (ht:turnCB c y.cell y.seen st m=true) :
    Calls Tryz.prog 125 #[.agg (cvals c v1 v2),.int .i64 st,.agg (hvals y),.agg (hvals z)] w fun r w'=>StepB w w' lo v1 v2 (({ turnC c y.cell y.seen st m with words:=c.words ++ [0] },{ y with mine:=m },true)) r:=by
  obtain ⟨i,hci⟩:∃ i:Nat,y.cell=(i:Int):=⟨y.cell.toNat,by omega⟩
  have hi:i<c.cells.length:=by omega
  have hm0:(m == 0)=false:=by simp;omega
  have hmz:¬ m=0:=by omega
  obtain ⟨L,hL⟩:∃ L,L=c.words ++ [0]:=⟨_,rfl⟩
  have PM2:=Lib.hid fun v1 v2 lo W a1 a2=>pMore2_any c v1 v2 lo L m W a1 a2 hc hf hL hm
  have T:=Lib.hid fun (u1 u2:Value) (lo:Nat) (W:World) (x1:OCells W lo u1 c.cells) (x2:OInts W lo u2 L)=>turnedIn_any { c with words:=L } i y.seen st m u1 u2 lo W x1 x2 hi
  have ht2:turnCB { c with words:=L } i y.seen st m=true:=by rw [← ht,hci];rfl
  rw [ht2] at T
  have e0:({ turnC c y.cell y.seen st m with words:=c.words ++ [0] },{ y with mine:=m },true)=(({ turnC c i y.seen st m with words:=L },{ y with mine:=m },true):St):=by rw [hci,hL]
  rw [e0]
  clear e0
  clear hm hf hL ht ht2 hc0 hc1
  have b1:=fun j (hj:v1.ownBlock=some j)=>(h1.lt j hj).2
  have b2:=fun j (hj:v2.ownBlock=some j)=>(h2.lt j hj).2
  have o1:=h1
  have o2:=h2
  obtain ⟨a1,q1,e1,_⟩:=h1.seg
  obtain ⟨a2,q2,e2,_⟩:=h2.seg
  subst e1 e2
  clear h1 h2
  go_enter Tryz.func125,Tryz.ntmps125
  go_wp2_with fail;refine bHit w (by exact zB) fun bb=>?_;refine (PM2.out _ _ lo _ (by exact zO o1 o1) (by exact zO o2 o2)).mono ?_;rintro _ w1 ⟨⟨y1,y2,rfl,oY1,oY2⟩,hbw1⟩;have hCw1:Below w.heap.size w w1:=bT bb hbw1;have hsw1:=hbw1.size;(try simp at hsw1);have zz:=And.intro (hQ hbw1 (b:=w.heap.size+1+1+1+1)) <| And.intro (hQ hbw1 (b:=w.heap.size+1+1+1)) <| And.intro (hQ hbw1 (b:=w.heap.size+1+1)) <| And.intro (hQ hbw1 (b:=w.heap.size+1)) <| hQ hbw1 (b:=w.heap.size);(try simp [go_sem] at zz);(try clear z_wpppp x_wpppp f_wpppp l_wpppp);(try clear z_wppp x_wppp f_wppp l_wppp);(try clear z_wpp x_wpp f_wpp l_wpp);(try clear z_wp x_wp f_wp l_wp);(try clear z_w x_w f_w l_w);obtain ⟨z_wpppp,z_wppp,z_wpp,z_wp,z_w⟩:=zz;obtain ⟨x_wpppp,f_wpppp,l_wpppp⟩:=bO z_wpppp;obtain ⟨x_wppp,f_wppp,l_wppp⟩:=bO z_wppp;obtain ⟨x_wpp,f_wpp,l_wpp⟩:=bO z_wpp;obtain ⟨x_wp,f_wp,l_wp⟩:=bO z_wp;obtain ⟨x_w,f_w,l_w⟩:=bO z_w;have hKw1:Below w.heap.size w w1:=hCw1;clear hbw1 bb
  try simp at oY1 oY2
  have fY1:Fresh w (.slice a1 c.cells.length q1) y1:=fun j hj=>.inr (by have:=(oY1.lt j hj).1;omega)
  have fY2:Fresh w (.slice a2 c.words.length q2) y2:=fun j hj=>.inr (by have:=(oY2.lt j hj).1;omega)
  have n0:some (w.heap.size)≠y1.ownBlock:=fun e=>by have:=(oY1.lt _ e.symm).1;omega
  have n1:some (w.heap.size+1)≠y1.ownBlock:=fun e=>by have:=(oY1.lt _ e.symm).1;omega
  have n2:some (w.heap.size+1+1)≠y1.ownBlock:=fun e=>by have:=(oY1.lt _ e.symm).1;omega
  have n3:some (w.heap.size+1+1+1)≠y1.ownBlock:=fun e=>by have:=(oY1.lt _ e.symm).1;omega
  have n4:some (w.heap.size+1+1+1+1)≠y1.ownBlock:=fun e=>by have:=(oY1.lt _ e.symm).1;omega
  have n5:some w1.heap.size≠y1.ownBlock:=fun e=>by have:=(oY1.lt _ e.symm).2;omega
  have lY1:∀ k,y1.ownBlock=some k→w.heap.size≤k:=fun k hk=>by have:=(oY1.lt k hk).1;omega
  obtain ⟨ya,yp,e1,_⟩:=oY1.seg
  obtain ⟨yb,yq,e2,_⟩:=oY2.seg
  subst e1 e2
  have k0:w.heap.size<w1.heap.size:=by omega
  have k1:w.heap.size+1<w1.heap.size:=by omega
  have k2:w.heap.size+1+1<w1.heap.size:=by omega
  have k3:w.heap.size+1+1+1<w1.heap.size:=by omega
  have k4:w.heap.size+1+1+1+1<w1.heap.size:=by omega
  have r1:=own_lo (lo':=lo) oY1 (by omega)
  have r2:=own_lo (lo':=lo) oY2 (by omega)
  go_wp2_with fail;refine (T.out _ _ lo _ (by exact zO r1 oY1) (by exact zO r2 oY2)).mono ?_;rintro _ w2 ⟨rfl,p1,p2,hgw2⟩;have hsw2:=hgw2.size;(try (simp at hsw2));have zz:=And.intro (grHp hgw2 (b:=w1.heap.size) (by (try simp) <;> omega) (by assumption)) <| And.intro (grHp hgw2 (b:=w.heap.size+1+1+1+1) (by (try simp) <;> omega) (by assumption)) <| And.intro (grHp hgw2 (b:=w.heap.size+1+1+1) (by (try simp) <;> omega) (by assumption)) <| And.intro (grHp hgw2 (b:=w.heap.size+1+1) (by (try simp) <;> omega) (by assumption)) <| And.intro (grHp hgw2 (b:=w.heap.size+1) (by (try simp) <;> omega) (by assumption)) <| grHp hgw2 (b:=w.heap.size) (by (try simp) <;> omega) (by assumption);(first|simp [go_sem,z_wpppp,z_wppp,z_wpp,z_wp,z_w,l_w,l_wp,l_wpp,l_wppp,l_wpppp,k0,k1,k2,k3,k4] at zz|simp [go_sem] at zz|skip);(try clear z_w1 x_w1 f_w1 l_w1);(try clear z_wpppp x_wpppp f_wpppp l_wpppp);(try clear z_wppp x_wppp f_wppp l_wppp);(try clear z_wpp x_wpp f_wpp l_wpp);(try clear z_wp x_wp f_wp l_wp);(try clear z_w x_w f_w l_w);obtain ⟨z_w1,z_wpppp,z_wppp,z_wpp,z_wp,z_w⟩:=zz;obtain ⟨x_w1,f_w1,l_w1⟩:=bO z_w1;obtain ⟨x_wpppp,f_wpppp,l_wpppp⟩:=bO z_wpppp;obtain ⟨x_wppp,f_wppp,l_wppp⟩:=bO z_wppp;obtain ⟨x_wpp,f_wpp,l_wpp⟩:=bO z_wpp;obtain ⟨x_wp,f_wp,l_wp⟩:=bO z_wp;obtain ⟨x_w,f_w,l_w⟩:=bO z_w;have hGw2:=grB (w:=w) (by exact zB) hgw2;clear hgw2
  have hO2:Onl (Value.slice ya c.cells.length yp).ownBlock (Value.slice ya c.cells.length yp).ownBlock w w2:=onl1 hGw2
  have hB2:Below w.heap.size w w2:=bOnl (Below.refl _ _) hO2 lY1 lY1
  have hs2:=hB2.size
  have j0:w.heap.size<w2.heap.size:=by omega
  have j1:w.heap.size+1<w2.heap.size:=by omega
  have j2:w.heap.size+1+1<w2.heap.size:=by omega
  have j3:w.heap.size+1+1+1<w2.heap.size:=by omega
  have j4:w.heap.size+1+1+1+1<w2.heap.size:=by omega
  have s1:OCells w2 lo (.slice ya c.cells.length yp) (turnC c i y.seen st m).cells:=p1
  have s2:OInts w2 lo (.slice yb L.length yq) L:=p2
  go_wp2_with fail
  go_region
  all_goals go_wp2
  all_goals (refine bodyPost_ret (res_cct Tryz.results125 rfl (ldChan c (.slice ya c.cells.length yp) (.slice yb L.length yq) (by simp [go_sem, *] <;> rfl)) rfl (ldHand { y with mine:=m } (by simp [go_sem, *] <;> rfl))) rfl ⟨⟨_,_,rfl,?_,?_,fY1,fY2⟩,by exact zB⟩)
  all_goals first|(show OCells _ _ _ (turnC c i y.seen st m).cells;exact zO s1 oY1)|skip
  all_goals (show OInts _ _ _ L;exact zO s2 oY2)
def wtS (c:Ch) (st:Int) (y z:Ha):St :=
  if 80≤c.words.length then (c,resting 4 0,true) else
  if turnCB c y.cell y.seen st (c.words.length+1) then ({ turnC c y.cell y.seen st (c.words.length+1) with words:=c.words ++ [0] },{ y with mine:=c.words.length+1 },true) else (c,z,true)
set_option maxRecDepth 100000 in
set_option maxHeartbeats 2000000 in
theorem waited_any (c:Ch) (st:Int) (y z:Ha) (v1 v2:Value) (lo:Nat) (w:World) (h1:OCells w lo v1 c.cells) (h2:OInts w lo v2 c.words) (hc0:0≤y.cell) (hc1:y.cell<c.cells.length) (hc:chanOk c=true) (hlo:lo≤w.heap.size) :
    Calls Tryz.prog 125 #[.agg (cvals c v1 v2),.int .i64 st,.agg (hvals y),.agg (hvals z)] w fun r w'=>StepB w w' lo v1 v2 (wtS c st y z) r:=by
  by_cases hf:80≤c.words.length
  · rw [show wtS c st y z=(c,resting 4 0,true) by simp [wtS,hf]]
    exact waited_full c st y z v1 v2 lo w h1 h2 hc hf
  · cases ht:turnCB c y.cell y.seen st (c.words.length+1) with
    | true =>
      rw [show wtS c st y z=({ turnC c y.cell y.seen st (c.words.length+1) with words:=c.words ++ [0] },{ y with mine:=c.words.length+1 },true) by simp [wtS,hf,ht]]
      exact waited_yes c st y z v1 v2 lo w h1 h2 hc0 hc1 hc hlo hf _ rfl ht
    | false =>
      rw [show wtS c st y z=(c,z,true) by simp [wtS,hf,ht]]
      exact waited_no c st y z v1 v2 lo w h1 h2 hc0 hc1 hc hlo hf _ rfl ht
end Go.Proofs.YtkiingmgpobgnaaGreat
set_option linter.unusedSimpArgs false
set_option linter.unusedVariables false
namespace Go.Proofs.YtkiingmgpobgnaaGreat
open Go.RowKit
set_option linter.unusedSimpArgs false
attribute [local simp] bx_size
attribute [local go_sem ↓] zeroHand zeroChan toLHand toLChan toVHand toVChan storeHand storeChan storeHandC storeChanC
def keep6 (c:Ch) (h:Ha):St:=if turnCB c h.cell h.seen 2 0 then (turnC c h.cell h.seen 2 0,resting 1 0,true) else (c,{ h with pos:=3 },true)
def wt6 (c:Ch) (h:Ha):St:=wtS c 3 { h with pos:=23 } { h with pos:=3 }
def cl6 (c:Ch) (h:Ha):St:=wkS c { h with pos:=8 } (anew h)
set_option maxRecDepth 100000 in
set_option maxHeartbeats 2000000 in
theorem sendWait_any (c:Ch) (h:Ha) (v1 v2:Value) (lo:Nat) (w:World) (h1:OCells w lo v1 c.cells) (h2:OInts w lo v2 c.words) (hc0:0≤h.cell) (hc1:h.cell<c.cells.length) (hc:chanOk c=true) (hlo:lo≤w.heap.size) :
    Calls Tryz.prog 114 #[.agg (cvals c v1 v2),.agg (hvals h)] w fun r w'=>StepO w w' lo v1 v2 (wt6 c h) r:=by
  have T0:=fun W a b hl=>waited_any c 3 { h with pos:=23 } { h with pos:=3 } v1 v2 lo W a b hc0 hc1 hc hl
  change ∀ W,_→_→_→Calls _ _ _ _ (fun r w'=>StepB W w' lo v1 v2 (wt6 c h) r) at T0
  generalize wt6 c h=x at *
  have b1:=fun j (hj:v1.ownBlock=some j)=>(h1.lt j hj).2
  have b2:=fun j (hj:v2.ownBlock=some j)=>(h2.lt j hj).2
  obtain ⟨a1,q1,rfl,_⟩:=h1.seg
  obtain ⟨a2,q2,rfl,_⟩:=h2.seg
  have O1:=Lib.hid h1
  have O2:=Lib.hid h2
  clear h1 h2
  have T:=Lib.hid T0
  clear T0
  have o1:=O1.out
  have o2:=O2.out
  go_enter Tryz.func114,Tryz.ntmps114
  go_upto_region 1 with fail
  refine wp_region_inv [[],[],[1],[],[3],[0,1,2,3,4],[0,1,2,3,4,5],[0,1,2,3,4,5],[0,1,2,3,4,5],[0,1,2,3,4,5,6],[0,1,2,3,4,5,7],[0,1,2,3,4,5,8]] [7,8,9,10,11,12,13,14,15,6] (fun l s wx=>(Below w.heap.size w wx)∧(w.heap.size+1+1+1+1≤wx.heap.size)∧(hp wx w.heap.size=some (.cells (cvals c (.slice a1 c.cells.length q1) (.slice a2 c.words.length q2)) 27))∧(hp wx (w.heap.size+1)=some (.cells (hvals h) 31))∧(hp wx (w.heap.size+1+1)=some (.cells (cond (l 9) (cvals x.1 (s 1003) (s 1004)) (cvals Ch.zero (.slice none 0 0) (.slice none 0 0))) 27))∧(hp wx (w.heap.size+1+1+1)=some (.cells (cond (l 10) (hvals x.2.1) (hvals Ha.zero)) 31))∧(OCells wx lo (.slice a1 c.cells.length q1) c.cells)∧(OInts wx lo (.slice a2 c.words.length q2) c.words)∧(l 0=true→s 7=.agg (cvals c (.slice a1 c.cells.length q1) (.slice a2 c.words.length q2)))∧(l 1=true→s 8=.agg (hvals h))∧(l 2=true→s 9=.agg (hvals ({ h with pos:=23 })))∧(l 3=true→s 10=.agg (hvals h))∧(l 4=true→s 11=.agg (hvals ({ h with pos:=3 })))∧(l 5=true→s 12=.tuple #[.agg (cvals x.1 (s 1003) (s 1004)),.agg (hvals x.2.1),.bool x.2.2]∧OCells wx lo (s 1003) x.1.cells∧OInts wx lo (s 1004) x.1.words∧Fresh w (.slice a1 c.cells.length q1) (s 1003)∧Fresh w (.slice a2 c.words.length q2) (s 1004))∧(l 6=true→s 13=.agg (cvals x.1 (s 1003) (s 1004)))∧(l 7=true→s 14=.agg (hvals x.2.1))∧(l 8=true→s 15=.bool x.2.2)∧(l 11=true→s 6=.bool x.2.2)) (by kernel_rfl) (by kernel_rfl) (by kernel_rfl) (fun s=>by (simp only [fill,fillA,List.setIfInBounds_toArray,List.set_cons_zero,List.set_cons_succ];rfl)) (fun s=>⟨by exact zB,by simp,by simp [go_sem],by simp [go_sem],by simp [go_sem],by simp [go_sem],by exact zO o1 o1,by exact zO o2 o2,fun h=>absurd h Bool.false_ne_true,fun h=>absurd h Bool.false_ne_true,fun h=>absurd h Bool.false_ne_true,fun h=>absurd h Bool.false_ne_true,fun h=>absurd h Bool.false_ne_true,fun h=>absurd h Bool.false_ne_true,fun h=>absurd h Bool.false_ne_true,fun h=>absurd h Bool.false_ne_true,fun h=>absurd h Bool.false_ne_true,fun h=>absurd h Bool.false_ne_true⟩) ?_ ?_
  refine ⟨?_,?_,?_,?_,?_,?_,?_,?_,?_,?_,?_,?_,trivial⟩;rotate_left 12
  · intro l s wx hall hf
    have hB:=hf.1
    have z1:=hf.2.2.2.2.1
    have z2:=hf.2.2.2.2.2.1
    rw [hall 9 rfl] at z1
    rw [hall 10 rfl] at z2
    dsimp only [cond] at z1 z2
    obtain ⟨_,X1,X2,F1,F2⟩:=(hf.2.2.2.2.2.2.2.2.2.2.2.2.2.1 (hall 5 rfl))
    have ec:=(hf.2.2.2.2.2.2.2.2.2.2.2.2.2.2.2.2.2 (hall 11 rfl))
    simp only [ec]
    clear ec hf hall
    go_wp2
    exact bodyPost_ret (res_cct Tryz.results114 rfl (ldChan x.1 _ _ z1) rfl (ldHand x.2.1 z2)) rfl ⟨⟨_,_,rfl,X1,X2,F1,F2⟩,onlB hB⟩
  · intro l s wx hl hd hn hf0 K hK
    have hf:=Lib.hid hf0
    clear hf0
    have zc:=hf.out.2.2.1
    go_simp
    refine hK.out (upd s 7 (.agg (cvals c (.slice a1 c.cells.length q1) (.slice a2 c.words.length q2)))) _ _ (by simp [upd_at] <;> rfl) ⟨hf.out.1,hf.out.2.1,hf.out.2.2.1,hf.out.2.2.2.1,hf.out.2.2.2.2.1,hf.out.2.2.2.2.2.1,hf.out.2.2.2.2.2.2.1,hf.out.2.2.2.2.2.2.2.1,fun _=>rfl,hf.out.2.2.2.2.2.2.2.2.2.1,hf.out.2.2.2.2.2.2.2.2.2.2.1,hf.out.2.2.2.2.2.2.2.2.2.2.2.1,hf.out.2.2.2.2.2.2.2.2.2.2.2.2.1,nU (hn 5 rfl),nU (hn 6 rfl),nU (hn 7 rfl),nU (hn 8 rfl),nU (hn 11 rfl)⟩
  · intro l s wx hl hd hn hf0 K hK
    have hf:=Lib.hid hf0
    clear hf0
    have zh:=hf.out.2.2.2.1
    go_simp
    refine hK.out (upd s 8 (.agg (hvals h))) _ _ (by simp [upd_at] <;> rfl) ⟨hf.out.1,hf.out.2.1,hf.out.2.2.1,hf.out.2.2.2.1,hf.out.2.2.2.2.1,hf.out.2.2.2.2.2.1,hf.out.2.2.2.2.2.2.1,hf.out.2.2.2.2.2.2.2.1,hf.out.2.2.2.2.2.2.2.2.1,fun _=>rfl,nU (hn 2 rfl),hf.out.2.2.2.2.2.2.2.2.2.2.2.1,hf.out.2.2.2.2.2.2.2.2.2.2.2.2.1,nU (hn 5 rfl),nU (hn 6 rfl),nU (hn 7 rfl),nU (hn 8 rfl),nU (hn 11 rfl)⟩
  · intro l s wx hl hd hn hf0 K hK
    have hf:=Lib.hid hf0
    clear hf0
    have e1:=(hf.out.2.2.2.2.2.2.2.2.2.1 (hd 1 rfl))
    go_simp
    go_at_call 105
    refine (moved_any h 23 _).mono ?_
    rintro _ wy ⟨rfl,hE⟩
    refine hK.out (upd s 9 (.agg (hvals ({ h with pos:=23 })))) _ _ (by simp [upd_at,e1] <;> rfl) ⟨bT hf.out.1 hE,Nat.le_trans hf.out.2.1 (Below.size hE),hpS hf.out.2.2.1 hE,hpS hf.out.2.2.2.1 hE,hpS hf.out.2.2.2.2.1 hE,hpS hf.out.2.2.2.2.2.1 hE,own_below hf.out.2.2.2.2.2.2.1 hE,own_below hf.out.2.2.2.2.2.2.2.1 hE,hf.out.2.2.2.2.2.2.2.2.1,hf.out.2.2.2.2.2.2.2.2.2.1,fun _=>rfl,hf.out.2.2.2.2.2.2.2.2.2.2.2.1,hf.out.2.2.2.2.2.2.2.2.2.2.2.2.1,nU (hn 5 rfl),nU (hn 6 rfl),nU (hn 7 rfl),nU (hn 8 rfl),nU (hn 11 rfl)⟩
  · intro l s wx hl hd hn hf0 K hK
    have hf:=Lib.hid hf0
    clear hf0
    have zh:=hf.out.2.2.2.1
    go_simp
    refine hK.out (upd s 10 (.agg (hvals h))) _ _ (by simp [upd_at] <;> rfl) ⟨hf.out.1,hf.out.2.1,hf.out.2.2.1,hf.out.2.2.2.1,hf.out.2.2.2.2.1,hf.out.2.2.2.2.2.1,hf.out.2.2.2.2.2.2.1,hf.out.2.2.2.2.2.2.2.1,hf.out.2.2.2.2.2.2.2.2.1,hf.out.2.2.2.2.2.2.2.2.2.1,hf.out.2.2.2.2.2.2.2.2.2.2.1,fun _=>rfl,nU (hn 4 rfl),nU (hn 5 rfl),nU (hn 6 rfl),nU (hn 7 rfl),nU (hn 8 rfl),nU (hn 11 rfl)⟩
  · intro l s wx hl hd hn hf0 K hK
    have hf:=Lib.hid hf0
    clear hf0
    have e3:=(hf.out.2.2.2.2.2.2.2.2.2.2.2.1 (hd 3 rfl))
    go_simp
    go_at_call 105
    refine (moved_any h 3 _).mono ?_
    rintro _ wy ⟨rfl,hE⟩
    refine hK.out (upd s 11 (.agg (hvals ({ h with pos:=3 })))) _ _ (by simp [upd_at,e3] <;> rfl) ⟨bT hf.out.1 hE,Nat.le_trans hf.out.2.1 (Below.size hE),hpS hf.out.2.2.1 hE,hpS hf.out.2.2.2.1 hE,hpS hf.out.2.2.2.2.1 hE,hpS hf.out.2.2.2.2.2.1 hE,own_below hf.out.2.2.2.2.2.2.1 hE,own_below hf.out.2.2.2.2.2.2.2.1 hE,hf.out.2.2.2.2.2.2.2.2.1,hf.out.2.2.2.2.2.2.2.2.2.1,hf.out.2.2.2.2.2.2.2.2.2.2.1,hf.out.2.2.2.2.2.2.2.2.2.2.2.1,fun _=>rfl,nU (hn 5 rfl),nU (hn 6 rfl),nU (hn 7 rfl),nU (hn 8 rfl),nU (hn 11 rfl)⟩
  · intro l s wx hl hd hn hf0 K hK
    have hf:=Lib.hid hf0
    clear hf0
    have e0:=(hf.out.2.2.2.2.2.2.2.2.1 (hd 0 rfl))
    have e2:=(hf.out.2.2.2.2.2.2.2.2.2.2.1 (hd 2 rfl))
    have e4:=(hf.out.2.2.2.2.2.2.2.2.2.2.2.2.1 (hd 4 rfl))
    go_simp
    go_at_call 125
    refine (T.out _ hf.out.2.2.2.2.2.2.1 hf.out.2.2.2.2.2.2.2.1 (Nat.le_trans hlo (Below.size hf.out.1))).mono ?_
    rintro _ wy ⟨⟨y1,y2,rfl,X1,X2,F1,F2⟩,hE⟩
    refine hK.out (upd (upd (upd s 1003 (y1)) 1004 (y2)) 12 (.tuple #[.agg (cvals x.1 y1 y2),.agg (hvals x.2.1),.bool x.2.2])) _ _ (by simp [upd_at,e0,e2,e4] <;> rfl) ⟨bT hf.out.1 hE,Nat.le_trans hf.out.2.1 (Below.size hE),hpS hf.out.2.2.1 hE,hpS hf.out.2.2.2.1 hE,by (have ee:l 9=false:=hn 9 rfl);(have F:=hf.out.2.2.2.2.1);rw [ee] at F;rw [show upd l 5 true 9=false from ee];exact hpS F hE,by (have ee:l 10=false:=hn 10 rfl);(have F:=hf.out.2.2.2.2.2.1);rw [ee] at F;rw [show upd l 5 true 10=false from ee];exact hpS F hE,own_below hf.out.2.2.2.2.2.2.1 hE,own_below hf.out.2.2.2.2.2.2.2.1 hE,hf.out.2.2.2.2.2.2.2.2.1,hf.out.2.2.2.2.2.2.2.2.2.1,hf.out.2.2.2.2.2.2.2.2.2.2.1,hf.out.2.2.2.2.2.2.2.2.2.2.2.1,hf.out.2.2.2.2.2.2.2.2.2.2.2.2.1,fun _=>⟨rfl,X1,X2,fun j hj=>(F1 j hj).imp id (fun h=>Nat.le_trans (Below.size hf.out.1) h),fun j hj=>(F2 j hj).imp id (fun h=>Nat.le_trans (Below.size hf.out.1) h)⟩,nU (hn 6 rfl),nU (hn 7 rfl),nU (hn 8 rfl),nU (hn 11 rfl)⟩
  · intro l s wx hl hd hn hf0 K hK
    have hf:=Lib.hid hf0
    clear hf0
    have e5:=(hf.out.2.2.2.2.2.2.2.2.2.2.2.2.2.1 (hd 5 rfl)).1
    go_simp
    refine hK.out (upd s 13 (.agg (cvals x.1 (s 1003) (s 1004)))) _ _ (by simp [upd_at,e5] <;> rfl) ⟨hf.out.1,hf.out.2.1,hf.out.2.2.1,hf.out.2.2.2.1,hf.out.2.2.2.2.1,hf.out.2.2.2.2.2.1,hf.out.2.2.2.2.2.2.1,hf.out.2.2.2.2.2.2.2.1,hf.out.2.2.2.2.2.2.2.2.1,hf.out.2.2.2.2.2.2.2.2.2.1,hf.out.2.2.2.2.2.2.2.2.2.2.1,hf.out.2.2.2.2.2.2.2.2.2.2.2.1,hf.out.2.2.2.2.2.2.2.2.2.2.2.2.1,hf.out.2.2.2.2.2.2.2.2.2.2.2.2.2.1,fun _=>rfl,hf.out.2.2.2.2.2.2.2.2.2.2.2.2.2.2.2.1,hf.out.2.2.2.2.2.2.2.2.2.2.2.2.2.2.2.2.1,hf.out.2.2.2.2.2.2.2.2.2.2.2.2.2.2.2.2.2⟩
  · intro l s wx hl hd hn hf0 K hK
    have hf:=Lib.hid hf0
    clear hf0
    have e5:=(hf.out.2.2.2.2.2.2.2.2.2.2.2.2.2.1 (hd 5 rfl)).1
    go_simp
    refine hK.out (upd s 14 (.agg (hvals x.2.1))) _ _ (by simp [upd_at,e5] <;> rfl) ⟨hf.out.1,hf.out.2.1,hf.out.2.2.1,hf.out.2.2.2.1,hf.out.2.2.2.2.1,hf.out.2.2.2.2.2.1,hf.out.2.2.2.2.2.2.1,hf.out.2.2.2.2.2.2.2.1,hf.out.2.2.2.2.2.2.2.2.1,hf.out.2.2.2.2.2.2.2.2.2.1,hf.out.2.2.2.2.2.2.2.2.2.2.1,hf.out.2.2.2.2.2.2.2.2.2.2.2.1,hf.out.2.2.2.2.2.2.2.2.2.2.2.2.1,hf.out.2.2.2.2.2.2.2.2.2.2.2.2.2.1,hf.out.2.2.2.2.2.2.2.2.2.2.2.2.2.2.1,fun _=>rfl,hf.out.2.2.2.2.2.2.2.2.2.2.2.2.2.2.2.2.1,hf.out.2.2.2.2.2.2.2.2.2.2.2.2.2.2.2.2.2⟩
  · intro l s wx hl hd hn hf0 K hK
    have hf:=Lib.hid hf0
    clear hf0
    have e5:=(hf.out.2.2.2.2.2.2.2.2.2.2.2.2.2.1 (hd 5 rfl)).1
    go_simp
    refine hK.out (upd s 15 (.bool x.2.2)) _ _ (by simp [upd_at,e5] <;> rfl) ⟨hf.out.1,hf.out.2.1,hf.out.2.2.1,hf.out.2.2.2.1,hf.out.2.2.2.2.1,hf.out.2.2.2.2.2.1,hf.out.2.2.2.2.2.2.1,hf.out.2.2.2.2.2.2.2.1,hf.out.2.2.2.2.2.2.2.2.1,hf.out.2.2.2.2.2.2.2.2.2.1,hf.out.2.2.2.2.2.2.2.2.2.2.1,hf.out.2.2.2.2.2.2.2.2.2.2.2.1,hf.out.2.2.2.2.2.2.2.2.2.2.2.2.1,hf.out.2.2.2.2.2.2.2.2.2.2.2.2.2.1,hf.out.2.2.2.2.2.2.2.2.2.2.2.2.2.2.1,hf.out.2.2.2.2.2.2.2.2.2.2.2.2.2.2.2.1,fun _=>rfl,nU (hn 11 rfl)⟩
  · intro l s wx hl hd hn hf0 K hK
    have hf:=Lib.hid hf0
    clear hf0
    have e6:=(hf.out.2.2.2.2.2.2.2.2.2.2.2.2.2.2.1 (hd 6 rfl))
    have e5:=(hf.out.2.2.2.2.2.2.2.2.2.2.2.2.2.1 (hd 5 rfl))
    have X1:=e5.2.1
    have X2:=e5.2.2.1
    clear e5
    have zr:=hf.out.2.2.2.2.1
    rw [hl] at zr
    dsimp only [cond] at zr
    obtain ⟨xa,xp,ea,_⟩:=X1.seg
    obtain ⟨xb,xq,eb2,_⟩:=X2.seg
    rw [ea,eb2] at e6
    have zn:hp (setBox wx (w.heap.size+1+1) (cvals x.1 (.slice xa x.1.cells.length xp) (.slice xb x.1.words.length xq))) (w.heap.size+1+1)=some (.cells (cvals x.1 (s 1003) (s 1004)) 27):=by rw [ea,eb2];exact hp_set zr
    have hB:=hf.out.1
    go_simp
    refine hK.out (s) _ _ (by simp [upd_at,e6,ea,eb2] <;> rfl) ⟨bBx hB (by omega),Nat.le_trans hf.out.2.1 (Nat.le_of_eq bx_size.symm),(bx_heap_ne (by omega)).trans hf.out.2.2.1,(bx_heap_ne (by omega)).trans hf.out.2.2.2.1,zn,(bx_heap_ne (by omega)).trans hf.out.2.2.2.2.2.1,own_far hf.out.2.2.2.2.2.2.1 zr (by decide),own_far hf.out.2.2.2.2.2.2.2.1 zr (by decide),hf.out.2.2.2.2.2.2.2.2.1,hf.out.2.2.2.2.2.2.2.2.2.1,hf.out.2.2.2.2.2.2.2.2.2.2.1,hf.out.2.2.2.2.2.2.2.2.2.2.2.1,hf.out.2.2.2.2.2.2.2.2.2.2.2.2.1,fun h=>(let ⟨e,X1,X2,F1,F2⟩:=hf.out.2.2.2.2.2.2.2.2.2.2.2.2.2.1 h;⟨e,own_far X1 zr (by decide),own_far X2 zr (by decide),F1,F2⟩),hf.out.2.2.2.2.2.2.2.2.2.2.2.2.2.2.1,hf.out.2.2.2.2.2.2.2.2.2.2.2.2.2.2.2.1,hf.out.2.2.2.2.2.2.2.2.2.2.2.2.2.2.2.2.1,hf.out.2.2.2.2.2.2.2.2.2.2.2.2.2.2.2.2.2⟩
  · intro l s wx hl hd hn hf0 K hK
    have hf:=Lib.hid hf0
    clear hf0
    have e7:=(hf.out.2.2.2.2.2.2.2.2.2.2.2.2.2.2.2.1 (hd 7 rfl))
    have e5:=(hf.out.2.2.2.2.2.2.2.2.2.2.2.2.2.1 (hd 5 rfl))
    have X1:=e5.2.1
    have X2:=e5.2.2.1
    clear e5
    have zr:=hf.out.2.2.2.2.2.1
    rw [hl] at zr
    dsimp only [cond] at zr
    have zn:hp (setBox wx (w.heap.size+1+1+1) (hvals x.2.1)) (w.heap.size+1+1+1)=some (.cells (hvals x.2.1) 31):=by exact hp_set zr
    have hB:=hf.out.1
    go_simp
    refine hK.out (s) _ _ (by simp [upd_at,e7] <;> rfl) ⟨bBx hB (by omega),Nat.le_trans hf.out.2.1 (Nat.le_of_eq bx_size.symm),(bx_heap_ne (by omega)).trans hf.out.2.2.1,(bx_heap_ne (by omega)).trans hf.out.2.2.2.1,(bx_heap_ne (by omega)).trans hf.out.2.2.2.2.1,zn,own_far hf.out.2.2.2.2.2.2.1 zr (by decide),own_far hf.out.2.2.2.2.2.2.2.1 zr (by decide),hf.out.2.2.2.2.2.2.2.2.1,hf.out.2.2.2.2.2.2.2.2.2.1,hf.out.2.2.2.2.2.2.2.2.2.2.1,hf.out.2.2.2.2.2.2.2.2.2.2.2.1,hf.out.2.2.2.2.2.2.2.2.2.2.2.2.1,fun h=>(let ⟨e,X1,X2,F1,F2⟩:=hf.out.2.2.2.2.2.2.2.2.2.2.2.2.2.1 h;⟨e,own_far X1 zr (by decide),own_far X2 zr (by decide),F1,F2⟩),hf.out.2.2.2.2.2.2.2.2.2.2.2.2.2.2.1,hf.out.2.2.2.2.2.2.2.2.2.2.2.2.2.2.2.1,hf.out.2.2.2.2.2.2.2.2.2.2.2.2.2.2.2.2.1,hf.out.2.2.2.2.2.2.2.2.2.2.2.2.2.2.2.2.2⟩
  · intro l s wx hl hd hn hf0 K hK
    have hf:=Lib.hid hf0
    clear hf0
    have e8:=(hf.out.2.2.2.2.2.2.2.2.2.2.2.2.2.2.2.2.1 (hd 8 rfl))
    go_simp
    refine hK.out (upd s 6 (.bool x.2.2)) _ _ (by simp [upd_at,e8] <;> rfl) ⟨hf.out.1,hf.out.2.1,hf.out.2.2.1,hf.out.2.2.2.1,hf.out.2.2.2.2.1,hf.out.2.2.2.2.2.1,hf.out.2.2.2.2.2.2.1,hf.out.2.2.2.2.2.2.2.1,hf.out.2.2.2.2.2.2.2.2.1,hf.out.2.2.2.2.2.2.2.2.2.1,hf.out.2.2.2.2.2.2.2.2.2.2.1,hf.out.2.2.2.2.2.2.2.2.2.2.2.1,hf.out.2.2.2.2.2.2.2.2.2.2.2.2.1,hf.out.2.2.2.2.2.2.2.2.2.2.2.2.2.1,hf.out.2.2.2.2.2.2.2.2.2.2.2.2.2.2.1,hf.out.2.2.2.2.2.2.2.2.2.2.2.2.2.2.2.1,hf.out.2.2.2.2.2.2.2.2.2.2.2.2.2.2.2.2.1,fun _=>rfl⟩
set_option maxRecDepth 100000 in
set_option maxHeartbeats 2000000 in
theorem sendCall_any (c:Ch) (h:Ha) (v1 v2:Value) (lo:Nat) (w:World) (h1:OCells w lo v1 c.cells) (h2:OInts w lo v2 c.words) (hc:chanOk c=true) (hlo:lo≤w.heap.size) (hk:callOk h.code h.elem=true) :
    Calls Tryz.prog 95 #[.agg (cvals c v1 v2),.agg (hvals h)] w fun r w'=>StepO w w' lo v1 v2 (cl6 c h) r:=by
  have T0:=fun W a b hl=>woken_any c { h with pos:=8 } (anew h) v1 v2 lo W a b hc hl
  change ∀ W,_→_→_→Calls _ _ _ _ (fun r w'=>StepB W w' lo v1 v2 (cl6 c h) r) at T0
  generalize cl6 c h=x at *
  have b1:=fun j (hj:v1.ownBlock=some j)=>(h1.lt j hj).2
  have b2:=fun j (hj:v2.ownBlock=some j)=>(h2.lt j hj).2
  obtain ⟨a1,q1,rfl,_⟩:=h1.seg
  obtain ⟨a2,q2,rfl,_⟩:=h2.seg
  have O1:=Lib.hid h1
  have O2:=Lib.hid h2
  clear h1 h2
  have T:=Lib.hid T0
  clear T0
  have o1:=O1.out
  have o2:=O2.out
  go_enter Tryz.func95,Tryz.ntmps95
  go_upto_region 1 with fail
  refine wp_region_inv [[],[],[1],[],[3],[0,1,2,3,4],[0,1,2,3,4,5],[0,1,2,3,4,5],[0,1,2,3,4,5],[0,1,2,3,4,5,6],[0,1,2,3,4,5,7],[0,1,2,3,4,5,8]] [7,8,9,10,11,12,13,14,15,6] (fun l s wx=>(Below w.heap.size w wx)∧(w.heap.size+1+1+1+1≤wx.heap.size)∧(hp wx w.heap.size=some (.cells (cvals c (.slice a1 c.cells.length q1) (.slice a2 c.words.length q2)) 27))∧(hp wx (w.heap.size+1)=some (.cells (hvals h) 31))∧(hp wx (w.heap.size+1+1)=some (.cells (cond (l 9) (cvals x.1 (s 1003) (s 1004)) (cvals Ch.zero (.slice none 0 0) (.slice none 0 0))) 27))∧(hp wx (w.heap.size+1+1+1)=some (.cells (cond (l 10) (hvals x.2.1) (hvals Ha.zero)) 31))∧(OCells wx lo (.slice a1 c.cells.length q1) c.cells)∧(OInts wx lo (.slice a2 c.words.length q2) c.words)∧(l 0=true→s 7=.agg (cvals c (.slice a1 c.cells.length q1) (.slice a2 c.words.length q2)))∧(l 1=true→s 8=.agg (hvals h))∧(l 2=true→s 9=.agg (hvals ({ h with pos:=8 })))∧(l 3=true→s 10=.agg (hvals h))∧(l 4=true→s 11=.agg (hvals (anew h)))∧(l 5=true→s 12=.tuple #[.agg (cvals x.1 (s 1003) (s 1004)),.agg (hvals x.2.1),.bool x.2.2]∧OCells wx lo (s 1003) x.1.cells∧OInts wx lo (s 1004) x.1.words∧Fresh w (.slice a1 c.cells.length q1) (s 1003)∧Fresh w (.slice a2 c.words.length q2) (s 1004))∧(l 6=true→s 13=.agg (cvals x.1 (s 1003) (s 1004)))∧(l 7=true→s 14=.agg (hvals x.2.1))∧(l 8=true→s 15=.bool x.2.2)∧(l 11=true→s 6=.bool x.2.2)) (by kernel_rfl) (by kernel_rfl) (by kernel_rfl) (fun s=>by (simp only [fill,fillA,List.setIfInBounds_toArray,List.set_cons_zero,List.set_cons_succ];rfl)) (fun s=>⟨by exact zB,by simp,by simp [go_sem],by simp [go_sem],by simp [go_sem],by simp [go_sem],by exact zO o1 o1,by exact zO o2 o2,fun h=>absurd h Bool.false_ne_true,fun h=>absurd h Bool.false_ne_true,fun h=>absurd h Bool.false_ne_true,fun h=>absurd h Bool.false_ne_true,fun h=>absurd h Bool.false_ne_true,fun h=>absurd h Bool.false_ne_true,fun h=>absurd h Bool.false_ne_true,fun h=>absurd h Bool.false_ne_true,fun h=>absurd h Bool.false_ne_true,fun h=>absurd h Bool.false_ne_true⟩) ?_ ?_
  refine ⟨?_,?_,?_,?_,?_,?_,?_,?_,?_,?_,?_,?_,trivial⟩;rotate_left 12
  · intro l s wx hall hf
    have hB:=hf.1
    have z1:=hf.2.2.2.2.1
    have z2:=hf.2.2.2.2.2.1
    rw [hall 9 rfl] at z1
    rw [hall 10 rfl] at z2
    dsimp only [cond] at z1 z2
    obtain ⟨_,X1,X2,F1,F2⟩:=(hf.2.2.2.2.2.2.2.2.2.2.2.2.2.1 (hall 5 rfl))
    have ec:=(hf.2.2.2.2.2.2.2.2.2.2.2.2.2.2.2.2.2 (hall 11 rfl))
    simp only [ec]
    clear ec hf hall
    go_wp2
    exact bodyPost_ret (res_cct Tryz.results95 rfl (ldChan x.1 _ _ z1) rfl (ldHand x.2.1 z2)) rfl ⟨⟨_,_,rfl,X1,X2,F1,F2⟩,onlB hB⟩
  · intro l s wx hl hd hn hf0 K hK
    have hf:=Lib.hid hf0
    clear hf0
    have zc:=hf.out.2.2.1
    go_simp
    refine hK.out (upd s 7 (.agg (cvals c (.slice a1 c.cells.length q1) (.slice a2 c.words.length q2)))) _ _ (by simp [upd_at] <;> rfl) ⟨hf.out.1,hf.out.2.1,hf.out.2.2.1,hf.out.2.2.2.1,hf.out.2.2.2.2.1,hf.out.2.2.2.2.2.1,hf.out.2.2.2.2.2.2.1,hf.out.2.2.2.2.2.2.2.1,fun _=>rfl,hf.out.2.2.2.2.2.2.2.2.2.1,hf.out.2.2.2.2.2.2.2.2.2.2.1,hf.out.2.2.2.2.2.2.2.2.2.2.2.1,hf.out.2.2.2.2.2.2.2.2.2.2.2.2.1,nU (hn 5 rfl),nU (hn 6 rfl),nU (hn 7 rfl),nU (hn 8 rfl),nU (hn 11 rfl)⟩
  · intro l s wx hl hd hn hf0 K hK
    have hf:=Lib.hid hf0
    clear hf0
    have zh:=hf.out.2.2.2.1
    go_simp
    refine hK.out (upd s 8 (.agg (hvals h))) _ _ (by simp [upd_at] <;> rfl) ⟨hf.out.1,hf.out.2.1,hf.out.2.2.1,hf.out.2.2.2.1,hf.out.2.2.2.2.1,hf.out.2.2.2.2.2.1,hf.out.2.2.2.2.2.2.1,hf.out.2.2.2.2.2.2.2.1,hf.out.2.2.2.2.2.2.2.2.1,fun _=>rfl,nU (hn 2 rfl),hf.out.2.2.2.2.2.2.2.2.2.2.2.1,hf.out.2.2.2.2.2.2.2.2.2.2.2.2.1,nU (hn 5 rfl),nU (hn 6 rfl),nU (hn 7 rfl),nU (hn 8 rfl),nU (hn 11 rfl)⟩
  · intro l s wx hl hd hn hf0 K hK
    have hf:=Lib.hid hf0
    clear hf0
    have e1:=(hf.out.2.2.2.2.2.2.2.2.2.1 (hd 1 rfl))
    go_simp
    go_at_call 105
    refine (moved_any h 8 _).mono ?_
    rintro _ wy ⟨rfl,hE⟩
    refine hK.out (upd s 9 (.agg (hvals ({ h with pos:=8 })))) _ _ (by simp [upd_at,e1] <;> rfl) ⟨bT hf.out.1 hE,Nat.le_trans hf.out.2.1 (Below.size hE),hpS hf.out.2.2.1 hE,hpS hf.out.2.2.2.1 hE,hpS hf.out.2.2.2.2.1 hE,hpS hf.out.2.2.2.2.2.1 hE,own_below hf.out.2.2.2.2.2.2.1 hE,own_below hf.out.2.2.2.2.2.2.2.1 hE,hf.out.2.2.2.2.2.2.2.2.1,hf.out.2.2.2.2.2.2.2.2.2.1,fun _=>rfl,hf.out.2.2.2.2.2.2.2.2.2.2.2.1,hf.out.2.2.2.2.2.2.2.2.2.2.2.2.1,nU (hn 5 rfl),nU (hn 6 rfl),nU (hn 7 rfl),nU (hn 8 rfl),nU (hn 11 rfl)⟩
  · intro l s wx hl hd hn hf0 K hK
    have hf:=Lib.hid hf0
    clear hf0
    have zh:=hf.out.2.2.2.1
    go_simp
    refine hK.out (upd s 10 (.agg (hvals h))) _ _ (by simp [upd_at] <;> rfl) ⟨hf.out.1,hf.out.2.1,hf.out.2.2.1,hf.out.2.2.2.1,hf.out.2.2.2.2.1,hf.out.2.2.2.2.2.1,hf.out.2.2.2.2.2.2.1,hf.out.2.2.2.2.2.2.2.1,hf.out.2.2.2.2.2.2.2.2.1,hf.out.2.2.2.2.2.2.2.2.2.1,hf.out.2.2.2.2.2.2.2.2.2.2.1,fun _=>rfl,nU (hn 4 rfl),nU (hn 5 rfl),nU (hn 6 rfl),nU (hn 7 rfl),nU (hn 8 rfl),nU (hn 11 rfl)⟩
  · intro l s wx hl hd hn hf0 K hK
    have hf:=Lib.hid hf0
    clear hf0
    have e3:=(hf.out.2.2.2.2.2.2.2.2.2.2.2.1 (hd 3 rfl))
    go_simp
    go_at_call 112
    refine (anew_any h hk _).mono ?_
    rintro _ wy ⟨rfl,hE⟩
    refine hK.out (upd s 11 (.agg (hvals (anew h)))) _ _ (by simp [upd_at,e3] <;> rfl) ⟨bT hf.out.1 hE,Nat.le_trans hf.out.2.1 (Below.size hE),hpS hf.out.2.2.1 hE,hpS hf.out.2.2.2.1 hE,hpS hf.out.2.2.2.2.1 hE,hpS hf.out.2.2.2.2.2.1 hE,own_below hf.out.2.2.2.2.2.2.1 hE,own_below hf.out.2.2.2.2.2.2.2.1 hE,hf.out.2.2.2.2.2.2.2.2.1,hf.out.2.2.2.2.2.2.2.2.2.1,hf.out.2.2.2.2.2.2.2.2.2.2.1,hf.out.2.2.2.2.2.2.2.2.2.2.2.1,fun _=>rfl,nU (hn 5 rfl),nU (hn 6 rfl),nU (hn 7 rfl),nU (hn 8 rfl),nU (hn 11 rfl)⟩
  · intro l s wx hl hd hn hf0 K hK
    have hf:=Lib.hid hf0
    clear hf0
    have e0:=(hf.out.2.2.2.2.2.2.2.2.1 (hd 0 rfl))
    have e2:=(hf.out.2.2.2.2.2.2.2.2.2.2.1 (hd 2 rfl))
    have e4:=(hf.out.2.2.2.2.2.2.2.2.2.2.2.2.1 (hd 4 rfl))
    go_simp
    go_at_call 115
    refine (T.out _ hf.out.2.2.2.2.2.2.1 hf.out.2.2.2.2.2.2.2.1 (Nat.le_trans hlo (Below.size hf.out.1))).mono ?_
    rintro _ wy ⟨⟨y1,y2,rfl,X1,X2,F1,F2⟩,hE⟩
    refine hK.out (upd (upd (upd s 1003 (y1)) 1004 (y2)) 12 (.tuple #[.agg (cvals x.1 y1 y2),.agg (hvals x.2.1),.bool x.2.2])) _ _ (by simp [upd_at,e0,e2,e4] <;> rfl) ⟨bT hf.out.1 hE,Nat.le_trans hf.out.2.1 (Below.size hE),hpS hf.out.2.2.1 hE,hpS hf.out.2.2.2.1 hE,by (have ee:l 9=false:=hn 9 rfl);(have F:=hf.out.2.2.2.2.1);rw [ee] at F;rw [show upd l 5 true 9=false from ee];exact hpS F hE,by (have ee:l 10=false:=hn 10 rfl);(have F:=hf.out.2.2.2.2.2.1);rw [ee] at F;rw [show upd l 5 true 10=false from ee];exact hpS F hE,own_below hf.out.2.2.2.2.2.2.1 hE,own_below hf.out.2.2.2.2.2.2.2.1 hE,hf.out.2.2.2.2.2.2.2.2.1,hf.out.2.2.2.2.2.2.2.2.2.1,hf.out.2.2.2.2.2.2.2.2.2.2.1,hf.out.2.2.2.2.2.2.2.2.2.2.2.1,hf.out.2.2.2.2.2.2.2.2.2.2.2.2.1,fun _=>⟨rfl,X1,X2,fun j hj=>(F1 j hj).imp id (fun h=>Nat.le_trans (Below.size hf.out.1) h),fun j hj=>(F2 j hj).imp id (fun h=>Nat.le_trans (Below.size hf.out.1) h)⟩,nU (hn 6 rfl),nU (hn 7 rfl),nU (hn 8 rfl),nU (hn 11 rfl)⟩
  · intro l s wx hl hd hn hf0 K hK
    have hf:=Lib.hid hf0
    clear hf0
    have e5:=(hf.out.2.2.2.2.2.2.2.2.2.2.2.2.2.1 (hd 5 rfl)).1
    go_simp
    refine hK.out (upd s 13 (.agg (cvals x.1 (s 1003) (s 1004)))) _ _ (by simp [upd_at,e5] <;> rfl) ⟨hf.out.1,hf.out.2.1,hf.out.2.2.1,hf.out.2.2.2.1,hf.out.2.2.2.2.1,hf.out.2.2.2.2.2.1,hf.out.2.2.2.2.2.2.1,hf.out.2.2.2.2.2.2.2.1,hf.out.2.2.2.2.2.2.2.2.1,hf.out.2.2.2.2.2.2.2.2.2.1,hf.out.2.2.2.2.2.2.2.2.2.2.1,hf.out.2.2.2.2.2.2.2.2.2.2.2.1,hf.out.2.2.2.2.2.2.2.2.2.2.2.2.1,hf.out.2.2.2.2.2.2.2.2.2.2.2.2.2.1,fun _=>rfl,hf.out.2.2.2.2.2.2.2.2.2.2.2.2.2.2.2.1,hf.out.2.2.2.2.2.2.2.2.2.2.2.2.2.2.2.2.1,hf.out.2.2.2.2.2.2.2.2.2.2.2.2.2.2.2.2.2⟩
  · intro l s wx hl hd hn hf0 K hK
    have hf:=Lib.hid hf0
    clear hf0
    have e5:=(hf.out.2.2.2.2.2.2.2.2.2.2.2.2.2.1 (hd 5 rfl)).1
    go_simp
    refine hK.out (upd s 14 (.agg (hvals x.2.1))) _ _ (by simp [upd_at,e5] <;> rfl) ⟨hf.out.1,hf.out.2.1,hf.out.2.2.1,hf.out.2.2.2.1,hf.out.2.2.2.2.1,hf.out.2.2.2.2.2.1,hf.out.2.2.2.2.2.2.1,hf.out.2.2.2.2.2.2.2.1,hf.out.2.2.2.2.2.2.2.2.1,hf.out.2.2.2.2.2.2.2.2.2.1,hf.out.2.2.2.2.2.2.2.2.2.2.1,hf.out.2.2.2.2.2.2.2.2.2.2.2.1,hf.out.2.2.2.2.2.2.2.2.2.2.2.2.1,hf.out.2.2.2.2.2.2.2.2.2.2.2.2.2.1,hf.out.2.2.2.2.2.2.2.2.2.2.2.2.2.2.1,fun _=>rfl,hf.out.2.2.2.2.2.2.2.2.2.2.2.2.2.2.2.2.1,hf.out.2.2.2.2.2.2.2.2.2.2.2.2.2.2.2.2.2⟩
  · intro l s wx hl hd hn hf0 K hK
    have hf:=Lib.hid hf0
    clear hf0
    have e5:=(hf.out.2.2.2.2.2.2.2.2.2.2.2.2.2.1 (hd 5 rfl)).1
    go_simp
    refine hK.out (upd s 15 (.bool x.2.2)) _ _ (by simp [upd_at,e5] <;> rfl) ⟨hf.out.1,hf.out.2.1,hf.out.2.2.1,hf.out.2.2.2.1,hf.out.2.2.2.2.1,hf.out.2.2.2.2.2.1,hf.out.2.2.2.2.2.2.1,hf.out.2.2.2.2.2.2.2.1,hf.out.2.2.2.2.2.2.2.2.1,hf.out.2.2.2.2.2.2.2.2.2.1,hf.out.2.2.2.2.2.2.2.2.2.2.1,hf.out.2.2.2.2.2.2.2.2.2.2.2.1,hf.out.2.2.2.2.2.2.2.2.2.2.2.2.1,hf.out.2.2.2.2.2.2.2.2.2.2.2.2.2.1,hf.out.2.2.2.2.2.2.2.2.2.2.2.2.2.2.1,hf.out.2.2.2.2.2.2.2.2.2.2.2.2.2.2.2.1,fun _=>rfl,nU (hn 11 rfl)⟩
  · intro l s wx hl hd hn hf0 K hK
    have hf:=Lib.hid hf0
    clear hf0
    have e6:=(hf.out.2.2.2.2.2.2.2.2.2.2.2.2.2.2.1 (hd 6 rfl))
    have e5:=(hf.out.2.2.2.2.2.2.2.2.2.2.2.2.2.1 (hd 5 rfl))
    have X1:=e5.2.1
    have X2:=e5.2.2.1
    clear e5
    have zr:=hf.out.2.2.2.2.1
    rw [hl] at zr
    dsimp only [cond] at zr
    obtain ⟨xa,xp,ea,_⟩:=X1.seg
    obtain ⟨xb,xq,eb2,_⟩:=X2.seg
    rw [ea,eb2] at e6
    have zn:hp (setBox wx (w.heap.size+1+1) (cvals x.1 (.slice xa x.1.cells.length xp) (.slice xb x.1.words.length xq))) (w.heap.size+1+1)=some (.cells (cvals x.1 (s 1003) (s 1004)) 27):=by rw [ea,eb2];exact hp_set zr
    have hB:=hf.out.1
    go_simp
    refine hK.out (s) _ _ (by simp [upd_at,e6,ea,eb2] <;> rfl) ⟨bBx hB (by omega),Nat.le_trans hf.out.2.1 (Nat.le_of_eq bx_size.symm),(bx_heap_ne (by omega)).trans hf.out.2.2.1,(bx_heap_ne (by omega)).trans hf.out.2.2.2.1,zn,(bx_heap_ne (by omega)).trans hf.out.2.2.2.2.2.1,own_far hf.out.2.2.2.2.2.2.1 zr (by decide),own_far hf.out.2.2.2.2.2.2.2.1 zr (by decide),hf.out.2.2.2.2.2.2.2.2.1,hf.out.2.2.2.2.2.2.2.2.2.1,hf.out.2.2.2.2.2.2.2.2.2.2.1,hf.out.2.2.2.2.2.2.2.2.2.2.2.1,hf.out.2.2.2.2.2.2.2.2.2.2.2.2.1,fun h=>(let ⟨e,X1,X2,F1,F2⟩:=hf.out.2.2.2.2.2.2.2.2.2.2.2.2.2.1 h;⟨e,own_far X1 zr (by decide),own_far X2 zr (by decide),F1,F2⟩),hf.out.2.2.2.2.2.2.2.2.2.2.2.2.2.2.1,hf.out.2.2.2.2.2.2.2.2.2.2.2.2.2.2.2.1,hf.out.2.2.2.2.2.2.2.2.2.2.2.2.2.2.2.2.1,hf.out.2.2.2.2.2.2.2.2.2.2.2.2.2.2.2.2.2⟩
  · intro l s wx hl hd hn hf0 K hK
    have hf:=Lib.hid hf0
    clear hf0
    have e7:=(hf.out.2.2.2.2.2.2.2.2.2.2.2.2.2.2.2.1 (hd 7 rfl))
    have e5:=(hf.out.2.2.2.2.2.2.2.2.2.2.2.2.2.1 (hd 5 rfl))
    have X1:=e5.2.1
    have X2:=e5.2.2.1
    clear e5
    have zr:=hf.out.2.2.2.2.2.1
    rw [hl] at zr
    dsimp only [cond] at zr
    have zn:hp (setBox wx (w.heap.size+1+1+1) (hvals x.2.1)) (w.heap.size+1+1+1)=some (.cells (hvals x.2.1) 31):=by exact hp_set zr
    have hB:=hf.out.1
    go_simp
    refine hK.out (s) _ _ (by simp [upd_at,e7] <;> rfl) ⟨bBx hB (by omega),Nat.le_trans hf.out.2.1 (Nat.le_of_eq bx_size.symm),(bx_heap_ne (by omega)).trans hf.out.2.2.1,(bx_heap_ne (by omega)).trans hf.out.2.2.2.1,(bx_heap_ne (by omega)).trans hf.out.2.2.2.2.1,zn,own_far hf.out.2.2.2.2.2.2.1 zr (by decide),own_far hf.out.2.2.2.2.2.2.2.1 zr (by decide),hf.out.2.2.2.2.2.2.2.2.1,hf.out.2.2.2.2.2.2.2.2.2.1,hf.out.2.2.2.2.2.2.2.2.2.2.1,hf.out.2.2.2.2.2.2.2.2.2.2.2.1,hf.out.2.2.2.2.2.2.2.2.2.2.2.2.1,fun h=>(let ⟨e,X1,X2,F1,F2⟩:=hf.out.2.2.2.2.2.2.2.2.2.2.2.2.2.1 h;⟨e,own_far X1 zr (by decide),own_far X2 zr (by decide),F1,F2⟩),hf.out.2.2.2.2.2.2.2.2.2.2.2.2.2.2.1,hf.out.2.2.2.2.2.2.2.2.2.2.2.2.2.2.2.1,hf.out.2.2.2.2.2.2.2.2.2.2.2.2.2.2.2.2.1,hf.out.2.2.2.2.2.2.2.2.2.2.2.2.2.2.2.2.2⟩
  · intro l s wx hl hd hn hf0 K hK
    have hf:=Lib.hid hf0
    clear hf0
    have e8:=(hf.out.2.2.2.2.2.2.2.2.2.2.2.2.2.2.2.2.1 (hd 8 rfl))
    go_simp
    refine hK.out (upd s 6 (.bool x.2.2)) _ _ (by simp [upd_at,e8] <;> rfl) ⟨hf.out.1,hf.out.2.1,hf.out.2.2.1,hf.out.2.2.2.1,hf.out.2.2.2.2.1,hf.out.2.2.2.2.2.1,hf.out.2.2.2.2.2.2.1,hf.out.2.2.2.2.2.2.2.1,hf.out.2.2.2.2.2.2.2.2.1,hf.out.2.2.2.2.2.2.2.2.2.1,hf.out.2.2.2.2.2.2.2.2.2.2.1,hf.out.2.2.2.2.2.2.2.2.2.2.2.1,hf.out.2.2.2.2.2.2.2.2.2.2.2.2.1,hf.out.2.2.2.2.2.2.2.2.2.2.2.2.2.1,hf.out.2.2.2.2.2.2.2.2.2.2.2.2.2.2.1,hf.out.2.2.2.2.2.2.2.2.2.2.2.2.2.2.2.1,hf.out.2.2.2.2.2.2.2.2.2.2.2.2.2.2.2.2.1,fun _=>rfl⟩
end Go.Proofs.YtkiingmgpobgnaaGreat
set_option linter.unusedSimpArgs false
set_option linter.unusedVariables false
namespace Go.Proofs.YtkiingmgpobgnaaGreat
open Go.RowKit
set_option linter.unusedSimpArgs false
attribute [local simp] bx_size
attribute [local go_sem ↓] zeroHand zeroChan toLHand toLChan toVHand toVChan storeHand storeChan storeHandC storeChanC
set_option maxRecDepth 100000 in
set_option maxHeartbeats 2000000 in
theorem sendKeep_yes (c:Ch) (h:Ha) (v1 v2:Value) (lo:Nat) (w:World) (h1:OCells w lo v1 c.cells) (h2:OInts w lo v2 c.words) (hc0:0≤h.cell) (hc1:h.cell<c.cells.length) (ht:turnCB c h.cell h.seen 2 0=true) :
    Calls Tryz.prog 113 #[.agg (cvals c v1 v2),.agg (hvals h)] w fun r w'=>StepO w w' lo v1 v2 ((turnC c h.cell h.seen 2 0,resting 1 0,true)) r:=by
  obtain ⟨i,hci⟩:∃ i:Nat,h.cell=(i:Int):=⟨h.cell.toNat,by omega⟩
  have hi:i<c.cells.length:=by omega
  have T:=Lib.hid fun W a b=>turnedIn_any c i h.seen 2 0 v1 v2 lo W a b hi
  have ht2:=ht
  rw [hci] at ht2
  rw [ht2] at T
  have e0:turnC c h.cell h.seen 2 0=turnC c i h.seen 2 0:=by rw [hci]
  rw [e0]
  have b1:=fun j (hj:v1.ownBlock=some j)=>(h1.lt j hj).2
  have b2:=fun j (hj:v2.ownBlock=some j)=>(h2.lt j hj).2
  have m1:∀ j,w.heap.size≤j→some j≠v1.ownBlock:=fun j hj e=>by have:=b1 _ e.symm;omega
  have m2:∀ j,w.heap.size≤j→some j≠v2.ownBlock:=fun j hj e=>by have:=b2 _ e.symm;omega
  have m10:=m1 (w.heap.size) (by omega)
  have m20:=m2 (w.heap.size) (by omega)
  have m11:=m1 (w.heap.size+1) (by omega)
  have m21:=m2 (w.heap.size+1) (by omega)
  have m12:=m1 (w.heap.size+1+1) (by omega)
  have m22:=m2 (w.heap.size+1+1) (by omega)
  have m13:=m1 (w.heap.size+1+1+1) (by omega)
  have m23:=m2 (w.heap.size+1+1+1) (by omega)
  have o1:=h1
  have o2:=h2
  obtain ⟨a1,q1,e1,_⟩:=h1.seg
  obtain ⟨a2,q2,e2,_⟩:=h2.seg
  subst e1 e2
  clear h1 h2 ht ht2 e0 hc0 hc1
  go_enter Tryz.func113,Tryz.ntmps113
  go_wp2_with fail;refine (T.out _ (by exact zO o1 o1) (by exact zO o2 o2)).mono ?_;rintro _ w1 ⟨rfl,p1,p2,hgw1⟩;have hsw1:=hgw1.size;(try (simp at hsw1));have zz:=And.intro (grHp hgw1 (b:=w.heap.size+1+1+1) (by (try simp) <;> omega) (by assumption)) <| And.intro (grHp hgw1 (b:=w.heap.size+1+1) (by (try simp) <;> omega) (by assumption)) <| And.intro (grHp hgw1 (b:=w.heap.size+1) (by (try simp) <;> omega) (by assumption)) <| grHp hgw1 (b:=w.heap.size) (by (try simp) <;> omega) (by assumption);(try simp [go_sem] at zz);(try clear z_wppp x_wppp f_wppp l_wppp);(try clear z_wpp x_wpp f_wpp l_wpp);(try clear z_wp x_wp f_wp l_wp);(try clear z_w x_w f_w l_w);obtain ⟨z_wppp,z_wpp,z_wp,z_w⟩:=zz;obtain ⟨x_wppp,f_wppp,l_wppp⟩:=bO z_wppp;obtain ⟨x_wpp,f_wpp,l_wpp⟩:=bO z_wpp;obtain ⟨x_wp,f_wp,l_wp⟩:=bO z_wp;obtain ⟨x_w,f_w,l_w⟩:=bO z_w;have hGw1:=grB (w:=w) (by exact zB) hgw1;clear hgw1
  have hO1:Onl (Value.slice a1 c.cells.length q1).ownBlock (Value.slice a2 c.words.length q2).ownBlock w w1:=onl1 hGw1
  have k0:w.heap.size<w1.heap.size:=by omega
  have k1:w.heap.size+1<w1.heap.size:=by omega
  have k2:w.heap.size+1+1<w1.heap.size:=by omega
  have k3:w.heap.size+1+1+1<w1.heap.size:=by omega
  have r1:OCells w1 lo (.slice a1 c.cells.length q1) (turnC c i h.seen 2 0).cells:=p1
  have r2:OInts w1 lo (.slice a2 c.words.length q2) (turnC c i h.seen 2 0).words:=p2
  clear p1 p2
  go_wp2_with fail
  go_region_held3 (fun w'=>hp w' w.heap.size=some (.cells (cvals c (.slice a1 c.cells.length q1) (.slice a2 c.words.length q2)) 27)∧hp w' (w.heap.size+1)=some (.cells (hvals h) 31))
    (first|(simp [*,go_sem]))
    (first|(go_at_call 76;refine (resting_any _ _ _).mono ?_;rintro _ w2 ⟨rfl,hbw2⟩;have hO2:Onl (Value.slice a1 c.cells.length q1).ownBlock (Value.slice a2 c.words.length q2).ownBlock w w2:=onlT (by (repeat (first|with_reducible assumption|with_reducible refine oA ?_|with_reducible refine oD ?_|((with_reducible refine oX ?_ ?_);rotate_left;(focus ((try dsimp only);(try simp);(try omega))))|((with_reducible refine oS ?_ ?_);rotate_left;(focus ((try dsimp only);(try simp);(try omega))))))) (onlB hbw2);have p1:OCells w2 lo (.slice a1 c.cells.length q1) (turnC c i h.seen 2 0).cells:=own_below (by exact zO r1 o1) hbw2;have p2:OInts w2 lo (.slice a2 c.words.length q2) c.words:=own_below (by exact zO r2 o2) hbw2;have hsw2:=hbw2.size;(try simp at hsw2);have zz:=q4 hbw2 (b:=w.heap.size);(first|simp [go_sem,z_wppp,z_wpp,z_wp,z_w,l_w,l_wp,l_wpp,l_wppp,k0,k1,k2,k3] at zz|simp [go_sem] at zz|skip);(try clear z_wppp x_wppp f_wppp l_wppp);(try clear z_wpp x_wpp f_wpp l_wpp);(try clear z_wp x_wp f_wp l_wp);(try clear z_w x_w f_w l_w);obtain ⟨z_wppp,z_wpp,z_wp,z_w⟩:=zz;obtain ⟨x_wppp,f_wppp,l_wppp⟩:=bO z_wppp;obtain ⟨x_wpp,f_wpp,l_wpp⟩:=bO z_wpp;obtain ⟨x_wp,f_wp,l_wp⟩:=bO z_wp;obtain ⟨x_w,f_w,l_w⟩:=bO z_w;clear hbw2))
  go_wp2
  refine bodyPost_ret (res_cct Tryz.results113 rfl (ldChan c (.slice a1 c.cells.length q1) (.slice a2 c.words.length q2) (by simp [go_sem, *] <;> rfl)) rfl (ldHand (resting 1 0) (by simp [go_sem, *] <;> rfl))) rfl ⟨⟨_,_,rfl,?_,?_,fresh_refl _ _,fresh_refl _ _⟩,by (repeat (first|with_reducible assumption|with_reducible refine oA ?_|with_reducible refine oD ?_|((with_reducible refine oX ?_ ?_);rotate_left;(focus ((try dsimp only);(try simp);(try omega))))|((with_reducible refine oS ?_ ?_);rotate_left;(focus ((try dsimp only);(try simp);(try omega))))))⟩
  · exact zO p1 o1
  · exact zO p2 o2
set_option maxRecDepth 100000 in
set_option maxHeartbeats 2000000 in
theorem sendKeep_no0 (c:Ch) (h:Ha) (v1 v2:Value) (lo:Nat) (w:World) (h1:OCells w lo v1 c.cells) (h2:OInts w lo v2 c.words) (hc0:0≤h.cell) (hc1:h.cell<c.cells.length) (ht:turnCB c h.cell h.seen 2 0=false) :
    Calls Tryz.prog 113 #[.agg (cvals c v1 v2),.agg (hvals h)] w fun r w'=>StepO w w' lo v1 v2 ((turnC c h.cell h.seen 2 0,{ h with pos:=3 },true)) r:=by
  obtain ⟨i,hci⟩:∃ i:Nat,h.cell=(i:Int):=⟨h.cell.toNat,by omega⟩
  have hi:i<c.cells.length:=by omega
  have T:=Lib.hid fun W a b=>turnedIn_any c i h.seen 2 0 v1 v2 lo W a b hi
  have ht2:=ht
  rw [hci] at ht2
  rw [ht2] at T
  have e0:turnC c h.cell h.seen 2 0=turnC c i h.seen 2 0:=by rw [hci]
  rw [e0]
  have b1:=fun j (hj:v1.ownBlock=some j)=>(h1.lt j hj).2
  have b2:=fun j (hj:v2.ownBlock=some j)=>(h2.lt j hj).2
  have m1:∀ j,w.heap.size≤j→some j≠v1.ownBlock:=fun j hj e=>by have:=b1 _ e.symm;omega
  have m2:∀ j,w.heap.size≤j→some j≠v2.ownBlock:=fun j hj e=>by have:=b2 _ e.symm;omega
  have m10:=m1 (w.heap.size) (by omega)
  have m20:=m2 (w.heap.size) (by omega)
  have m11:=m1 (w.heap.size+1) (by omega)
  have m21:=m2 (w.heap.size+1) (by omega)
  have m12:=m1 (w.heap.size+1+1) (by omega)
  have m22:=m2 (w.heap.size+1+1) (by omega)
  have m13:=m1 (w.heap.size+1+1+1) (by omega)
  have m23:=m2 (w.heap.size+1+1+1) (by omega)
  have o1:=h1
  have o2:=h2
  obtain ⟨a1,q1,e1,_⟩:=h1.seg
  obtain ⟨a2,q2,e2,_⟩:=h2.seg
  subst e1 e2
  clear h1 h2 ht ht2 e0 hc0 hc1
  go_enter Tryz.func113,Tryz.ntmps113
  go_wp2_with fail;refine (T.out _ (by exact zO o1 o1) (by exact zO o2 o2)).mono ?_;rintro _ w1 ⟨rfl,p1,p2,hgw1⟩;have hsw1:=hgw1.size;(try (simp at hsw1));have zz:=And.intro (grHp hgw1 (b:=w.heap.size+1+1+1) (by (try simp) <;> omega) (by assumption)) <| And.intro (grHp hgw1 (b:=w.heap.size+1+1) (by (try simp) <;> omega) (by assumption)) <| And.intro (grHp hgw1 (b:=w.heap.size+1) (by (try simp) <;> omega) (by assumption)) <| grHp hgw1 (b:=w.heap.size) (by (try simp) <;> omega) (by assumption);(try simp [go_sem] at zz);(try clear z_wppp x_wppp f_wppp l_wppp);(try clear z_wpp x_wpp f_wpp l_wpp);(try clear z_wp x_wp f_wp l_wp);(try clear z_w x_w f_w l_w);obtain ⟨z_wppp,z_wpp,z_wp,z_w⟩:=zz;obtain ⟨x_wppp,f_wppp,l_wppp⟩:=bO z_wppp;obtain ⟨x_wpp,f_wpp,l_wpp⟩:=bO z_wpp;obtain ⟨x_wp,f_wp,l_wp⟩:=bO z_wp;obtain ⟨x_w,f_w,l_w⟩:=bO z_w;have hGw1:=grB (w:=w) (by exact zB) hgw1;clear hgw1
  have hO1:Onl (Value.slice a1 c.cells.length q1).ownBlock (Value.slice a2 c.words.length q2).ownBlock w w1:=onl1 hGw1
  have k0:w.heap.size<w1.heap.size:=by omega
  have k1:w.heap.size+1<w1.heap.size:=by omega
  have k2:w.heap.size+1+1<w1.heap.size:=by omega
  have k3:w.heap.size+1+1+1<w1.heap.size:=by omega
  have r1:OCells w1 lo (.slice a1 c.cells.length q1) (turnC c i h.seen 2 0).cells:=p1
  have r2:OInts w1 lo (.slice a2 c.words.length q2) (turnC c i h.seen 2 0).words:=p2
  clear p1 p2
  go_wp2_with fail
  go_region_held3 (fun w'=>hp w' w.heap.size=some (.cells (cvals c (.slice a1 c.cells.length q1) (.slice a2 c.words.length q2)) 27)∧hp w' (w.heap.size+1)=some (.cells (hvals h) 31))
    (first|(simp [*,go_sem]))
    (first|(go_at_call 105;refine (moved_any _ _ _).mono ?_;rintro _ w2 ⟨rfl,hbw2⟩;have hO2:Onl (Value.slice a1 c.cells.length q1).ownBlock (Value.slice a2 c.words.length q2).ownBlock w w2:=onlT (by (repeat (first|with_reducible assumption|with_reducible refine oA ?_|with_reducible refine oD ?_|((with_reducible refine oX ?_ ?_);rotate_left;(focus ((try dsimp only);(try simp);(try omega))))|((with_reducible refine oS ?_ ?_);rotate_left;(focus ((try dsimp only);(try simp);(try omega))))))) (onlB hbw2);have p1:OCells w2 lo (.slice a1 c.cells.length q1) (turnC c i h.seen 2 0).cells:=own_below (by exact zO r1 o1) hbw2;have p2:OInts w2 lo (.slice a2 c.words.length q2) c.words:=own_below (by exact zO r2 o2) hbw2;have hsw2:=hbw2.size;(try simp at hsw2);have zz:=q4 hbw2 (b:=w.heap.size);(first|simp [go_sem,z_wppp,z_wpp,z_wp,z_w,l_w,l_wp,l_wpp,l_wppp,k0,k1,k2,k3] at zz|simp [go_sem] at zz|skip);(try clear z_wppp x_wppp f_wppp l_wppp);(try clear z_wpp x_wpp f_wpp l_wpp);(try clear z_wp x_wp f_wp l_wp);(try clear z_w x_w f_w l_w);obtain ⟨z_wppp,z_wpp,z_wp,z_w⟩:=zz;obtain ⟨x_wppp,f_wppp,l_wppp⟩:=bO z_wppp;obtain ⟨x_wpp,f_wpp,l_wpp⟩:=bO z_wpp;obtain ⟨x_wp,f_wp,l_wp⟩:=bO z_wp;obtain ⟨x_w,f_w,l_w⟩:=bO z_w;clear hbw2))
  go_wp2
  refine bodyPost_ret (res_cct Tryz.results113 rfl (ldChan c (.slice a1 c.cells.length q1) (.slice a2 c.words.length q2) (by simp [go_sem, *] <;> rfl)) rfl (ldHand { h with pos:=3 } (by simp [go_sem, *] <;> rfl))) rfl ⟨⟨_,_,rfl,?_,?_,fresh_refl _ _,fresh_refl _ _⟩,by (repeat (first|with_reducible assumption|with_reducible refine oA ?_|with_reducible refine oD ?_|((with_reducible refine oX ?_ ?_);rotate_left;(focus ((try dsimp only);(try simp);(try omega))))|((with_reducible refine oS ?_ ?_);rotate_left;(focus ((try dsimp only);(try simp);(try omega))))))⟩
  · exact zO p1 o1
  · exact zO p2 o2
theorem turnC_same {c:Ch} {i f t v:Int} (h:turnCB c i f t v=false):turnC c i f t v=c:=by
  have e:turnX (cellAt c i) f t v=cellAt c i:=by
    have h2:turnB (cellAt c i).s (cellAt c i).e (cellAt c i).t f t v=false:=h
    simp [turnX,turnS,turnW,h2]
  unfold turnC setAt
  rw [e]
  unfold cellAt
  have:c.cells.set i.toNat (c.cells.getD i.toNat ⟨0,0,0⟩)=c.cells:=by
    apply List.ext_getElem?
    intro n
    rw [List.getElem?_set]
    by_cases hn:i.toNat=n
    · subst hn
      by_cases hl:i.toNat<c.cells.length
      · simp [hl]
      · simp [hl,Nat.le_of_not_lt hl]
    · simp [hn]
  rw [this]
theorem sendKeep_no (c:Ch) (h:Ha) (v1 v2:Value) (lo:Nat) (w:World) (h1:OCells w lo v1 c.cells) (h2:OInts w lo v2 c.words) (hc0:0≤h.cell) (hc1:h.cell<c.cells.length) (ht:turnCB c h.cell h.seen 2 0=false) :
    Calls Tryz.prog 113 #[.agg (cvals c v1 v2),.agg (hvals h)] w fun r w'=>StepO w w' lo v1 v2 ((c,{ h with pos:=3 },true)) r:=by
  have:=sendKeep_no0 c h v1 v2 lo w h1 h2 hc0 hc1 ht
  rwa [turnC_same ht] at this
end Go.Proofs.YtkiingmgpobgnaaGreat
set_option linter.unusedSimpArgs false
set_option linter.unusedVariables false
namespace Go.Proofs.YtkiingmgpobgnaaGreat
open Go.RowKit
set_option linter.unusedSimpArgs false
attribute [local simp] bx_size
attribute [local go_sem ↓] zeroHand zeroChan toLHand toLChan toVHand toVChan storeHand storeChan storeHandC storeChanC
def putK (h:Ha):Bool:=h.seen == 1 || (h.seen == 0 && decide (h.cell<(if h.come<h.fin then h.fin else h.come)))
def putS (c:Ch) (h:Ha):St:=if putK h then keep6 c h else if h.seen == 0 then wt6 c h else nothing
set_option maxRecDepth 100000 in
set_option maxHeartbeats 2000000 in
theorem sendKeep_any (c:Ch) (h:Ha) (v1 v2:Value) (lo:Nat) (w:World) (h1:OCells w lo v1 c.cells) (h2:OInts w lo v2 c.words) (hc0:0≤h.cell) (hc1:h.cell<c.cells.length) :
    Calls Tryz.prog 113 #[.agg (cvals c v1 v2),.agg (hvals h)] w fun r w'=>StepO w w' lo v1 v2 (keep6 c h) r:=by
  cases ht:turnCB c h.cell h.seen 2 0 with
  | true =>
    rw [show keep6 c h=(turnC c h.cell h.seen 2 0,resting 1 0,true) by simp [keep6,ht]]
    exact sendKeep_yes c h v1 v2 lo w h1 h2 hc0 hc1 ht
  | false =>
    rw [show keep6 c h=(c,{ h with pos:=3 },true) by simp [keep6,ht]]
    exact sendKeep_no c h v1 v2 lo w h1 h2 hc0 hc1 ht
set_option maxRecDepth 100000 in
set_option maxHeartbeats 2000000 in
theorem sendPut_1 (c:Ch) (h:Ha) (v1 v2:Value) (lo:Nat) (w:World) (h1:OCells w lo v1 c.cells) (h2:OInts w lo v2 c.words) (hc0:0≤h.cell) (hc1:h.cell<c.cells.length) (hs:(h.seen == 1)=true) :
    Calls Tryz.prog 94 #[.agg (cvals c v1 v2),.agg (hvals h)] w fun r w'=>StepO w w' lo v1 v2 (putS c h) r:=by
  have e:putS c h=keep6 c h:=by simp [putS,putK,hs]
  have T:=Lib.hid fun W a b=>sendKeep_any c h v1 v2 lo W a b hc0 hc1
  rw [← e] at T
  generalize putS c h=x at *
  clear e hc0 hc1
  have b1:=fun j (hj:v1.ownBlock=some j)=>(h1.lt j hj).2
  have b2:=fun j (hj:v2.ownBlock=some j)=>(h2.lt j hj).2
  have m1:∀ j,w.heap.size≤j→some j≠v1.ownBlock:=fun j hj e=>by have:=b1 _ e.symm;omega
  have m2:∀ j,w.heap.size≤j→some j≠v2.ownBlock:=fun j hj e=>by have:=b2 _ e.symm;omega
  have m10:=m1 (w.heap.size) (by omega)
  have m11:=m1 (w.heap.size+1) (by omega)
  have m12:=m1 (w.heap.size+1+1) (by omega)
  have m13:=m1 (w.heap.size+1+1+1) (by omega)
  have m20:=m2 (w.heap.size) (by omega)
  have m21:=m2 (w.heap.size+1) (by omega)
  have m22:=m2 (w.heap.size+1+1) (by omega)
  have m23:=m2 (w.heap.size+1+1+1) (by omega)
  have o1:=h1
  have o2:=h2
  obtain ⟨a1,q1,e1,_⟩:=h1.seg
  obtain ⟨a2,q2,e2,_⟩:=h2.seg
  subst e1 e2
  clear h1 h2
  go_enter Tryz.func94,Tryz.ntmps94
  go_wp2_with fail
  refine (T.out _ (by exact zO o1 o1) (by exact zO o2 o2)).mono ?_
  rintro _ w3 ⟨⟨y1,y2,rfl,oY1,oY2,fY1,fY2⟩,hO⟩
  have hO3:Onl (Value.slice a1 c.cells.length q1).ownBlock (Value.slice a2 c.words.length q2).ownBlock w w3:=onlT (onlB (by exact zB)) hO
  have hsw3:=hO.2.2.2.1;(try (simp at hsw3));have zz:=And.intro (onlHp hO (i:=w.heap.size+1+1+1) (by (try simp) <;> omega) (by assumption) (by assumption)) <| And.intro (onlHp hO (i:=w.heap.size+1+1) (by (try simp) <;> omega) (by assumption) (by assumption)) <| And.intro (onlHp hO (i:=w.heap.size+1) (by (try simp) <;> omega) (by assumption) (by assumption)) <| onlHp hO (i:=w.heap.size) (by (try simp) <;> omega) (by assumption) (by assumption);(try simp [go_sem] at zz);(try clear z_wppp x_wppp f_wppp l_wppp);(try clear z_wpp x_wpp f_wpp l_wpp);(try clear z_wp x_wp f_wp l_wp);(try clear z_w x_w f_w l_w);obtain ⟨z_wppp,z_wpp,z_wp,z_w⟩:=zz;obtain ⟨x_wppp,f_wppp,l_wppp⟩:=bO z_wppp;obtain ⟨x_wpp,f_wpp,l_wpp⟩:=bO z_wpp;obtain ⟨x_wp,f_wp,l_wp⟩:=bO z_wp;obtain ⟨x_w,f_w,l_w⟩:=bO z_w
  clear hO
  have hoff1:∀ j,w.heap.size≤j→j<w.heap.size+1+1+1+1→y1.ownBlock≠some j:=fun j h1 h2=>fY1.off b1 h1 (by (try simp) <;> omega);have hoff2:∀ j,w.heap.size≤j→j<w.heap.size+1+1+1+1→y2.ownBlock≠some j:=fun j h1 h2=>fY2.off b2 h1 (by (try simp) <;> omega);have fr1:Fresh w _ y1:=fun j hj=>(fY1 j hj).imp id (fun h=>Nat.le_trans (by (try simp) <;> omega) h);have fr2:Fresh w _ y2:=fun j hj=>(fY2 j hj).imp id (fun h=>Nat.le_trans (by (try simp) <;> omega) h);obtain ⟨ya,yp,rfl,_⟩:=oY1.seg;obtain ⟨yb,yq,rfl,_⟩:=oY2.seg
  go_wp2
  refine bodyPost_ret (res_cct Tryz.results94 rfl (ldChan x.1 (.slice ya x.1.cells.length yp) (.slice yb x.1.words.length yq) (by simp [go_sem, *])) rfl (ldHand x.2.1 (by simp [go_sem, *]))) rfl ⟨⟨_,_,rfl,?_,?_,fr1,fr2⟩,by (repeat (first|with_reducible assumption|with_reducible refine oA ?_|with_reducible refine oD ?_|((with_reducible refine oX ?_ ?_);rotate_left;(focus ((try dsimp only);(try simp);(try omega))))|((with_reducible refine oS ?_ ?_);rotate_left;(focus ((try dsimp only);(try simp);(try omega))))))⟩
  · exact zP oY1 oY1 hoff1
  · exact zP oY2 oY2 hoff2
set_option maxRecDepth 100000 in
set_option maxHeartbeats 2000000 in
theorem sendPut_2a (c:Ch) (h:Ha) (v1 v2:Value) (lo:Nat) (w:World) (h1:OCells w lo v1 c.cells) (h2:OInts w lo v2 c.words) (hc0:0≤h.cell) (hc1:h.cell<c.cells.length) (hn:(h.seen == 1)=false) (hs:(h.seen == 0)=true) (hcf:h.come<h.fin) (hx:h.cell<h.fin) :
    Calls Tryz.prog 94 #[.agg (cvals c v1 v2),.agg (hvals h)] w fun r w'=>StepO w w' lo v1 v2 (putS c h) r:=by
  have e:putS c h=keep6 c h:=by simp [putS,putK,hs,hcf,hx]
  have T:=Lib.hid fun W a b=>sendKeep_any c h v1 v2 lo W a b hc0 hc1
  rw [← e] at T
  generalize putS c h=x at *
  clear e hc0 hc1
  have b1:=fun j (hj:v1.ownBlock=some j)=>(h1.lt j hj).2
  have b2:=fun j (hj:v2.ownBlock=some j)=>(h2.lt j hj).2
  have m1:∀ j,w.heap.size≤j→some j≠v1.ownBlock:=fun j hj e=>by have:=b1 _ e.symm;omega
  have m2:∀ j,w.heap.size≤j→some j≠v2.ownBlock:=fun j hj e=>by have:=b2 _ e.symm;omega
  have m10:=m1 (w.heap.size) (by omega)
  have m11:=m1 (w.heap.size+1) (by omega)
  have m12:=m1 (w.heap.size+1+1) (by omega)
  have m13:=m1 (w.heap.size+1+1+1) (by omega)
  have m20:=m2 (w.heap.size) (by omega)
  have m21:=m2 (w.heap.size+1) (by omega)
  have m22:=m2 (w.heap.size+1+1) (by omega)
  have m23:=m2 (w.heap.size+1+1+1) (by omega)
  have o1:=h1
  have o2:=h2
  obtain ⟨a1,q1,e1,_⟩:=h1.seg
  obtain ⟨a2,q2,e2,_⟩:=h2.seg
  subst e1 e2
  clear h1 h2
  go_enter Tryz.func94,Tryz.ntmps94
  go_wp2_with fail
  refine (T.out _ (by exact zO o1 o1) (by exact zO o2 o2)).mono ?_
  rintro _ w3 ⟨⟨y1,y2,rfl,oY1,oY2,fY1,fY2⟩,hO⟩
  have hO3:Onl (Value.slice a1 c.cells.length q1).ownBlock (Value.slice a2 c.words.length q2).ownBlock w w3:=onlT (onlB (by exact zB)) hO
  have hsw3:=hO.2.2.2.1;(try (simp at hsw3));have zz:=And.intro (onlHp hO (i:=w.heap.size+1+1+1) (by (try simp) <;> omega) (by assumption) (by assumption)) <| And.intro (onlHp hO (i:=w.heap.size+1+1) (by (try simp) <;> omega) (by assumption) (by assumption)) <| And.intro (onlHp hO (i:=w.heap.size+1) (by (try simp) <;> omega) (by assumption) (by assumption)) <| onlHp hO (i:=w.heap.size) (by (try simp) <;> omega) (by assumption) (by assumption);(try simp [go_sem] at zz);(try clear z_wppp x_wppp f_wppp l_wppp);(try clear z_wpp x_wpp f_wpp l_wpp);(try clear z_wp x_wp f_wp l_wp);(try clear z_w x_w f_w l_w);obtain ⟨z_wppp,z_wpp,z_wp,z_w⟩:=zz;obtain ⟨x_wppp,f_wppp,l_wppp⟩:=bO z_wppp;obtain ⟨x_wpp,f_wpp,l_wpp⟩:=bO z_wpp;obtain ⟨x_wp,f_wp,l_wp⟩:=bO z_wp;obtain ⟨x_w,f_w,l_w⟩:=bO z_w
  clear hO
  have hoff1:∀ j,w.heap.size≤j→j<w.heap.size+1+1+1+1→y1.ownBlock≠some j:=fun j h1 h2=>fY1.off b1 h1 (by (try simp) <;> omega);have hoff2:∀ j,w.heap.size≤j→j<w.heap.size+1+1+1+1→y2.ownBlock≠some j:=fun j h1 h2=>fY2.off b2 h1 (by (try simp) <;> omega);have fr1:Fresh w _ y1:=fun j hj=>(fY1 j hj).imp id (fun h=>Nat.le_trans (by (try simp) <;> omega) h);have fr2:Fresh w _ y2:=fun j hj=>(fY2 j hj).imp id (fun h=>Nat.le_trans (by (try simp) <;> omega) h);obtain ⟨ya,yp,rfl,_⟩:=oY1.seg;obtain ⟨yb,yq,rfl,_⟩:=oY2.seg
  go_wp2
  refine bodyPost_ret (res_cct Tryz.results94 rfl (ldChan x.1 (.slice ya x.1.cells.length yp) (.slice yb x.1.words.length yq) (by simp [go_sem, *])) rfl (ldHand x.2.1 (by simp [go_sem, *]))) rfl ⟨⟨_,_,rfl,?_,?_,fr1,fr2⟩,by (repeat (first|with_reducible assumption|with_reducible refine oA ?_|with_reducible refine oD ?_|((with_reducible refine oX ?_ ?_);rotate_left;(focus ((try dsimp only);(try simp);(try omega))))|((with_reducible refine oS ?_ ?_);rotate_left;(focus ((try dsimp only);(try simp);(try omega))))))⟩
  · exact zP oY1 oY1 hoff1
  · exact zP oY2 oY2 hoff2
set_option maxRecDepth 100000 in
set_option maxHeartbeats 2000000 in
theorem sendPut_2b (c:Ch) (h:Ha) (v1 v2:Value) (lo:Nat) (w:World) (h1:OCells w lo v1 c.cells) (h2:OInts w lo v2 c.words) (hc0:0≤h.cell) (hc1:h.cell<c.cells.length) (hn:(h.seen == 1)=false) (hs:(h.seen == 0)=true) (hcf:¬ h.come<h.fin) (hx:h.cell<h.come) :
    Calls Tryz.prog 94 #[.agg (cvals c v1 v2),.agg (hvals h)] w fun r w'=>StepO w w' lo v1 v2 (putS c h) r:=by
  have e:putS c h=keep6 c h:=by simp [putS,putK,hs,hcf,hx]
  have T:=Lib.hid fun W a b=>sendKeep_any c h v1 v2 lo W a b hc0 hc1
  rw [← e] at T
  generalize putS c h=x at *
  clear e hc0 hc1
  have b1:=fun j (hj:v1.ownBlock=some j)=>(h1.lt j hj).2
  have b2:=fun j (hj:v2.ownBlock=some j)=>(h2.lt j hj).2
  have m1:∀ j,w.heap.size≤j→some j≠v1.ownBlock:=fun j hj e=>by have:=b1 _ e.symm;omega
  have m2:∀ j,w.heap.size≤j→some j≠v2.ownBlock:=fun j hj e=>by have:=b2 _ e.symm;omega
  have m10:=m1 (w.heap.size) (by omega)
  have m11:=m1 (w.heap.size+1) (by omega)
  have m12:=m1 (w.heap.size+1+1) (by omega)
  have m13:=m1 (w.heap.size+1+1+1) (by omega)
  have m20:=m2 (w.heap.size) (by omega)
  have m21:=m2 (w.heap.size+1) (by omega)
  have m22:=m2 (w.heap.size+1+1) (by omega)
  have m23:=m2 (w.heap.size+1+1+1) (by omega)
  have o1:=h1
  have o2:=h2
  obtain ⟨a1,q1,e1,_⟩:=h1.seg
  obtain ⟨a2,q2,e2,_⟩:=h2.seg
  subst e1 e2
  clear h1 h2
  go_enter Tryz.func94,Tryz.ntmps94
  go_wp2_with fail
  refine (T.out _ (by exact zO o1 o1) (by exact zO o2 o2)).mono ?_
  rintro _ w3 ⟨⟨y1,y2,rfl,oY1,oY2,fY1,fY2⟩,hO⟩
  have hO3:Onl (Value.slice a1 c.cells.length q1).ownBlock (Value.slice a2 c.words.length q2).ownBlock w w3:=onlT (onlB (by exact zB)) hO
  have hsw3:=hO.2.2.2.1;(try (simp at hsw3));have zz:=And.intro (onlHp hO (i:=w.heap.size+1+1+1) (by (try simp) <;> omega) (by assumption) (by assumption)) <| And.intro (onlHp hO (i:=w.heap.size+1+1) (by (try simp) <;> omega) (by assumption) (by assumption)) <| And.intro (onlHp hO (i:=w.heap.size+1) (by (try simp) <;> omega) (by assumption) (by assumption)) <| onlHp hO (i:=w.heap.size) (by (try simp) <;> omega) (by assumption) (by assumption);(try simp [go_sem] at zz);(try clear z_wppp x_wppp f_wppp l_wppp);(try clear z_wpp x_wpp f_wpp l_wpp);(try clear z_wp x_wp f_wp l_wp);(try clear z_w x_w f_w l_w);obtain ⟨z_wppp,z_wpp,z_wp,z_w⟩:=zz;obtain ⟨x_wppp,f_wppp,l_wppp⟩:=bO z_wppp;obtain ⟨x_wpp,f_wpp,l_wpp⟩:=bO z_wpp;obtain ⟨x_wp,f_wp,l_wp⟩:=bO z_wp;obtain ⟨x_w,f_w,l_w⟩:=bO z_w
  clear hO
  have hoff1:∀ j,w.heap.size≤j→j<w.heap.size+1+1+1+1→y1.ownBlock≠some j:=fun j h1 h2=>fY1.off b1 h1 (by (try simp) <;> omega);have hoff2:∀ j,w.heap.size≤j→j<w.heap.size+1+1+1+1→y2.ownBlock≠some j:=fun j h1 h2=>fY2.off b2 h1 (by (try simp) <;> omega);have fr1:Fresh w _ y1:=fun j hj=>(fY1 j hj).imp id (fun h=>Nat.le_trans (by (try simp) <;> omega) h);have fr2:Fresh w _ y2:=fun j hj=>(fY2 j hj).imp id (fun h=>Nat.le_trans (by (try simp) <;> omega) h);obtain ⟨ya,yp,rfl,_⟩:=oY1.seg;obtain ⟨yb,yq,rfl,_⟩:=oY2.seg
  go_wp2
  refine bodyPost_ret (res_cct Tryz.results94 rfl (ldChan x.1 (.slice ya x.1.cells.length yp) (.slice yb x.1.words.length yq) (by simp [go_sem, *])) rfl (ldHand x.2.1 (by simp [go_sem, *]))) rfl ⟨⟨_,_,rfl,?_,?_,fr1,fr2⟩,by (repeat (first|with_reducible assumption|with_reducible refine oA ?_|with_reducible refine oD ?_|((with_reducible refine oX ?_ ?_);rotate_left;(focus ((try dsimp only);(try simp);(try omega))))|((with_reducible refine oS ?_ ?_);rotate_left;(focus ((try dsimp only);(try simp);(try omega))))))⟩
  · exact zP oY1 oY1 hoff1
  · exact zP oY2 oY2 hoff2
set_option maxRecDepth 100000 in
set_option maxHeartbeats 2000000 in
theorem sendPut_3a (c:Ch) (h:Ha) (v1 v2:Value) (lo:Nat) (w:World) (h1:OCells w lo v1 c.cells) (h2:OInts w lo v2 c.words) (hc0:0≤h.cell) (hc1:h.cell<c.cells.length) (hc:chanOk c=true) (hlo:lo≤w.heap.size) (hn:(h.seen == 1)=false) (hs:(h.seen == 0)=true) (hcf:h.come<h.fin) (hx:¬ h.cell<h.fin) :
    Calls Tryz.prog 94 #[.agg (cvals c v1 v2),.agg (hvals h)] w fun r w'=>StepO w w' lo v1 v2 (putS c h) r:=by
  have e:putS c h=wt6 c h:=by
    have hx2:(decide (h.cell<(if h.come<h.fin then h.fin else h.come)))=false:=by simp only [hcf,if_true,if_false];simpa using hx
    simp only [putS,putK,hn,hs,hx2,Bool.false_or,Bool.and_false,Bool.true_and,if_true]
    rfl
  have T:=Lib.hid fun W a b hl=>sendWait_any c h v1 v2 lo W a b hc0 hc1 hc hl
  rw [← e] at T
  generalize putS c h=x at *
  clear e hc0 hc1
  have b1:=fun j (hj:v1.ownBlock=some j)=>(h1.lt j hj).2
  have b2:=fun j (hj:v2.ownBlock=some j)=>(h2.lt j hj).2
  have m1:∀ j,w.heap.size≤j→some j≠v1.ownBlock:=fun j hj e=>by have:=b1 _ e.symm;omega
  have m2:∀ j,w.heap.size≤j→some j≠v2.ownBlock:=fun j hj e=>by have:=b2 _ e.symm;omega
  have m10:=m1 (w.heap.size) (by omega)
  have m11:=m1 (w.heap.size+1) (by omega)
  have m12:=m1 (w.heap.size+1+1) (by omega)
  have m13:=m1 (w.heap.size+1+1+1) (by omega)
  have m20:=m2 (w.heap.size) (by omega)
  have m21:=m2 (w.heap.size+1) (by omega)
  have m22:=m2 (w.heap.size+1+1) (by omega)
  have m23:=m2 (w.heap.size+1+1+1) (by omega)
  have o1:=h1
  have o2:=h2
  obtain ⟨a1,q1,e1,_⟩:=h1.seg
  obtain ⟨a2,q2,e2,_⟩:=h2.seg
  subst e1 e2
  clear h1 h2
  go_enter Tryz.func94,Tryz.ntmps94
  go_wp2_with fail
  refine (T.out _ (by exact zO o1 o1) (by exact zO o2 o2) (by simp;omega)).mono ?_
  rintro _ w3 ⟨⟨y1,y2,rfl,oY1,oY2,fY1,fY2⟩,hO⟩
  have hO3:Onl (Value.slice a1 c.cells.length q1).ownBlock (Value.slice a2 c.words.length q2).ownBlock w w3:=onlT (onlB (by exact zB)) hO
  have hsw3:=hO.2.2.2.1;(try (simp at hsw3));have zz:=And.intro (onlHp hO (i:=w.heap.size+1+1+1) (by (try simp) <;> omega) (by assumption) (by assumption)) <| And.intro (onlHp hO (i:=w.heap.size+1+1) (by (try simp) <;> omega) (by assumption) (by assumption)) <| And.intro (onlHp hO (i:=w.heap.size+1) (by (try simp) <;> omega) (by assumption) (by assumption)) <| onlHp hO (i:=w.heap.size) (by (try simp) <;> omega) (by assumption) (by assumption);(try simp [go_sem] at zz);(try clear z_wppp x_wppp f_wppp l_wppp);(try clear z_wpp x_wpp f_wpp l_wpp);(try clear z_wp x_wp f_wp l_wp);(try clear z_w x_w f_w l_w);obtain ⟨z_wppp,z_wpp,z_wp,z_w⟩:=zz;obtain ⟨x_wppp,f_wppp,l_wppp⟩:=bO z_wppp;obtain ⟨x_wpp,f_wpp,l_wpp⟩:=bO z_wpp;obtain ⟨x_wp,f_wp,l_wp⟩:=bO z_wp;obtain ⟨x_w,f_w,l_w⟩:=bO z_w
  clear hO
  have hoff1:∀ j,w.heap.size≤j→j<w.heap.size+1+1+1+1→y1.ownBlock≠some j:=fun j h1 h2=>fY1.off b1 h1 (by (try simp) <;> omega);have hoff2:∀ j,w.heap.size≤j→j<w.heap.size+1+1+1+1→y2.ownBlock≠some j:=fun j h1 h2=>fY2.off b2 h1 (by (try simp) <;> omega);have fr1:Fresh w _ y1:=fun j hj=>(fY1 j hj).imp id (fun h=>Nat.le_trans (by (try simp) <;> omega) h);have fr2:Fresh w _ y2:=fun j hj=>(fY2 j hj).imp id (fun h=>Nat.le_trans (by (try simp) <;> omega) h);obtain ⟨ya,yp,rfl,_⟩:=oY1.seg;obtain ⟨yb,yq,rfl,_⟩:=oY2.seg
  go_wp2
  refine bodyPost_ret (res_cct Tryz.results94 rfl (ldChan x.1 (.slice ya x.1.cells.length yp) (.slice yb x.1.words.length yq) (by simp [go_sem, *])) rfl (ldHand x.2.1 (by simp [go_sem, *]))) rfl ⟨⟨_,_,rfl,?_,?_,fr1,fr2⟩,by (repeat (first|with_reducible assumption|with_reducible refine oA ?_|with_reducible refine oD ?_|((with_reducible refine oX ?_ ?_);rotate_left;(focus ((try dsimp only);(try simp);(try omega))))|((with_reducible refine oS ?_ ?_);rotate_left;(focus ((try dsimp only);(try simp);(try omega))))))⟩
  · exact zP oY1 oY1 hoff1
  · exact zP oY2 oY2 hoff2
set_option maxRecDepth 100000 in
set_option maxHeartbeats 2000000 in
theorem sendPut_3b (c:Ch) (h:Ha) (v1 v2:Value) (lo:Nat) (w:World) (h1:OCells w lo v1 c.cells) (h2:OInts w lo v2 c.words) (hc0:0≤h.cell) (hc1:h.cell<c.cells.length) (hc:chanOk c=true) (hlo:lo≤w.heap.size) (hn:(h.seen == 1)=false) (hs:(h.seen == 0)=true) (hcf:¬ h.come<h.fin) (hx:¬ h.cell<h.come) :
    Calls Tryz.prog 94 #[.agg (cvals c v1 v2),.agg (hvals h)] w fun r w'=>StepO w w' lo v1 v2 (putS c h) r:=by
  have e:putS c h=wt6 c h:=by
    have hx2:(decide (h.cell<(if h.come<h.fin then h.fin else h.come)))=false:=by simp only [hcf,if_true,if_false];simpa using hx
    simp only [putS,putK,hn,hs,hx2,Bool.false_or,Bool.and_false,Bool.true_and,if_true]
    rfl
  have T:=Lib.hid fun W a b hl=>sendWait_any c h v1 v2 lo W a b hc0 hc1 hc hl
  rw [← e] at T
  generalize putS c h=x at *
  clear e hc0 hc1
  have b1:=fun j (hj:v1.ownBlock=some j)=>(h1.lt j hj).2
  have b2:=fun j (hj:v2.ownBlock=some j)=>(h2.lt j hj).2
  have m1:∀ j,w.heap.size≤j→some j≠v1.ownBlock:=fun j hj e=>by have:=b1 _ e.symm;omega
  have m2:∀ j,w.heap.size≤j→some j≠v2.ownBlock:=fun j hj e=>by have:=b2 _ e.symm;omega
  have m10:=m1 (w.heap.size) (by omega)
  have m11:=m1 (w.heap.size+1) (by omega)
  have m12:=m1 (w.heap.size+1+1) (by omega)
  have m13:=m1 (w.heap.size+1+1+1) (by omega)
  have m20:=m2 (w.heap.size) (by omega)
  have m21:=m2 (w.heap.size+1) (by omega)
  have m22:=m2 (w.heap.size+1+1) (by omega)
  have m23:=m2 (w.heap.size+1+1+1) (by omega)
  have o1:=h1
  have o2:=h2
  obtain ⟨a1,q1,e1,_⟩:=h1.seg
  obtain ⟨a2,q2,e2,_⟩:=h2.seg
  subst e1 e2
  clear h1 h2
  go_enter Tryz.func94,Tryz.ntmps94
  go_wp2_with fail
  refine (T.out _ (by exact zO o1 o1) (by exact zO o2 o2) (by simp;omega)).mono ?_
  rintro _ w3 ⟨⟨y1,y2,rfl,oY1,oY2,fY1,fY2⟩,hO⟩
  have hO3:Onl (Value.slice a1 c.cells.length q1).ownBlock (Value.slice a2 c.words.length q2).ownBlock w w3:=onlT (onlB (by exact zB)) hO
  have hsw3:=hO.2.2.2.1;(try (simp at hsw3));have zz:=And.intro (onlHp hO (i:=w.heap.size+1+1+1) (by (try simp) <;> omega) (by assumption) (by assumption)) <| And.intro (onlHp hO (i:=w.heap.size+1+1) (by (try simp) <;> omega) (by assumption) (by assumption)) <| And.intro (onlHp hO (i:=w.heap.size+1) (by (try simp) <;> omega) (by assumption) (by assumption)) <| onlHp hO (i:=w.heap.size) (by (try simp) <;> omega) (by assumption) (by assumption);(try simp [go_sem] at zz);(try clear z_wppp x_wppp f_wppp l_wppp);(try clear z_wpp x_wpp f_wpp l_wpp);(try clear z_wp x_wp f_wp l_wp);(try clear z_w x_w f_w l_w);obtain ⟨z_wppp,z_wpp,z_wp,z_w⟩:=zz;obtain ⟨x_wppp,f_wppp,l_wppp⟩:=bO z_wppp;obtain ⟨x_wpp,f_wpp,l_wpp⟩:=bO z_wpp;obtain ⟨x_wp,f_wp,l_wp⟩:=bO z_wp;obtain ⟨x_w,f_w,l_w⟩:=bO z_w
  clear hO
  have hoff1:∀ j,w.heap.size≤j→j<w.heap.size+1+1+1+1→y1.ownBlock≠some j:=fun j h1 h2=>fY1.off b1 h1 (by (try simp) <;> omega);have hoff2:∀ j,w.heap.size≤j→j<w.heap.size+1+1+1+1→y2.ownBlock≠some j:=fun j h1 h2=>fY2.off b2 h1 (by (try simp) <;> omega);have fr1:Fresh w _ y1:=fun j hj=>(fY1 j hj).imp id (fun h=>Nat.le_trans (by (try simp) <;> omega) h);have fr2:Fresh w _ y2:=fun j hj=>(fY2 j hj).imp id (fun h=>Nat.le_trans (by (try simp) <;> omega) h);obtain ⟨ya,yp,rfl,_⟩:=oY1.seg;obtain ⟨yb,yq,rfl,_⟩:=oY2.seg
  go_wp2
  refine bodyPost_ret (res_cct Tryz.results94 rfl (ldChan x.1 (.slice ya x.1.cells.length yp) (.slice yb x.1.words.length yq) (by simp [go_sem, *])) rfl (ldHand x.2.1 (by simp [go_sem, *]))) rfl ⟨⟨_,_,rfl,?_,?_,fr1,fr2⟩,by (repeat (first|with_reducible assumption|with_reducible refine oA ?_|with_reducible refine oD ?_|((with_reducible refine oX ?_ ?_);rotate_left;(focus ((try dsimp only);(try simp);(try omega))))|((with_reducible refine oS ?_ ?_);rotate_left;(focus ((try dsimp only);(try simp);(try omega))))))⟩
  · exact zP oY1 oY1 hoff1
  · exact zP oY2 oY2 hoff2
set_option maxRecDepth 100000 in
set_option maxHeartbeats 2000000 in
theorem sendPut_4 (c:Ch) (h:Ha) (v1 v2:Value) (lo:Nat) (w:World) (h1:OCells w lo v1 c.cells) (h2:OInts w lo v2 c.words) (hc0:0≤h.cell) (hc1:h.cell<c.cells.length) (hn:(h.seen == 1)=false) (hs:(h.seen == 0)=false) :
    Calls Tryz.prog 94 #[.agg (cvals c v1 v2),.agg (hvals h)] w fun r w'=>StepO w w' lo v1 v2 (putS c h) r:=by
  have e:putS c h=nothing:=by simp [putS,putK,hs,hn]
  have T:=Lib.hid fun W=>refused_any W lo v1 v2
  rw [← e] at T
  generalize putS c h=x at *
  clear e hc0 hc1
  have b1:=fun j (hj:v1.ownBlock=some j)=>(h1.lt j hj).2
  have b2:=fun j (hj:v2.ownBlock=some j)=>(h2.lt j hj).2
  have m1:∀ j,w.heap.size≤j→some j≠v1.ownBlock:=fun j hj e=>by have:=b1 _ e.symm;omega
  have m2:∀ j,w.heap.size≤j→some j≠v2.ownBlock:=fun j hj e=>by have:=b2 _ e.symm;omega
  have m10:=m1 (w.heap.size) (by omega)
  have m11:=m1 (w.heap.size+1) (by omega)
  have m12:=m1 (w.heap.size+1+1) (by omega)
  have m13:=m1 (w.heap.size+1+1+1) (by omega)
  have m20:=m2 (w.heap.size) (by omega)
  have m21:=m2 (w.heap.size+1) (by omega)
  have m22:=m2 (w.heap.size+1+1) (by omega)
  have m23:=m2 (w.heap.size+1+1+1) (by omega)
  have o1:=h1
  have o2:=h2
  obtain ⟨a1,q1,e1,_⟩:=h1.seg
  obtain ⟨a2,q2,e2,_⟩:=h2.seg
  subst e1 e2
  clear h1 h2
  go_enter Tryz.func94,Tryz.ntmps94
  go_wp2_with fail
  refine (T.out _).mono ?_
  rintro _ w3 ⟨⟨y1,y2,rfl,oY1,oY2,fY1,fY2⟩,hO0⟩
  have hO:=onlB (a:=(Value.slice a1 c.cells.length q1).ownBlock) (b:=(Value.slice a2 c.words.length q2).ownBlock) hO0
  have hO3:Onl (Value.slice a1 c.cells.length q1).ownBlock (Value.slice a2 c.words.length q2).ownBlock w w3:=onlT (onlB (by exact zB)) hO
  have hsw3:=hO.2.2.2.1;(try (simp at hsw3));have zz:=And.intro (onlHp hO (i:=w.heap.size+1+1+1) (by (try simp) <;> omega) (by assumption) (by assumption)) <| And.intro (onlHp hO (i:=w.heap.size+1+1) (by (try simp) <;> omega) (by assumption) (by assumption)) <| And.intro (onlHp hO (i:=w.heap.size+1) (by (try simp) <;> omega) (by assumption) (by assumption)) <| onlHp hO (i:=w.heap.size) (by (try simp) <;> omega) (by assumption) (by assumption);(try simp [go_sem] at zz);(try clear z_wppp x_wppp f_wppp l_wppp);(try clear z_wpp x_wpp f_wpp l_wpp);(try clear z_wp x_wp f_wp l_wp);(try clear z_w x_w f_w l_w);obtain ⟨z_wppp,z_wpp,z_wp,z_w⟩:=zz;obtain ⟨x_wppp,f_wppp,l_wppp⟩:=bO z_wppp;obtain ⟨x_wpp,f_wpp,l_wpp⟩:=bO z_wpp;obtain ⟨x_wp,f_wp,l_wp⟩:=bO z_wp;obtain ⟨x_w,f_w,l_w⟩:=bO z_w
  clear hO hO0
  have hoff1:∀ j,w.heap.size≤j→j<w.heap.size+1+1+1+1→y1.ownBlock≠some j:=fun j h1 h2=>fY1.off b1 h1 (by (try simp) <;> omega);have hoff2:∀ j,w.heap.size≤j→j<w.heap.size+1+1+1+1→y2.ownBlock≠some j:=fun j h1 h2=>fY2.off b2 h1 (by (try simp) <;> omega);have fr1:Fresh w _ y1:=fun j hj=>(fY1 j hj).imp id (fun h=>Nat.le_trans (by (try simp) <;> omega) h);have fr2:Fresh w _ y2:=fun j hj=>(fY2 j hj).imp id (fun h=>Nat.le_trans (by (try simp) <;> omega) h);obtain ⟨ya,yp,rfl,_⟩:=oY1.seg;obtain ⟨yb,yq,rfl,_⟩:=oY2.seg
  go_wp2
  refine bodyPost_ret (res_cct Tryz.results94 rfl (ldChan x.1 (.slice ya x.1.cells.length yp) (.slice yb x.1.words.length yq) (by simp [go_sem, *])) rfl (ldHand x.2.1 (by simp [go_sem, *]))) rfl ⟨⟨_,_,rfl,?_,?_,fr1,fr2⟩,by (repeat (first|with_reducible assumption|with_reducible refine oA ?_|with_reducible refine oD ?_|((with_reducible refine oX ?_ ?_);rotate_left;(focus ((try dsimp only);(try simp);(try omega))))|((with_reducible refine oS ?_ ?_);rotate_left;(focus ((try dsimp only);(try simp);(try omega))))))⟩
  · exact zP oY1 oY1 hoff1
  · exact zP oY2 oY2 hoff2
set_option maxRecDepth 100000 in
set_option maxHeartbeats 2000000 in
theorem sendPut_any (c:Ch) (h:Ha) (v1 v2:Value) (lo:Nat) (w:World) (h1:OCells w lo v1 c.cells) (h2:OInts w lo v2 c.words) (hc0:0≤h.cell) (hc1:h.cell<c.cells.length) (hc:chanOk c=true) (hlo:lo≤w.heap.size) :
    Calls Tryz.prog 94 #[.agg (cvals c v1 v2),.agg (hvals h)] w fun r w'=>StepO w w' lo v1 v2 (putS c h) r:=by
  cases hn:(h.seen == 1) with
  | true=>exact sendPut_1 c h v1 v2 lo w h1 h2 hc0 hc1 hn
  | false =>
    cases hs:(h.seen == 0) with
    | false=>exact sendPut_4 c h v1 v2 lo w h1 h2 hc0 hc1 hn hs
    | true =>
      by_cases hcf:h.come<h.fin
      · by_cases hx:h.cell<h.fin
        · exact sendPut_2a c h v1 v2 lo w h1 h2 hc0 hc1 hn hs hcf hx
        · exact sendPut_3a c h v1 v2 lo w h1 h2 hc0 hc1 hc hlo hn hs hcf hx
      · by_cases hx:h.cell<h.come
        · exact sendPut_2b c h v1 v2 lo w h1 h2 hc0 hc1 hn hs hcf hx
        · exact sendPut_3b c h v1 v2 lo w h1 h2 hc0 hc1 hc hlo hn hs hcf hx
end Go.Proofs.YtkiingmgpobgnaaGreat
