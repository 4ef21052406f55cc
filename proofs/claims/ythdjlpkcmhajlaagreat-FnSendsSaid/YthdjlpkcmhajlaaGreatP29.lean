/-
  The program's copy of a channel: the same in new memory; lists lie in memory and hold at most 2 ^ 40 elements.
  The program's telling of a word: the closure that tells, and who makes it; lists hold at most 2 ^ 40 elements.
  The program's telling of a word to a waiter; lists lie in memory and hold at most 2 ^ 40 elements.
  A new waiter, of the reference model and of the program; lists lie in memory and hold at most 2 ^ 40 elements.
  The program's touches of sending that number, look, call and end, on hands and channels that are kept whole; the lists are the call's own.
  The program's touches of sending that write: laying, keeping, waiting, calling, done; on hands and channels that are kept whole; the lists are the call's own.
-/
import Derived.Test.YthdjlpkcmhajlaaGreatP28
import Derived.Test.YthdjlpkcmhajlaaGreatP04
import Derived.Deep.AppendLies
import Derived.Test.YthdjlpkcmhajlaaGreatP02
import Derived.BigRegion
import Derived.Deep.DeepCutAuto
set_option linter.unusedSimpArgs false
set_option linter.unusedVariables false
namespace Go.Proofs.YthdjlpkcmhajlaaGreat
open Go.RowKit
set_option maxRecDepth 100000 in
set_option maxHeartbeats 1000000 in
theorem copied_any (c:Ch) (a b:Option Addr) (p q:Nat) (w:World) (h1:Seg w w.heap.size a c.cells.length 3 (cellF c.cells)) (z1:a=none→p=0) (h2:Seg w w.heap.size b c.words.length 1 (intF c.words)) (z2:b=none→q=0) (m1:c.cells.length≤1099511627776) (m2:c.words.length≤1099511627776) :
    Calls Tryz.prog 16 #[.agg #[.int .i64 c.cap,.int .i64 c.sent,.int .i64 c.got,.int .i64 c.fin,.slice a c.cells.length p,.slice b c.words.length q]] w fun r w' =>
      (∃ v1 v2,r=.returned (.agg #[.int .i64 c.cap,.int .i64 c.sent,.int .i64 c.got,.int .i64 c.fin,v1,v2])∧OCells w' w.heap.size v1 c.cells∧OInts w' w.heap.size v2 c.words)∧Below w.heap.size w w':=by
  obtain ⟨cap,sent,got,fin,cells,words⟩:=c
  simp only at *
  have H1:=Lib.hid h1
  have Z1:=Lib.hid z1
  have H2:=Lib.hid h2
  have Z2:=Lib.hid z2
  clear h1 h2 z1 z2
  go_enter Tryz.func16,Tryz.ntmps16
  go_wp2_with fail
  refine (cloneC_any cells a p _ ((H1.out.below (by exact zB)).more (by simp;try omega)) Z1.out m1).mono ?_
  rintro _ w1 ⟨⟨v1,rfl,o1⟩,hb1⟩
  have hs1:=hb1.size
  simp at hs1
  have:=fun o=>hb1.cell (p:=⟨w.heap.size,o,none⟩) (by simp;omega)
  have:=fun o=>hb1.frozen (p:=⟨w.heap.size,o,none⟩) (by simp;omega)
  have:=fun o=>hb1.cell (p:=⟨w.heap.size+1,o,none⟩) (by simp)
  have:=fun o=>hb1.frozen (p:=⟨w.heap.size+1,o,none⟩) (by simp)
  have hB1:Below w.heap.size w w1:=bT (by exact zB) hb1
  have k0:w.heap.size<w1.heap.size:=by omega
  have k1:w.heap.size+1<w1.heap.size:=by omega
  have o1':=own_lo o1 (lo':=w.heap.size+1+1) (by simp)
  obtain ⟨va,vc,rfl,_⟩:=OCells.seg o1
  clear o1 hb1
  go_wp2_with fail
  refine (cloneI_any words b q _ ((H2.out.below hB1).setOther (by simp [World.setCell];omega) (by simp)) Z2.out m2).mono ?_
  rintro _ w2 ⟨⟨v2,rfl,o2⟩,hb2⟩
  have p1:=own_below (own_store o1' (p:=⟨w.heap.size,4,none⟩) (own_ne o1' (by (try simp);try omega)) (.slice va cells.length vc)) hb2
  have p2:=own_lo o2 (lo':=w.heap.size+1+1) (by simp [World.setCell];omega)
  obtain ⟨vb,vd,rfl,_⟩:=OInts.seg o2
  clear o2
  have hs2:=hb2.size
  simp [World.setCell] at hs2
  have hB2:Below w.heap.size w w2:=bT (by exact zB) hb2
  have:=fun o=>hb2.cell (p:=⟨w.heap.size,o,none⟩) (by simp [World.setCell];omega)
  have:=fun o=>hb2.frozen (p:=⟨w.heap.size,o,none⟩) (by simp [World.setCell];omega)
  have:=fun o=>hb2.cell (p:=⟨w.heap.size+1,o,none⟩) (by simp [World.setCell];omega)
  have:=fun o=>hb2.frozen (p:=⟨w.heap.size+1,o,none⟩) (by simp [World.setCell];omega)
  clear hb2
  have:w.heap.size<w2.heap.size:=by omega
  have:w.heap.size+1<w2.heap.size:=by omega
  go_wp2_with fail
  refine bodyPost_ret (v:=.agg #[.int .i64 cap,.int .i64 sent,.int .i64 got,.int .i64 fin,.slice va cells.length vc,.slice vb words.length vd]) (by simp [results,Tryz.results16,go_sem, *]) rfl ⟨⟨_,_,rfl,?_,?_⟩,?_⟩
  · refine own_lo (lo:=w.heap.size+1+1) ?_ (by omega)
    repeat (first|with_reducible exact p1|((with_reducible refine own_store ?_ ?_ _);rotate_left;(focus exact own_ne p1 (by (try simp);try omega))))
  · refine own_lo (lo:=w.heap.size+1+1) ?_ (by omega)
    repeat (first|with_reducible exact p2|((with_reducible refine own_store ?_ ?_ _);rotate_left;(focus exact own_ne p2 (by (try simp);try omega))))
  · exact zB
end Go.Proofs.YthdjlpkcmhajlaaGreat
set_option linter.unusedSimpArgs false
set_option linter.unusedVariables false
namespace Go.Proofs.YthdjlpkcmhajlaaGreat
open Go.RowKit
theorem gr_of_below {w w':World} {row:Option Nat} (h:Below w.heap.size w w'):w.grownBy w' row:=⟨h.os,h.tape,h.output,h.size,fun i hi _=>h.block i hi⟩
theorem gr_set {w w':World} {g:Nat} (h:Below w.heap.size w w') (o:Nat) (u:Value):w.grownBy (w'.setCell ⟨g,o,none⟩ u) (some g) :=
  ⟨h.os,h.tape,h.output,by simp [World.setCell];exact h.size,fun i hi hn=>by rw [Below.heap_setCell w' ⟨g,o,none⟩ u i (fun e=>hn (by rw [e]))];exact h.block i hi⟩
set_option maxRecDepth 100000 in
set_option maxHeartbeats 1000000 in
theorem teller1_any (c:Ch) (v x:Int) (g1 g2:Nat) (v2:Value) (lo:Nat) (w:World) (h:OInts w lo v2 c.words) (c1:w.cell? ⟨g1,0,none⟩=some v2) (c2:w.cell? ⟨g2,0,none⟩=some (.int .i64 v)) (hm:c.words.length≤1099511627776) :
    Calls Tryz.prog 111 #[.int .i64 x,.pointer (some ⟨g1,0,none⟩),.pointer (some ⟨g2,0,none⟩)] w fun r w'=>r=.returned (.bool (tellB c v x))∧OInts w' lo v2 (tellC c v x).words∧w.grownBy w' v2.ownBlock:=by
  have l1:=World.block_lt_of_cell? w _ c1
  have l2:=World.block_lt_of_cell? w _ c2
  simp only at l1 l2
  by_cases hh:hasW c v=true
  · obtain ⟨a1,a2⟩:=hasW_iff.1 hh
    obtain ⟨i,rfl⟩:∃ i:Nat,v=(i:Int)+1:=⟨(v - 1).toNat,by omega⟩
    have hi:i<c.words.length:=by omega
    obtain ⟨g,cap,rfl,hlo,hlt,hcell,hfr⟩:=h.open1 hi
    have e:wordAt c ((i:Int)+1)=c.words.getD i 0:=by simp [wordAt]
    have HE:=Lib.hid e
    have HO:=Lib.hid h
    clear e h
    generalize c.words.getD i 0=y at hcell HE
    have hi0:(0:Int)≤(i:Int):=by omega
    have hi1:(i:Int)<(c.words.length:Int):=by omega
    go_enter Tryz.func111,Tryz.ntmps111
    go_wp2_with fail
    refine (isWaiter_any c _ _ cap _).mono ?_
    rintro _ w1 ⟨rfl,hb1⟩
    have d1:=(hb1.cell (p:=⟨g1,0,none⟩) l1).trans c1
    have d2:=(hb1.cell (p:=⟨g2,0,none⟩) l2).trans c2
    have d3:=(hb1.cell (p:=⟨g,i,none⟩) hlt).trans hcell
    have d4:=fun o=>(hb1.frozen (p:=⟨g,o,none⟩) hlt).trans (hfr o)
    have o1:=own_below HO.out hb1
    by_cases ht:tellB c ((i:Int)+1) x=true
    · have ht2:=ht
      unfold tellB at ht2
      rw [HE.out] at ht2
      simp [hh] at ht2
      obtain ⟨rfl,hin⟩:=ht2
      have HW:Hid ((tellC c ((i:Int)+1) x).words=c.words.set i x):=by unfold tellC;rw [if_pos ht];simp [Hid]
      have HT:=Lib.hid ht
      have hx:x=1∨x=2:=by simp [inB] at hin;omega
      have hx2:(x != 1 && x != 2)=false:=by rcases hx with rfl|rfl <;> rfl
      clear ht HE hin
      rcases hx with rfl|rfl
      all_goals go_wp2
      all_goals go_ret
      all_goals exact ⟨ret_bool (by rw [HT.out]),by rw [HW.out];exact OInts.set o1 hi _,gr_set hb1 _ _⟩
    · have e1:tellB c ((i:Int)+1) x=false:=by simpa using ht
      have HT:=Lib.hid e1
      have HW:=Lib.hid (tellC_no e1)
      unfold tellB at e1
      rw [HE.out] at e1
      simp [hh] at e1
      clear HE ht
      by_cases hy:y=0
      · subst hy
        have hin:=e1 rfl
        have hx1:(x != 1)=true:=by simp [inB] at hin;simp;omega
        have hx2:(x != 2)=true:=by simp [inB] at hin;simp;omega
        clear e1 hin
        go_wp2
        go_ret
        exact ⟨ret_bool (by rw [HT.out]),by rw [HW.out];exact o1,gr_of_below hb1⟩
      · have hy2:(y != 0)=true:=by simpa using hy
        clear e1 hy
        go_wp2
        go_ret
        exact ⟨ret_bool (by rw [HT.out]),by rw [HW.out];exact o1,gr_of_below hb1⟩
  · have e1:=tellB_no1 (x:=x) (by simpa using hh)
    have HT:=Lib.hid e1
    have HW:=Lib.hid (tellC_no e1)
    clear e1
    have HO:=Lib.hid h
    obtain ⟨a2,q2,rfl,_⟩:=h.seg
    clear h
    go_enter Tryz.func111,Tryz.ntmps111
    go_wp2_with fail
    refine (isWaiter_any c _ _ q2 _).mono ?_
    rintro _ w1 ⟨rfl,hb1⟩
    have o1:=own_below HO.out hb1
    go_wp2
    go_ret
    exact ⟨ret_bool (by rw [HT.out]),by rw [HW.out];exact o1,gr_of_below hb1⟩
/- What is answered to a telling and to a waiter. -/
def told (c:Ch) (v x:Int):Ch:=if chanOk c then tellC c v x else Ch.zero
def toldB (c:Ch) (v x:Int):Bool:=chanOk c && tellB c v x
def waitC (c:Ch):Ch:=if chanOk c then (if 80≤c.words.length then c else { c with words:=c.words ++ [0] }) else Ch.zero
def waitN (c:Ch):Int:=if chanOk c then (if 80≤c.words.length then 0 else c.words.length+1) else 0
theorem told_no {c:Ch} {v x:Int} (h:chanOk c=false):told c v x=Ch.zero∧toldB c v x=false:=by simp [told,toldB,h]
theorem told_yes {c:Ch} {v x:Int} (h:chanOk c=true):told c v x=tellC c v x∧toldB c v x=tellB c v x:=by simp [told,toldB,h]
theorem tellC_cells (c:Ch) (v x:Int):(tellC c v x).cells=c.cells∧(tellC c v x).cap=c.cap∧(tellC c v x).sent=c.sent∧(tellC c v x).got=c.got∧(tellC c v x).fin=c.fin:=by unfold tellC;split <;> simp
end Go.Proofs.YthdjlpkcmhajlaaGreat
set_option linter.unusedSimpArgs false
set_option linter.unusedVariables false
namespace Go.Proofs.YthdjlpkcmhajlaaGreat
open Go.RowKit
set_option linter.unusedSimpArgs false
theorem teller_any (a:Option Addr) (n p:Nat) (v:Int) (w:World) :
    Calls Tryz.prog 101 #[.slice a n p,.int .i64 v] w fun r w'=>r=.returned (.func (.func 111) #[] #[.pointer (some ⟨w.heap.size,0,none⟩),.pointer (some ⟨w.heap.size+1,0,none⟩)])∧w'.cell? ⟨w.heap.size,0,none⟩=some (.slice a n p)∧w'.cell? ⟨w.heap.size+1,0,none⟩=some (.int .i64 v)∧Below w.heap.size w w':=by
  go_enter Tryz.func101,Tryz.ntmps101
  go_wp2
  go_ret
  exact ⟨rfl,by simp [go_sem],by simp [go_sem],by exact zB⟩
set_option maxRecDepth 100000 in
set_option maxHeartbeats 1000000 in
theorem told_any (c:Ch) (v x:Int) (a b:Option Addr) (p q:Nat) (w:World) (h1:Seg w w.heap.size a c.cells.length 3 (cellF c.cells)) (z1:a=none→p=0) (h2:Seg w w.heap.size b c.words.length 1 (intF c.words)) (z2:b=none→q=0) (m1:c.cells.length≤1099511627776) (m2:c.words.length≤1099511627776) :
    Calls Tryz.prog 83 #[.agg #[.int .i64 c.cap,.int .i64 c.sent,.int .i64 c.got,.int .i64 c.fin,.slice a c.cells.length p,.slice b c.words.length q],.int .i64 v,.int .i64 x] w fun r w' =>
      (∃ v1 v2,r=.returned (.tuple #[.agg #[.int .i64 (told c v x).cap,.int .i64 (told c v x).sent,.int .i64 (told c v x).got,.int .i64 (told c v x).fin,v1,v2],.bool (toldB c v x)])∧OCells w' w.heap.size v1 (told c v x).cells∧OInts w' w.heap.size v2 (told c v x).words)∧Below w.heap.size w w':=by
  have H1:=Lib.hid h1
  have H2:=Lib.hid h2
  have Z1:=Lib.hid z1
  have Z2:=Lib.hid z2
  have n1:c.cells.length≤maxLen:=by unfold maxLen;omega
  have n2:c.words.length≤maxLen:=by unfold maxLen;omega
  clear h1 h2 z1 z2
  by_cases hc:chanOk c=true
  · obtain ⟨e1,e2⟩:=told_yes (v:=v) (x:=x) hc
    obtain ⟨f1,f2,f3,f4,f5⟩:=tellC_cells c v x
    have E:=Lib.hid (And.intro e1 e2)
    have FF:=Lib.hid (tellC_cells c v x)
    clear e1 e2 f1 f2 f3 f4 f5
    go_enter Tryz.func83,Tryz.ntmps83
    go_wp2_with fail;refine bHit w (by exact zB) fun bb=>?_;refine (chanOk_any c a b p q _ ((H1.out.below bb).more bb.size) ((H2.out.below bb).more bb.size) n1 n2).mono ?_;rintro _ w1 ⟨rfl,hbw1⟩;have hCw1:Below w.heap.size w w1:=bT bb hbw1;have hsw1:=hbw1.size;(try simp at hsw1);have zz:=And.intro (fun o=>hbw1.cell (p:=⟨w.heap.size+1,o,none⟩) (by (try simp) <;> omega)) <| And.intro (fun o=>hbw1.frozen (p:=⟨w.heap.size+1,o,none⟩) (by (try simp) <;> omega)) <| And.intro (fun o=>hbw1.cell (p:=⟨w.heap.size,o,none⟩) (by (try simp) <;> omega)) <| fun o=>hbw1.frozen (p:=⟨w.heap.size,o,none⟩) (by (try simp) <;> omega);(try simp [go_sem] at zz);(try clear x_wp f_wp);(try clear x_w f_w);obtain ⟨x_wp,f_wp,x_w,f_w⟩:=zz;(try clear l_wp);have l_wp:w.heap.size+1<w1.heap.size:=(by omega);(try clear l_w);have l_w:w.heap.size<w1.heap.size:=(by omega);clear hbw1 bb
    rw [hc]
    go_wp2_with fail;refine bHit w (by exact zB) fun bb=>?_;refine (copied_any c a b p q _ ((H1.out.below bb).more bb.size) Z1.out ((H2.out.below bb).more bb.size) Z2.out m1 m2).mono ?_;rintro _ w2 ⟨⟨v1,v2,rfl,o1,o2⟩,hbw2⟩;have hCw2:Below w.heap.size w w2:=bT bb hbw2;have hsw2:=hbw2.size;(try simp at hsw2);have zz:=And.intro (fun o=>hbw2.cell (p:=⟨w.heap.size+1,o,none⟩) (by (try simp) <;> omega)) <| And.intro (fun o=>hbw2.frozen (p:=⟨w.heap.size+1,o,none⟩) (by (try simp) <;> omega)) <| And.intro (fun o=>hbw2.cell (p:=⟨w.heap.size,o,none⟩) (by (try simp) <;> omega)) <| fun o=>hbw2.frozen (p:=⟨w.heap.size,o,none⟩) (by (try simp) <;> omega);(first|simp [go_sem,x_wp,f_wp,x_w,f_w,l_w,l_wp] at zz|simp [go_sem,x_wp,x_w,l_w,l_wp] at zz|simp [go_sem] at zz|skip);(try clear x_wp f_wp);(try clear x_w f_w);obtain ⟨x_wp,f_wp,x_w,f_w⟩:=zz;(try clear l_wp);have l_wp:w.heap.size+1<w2.heap.size:=(by omega);(try clear l_w);have l_w:w.heap.size<w2.heap.size:=(by omega);clear hbw2 bb
    try simp at o1 o2
    have O1:=Lib.hid o1
    have O2:=Lib.hid o2
    obtain ⟨va,vc,rfl,_⟩:=OCells.seg o1
    obtain ⟨vb,vd,rfl,_⟩:=OInts.seg o2
    clear o1 o2
    have o1:=O1.out
    have o2:=O2.out
    go_wp2_with fail;refine bHit w (by exact zB) fun bb=>?_;refine bHit w2 (by exact zB) fun bk=>?_;refine (teller_any _ _ _ _ _).mono ?_;rintro _ w3 ⟨rfl,d1,d2,hbw3⟩;have hCw3:Below w.heap.size w w3:=bT bb hbw3;have hsw3:=hbw3.size;(try simp at hsw3);have zz:=And.intro (fun o=>hbw3.cell (p:=⟨w2.heap.size,o,none⟩) (by (try simp) <;> omega)) <| And.intro (fun o=>hbw3.frozen (p:=⟨w2.heap.size,o,none⟩) (by (try simp) <;> omega)) <| And.intro (fun o=>hbw3.cell (p:=⟨w.heap.size+1,o,none⟩) (by (try simp) <;> omega)) <| And.intro (fun o=>hbw3.frozen (p:=⟨w.heap.size+1,o,none⟩) (by (try simp) <;> omega)) <| And.intro (fun o=>hbw3.cell (p:=⟨w.heap.size,o,none⟩) (by (try simp) <;> omega)) <| fun o=>hbw3.frozen (p:=⟨w.heap.size,o,none⟩) (by (try simp) <;> omega);(first|simp [go_sem,x_wp,f_wp,x_w,f_w,l_w,l_wp] at zz|simp [go_sem,x_wp,x_w,l_w,l_wp] at zz|simp [go_sem] at zz|skip);(try clear x_w2 f_w2);(try clear x_wp f_wp);(try clear x_w f_w);obtain ⟨x_w2,f_w2,x_wp,f_wp,x_w,f_w⟩:=zz;(try clear l_w2);have l_w2:w2.heap.size<w3.heap.size:=(by omega);(try clear l_wp);have l_wp:w.heap.size+1<w3.heap.size:=(by omega);(try clear l_w);have l_w:w.heap.size<w3.heap.size:=(by omega);have hKw3:Below w2.heap.size w2 w3:=bT bk hbw3;clear hbw3 bb bk
    simp at d1 d2
    have q1:=own_below o1 hKw3
    have q2:=own_below o2 hKw3
    have b2:=fun j (hj:(Value.slice vb c.words.length vd).ownBlock=some j)=>o2.lt j hj
    have nw1:some (w.heap.size+1)≠(Value.slice vb c.words.length vd).ownBlock:=fun e=>by have:=(b2 _ e.symm).1;omega
    have nw2:some w2.heap.size≠(Value.slice vb c.words.length vd).ownBlock:=fun e=>by have:=(b2 _ e.symm).2;omega
    have nw0:some w.heap.size≠(Value.slice vb c.words.length vd).ownBlock:=fun e=>by have:=(b2 _ e.symm).1;omega
    go_wp2_with fail
    go_region_with (first|(refine (teller1_any c v x (w2.heap.size+1) (w2.heap.size+1+1) (.slice vb c.words.length vd) w1.heap.size _ (by exact zO q2 o2) (by simpa [go_sem] using d1) (by simpa [go_sem] using d2) m2).mono ?_;rintro _ w4 ⟨rfl,p2,hg4⟩;have hsw4:=hg4.size;(try (simp at hsw4));have zz:=And.intro (fun o=>hg4.cell_far ⟨w2.heap.size,o,none⟩ (by (try simp) <;> omega) (by assumption)) <| And.intro (fun o=>hg4.frozen_far ⟨w2.heap.size,o,none⟩ (by (try simp) <;> omega) (by assumption)) <| And.intro (fun o=>hg4.cell_far ⟨w.heap.size+1,o,none⟩ (by (try simp) <;> omega) (by assumption)) <| And.intro (fun o=>hg4.frozen_far ⟨w.heap.size+1,o,none⟩ (by (try simp) <;> omega) (by assumption)) <| And.intro (fun o=>hg4.cell_far ⟨w.heap.size,o,none⟩ (by (try simp) <;> omega) (by assumption)) <| fun o=>hg4.frozen_far ⟨w.heap.size,o,none⟩ (by (try simp) <;> omega) (by assumption);(first|simp [go_sem,x_w2,f_w2,x_wp,f_wp,x_w,f_w,l_w,l_w2,l_wp] at zz|simp [go_sem,x_w2,x_wp,x_w,l_w,l_w2,l_wp] at zz|simp [go_sem] at zz|skip);(try clear x_w2 f_w2);(try clear x_wp f_wp);(try clear x_w f_w);obtain ⟨x_w2,f_w2,x_wp,f_wp,x_w,f_w⟩:=zz;(try clear l_w2);have l_w2:w2.heap.size<w4.heap.size:=(by omega);(try clear l_wp);have l_wp:w.heap.size+1<w4.heap.size:=(by omega);(try clear l_w);have l_w:w.heap.size<w4.heap.size:=(by omega);have p1:=(World.ownsRow.drew q1).kept hg4 (own_off q1 q2);have hB4:Below w.heap.size w w4:=bOwn (by exact zB) hg4 (by (try simp) <;> omega) (fun k hk=>by have:=(b2 k hk).1;omega)))
    all_goals go_wp2
    all_goals (obtain ⟨e1,e2⟩:=E.out;obtain ⟨f1,f2,f3,f4,f5⟩:=FF.out;rw [e1,e2,f1,f2,f3,f4,f5])
    all_goals (refine bodyPost_ret (v:=.tuple #[.agg #[.int .i64 c.cap,.int .i64 c.sent,.int .i64 c.got,.int .i64 c.fin,.slice va c.cells.length vc,.slice vb c.words.length vd],.bool (tellB c v x)]) (by simp [results,Tryz.results83,go_sem, *]) rfl ⟨⟨_,_,rfl,own_lo (lo:=w1.heap.size) ?_ (by omega),own_lo (lo:=w1.heap.size) ?_ (by omega)⟩,by exact zB⟩)
    all_goals (have P1:OCells _ _ _ _:=p1)
    all_goals first|(repeat first|with_reducible exact p2|with_reducible refine oAl ?_ _|with_reducible refine oDr ?_|((with_reducible first|refine own_store ?_ ?_ _|refine own_box ?_ ?_);rotate_left;focus first|(refine own_ne o2 ?_;(try dsimp only);omega)|(refine own_ne' o2 ?_;(try dsimp only);omega)))|skip
    all_goals first|(repeat first|with_reducible exact p1|with_reducible refine oAl ?_ _|with_reducible refine oDr ?_|((with_reducible first|refine own_store ?_ ?_ _|refine own_box ?_ ?_);rotate_left;focus first|(refine own_ne o1 ?_;(try dsimp only);omega)|(refine own_ne' o1 ?_;(try dsimp only);omega)))|skip
  · have hc2:chanOk c=false:=by simpa using hc
    obtain ⟨e1,e2⟩:=told_no (v:=v) (x:=x) hc2
    have E:=Lib.hid (And.intro e1 e2)
    clear e1 e2 hc
    go_enter Tryz.func83,Tryz.ntmps83
    go_wp2_with fail;refine bHit w (by exact zB) fun bb=>?_;refine (chanOk_any c a b p q _ ((H1.out.below bb).more bb.size) ((H2.out.below bb).more bb.size) n1 n2).mono ?_;rintro _ w1 ⟨rfl,hbw1⟩;have hCw1:Below w.heap.size w w1:=bT bb hbw1;have hsw1:=hbw1.size;(try simp at hsw1);have zz:=And.intro (fun o=>hbw1.cell (p:=⟨w.heap.size+1,o,none⟩) (by (try simp) <;> omega)) <| And.intro (fun o=>hbw1.frozen (p:=⟨w.heap.size+1,o,none⟩) (by (try simp) <;> omega)) <| And.intro (fun o=>hbw1.cell (p:=⟨w.heap.size,o,none⟩) (by (try simp) <;> omega)) <| fun o=>hbw1.frozen (p:=⟨w.heap.size,o,none⟩) (by (try simp) <;> omega);(try simp [go_sem] at zz);(try clear x_wp f_wp);(try clear x_w f_w);obtain ⟨x_wp,f_wp,x_w,f_w⟩:=zz;(try clear l_wp);have l_wp:w.heap.size+1<w1.heap.size:=(by omega);(try clear l_w);have l_w:w.heap.size<w1.heap.size:=(by omega);clear hbw1 bb
    rw [hc2]
    go_wp2
    rw [E.out.1,E.out.2]
    refine bodyPost_ret (v:=.tuple #[.agg #[.int .i64 Ch.zero.cap,.int .i64 Ch.zero.sent,.int .i64 Ch.zero.got,.int .i64 Ch.zero.fin,.slice none 0 0,.slice none 0 0],.bool false]) (by simp [results,Tryz.results83,go_sem,Ch.zero, *]) rfl ⟨⟨_,_,rfl,World.ownsRow_nil _ _ _ _,World.ownsRow_nil _ _ _ _⟩,by exact zB⟩
end Go.Proofs.YthdjlpkcmhajlaaGreat
set_option linter.unusedSimpArgs false
set_option linter.unusedVariables false
namespace Go.Proofs.YthdjlpkcmhajlaaGreat
open Go.RowKit
set_option linter.unusedSimpArgs false
theorem waitC_no {c:Ch} (h:chanOk c=false):waitC c=Ch.zero∧waitN c=0:=by simp [waitC,waitN,h]
theorem waitC_full {c:Ch} (h:chanOk c=true) (h2:80≤c.words.length):waitC c=c∧waitN c=0:=by simp [waitC,waitN,h,h2]
theorem waitC_more {c:Ch} (h:chanOk c=true) (h2:¬ 80≤c.words.length):waitC c={ c with words:=c.words ++ [0] }∧waitN c=c.words.length+1:=by simp [waitC,waitN,h,h2]
set_option maxRecDepth 100000 in
set_option maxHeartbeats 1000000 in
theorem waiter_any (c:Ch) (a b:Option Addr) (p q:Nat) (w:World) (h1:Seg w w.heap.size a c.cells.length 3 (cellF c.cells)) (z1:a=none→p=0) (h2:Seg w w.heap.size b c.words.length 1 (intF c.words)) (z2:b=none→q=0) (m1:c.cells.length≤1099511627776) (m2:c.words.length≤1099511627776) :
    Calls Tryz.prog 100 #[.agg #[.int .i64 c.cap,.int .i64 c.sent,.int .i64 c.got,.int .i64 c.fin,.slice a c.cells.length p,.slice b c.words.length q]] w fun r w' =>
      (∃ v1 v2,r=.returned (.tuple #[.agg #[.int .i64 (waitC c).cap,.int .i64 (waitC c).sent,.int .i64 (waitC c).got,.int .i64 (waitC c).fin,v1,v2],.int .i64 (waitN c)])∧OCells w' w.heap.size v1 (waitC c).cells∧OInts w' w.heap.size v2 (waitC c).words)∧Below w.heap.size w w':=by
  have H1:=Lib.hid h1
  have H2:=Lib.hid h2
  have Z1:=Lib.hid z1
  have Z2:=Lib.hid z2
  have n1:c.cells.length≤maxLen:=by unfold maxLen;omega
  have n2:c.words.length≤maxLen:=by unfold maxLen;omega
  clear h1 h2 z1 z2
  by_cases hc:chanOk c=true
  · by_cases hf:80≤c.words.length
    · have hf80:c.words.length=80:=by
        have:=hc
        simp [chanOk,chanHead] at this
        omega
      have E:=Lib.hid (waitC_full hc hf)
      have hfi:(80:Int)≤(c.words.length:Int):=by omega
      have HFE:Hid ((c.words.length:Int)=80):=Lib.hid (by omega)
      clear hf80
      go_enter Tryz.func100,Tryz.ntmps100
      go_wp2_with fail;refine bHit w (by exact zB) fun bb=>?_;refine (chanOk_any c a b p q _ ((H1.out.below bb).more bb.size) ((H2.out.below bb).more bb.size) n1 n2).mono ?_;rintro _ w1 ⟨rfl,hbw1⟩;have hCw1:Below w.heap.size w w1:=bT bb hbw1;have hsw1:=hbw1.size;(try simp at hsw1);have zz:=And.intro (fun o=>hbw1.cell (p:=⟨w.heap.size+1,o,none⟩) (by (try simp) <;> omega)) <| And.intro (fun o=>hbw1.frozen (p:=⟨w.heap.size+1,o,none⟩) (by (try simp) <;> omega)) <| And.intro (fun o=>hbw1.cell (p:=⟨w.heap.size,o,none⟩) (by (try simp) <;> omega)) <| fun o=>hbw1.frozen (p:=⟨w.heap.size,o,none⟩) (by (try simp) <;> omega);(try simp [go_sem] at zz);(try clear x_wp f_wp);(try clear x_w f_w);obtain ⟨x_wp,f_wp,x_w,f_w⟩:=zz;(try clear l_wp);have l_wp:w.heap.size+1<w1.heap.size:=(by omega);(try clear l_w);have l_w:w.heap.size<w1.heap.size:=(by omega);clear hbw1 bb
      rw [hc]
      go_wp2_with fail;refine bHit w (by exact zB) fun bb=>?_;refine (copied_any c a b p q _ ((H1.out.below bb).more bb.size) Z1.out ((H2.out.below bb).more bb.size) Z2.out m1 m2).mono ?_;rintro _ w2 ⟨⟨v1,v2,rfl,o1,o2⟩,hbw2⟩;have hCw2:Below w.heap.size w w2:=bT bb hbw2;have hsw2:=hbw2.size;(try simp at hsw2);have zz:=And.intro (fun o=>hbw2.cell (p:=⟨w.heap.size+1,o,none⟩) (by (try simp) <;> omega)) <| And.intro (fun o=>hbw2.frozen (p:=⟨w.heap.size+1,o,none⟩) (by (try simp) <;> omega)) <| And.intro (fun o=>hbw2.cell (p:=⟨w.heap.size,o,none⟩) (by (try simp) <;> omega)) <| fun o=>hbw2.frozen (p:=⟨w.heap.size,o,none⟩) (by (try simp) <;> omega);(first|simp [go_sem,x_wp,f_wp,x_w,f_w,l_w,l_wp] at zz|simp [go_sem,x_wp,x_w,l_w,l_wp] at zz|simp [go_sem] at zz|skip);(try clear x_wp f_wp);(try clear x_w f_w);obtain ⟨x_wp,f_wp,x_w,f_w⟩:=zz;(try clear l_wp);have l_wp:w.heap.size+1<w2.heap.size:=(by omega);(try clear l_w);have l_w:w.heap.size<w2.heap.size:=(by omega);clear hbw2 bb
      try simp at o1 o2
      have O1:=Lib.hid o1
      have O2:=Lib.hid o2
      obtain ⟨va,vc,rfl,_⟩:=OCells.seg o1
      obtain ⟨vb,vd,rfl,_⟩:=OInts.seg o2
      clear o1 o2
      have hfe:=HFE.out
      go_wp2_with fail
      have o1:=O1.out
      have o2:=O2.out
      obtain ⟨e1,e2⟩:=E.out
      rw [e1,e2]
      refine bodyPost_ret (v:=.tuple #[.agg #[.int .i64 c.cap,.int .i64 c.sent,.int .i64 c.got,.int .i64 c.fin,.slice va c.cells.length vc,.slice vb c.words.length vd],.int .i64 0]) (by simp [results,Tryz.results100,go_sem, *]) rfl ⟨⟨_,_,rfl,own_lo (lo:=w1.heap.size) ?_ (by omega),own_lo (lo:=w1.heap.size) ?_ (by omega)⟩,by exact zB⟩
      · exact zO o1 o1
      · exact zO o2 o2
    · have E:=Lib.hid (waitC_more hc hf)
      have hfi:¬ (80:Int)≤(c.words.length:Int):=by omega
      have hfe:(c.words.length:Int)≠80:=by omega
      obtain ⟨i0,hi0,hz0,hz1,hz2⟩:=info_parts infoInt
      go_enter Tryz.func100,Tryz.ntmps100
      go_wp2_with fail;refine bHit w (by exact zB) fun bb=>?_;refine (chanOk_any c a b p q _ ((H1.out.below bb).more bb.size) ((H2.out.below bb).more bb.size) n1 n2).mono ?_;rintro _ w1 ⟨rfl,hbw1⟩;have hCw1:Below w.heap.size w w1:=bT bb hbw1;have hsw1:=hbw1.size;(try simp at hsw1);have zz:=And.intro (fun o=>hbw1.cell (p:=⟨w.heap.size+1,o,none⟩) (by (try simp) <;> omega)) <| And.intro (fun o=>hbw1.frozen (p:=⟨w.heap.size+1,o,none⟩) (by (try simp) <;> omega)) <| And.intro (fun o=>hbw1.cell (p:=⟨w.heap.size,o,none⟩) (by (try simp) <;> omega)) <| fun o=>hbw1.frozen (p:=⟨w.heap.size,o,none⟩) (by (try simp) <;> omega);(try simp [go_sem] at zz);(try clear x_wp f_wp);(try clear x_w f_w);obtain ⟨x_wp,f_wp,x_w,f_w⟩:=zz;(try clear l_wp);have l_wp:w.heap.size+1<w1.heap.size:=(by omega);(try clear l_w);have l_w:w.heap.size<w1.heap.size:=(by omega);clear hbw1 bb
      rw [hc]
      go_wp2_with fail;refine bHit w (by exact zB) fun bb=>?_;refine (copied_any c a b p q _ ((H1.out.below bb).more bb.size) Z1.out ((H2.out.below bb).more bb.size) Z2.out m1 m2).mono ?_;rintro _ w2 ⟨⟨v1,v2,rfl,o1,o2⟩,hbw2⟩;have hCw2:Below w.heap.size w w2:=bT bb hbw2;have hsw2:=hbw2.size;(try simp at hsw2);have zz:=And.intro (fun o=>hbw2.cell (p:=⟨w.heap.size+1,o,none⟩) (by (try simp) <;> omega)) <| And.intro (fun o=>hbw2.frozen (p:=⟨w.heap.size+1,o,none⟩) (by (try simp) <;> omega)) <| And.intro (fun o=>hbw2.cell (p:=⟨w.heap.size,o,none⟩) (by (try simp) <;> omega)) <| fun o=>hbw2.frozen (p:=⟨w.heap.size,o,none⟩) (by (try simp) <;> omega);(first|simp [go_sem,x_wp,f_wp,x_w,f_w,l_w,l_wp] at zz|simp [go_sem,x_wp,x_w,l_w,l_wp] at zz|simp [go_sem] at zz|skip);(try clear x_wp f_wp);(try clear x_w f_w);obtain ⟨x_wp,f_wp,x_w,f_w⟩:=zz;(try clear l_wp);have l_wp:w.heap.size+1<w2.heap.size:=(by omega);(try clear l_w);have l_w:w.heap.size<w2.heap.size:=(by omega);clear hbw2 bb
      try simp at o1 o2
      have O1:=Lib.hid o1
      have O2:=Lib.hid o2
      obtain ⟨va,vc,rfl,_⟩:=OCells.seg o1
      obtain ⟨vb,vd,rfl,_⟩:=OInts.seg o2
      clear o1 o2
      have o1:=O1.out
      have o2:=O2.out
      have b2:=fun j (hj:(Value.slice vb c.words.length vd).ownBlock=some j)=>o2.lt j hj
      have mw:∀ j,j<w1.heap.size∨w2.heap.size≤j→some j≠(Value.slice vb c.words.length vd).ownBlock:=fun j hj e=>by have:=b2 _ e.symm;omega
      have mw0:=mw w.heap.size (by omega)
      have mw1:=mw (w.heap.size+1) (by omega)
      have mw2:=mw w2.heap.size (by omega)
      go_wp2_with (at_builtin;refine wpList_append_lies _ rfl _ _ 25 rfl w1.heap.size 2 i0 _ 1 8 Tryz.underlying25 hi0 hz0 hz1 hz2 rfl (by decide) (.slice vb c.words.length vd) c.words.length (ints c.words) rfl (World.ownsRow.alloc (World.ownsRow.alloc o2 _) _) ⟨w2.heap.size+1,0,none⟩ 1 1 [.int .i64 0] rfl rfl ?c2 (by simp [Value.oneCell']) (by omega) ?c3 ?c4 ?c5 (w2.heap.size+1+1) (by simp) ?_)
      case c2=>have:=cell_one_new (w2.alloc (.cells #[.int .i64 c.cap,.int .i64 c.sent,.int .i64 c.got,.int .i64 c.fin,.slice va c.cells.length vc,.slice vb c.words.length vd] 27)) (.int .i64 0) 2;simpa using this
      case c3=>unfold maxLen;omega
      case c4=>omega
      case c5=>simp;omega
      intro g4b q4 w4 o4 g4 hat hlt4
      have l_w2:w2.heap.size<w2.heap.size+1:=by omega
      have hsw4:=g4.size;(try (simp at hsw4));have zz:=And.intro (fun o=>g4.cell_far ⟨w2.heap.size,o,none⟩ (by (try simp) <;> omega) (by assumption)) <| And.intro (fun o=>g4.frozen_far ⟨w2.heap.size,o,none⟩ (by (try simp) <;> omega) (by assumption)) <| And.intro (fun o=>g4.cell_far ⟨w.heap.size+1,o,none⟩ (by (try simp) <;> omega) (by assumption)) <| And.intro (fun o=>g4.frozen_far ⟨w.heap.size+1,o,none⟩ (by (try simp) <;> omega) (by assumption)) <| And.intro (fun o=>g4.cell_far ⟨w.heap.size,o,none⟩ (by (try simp) <;> omega) (by assumption)) <| fun o=>g4.frozen_far ⟨w.heap.size,o,none⟩ (by (try simp) <;> omega) (by assumption);(first|simp [go_sem,x_wp,f_wp,x_w,f_w,l_w,l_w2,l_wp] at zz|simp [go_sem,x_wp,x_w,l_w,l_w2,l_wp] at zz|simp [go_sem] at zz|skip);(try clear x_w2 f_w2);(try clear x_wp f_wp);(try clear x_w f_w);obtain ⟨x_w2,f_w2,x_wp,f_wp,x_w,f_w⟩:=zz;(try clear l_w2);have l_w2:w2.heap.size<w4.heap.size:=(by omega);(try clear l_wp);have l_wp:w.heap.size+1<w4.heap.size:=(by omega);(try clear l_w);have l_w:w.heap.size<w4.heap.size:=(by omega)
      have p1:OCells w4 w1.heap.size (.slice va c.cells.length vc) c.cells:=((World.ownsRow.alloc (World.ownsRow.alloc o1 _) _)).kept g4 (own_off o1 o2)
      have p2:OInts w4 w1.heap.size (.slice (some ⟨g4b,0,none⟩) (c.words.length+1) q4) (c.words ++ [0]):=OInts.snoc o4
      have hgb:∀ j,j<w1.heap.size∨(w2.heap.size≤j∧j<w2.heap.size+1)→(Value.slice (some ⟨g4b,0,none⟩) (c.words.length+1) q4).ownBlock≠some j:=fun j h1 e=>by
        have e2:g4b=j:=by simpa [Value.ownBlock] using e
        rcases hat with hat|hat
        · have:=b2 _ hat;omega
        · omega
      have hB4:Below w.heap.size w w4:=bOwn (by exact zB) g4 (by (try simp) <;> omega) (fun k hk=>by have:=(b2 k hk).1;omega)
      clear o4 g4
      go_wp2_with fail
      go_region
      all_goals go_wp2_with fail
      all_goals (obtain ⟨e1,e2⟩:=E.out;rw [e1,e2])
      all_goals refine bodyPost_ret (v:=.tuple #[.agg #[.int .i64 c.cap,.int .i64 c.sent,.int .i64 c.got,.int .i64 c.fin,.slice va c.cells.length vc,.slice (some ⟨g4b,0,none⟩) (c.words.length+1) q4],.int .i64 (c.words.length+1)]) (by simp [results,Tryz.results100,go_sem, *]) rfl ⟨⟨_,_,rfl,own_lo (lo:=w1.heap.size) ?_ (by omega),own_lo (lo:=w1.heap.size) ?_ (by omega)⟩,by exact zB⟩
      all_goals first|(repeat first|with_reducible exact p1|with_reducible refine oAl ?_ _|with_reducible refine oDr ?_|((with_reducible first|refine own_store ?_ ?_ _|refine own_box ?_ ?_);rotate_left;focus first|(refine own_ne o1 ?_;(try dsimp only);omega)|(refine own_ne' o1 ?_;(try dsimp only);omega)))|skip
      all_goals (first|(repeat first|with_reducible exact p2|with_reducible refine oAl ?_ _|with_reducible refine oDr ?_|((with_reducible first|refine own_store ?_ ?_ _|refine own_box ?_ ?_);rotate_left;focus first|(refine own_ne p2 ?_;(try dsimp only);omega)|(refine own_ne' p2 ?_;(try dsimp only);omega)|exact hgb _ (by (try dsimp only) <;> omega)))|skip)
  · have hc2:chanOk c=false:=by simpa using hc
    have E:=Lib.hid (waitC_no hc2)
    clear hc
    go_enter Tryz.func100,Tryz.ntmps100
    go_wp2_with fail;refine bHit w (by exact zB) fun bb=>?_;refine (chanOk_any c a b p q _ ((H1.out.below bb).more bb.size) ((H2.out.below bb).more bb.size) n1 n2).mono ?_;rintro _ w1 ⟨rfl,hbw1⟩;have hCw1:Below w.heap.size w w1:=bT bb hbw1;have hsw1:=hbw1.size;(try simp at hsw1);have zz:=And.intro (fun o=>hbw1.cell (p:=⟨w.heap.size+1,o,none⟩) (by (try simp) <;> omega)) <| And.intro (fun o=>hbw1.frozen (p:=⟨w.heap.size+1,o,none⟩) (by (try simp) <;> omega)) <| And.intro (fun o=>hbw1.cell (p:=⟨w.heap.size,o,none⟩) (by (try simp) <;> omega)) <| fun o=>hbw1.frozen (p:=⟨w.heap.size,o,none⟩) (by (try simp) <;> omega);(try simp [go_sem] at zz);(try clear x_wp f_wp);(try clear x_w f_w);obtain ⟨x_wp,f_wp,x_w,f_w⟩:=zz;(try clear l_wp);have l_wp:w.heap.size+1<w1.heap.size:=(by omega);(try clear l_w);have l_w:w.heap.size<w1.heap.size:=(by omega);clear hbw1 bb
    rw [hc2]
    go_wp2
    rw [E.out.1,E.out.2]
    refine bodyPost_ret (v:=.tuple #[.agg #[.int .i64 Ch.zero.cap,.int .i64 Ch.zero.sent,.int .i64 Ch.zero.got,.int .i64 Ch.zero.fin,.slice none 0 0,.slice none 0 0],.int .i64 0]) (by simp [results,Tryz.results100,go_sem,Ch.zero, *]) rfl ⟨⟨_,_,rfl,World.ownsRow_nil _ _ _ _,World.ownsRow_nil _ _ _ _⟩,by exact zB⟩
end Go.Proofs.YthdjlpkcmhajlaaGreat
set_option linter.unusedSimpArgs false
set_option linter.unusedVariables false
namespace Go.Proofs.YthdjlpkcmhajlaaGreat
open Go.RowKit
set_option linter.unusedSimpArgs false
attribute [local simp] bx_size
attribute [local go_sem ↓] zeroHand zeroChan toLHand toLChan toVHand toVChan storeHand storeChan storeHandC storeChanC
set_option maxRecDepth 100000 in
set_option maxHeartbeats 2000000 in
theorem sendNumber_a (c:Ch) (h:Ha) (v1 v2:Value) (lo:Nat) (w:World) (h1:OCells w lo v1 c.cells) (h2:OInts w lo v2 c.words) (hs:c.sent=40) :
    Calls Tryz.prog 43 #[.agg (cvals c v1 v2),.agg (hvals h)] w fun r w'=>StepO w w' lo v1 v2 ((c,resting 4 0,true)) r:=by
  have b1:=fun j (hj:v1.ownBlock=some j)=>(h1.lt j hj).2
  have b2:=fun j (hj:v2.ownBlock=some j)=>(h2.lt j hj).2
  obtain ⟨a1,q1,rfl,_⟩:=h1.seg
  obtain ⟨a2,q2,rfl,_⟩:=h2.seg
  have O1:=Lib.hid h1
  have O2:=Lib.hid h2
  clear h1 h2
  have o1:=O1.out
  have o2:=O2.out
  go_enter Tryz.func43,Tryz.ntmps43
  go_wp2_with fail
  go_region_held3 (fun w'=>hp w' w.heap.size=some (.cells (cvals c (.slice a1 c.cells.length q1) (.slice a2 c.words.length q2)) 27)∧hp w' (w.heap.size+1)=some (.cells (hvals h) 31))
    (first|(simp [*,go_sem]))
    (first|((go_at_call 77;refine bHit w (by exact zB) fun bb=>?_;refine (resting_any _ _ _).mono ?_;rintro _ w1 ⟨rfl,hbw1⟩;have hCw1:Below w.heap.size w w1:=bT bb hbw1;have hsw1:=hbw1.size;(try simp at hsw1);have zz:=q4 hbw1 (b:=w.heap.size);(try simp [go_sem] at zz);(try clear z_wppp x_wppp f_wppp l_wppp);(try clear z_wpp x_wpp f_wpp l_wpp);(try clear z_wp x_wp f_wp l_wp);(try clear z_w x_w f_w l_w);obtain ⟨z_wppp,z_wpp,z_wp,z_w⟩:=zz;obtain ⟨x_wppp,f_wppp,l_wppp⟩:=bO z_wppp;obtain ⟨x_wpp,f_wpp,l_wpp⟩:=bO z_wpp;obtain ⟨x_wp,f_wp,l_wp⟩:=bO z_wp;obtain ⟨x_w,f_w,l_w⟩:=bO z_w;have hKw1:Below w.heap.size w w1:=hCw1;clear hbw1 bb);have p1:=own_below o1 hKw1;have p2:=own_below o2 hKw1))
  go_wp2
  refine bodyPost_ret (res_cct Tryz.results43 rfl (ldChan c (.slice a1 c.cells.length q1) (.slice a2 c.words.length q2) (by simp [go_sem, *] <;> rfl)) rfl (ldHand (resting 4 0) (by simp [go_sem, *] <;> first|rfl|simp [seenAs,anew,hci]))) rfl ⟨⟨_,_,rfl,?_,?_,fresh_refl _ _,fresh_refl _ _⟩,onlB (by exact zB)⟩
  · exact zO p1 o1
  · exact zO p2 o2
set_option maxRecDepth 100000 in
set_option maxHeartbeats 2000000 in
theorem sendNumber_b (c:Ch) (h:Ha) (v1 v2:Value) (lo:Nat) (w:World) (h1:OCells w lo v1 c.cells) (h2:OInts w lo v2 c.words) (hs:¬ c.sent=40) (hsr:0≤c.sent∧c.sent≤40) :
    Calls Tryz.prog 43 #[.agg (cvals c v1 v2),.agg (hvals h)] w fun r w'=>StepO w w' lo v1 v2 (({ c with sent:=c.sent+1 },{ h with cell:=c.sent,pos:=2 },true)) r:=by
  have b1:=fun j (hj:v1.ownBlock=some j)=>(h1.lt j hj).2
  have b2:=fun j (hj:v2.ownBlock=some j)=>(h2.lt j hj).2
  obtain ⟨a1,q1,rfl,_⟩:=h1.seg
  obtain ⟨a2,q2,rfl,_⟩:=h2.seg
  have O1:=Lib.hid h1
  have O2:=Lib.hid h2
  clear h1 h2
  have o1:=O1.out
  have o2:=O2.out
  go_enter Tryz.func43,Tryz.ntmps43
  go_wp2_with fail
  go_region_held3 (fun w'=>hp w' w.heap.size=some (.cells (cvals { c with sent:=c.sent+1 } (.slice a1 c.cells.length q1) (.slice a2 c.words.length q2)) 27)∧hp w' (w.heap.size+1)=some (.cells (hvals { h with cell:=c.sent }) 31))
    (first|(simp [*,go_sem]))
    (first|((go_at_call 78;refine bHit w (by exact zB) fun bb=>?_;refine (moved_any _ _ _).mono ?_;rintro _ w1 ⟨rfl,hbw1⟩;have hCw1:Below w.heap.size w w1:=bT bb hbw1;have hsw1:=hbw1.size;(try simp at hsw1);have zz:=q4 hbw1 (b:=w.heap.size);(try simp [go_sem] at zz);(try clear z_wppp x_wppp f_wppp l_wppp);(try clear z_wpp x_wpp f_wpp l_wpp);(try clear z_wp x_wp f_wp l_wp);(try clear z_w x_w f_w l_w);obtain ⟨z_wppp,z_wpp,z_wp,z_w⟩:=zz;obtain ⟨x_wppp,f_wppp,l_wppp⟩:=bO z_wppp;obtain ⟨x_wpp,f_wpp,l_wpp⟩:=bO z_wpp;obtain ⟨x_wp,f_wp,l_wp⟩:=bO z_wp;obtain ⟨x_w,f_w,l_w⟩:=bO z_w;have hKw1:Below w.heap.size w w1:=hCw1;clear hbw1 bb);have p1:=own_below o1 hKw1;have p2:=own_below o2 hKw1))
  go_wp2
  refine bodyPost_ret (res_cct Tryz.results43 rfl (ldChan { c with sent:=c.sent+1 } (.slice a1 c.cells.length q1) (.slice a2 c.words.length q2) (by simp [go_sem, *] <;> rfl)) rfl (ldHand { h with cell:=c.sent,pos:=2 } (by simp [go_sem, *] <;> first|rfl|simp [seenAs,anew,hci]))) rfl ⟨⟨_,_,rfl,?_,?_,fresh_refl _ _,fresh_refl _ _⟩,onlB (by exact zB)⟩
  · exact zO p1 o1
  · exact zO p2 o2
def lk6 (c:Ch) (h:Ha):St:=if (look6 c h).2 then (c,(look6 c h).1,true) else nothing
set_option maxRecDepth 100000 in
set_option maxHeartbeats 2000000 in
theorem sendLook_0 (c:Ch) (h:Ha) (v1 v2:Value) (lo:Nat) (w:World) (h1:OCells w lo v1 c.cells) (h2:OInts w lo v2 c.words) (hc0:0≤h.cell) (hc1:h.cell<c.cells.length) (hn:(cellAt c h.cell).s=0) :
    Calls Tryz.prog 45 #[.agg (cvals c v1 v2),.agg (hvals h)] w fun r w'=>StepO w w' lo v1 v2 (lk6 c h) r:=by
  obtain ⟨i,hci⟩:∃ i:Nat,h.cell=(i:Int):=⟨h.cell.toNat,by omega⟩
  have hi:i<c.cells.length:=by omega
  have hi0:(0:Int)≤(i:Int):=by omega
  have hi1:(i:Int)<(c.cells.length:Int):=by omega
  have hne:=h1.ne h2
  obtain ⟨a2,q2,rfl,_⟩:=h2.seg
  obtain ⟨g,q1,rfl,hlo1,hlt,hcell,hfr⟩:=h1.open1 hi
  have O1:=Lib.hid h1
  have O2:=Lib.hid h2
  have lg0:g<w.heap.size+1:=by omega
  have lg1:g<w.heap.size+1+1:=by omega
  have lg2:g<w.heap.size+1+1+1:=by omega
  have ng0:g≠w.heap.size:=by omega
  have ng1:g≠w.heap.size+1:=by omega
  have ng2:g≠w.heap.size+1+1:=by omega
  have ng3:g≠w.heap.size+1+1+1:=by omega
  have mg0:w.heap.size≠g:=by omega
  have mg1:w.heap.size+1≠g:=by omega
  have mg2:w.heap.size+1+1≠g:=by omega
  have mg3:w.heap.size+1+1+1≠g:=by omega
  have hx:Hid (cellAt c h.cell=c.cells.getD i ⟨0,0,0⟩):=by simp [cellAt,Hid,hci]
  have c0:=hcell 0 (by omega)
  have c1:=hcell 1 (by omega)
  have c2:=hcell 2 (by omega)
  simp only [C3.val,Nat.add_zero] at c0 c1 c2
  have ex:=hx.out
  rw [ex] at hn
  generalize c.cells.getD i ⟨0,0,0⟩=x at *
  obtain ⟨s,e,t⟩:=x
  simp only at hn c0 c1 c2
  subst hn
  have hR:Hid (lk6 c h=(c,{ seenAs h ⟨0,e,t⟩ with pos:=4 },true)):=by simp [Hid,lk6,look6_at ex 0 rfl]
  rw [hR.out]
  clear hcell hx h1 h2 hc0 hc1 ex hR
  have o1:=O1.out
  have o2:=O2.out
  have a1:Nat:=0
  clear a1
  go_enter Tryz.func45,Tryz.ntmps45
  go_wp2_with fail
  go_region_held3 (fun w'=>w'.cell? ⟨w.heap.size,4,none⟩=some (.slice (some ⟨g,0,none⟩) c.cells.length q1)∧w'.cell? ⟨w.heap.size+1,3,none⟩=some (.int .i64 i)∧w'.cell? ⟨g,i*3,none⟩=some (.int .i64 0)∧w'.cell? ⟨g,i*3+2,none⟩=some (.int .i64 t))
    (first|(simp [*,go_sem]))
    (first|fail)
  go_wp2_with fail
  go_region_held3 (fun w'=>hp w' w.heap.size=some (.cells (cvals c (.slice (some ⟨g,0,none⟩) c.cells.length q1) (.slice a2 c.words.length q2)) 27)∧hp w' (w.heap.size+1)=some (.cells (hvals { h with seen:=0,wait:=t }) 31))
    (first|(simp [*,go_sem]))
    (first|((go_at_call 78;refine bHit w (by exact zB) fun bb=>?_;refine (moved_any _ _ _).mono ?_;rintro _ w1 ⟨rfl,hbw1⟩;have hCw1:Below w.heap.size w w1:=bT bb hbw1;have hsw1:=hbw1.size;(try simp at hsw1);have zz:=q4 hbw1 (b:=w.heap.size);(try simp [go_sem] at zz);(try clear z_wppp x_wppp f_wppp l_wppp);(try clear z_wpp x_wpp f_wpp l_wpp);(try clear z_wp x_wp f_wp l_wp);(try clear z_w x_w f_w l_w);obtain ⟨z_wppp,z_wpp,z_wp,z_w⟩:=zz;obtain ⟨x_wppp,f_wppp,l_wppp⟩:=bO z_wppp;obtain ⟨x_wpp,f_wpp,l_wpp⟩:=bO z_wpp;obtain ⟨x_wp,f_wp,l_wp⟩:=bO z_wp;obtain ⟨x_w,f_w,l_w⟩:=bO z_w;have hKw1:Below w.heap.size w w1:=hCw1;clear hbw1 bb);have p1:=own_below o1 hKw1;have p2:=own_below o2 hKw1))
  go_wp2
  refine bodyPost_ret (res_cct Tryz.results45 rfl (ldChan c (.slice (some ⟨g,0,none⟩) c.cells.length q1) (.slice a2 c.words.length q2) (by simp [go_sem, *] <;> rfl)) rfl (ldHand { seenAs h ⟨0,e,t⟩ with pos:=4 } (by simp [go_sem, *] <;> first|rfl|simp [seenAs,anew,hci]))) rfl ⟨⟨_,_,rfl,?_,?_,fresh_refl _ _,fresh_refl _ _⟩,onlB (by exact zB)⟩
  · exact zO p1 o1
  · exact zO p2 o2
set_option maxRecDepth 100000 in
set_option maxHeartbeats 2000000 in
theorem sendLook_1 (c:Ch) (h:Ha) (v1 v2:Value) (lo:Nat) (w:World) (h1:OCells w lo v1 c.cells) (h2:OInts w lo v2 c.words) (hc0:0≤h.cell) (hc1:h.cell<c.cells.length) (hn:(cellAt c h.cell).s=1) :
    Calls Tryz.prog 45 #[.agg (cvals c v1 v2),.agg (hvals h)] w fun r w'=>StepO w w' lo v1 v2 (lk6 c h) r:=by
  obtain ⟨i,hci⟩:∃ i:Nat,h.cell=(i:Int):=⟨h.cell.toNat,by omega⟩
  have hi:i<c.cells.length:=by omega
  have hi0:(0:Int)≤(i:Int):=by omega
  have hi1:(i:Int)<(c.cells.length:Int):=by omega
  have hne:=h1.ne h2
  obtain ⟨a2,q2,rfl,_⟩:=h2.seg
  obtain ⟨g,q1,rfl,hlo1,hlt,hcell,hfr⟩:=h1.open1 hi
  have O1:=Lib.hid h1
  have O2:=Lib.hid h2
  have lg0:g<w.heap.size+1:=by omega
  have lg1:g<w.heap.size+1+1:=by omega
  have lg2:g<w.heap.size+1+1+1:=by omega
  have ng0:g≠w.heap.size:=by omega
  have ng1:g≠w.heap.size+1:=by omega
  have ng2:g≠w.heap.size+1+1:=by omega
  have ng3:g≠w.heap.size+1+1+1:=by omega
  have mg0:w.heap.size≠g:=by omega
  have mg1:w.heap.size+1≠g:=by omega
  have mg2:w.heap.size+1+1≠g:=by omega
  have mg3:w.heap.size+1+1+1≠g:=by omega
  have hx:Hid (cellAt c h.cell=c.cells.getD i ⟨0,0,0⟩):=by simp [cellAt,Hid,hci]
  have c0:=hcell 0 (by omega)
  have c1:=hcell 1 (by omega)
  have c2:=hcell 2 (by omega)
  simp only [C3.val,Nat.add_zero] at c0 c1 c2
  have ex:=hx.out
  rw [ex] at hn
  generalize c.cells.getD i ⟨0,0,0⟩=x at *
  obtain ⟨s,e,t⟩:=x
  simp only at hn c0 c1 c2
  subst hn
  have hR:Hid (lk6 c h=(c,{ seenAs h ⟨1,e,t⟩ with pos:=6 },true)):=by simp [Hid,lk6,look6_at ex 1 rfl]
  rw [hR.out]
  clear hcell hx h1 h2 hc0 hc1 ex hR
  have o1:=O1.out
  have o2:=O2.out
  have a1:Nat:=0
  clear a1
  go_enter Tryz.func45,Tryz.ntmps45
  go_wp2_with fail
  go_region_held3 (fun w'=>w'.cell? ⟨w.heap.size,4,none⟩=some (.slice (some ⟨g,0,none⟩) c.cells.length q1)∧w'.cell? ⟨w.heap.size+1,3,none⟩=some (.int .i64 i)∧w'.cell? ⟨g,i*3,none⟩=some (.int .i64 1)∧w'.cell? ⟨g,i*3+2,none⟩=some (.int .i64 t))
    (first|(simp [*,go_sem]))
    (first|fail)
  go_wp2_with fail
  go_region_held3 (fun w'=>hp w' w.heap.size=some (.cells (cvals c (.slice (some ⟨g,0,none⟩) c.cells.length q1) (.slice a2 c.words.length q2)) 27)∧hp w' (w.heap.size+1)=some (.cells (hvals { h with seen:=1,wait:=t }) 31))
    (first|(simp [*,go_sem]))
    (first|((go_at_call 78;refine bHit w (by exact zB) fun bb=>?_;refine (moved_any _ _ _).mono ?_;rintro _ w1 ⟨rfl,hbw1⟩;have hCw1:Below w.heap.size w w1:=bT bb hbw1;have hsw1:=hbw1.size;(try simp at hsw1);have zz:=q4 hbw1 (b:=w.heap.size);(try simp [go_sem] at zz);(try clear z_wppp x_wppp f_wppp l_wppp);(try clear z_wpp x_wpp f_wpp l_wpp);(try clear z_wp x_wp f_wp l_wp);(try clear z_w x_w f_w l_w);obtain ⟨z_wppp,z_wpp,z_wp,z_w⟩:=zz;obtain ⟨x_wppp,f_wppp,l_wppp⟩:=bO z_wppp;obtain ⟨x_wpp,f_wpp,l_wpp⟩:=bO z_wpp;obtain ⟨x_wp,f_wp,l_wp⟩:=bO z_wp;obtain ⟨x_w,f_w,l_w⟩:=bO z_w;have hKw1:Below w.heap.size w w1:=hCw1;clear hbw1 bb);have p1:=own_below o1 hKw1;have p2:=own_below o2 hKw1))
  go_wp2
  refine bodyPost_ret (res_cct Tryz.results45 rfl (ldChan c (.slice (some ⟨g,0,none⟩) c.cells.length q1) (.slice a2 c.words.length q2) (by simp [go_sem, *] <;> rfl)) rfl (ldHand { seenAs h ⟨1,e,t⟩ with pos:=6 } (by simp [go_sem, *] <;> first|rfl|simp [seenAs,anew,hci]))) rfl ⟨⟨_,_,rfl,?_,?_,fresh_refl _ _,fresh_refl _ _⟩,onlB (by exact zB)⟩
  · exact zO p1 o1
  · exact zO p2 o2
set_option maxRecDepth 100000 in
set_option maxHeartbeats 2000000 in
theorem sendLook_4 (c:Ch) (h:Ha) (v1 v2:Value) (lo:Nat) (w:World) (h1:OCells w lo v1 c.cells) (h2:OInts w lo v2 c.words) (hc0:0≤h.cell) (hc1:h.cell<c.cells.length) (hn:(cellAt c h.cell).s=4) :
    Calls Tryz.prog 45 #[.agg (cvals c v1 v2),.agg (hvals h)] w fun r w'=>StepO w w' lo v1 v2 (lk6 c h) r:=by
  obtain ⟨i,hci⟩:∃ i:Nat,h.cell=(i:Int):=⟨h.cell.toNat,by omega⟩
  have hi:i<c.cells.length:=by omega
  have hi0:(0:Int)≤(i:Int):=by omega
  have hi1:(i:Int)<(c.cells.length:Int):=by omega
  have hne:=h1.ne h2
  obtain ⟨a2,q2,rfl,_⟩:=h2.seg
  obtain ⟨g,q1,rfl,hlo1,hlt,hcell,hfr⟩:=h1.open1 hi
  have O1:=Lib.hid h1
  have O2:=Lib.hid h2
  have lg0:g<w.heap.size+1:=by omega
  have lg1:g<w.heap.size+1+1:=by omega
  have lg2:g<w.heap.size+1+1+1:=by omega
  have ng0:g≠w.heap.size:=by omega
  have ng1:g≠w.heap.size+1:=by omega
  have ng2:g≠w.heap.size+1+1:=by omega
  have ng3:g≠w.heap.size+1+1+1:=by omega
  have mg0:w.heap.size≠g:=by omega
  have mg1:w.heap.size+1≠g:=by omega
  have mg2:w.heap.size+1+1≠g:=by omega
  have mg3:w.heap.size+1+1+1≠g:=by omega
  have hx:Hid (cellAt c h.cell=c.cells.getD i ⟨0,0,0⟩):=by simp [cellAt,Hid,hci]
  have c0:=hcell 0 (by omega)
  have c1:=hcell 1 (by omega)
  have c2:=hcell 2 (by omega)
  simp only [C3.val,Nat.add_zero] at c0 c1 c2
  have ex:=hx.out
  rw [ex] at hn
  generalize c.cells.getD i ⟨0,0,0⟩=x at *
  obtain ⟨s,e,t⟩:=x
  simp only at hn c0 c1 c2
  subst hn
  have hR:Hid (lk6 c h=(c,{ seenAs h ⟨4,e,t⟩ with pos:=7 },true)):=by simp [Hid,lk6,look6_at ex 4 rfl]
  rw [hR.out]
  clear hcell hx h1 h2 hc0 hc1 ex hR
  have o1:=O1.out
  have o2:=O2.out
  have a1:Nat:=0
  clear a1
  go_enter Tryz.func45,Tryz.ntmps45
  go_wp2_with fail
  go_region_held3 (fun w'=>w'.cell? ⟨w.heap.size,4,none⟩=some (.slice (some ⟨g,0,none⟩) c.cells.length q1)∧w'.cell? ⟨w.heap.size+1,3,none⟩=some (.int .i64 i)∧w'.cell? ⟨g,i*3,none⟩=some (.int .i64 4)∧w'.cell? ⟨g,i*3+2,none⟩=some (.int .i64 t))
    (first|(simp [*,go_sem]))
    (first|fail)
  go_wp2_with fail
  go_region_held3 (fun w'=>hp w' w.heap.size=some (.cells (cvals c (.slice (some ⟨g,0,none⟩) c.cells.length q1) (.slice a2 c.words.length q2)) 27)∧hp w' (w.heap.size+1)=some (.cells (hvals { h with seen:=4,wait:=t }) 31))
    (first|(simp [*,go_sem]))
    (first|((go_at_call 78;refine bHit w (by exact zB) fun bb=>?_;refine (moved_any _ _ _).mono ?_;rintro _ w1 ⟨rfl,hbw1⟩;have hCw1:Below w.heap.size w w1:=bT bb hbw1;have hsw1:=hbw1.size;(try simp at hsw1);have zz:=q4 hbw1 (b:=w.heap.size);(try simp [go_sem] at zz);(try clear z_wppp x_wppp f_wppp l_wppp);(try clear z_wpp x_wpp f_wpp l_wpp);(try clear z_wp x_wp f_wp l_wp);(try clear z_w x_w f_w l_w);obtain ⟨z_wppp,z_wpp,z_wp,z_w⟩:=zz;obtain ⟨x_wppp,f_wppp,l_wppp⟩:=bO z_wppp;obtain ⟨x_wpp,f_wpp,l_wpp⟩:=bO z_wpp;obtain ⟨x_wp,f_wp,l_wp⟩:=bO z_wp;obtain ⟨x_w,f_w,l_w⟩:=bO z_w;have hKw1:Below w.heap.size w w1:=hCw1;clear hbw1 bb);have p1:=own_below o1 hKw1;have p2:=own_below o2 hKw1))
  go_wp2
  refine bodyPost_ret (res_cct Tryz.results45 rfl (ldChan c (.slice (some ⟨g,0,none⟩) c.cells.length q1) (.slice a2 c.words.length q2) (by simp [go_sem, *] <;> rfl)) rfl (ldHand { seenAs h ⟨4,e,t⟩ with pos:=7 } (by simp [go_sem, *] <;> first|rfl|simp [seenAs,anew,hci]))) rfl ⟨⟨_,_,rfl,?_,?_,fresh_refl _ _,fresh_refl _ _⟩,onlB (by exact zB)⟩
  · exact zO p1 o1
  · exact zO p2 o2
set_option maxRecDepth 100000 in
set_option maxHeartbeats 2000000 in
theorem sendLook_8 (c:Ch) (h:Ha) (v1 v2:Value) (lo:Nat) (w:World) (h1:OCells w lo v1 c.cells) (h2:OInts w lo v2 c.words) (hc0:0≤h.cell) (hc1:h.cell<c.cells.length) (hn:(cellAt c h.cell).s=8) (hk:callOk h.code h.elem=true) :
    Calls Tryz.prog 45 #[.agg (cvals c v1 v2),.agg (hvals h)] w fun r w'=>StepO w w' lo v1 v2 (lk6 c h) r:=by
  obtain ⟨i,hci⟩:∃ i:Nat,h.cell=(i:Int):=⟨h.cell.toNat,by omega⟩
  have hi:i<c.cells.length:=by omega
  have hi0:(0:Int)≤(i:Int):=by omega
  have hi1:(i:Int)<(c.cells.length:Int):=by omega
  have hne:=h1.ne h2
  obtain ⟨a2,q2,rfl,_⟩:=h2.seg
  obtain ⟨g,q1,rfl,hlo1,hlt,hcell,hfr⟩:=h1.open1 hi
  have O1:=Lib.hid h1
  have O2:=Lib.hid h2
  have lg0:g<w.heap.size+1:=by omega
  have lg1:g<w.heap.size+1+1:=by omega
  have lg2:g<w.heap.size+1+1+1:=by omega
  have ng0:g≠w.heap.size:=by omega
  have ng1:g≠w.heap.size+1:=by omega
  have ng2:g≠w.heap.size+1+1:=by omega
  have ng3:g≠w.heap.size+1+1+1:=by omega
  have mg0:w.heap.size≠g:=by omega
  have mg1:w.heap.size+1≠g:=by omega
  have mg2:w.heap.size+1+1≠g:=by omega
  have mg3:w.heap.size+1+1+1≠g:=by omega
  have hx:Hid (cellAt c h.cell=c.cells.getD i ⟨0,0,0⟩):=by simp [cellAt,Hid,hci]
  have c0:=hcell 0 (by omega)
  have c1:=hcell 1 (by omega)
  have c2:=hcell 2 (by omega)
  simp only [C3.val,Nat.add_zero] at c0 c1 c2
  have ex:=hx.out
  rw [ex] at hn
  generalize c.cells.getD i ⟨0,0,0⟩=x at *
  obtain ⟨s,e,t⟩:=x
  simp only at hn c0 c1 c2
  subst hn
  have hR:Hid (lk6 c h=(c,anew (seenAs h ⟨8,e,t⟩),true)):=by simp [Hid,lk6,look6_at ex 8 rfl]
  rw [hR.out]
  clear hcell hx h1 h2 hc0 hc1 ex hR
  have o1:=O1.out
  have o2:=O2.out
  have a1:Nat:=0
  clear a1
  go_enter Tryz.func45,Tryz.ntmps45
  go_wp2_with fail
  go_region_held3 (fun w'=>w'.cell? ⟨w.heap.size,4,none⟩=some (.slice (some ⟨g,0,none⟩) c.cells.length q1)∧w'.cell? ⟨w.heap.size+1,3,none⟩=some (.int .i64 i)∧w'.cell? ⟨g,i*3,none⟩=some (.int .i64 8)∧w'.cell? ⟨g,i*3+2,none⟩=some (.int .i64 t))
    (first|(simp [*,go_sem]))
    (first|fail)
  go_wp2_with fail
  go_region_held3 (fun w'=>hp w' w.heap.size=some (.cells (cvals c (.slice (some ⟨g,0,none⟩) c.cells.length q1) (.slice a2 c.words.length q2)) 27)∧hp w' (w.heap.size+1)=some (.cells (hvals { h with seen:=8,wait:=t }) 31))
    (first|(simp [*,go_sem]))
    (first|((go_at_call 80;refine bHit w (by exact zB) fun bb=>?_;refine (anew_any { h with cell:=(i:Int),seen:=8,wait:=t } hk _).mono ?_;rintro _ w1 ⟨rfl,hbw1⟩;have hCw1:Below w.heap.size w w1:=bT bb hbw1;have hsw1:=hbw1.size;(try simp at hsw1);have zz:=q4 hbw1 (b:=w.heap.size);(try simp [go_sem] at zz);(try clear z_wppp x_wppp f_wppp l_wppp);(try clear z_wpp x_wpp f_wpp l_wpp);(try clear z_wp x_wp f_wp l_wp);(try clear z_w x_w f_w l_w);obtain ⟨z_wppp,z_wpp,z_wp,z_w⟩:=zz;obtain ⟨x_wppp,f_wppp,l_wppp⟩:=bO z_wppp;obtain ⟨x_wpp,f_wpp,l_wpp⟩:=bO z_wpp;obtain ⟨x_wp,f_wp,l_wp⟩:=bO z_wp;obtain ⟨x_w,f_w,l_w⟩:=bO z_w;have hKw1:Below w.heap.size w w1:=hCw1;clear hbw1 bb);have p1:=own_below o1 hKw1;have p2:=own_below o2 hKw1))
  go_wp2
  refine bodyPost_ret (res_cct Tryz.results45 rfl (ldChan c (.slice (some ⟨g,0,none⟩) c.cells.length q1) (.slice a2 c.words.length q2) (by simp [go_sem, *] <;> rfl)) rfl (ldHand (anew (seenAs h ⟨8,e,t⟩)) (by simp [go_sem, *] <;> first|rfl|simp [seenAs,anew,hci]))) rfl ⟨⟨_,_,rfl,?_,?_,fresh_refl _ _,fresh_refl _ _⟩,onlB (by exact zB)⟩
  · exact zO p1 o1
  · exact zO p2 o2
set_option maxRecDepth 100000 in
set_option maxHeartbeats 2000000 in
theorem sendLook_10 (c:Ch) (h:Ha) (v1 v2:Value) (lo:Nat) (w:World) (h1:OCells w lo v1 c.cells) (h2:OInts w lo v2 c.words) (hc0:0≤h.cell) (hc1:h.cell<c.cells.length) (hn:(cellAt c h.cell).s=10) (hk:callOk h.code h.elem=true) :
    Calls Tryz.prog 45 #[.agg (cvals c v1 v2),.agg (hvals h)] w fun r w'=>StepO w w' lo v1 v2 (lk6 c h) r:=by
  obtain ⟨i,hci⟩:∃ i:Nat,h.cell=(i:Int):=⟨h.cell.toNat,by omega⟩
  have hi:i<c.cells.length:=by omega
  have hi0:(0:Int)≤(i:Int):=by omega
  have hi1:(i:Int)<(c.cells.length:Int):=by omega
  have hne:=h1.ne h2
  obtain ⟨a2,q2,rfl,_⟩:=h2.seg
  obtain ⟨g,q1,rfl,hlo1,hlt,hcell,hfr⟩:=h1.open1 hi
  have O1:=Lib.hid h1
  have O2:=Lib.hid h2
  have lg0:g<w.heap.size+1:=by omega
  have lg1:g<w.heap.size+1+1:=by omega
  have lg2:g<w.heap.size+1+1+1:=by omega
  have ng0:g≠w.heap.size:=by omega
  have ng1:g≠w.heap.size+1:=by omega
  have ng2:g≠w.heap.size+1+1:=by omega
  have ng3:g≠w.heap.size+1+1+1:=by omega
  have mg0:w.heap.size≠g:=by omega
  have mg1:w.heap.size+1≠g:=by omega
  have mg2:w.heap.size+1+1≠g:=by omega
  have mg3:w.heap.size+1+1+1≠g:=by omega
  have hx:Hid (cellAt c h.cell=c.cells.getD i ⟨0,0,0⟩):=by simp [cellAt,Hid,hci]
  have c0:=hcell 0 (by omega)
  have c1:=hcell 1 (by omega)
  have c2:=hcell 2 (by omega)
  simp only [C3.val,Nat.add_zero] at c0 c1 c2
  have ex:=hx.out
  rw [ex] at hn
  generalize c.cells.getD i ⟨0,0,0⟩=x at *
  obtain ⟨s,e,t⟩:=x
  simp only at hn c0 c1 c2
  subst hn
  have hR:Hid (lk6 c h=(c,anew (seenAs h ⟨10,e,t⟩),true)):=by simp [Hid,lk6,look6_at ex 10 rfl]
  rw [hR.out]
  clear hcell hx h1 h2 hc0 hc1 ex hR
  have o1:=O1.out
  have o2:=O2.out
  have a1:Nat:=0
  clear a1
  go_enter Tryz.func45,Tryz.ntmps45
  go_wp2_with fail
  go_region_held3 (fun w'=>w'.cell? ⟨w.heap.size,4,none⟩=some (.slice (some ⟨g,0,none⟩) c.cells.length q1)∧w'.cell? ⟨w.heap.size+1,3,none⟩=some (.int .i64 i)∧w'.cell? ⟨g,i*3,none⟩=some (.int .i64 10)∧w'.cell? ⟨g,i*3+2,none⟩=some (.int .i64 t))
    (first|(simp [*,go_sem]))
    (first|fail)
  go_wp2_with fail
  go_region_held3 (fun w'=>hp w' w.heap.size=some (.cells (cvals c (.slice (some ⟨g,0,none⟩) c.cells.length q1) (.slice a2 c.words.length q2)) 27)∧hp w' (w.heap.size+1)=some (.cells (hvals { h with seen:=10,wait:=t }) 31))
    (first|(simp [*,go_sem]))
    (first|((go_at_call 80;refine bHit w (by exact zB) fun bb=>?_;refine (anew_any { h with cell:=(i:Int),seen:=10,wait:=t } hk _).mono ?_;rintro _ w1 ⟨rfl,hbw1⟩;have hCw1:Below w.heap.size w w1:=bT bb hbw1;have hsw1:=hbw1.size;(try simp at hsw1);have zz:=q4 hbw1 (b:=w.heap.size);(try simp [go_sem] at zz);(try clear z_wppp x_wppp f_wppp l_wppp);(try clear z_wpp x_wpp f_wpp l_wpp);(try clear z_wp x_wp f_wp l_wp);(try clear z_w x_w f_w l_w);obtain ⟨z_wppp,z_wpp,z_wp,z_w⟩:=zz;obtain ⟨x_wppp,f_wppp,l_wppp⟩:=bO z_wppp;obtain ⟨x_wpp,f_wpp,l_wpp⟩:=bO z_wpp;obtain ⟨x_wp,f_wp,l_wp⟩:=bO z_wp;obtain ⟨x_w,f_w,l_w⟩:=bO z_w;have hKw1:Below w.heap.size w w1:=hCw1;clear hbw1 bb);have p1:=own_below o1 hKw1;have p2:=own_below o2 hKw1))
  go_wp2
  refine bodyPost_ret (res_cct Tryz.results45 rfl (ldChan c (.slice (some ⟨g,0,none⟩) c.cells.length q1) (.slice a2 c.words.length q2) (by simp [go_sem, *] <;> rfl)) rfl (ldHand (anew (seenAs h ⟨10,e,t⟩)) (by simp [go_sem, *] <;> first|rfl|simp [seenAs,anew,hci]))) rfl ⟨⟨_,_,rfl,?_,?_,fresh_refl _ _,fresh_refl _ _⟩,onlB (by exact zB)⟩
  · exact zO p1 o1
  · exact zO p2 o2
end Go.Proofs.YthdjlpkcmhajlaaGreat
set_option linter.unusedSimpArgs false
set_option linter.unusedVariables false
namespace Go.Proofs.YthdjlpkcmhajlaaGreat
open Go.RowKit
set_option linter.unusedSimpArgs false
attribute [local simp] bx_size
attribute [local go_sem ↓] zeroHand zeroChan toLHand toLChan toVHand toVChan storeHand storeChan storeHandC storeChanC
theorem own_zcap {w:World} {lo:Nat} {e:TypeId} {k n p m:Nat} {a:Option Addr} {xs:List Value} (h:w.ownsRow lo e k (.slice a n p) m xs) (ha:a=none):p=0:=by
  rcases h.2 with ⟨h1,_⟩|⟨g,cap,cur,h1,_⟩
  · simp at h1;exact h1.2.2
  · subst ha;simp at h1
theorem tellC_ints (c:Ch) (v x:Int) (a b:Value):cvals (tellC c v x) a b=cvals c a b:=by unfold tellC;split <;> rfl
theorem chan_len {c:Ch} (e:chanOk c=true):c.cells.length=40∧c.words.length≤80:=by
  simp [chanOk,chanHead] at e
  omega
theorem pTold_any (c:Ch) (v x:Int) (v1 v2:Value) (lo:Nat) (w:World) (h1:OCells w lo v1 c.cells) (h2:OInts w lo v2 c.words) (hc:chanOk c=true) :
    Calls Tryz.prog 83 #[.agg (cvals c v1 v2),.int .i64 v,.int .i64 x] w fun r w'=>(∃ y1 y2,r=.returned (.tuple #[.agg (cvals c y1 y2),.bool (tellB c v x)])∧OCells w' w.heap.size y1 c.cells∧OInts w' w.heap.size y2 (tellC c v x).words)∧Below w.heap.size w w':=by
  obtain ⟨n1,n2⟩:=chan_len hc
  obtain ⟨a,p,rfl,g1⟩:=h1.seg
  obtain ⟨b,q,rfl,g2⟩:=h2.seg
  refine (told_any c v x a b p q w g1 (own_zcap h1) g2 (own_zcap h2) (by omega) (by omega)).mono ?_
  rintro _ w' ⟨⟨y1,y2,rfl,k1,k2⟩,hb⟩
  obtain ⟨e1,e2⟩:=told_yes (v:=v) (x:=x) hc
  rw [e1] at k1 k2
  rw [(tellC_cells c v x).1] at k1
  refine ⟨⟨y1,y2,?_,k1,k2⟩,hb⟩
  rw [e1,e2]
  show Ending.returned (.tuple #[.agg (cvals (tellC c v x) y1 y2),_])=_
  rw [tellC_ints]
theorem pFull_any (c:Ch) (v1 v2:Value) (lo:Nat) (w:World) (h1:OCells w lo v1 c.cells) (h2:OInts w lo v2 c.words) (hc:chanOk c=true) (hf:80≤c.words.length) :
    Calls Tryz.prog 100 #[.agg (cvals c v1 v2)] w fun r w'=>(∃ y1 y2,r=.returned (.tuple #[.agg (cvals c y1 y2),.int .i64 0])∧OCells w' w.heap.size y1 c.cells∧OInts w' w.heap.size y2 c.words)∧Below w.heap.size w w':=by
  obtain ⟨n1,n2⟩:=chan_len hc
  obtain ⟨a,p,rfl,g1⟩:=h1.seg
  obtain ⟨b,q,rfl,g2⟩:=h2.seg
  refine (waiter_any c a b p q w g1 (own_zcap h1) g2 (own_zcap h2) (by omega) (by omega)).mono ?_
  rintro _ w' ⟨⟨y1,y2,rfl,k1,k2⟩,hb⟩
  obtain ⟨e1,e2⟩:=waitC_full hc hf
  rw [e1] at k1 k2
  refine ⟨⟨y1,y2,?_,k1,k2⟩,hb⟩
  rw [e1,e2]
  rfl
theorem pMore_any (c:Ch) (v1 v2:Value) (lo:Nat) (w:World) (h1:OCells w lo v1 c.cells) (h2:OInts w lo v2 c.words) (hc:chanOk c=true) (hf:¬ 80≤c.words.length) :
    Calls Tryz.prog 100 #[.agg (cvals c v1 v2)] w fun r w'=>(∃ y1 y2,r=.returned (.tuple #[.agg (cvals c y1 y2),.int .i64 ((c.words.length:Int)+1)])∧OCells w' w.heap.size y1 c.cells∧OInts w' w.heap.size y2 (c.words ++ [0]))∧Below w.heap.size w w':=by
  obtain ⟨n1,n2⟩:=chan_len hc
  obtain ⟨a,p,rfl,g1⟩:=h1.seg
  obtain ⟨b,q,rfl,g2⟩:=h2.seg
  refine (waiter_any c a b p q w g1 (own_zcap h1) g2 (own_zcap h2) (by omega) (by omega)).mono ?_
  rintro _ w' ⟨⟨y1,y2,rfl,k1,k2⟩,hb⟩
  obtain ⟨e1,e2⟩:=waitC_more hc hf
  rw [e1] at k1 k2
  refine ⟨⟨y1,y2,?_,k1,k2⟩,hb⟩
  rw [e1,e2]
  rfl
set_option maxRecDepth 100000 in
set_option maxHeartbeats 2000000 in
theorem sendCall_a (c:Ch) (h:Ha) (v1 v2:Value) (lo:Nat) (w:World) (h1:OCells w lo v1 c.cells) (h2:OInts w lo v2 c.words) (hc:chanOk c=true) (hlo:lo≤w.heap.size) (ht:tellB c h.wait 1=true) :
    Calls Tryz.prog 49 #[.agg (cvals c v1 v2),.agg (hvals h)] w fun r w'=>StepO w w' lo v1 v2 ((tellC c h.wait 1,{ h with pos:=8 },true)) r:=by
  have b1:=fun j (hj:v1.ownBlock=some j)=>(h1.lt j hj).2
  have b2:=fun j (hj:v2.ownBlock=some j)=>(h2.lt j hj).2
  obtain ⟨a1,q1,rfl,_⟩:=h1.seg
  obtain ⟨a2,q2,rfl,_⟩:=h2.seg
  have O1:=Lib.hid h1
  have O2:=Lib.hid h2
  clear h1 h2
  have o1:=O1.out
  have o2:=O2.out
  go_enter Tryz.func49,Tryz.ntmps49
  go_wp2_with fail;refine bHit w (by exact zB) fun bb=>?_;refine (pTold_any c h.wait 1 _ _ lo _ (by exact zO o1 o1) (by exact zO o2 o2) hc).mono ?_;rintro _ w1 ⟨⟨y1,y2,rfl,oY1,oY2⟩,hbw1⟩;have hCw1:Below w.heap.size w w1:=bT bb hbw1;have hsw1:=hbw1.size;(try simp at hsw1);have zz:=q4 hbw1 (b:=w.heap.size);(try simp [go_sem] at zz);(try clear z_wppp x_wppp f_wppp l_wppp);(try clear z_wpp x_wpp f_wpp l_wpp);(try clear z_wp x_wp f_wp l_wp);(try clear z_w x_w f_w l_w);obtain ⟨z_wppp,z_wpp,z_wp,z_w⟩:=zz;obtain ⟨x_wppp,f_wppp,l_wppp⟩:=bO z_wppp;obtain ⟨x_wpp,f_wpp,l_wpp⟩:=bO z_wpp;obtain ⟨x_wp,f_wp,l_wp⟩:=bO z_wp;obtain ⟨x_w,f_w,l_w⟩:=bO z_w;have hKw1:Below w.heap.size w w1:=hCw1;clear hbw1 bb
  rw [ht]
  try simp at oY1 oY2
  have fY1:Fresh w (.slice a1 c.cells.length q1) y1:=fun j hj=>.inr (by have:=(oY1.lt j hj).1;(try simp at this);omega)
  have fY2:Fresh w (.slice a2 c.words.length q2) y2:=fun j hj=>.inr (by have:=(oY2.lt j hj).1;(try simp at this);omega)
  obtain ⟨ya,yp,rfl,_⟩:=oY1.seg
  obtain ⟨yb,yq,rfl,_⟩:=oY2.seg
  have r1:=own_lo (lo':=lo) oY1 (by omega)
  have r2:=own_lo (lo':=lo) oY2 (by omega)
  have k0:w.heap.size<w1.heap.size:=by omega
  have k1:w.heap.size+1<w1.heap.size:=by omega
  have k2:w.heap.size+1+1<w1.heap.size:=by omega
  have k3:w.heap.size+1+1+1<w1.heap.size:=by omega
  go_wp2_with fail
  go_region_held3 (fun w'=>hp w' w1.heap.size=some (.cells (cvals c (.slice ya c.cells.length yp) (.slice yb (tellC c h.wait 1).words.length yq)) 27)∧hp w' (w.heap.size+1)=some (.cells (hvals h) 31))
    (first|(simp [*,go_sem]))
    (first|((go_at_call 78;refine bHit w (by exact zB) fun bb=>?_;refine bHit w1 (by exact zB) fun bk=>?_;refine (moved_any _ _ _).mono ?_;rintro _ w2 ⟨rfl,hbw2⟩;have hCw2:Below w.heap.size w w2:=bT bb hbw2;have hsw2:=hbw2.size;(try simp at hsw2);have zz:=And.intro (hQ hbw2 (b:=w1.heap.size)) <| And.intro (hQ hbw2 (b:=w.heap.size+1+1+1)) <| And.intro (hQ hbw2 (b:=w.heap.size+1+1)) <| And.intro (hQ hbw2 (b:=w.heap.size+1)) <| hQ hbw2 (b:=w.heap.size);(first|simp [go_sem,z_wppp,z_wpp,z_wp,z_w,l_w,l_wp,l_wpp,l_wppp,k0,k1,k2,k3] at zz|simp [go_sem] at zz|skip);(try clear z_w1 x_w1 f_w1 l_w1);(try clear z_wppp x_wppp f_wppp l_wppp);(try clear z_wpp x_wpp f_wpp l_wpp);(try clear z_wp x_wp f_wp l_wp);(try clear z_w x_w f_w l_w);obtain ⟨z_w1,z_wppp,z_wpp,z_wp,z_w⟩:=zz;obtain ⟨x_w1,f_w1,l_w1⟩:=bO z_w1;obtain ⟨x_wppp,f_wppp,l_wppp⟩:=bO z_wppp;obtain ⟨x_wpp,f_wpp,l_wpp⟩:=bO z_wpp;obtain ⟨x_wp,f_wp,l_wp⟩:=bO z_wp;obtain ⟨x_w,f_w,l_w⟩:=bO z_w;have hKw2:Below w1.heap.size w1 w2:=bT bk hbw2;clear hbw2 bb bk);have p1:=own_below r1 hKw2;have p2:=own_below r2 hKw2))
  go_wp2
  refine bodyPost_ret (res_cct Tryz.results49 rfl (ldChan c (.slice ya c.cells.length yp) (.slice yb (tellC c h.wait 1).words.length yq) (by simp [go_sem, *] <;> rfl)) rfl (ldHand { h with pos:=8 } (by simp [go_sem, *] <;> rfl))) rfl ⟨⟨.slice ya c.cells.length yp,.slice yb (tellC c h.wait 1).words.length yq,by (rw [tellC_ints];rfl),?_,?_,fY1,fY2⟩,onlB (by exact zB)⟩
  · show OCells _ lo _ (tellC c h.wait 1).cells
    rw [(tellC_cells c h.wait 1).1]
    exact zO p1 oY1
  · exact zO p2 oY2
set_option maxRecDepth 100000 in
set_option maxHeartbeats 2000000 in
theorem sendCall_b (c:Ch) (h:Ha) (v1 v2:Value) (lo:Nat) (w:World) (h1:OCells w lo v1 c.cells) (h2:OInts w lo v2 c.words) (hc:chanOk c=true) (hlo:lo≤w.heap.size) (hk:callOk h.code h.elem=true) (ht:tellB c h.wait 1=false) :
    Calls Tryz.prog 49 #[.agg (cvals c v1 v2),.agg (hvals h)] w fun r w'=>StepO w w' lo v1 v2 ((c,anew h,true)) r:=by
  have b1:=fun j (hj:v1.ownBlock=some j)=>(h1.lt j hj).2
  have b2:=fun j (hj:v2.ownBlock=some j)=>(h2.lt j hj).2
  obtain ⟨a1,q1,rfl,_⟩:=h1.seg
  obtain ⟨a2,q2,rfl,_⟩:=h2.seg
  have O1:=Lib.hid h1
  have O2:=Lib.hid h2
  clear h1 h2
  have o1:=O1.out
  have o2:=O2.out
  go_enter Tryz.func49,Tryz.ntmps49
  go_wp2_with fail;refine bHit w (by exact zB) fun bb=>?_;refine (pTold_any c h.wait 1 _ _ lo _ (by exact zO o1 o1) (by exact zO o2 o2) hc).mono ?_;rintro _ w1 ⟨⟨y1,y2,rfl,oY1,oY2⟩,hbw1⟩;have hCw1:Below w.heap.size w w1:=bT bb hbw1;have hsw1:=hbw1.size;(try simp at hsw1);have zz:=q4 hbw1 (b:=w.heap.size);(try simp [go_sem] at zz);(try clear z_wppp x_wppp f_wppp l_wppp);(try clear z_wpp x_wpp f_wpp l_wpp);(try clear z_wp x_wp f_wp l_wp);(try clear z_w x_w f_w l_w);obtain ⟨z_wppp,z_wpp,z_wp,z_w⟩:=zz;obtain ⟨x_wppp,f_wppp,l_wppp⟩:=bO z_wppp;obtain ⟨x_wpp,f_wpp,l_wpp⟩:=bO z_wpp;obtain ⟨x_wp,f_wp,l_wp⟩:=bO z_wp;obtain ⟨x_w,f_w,l_w⟩:=bO z_w;have hKw1:Below w.heap.size w w1:=hCw1;clear hbw1 bb
  rw [ht]
  obtain ⟨ya,yp,rfl,_⟩:=oY1.seg
  obtain ⟨yb,yq,rfl,_⟩:=oY2.seg
  have k0:w.heap.size<w1.heap.size:=by omega
  have k1:w.heap.size+1<w1.heap.size:=by omega
  have k2:w.heap.size+1+1<w1.heap.size:=by omega
  have k3:w.heap.size+1+1+1<w1.heap.size:=by omega
  go_wp2_with fail
  go_region_held3 (fun w'=>hp w' w.heap.size=some (.cells (cvals c (.slice a1 c.cells.length q1) (.slice a2 c.words.length q2)) 27)∧hp w' (w.heap.size+1)=some (.cells (hvals h) 31))
    (first|(simp [*,go_sem]))
    (first|((go_at_call 80;refine bHit w (by exact zB) fun bb=>?_;refine (anew_any h hk _).mono ?_;rintro _ w2 ⟨rfl,hbw2⟩;have hCw2:Below w.heap.size w w2:=bT bb hbw2;have hsw2:=hbw2.size;(try simp at hsw2);have zz:=q4 hbw2 (b:=w.heap.size);(first|simp [go_sem,z_wppp,z_wpp,z_wp,z_w,l_w,l_wp,l_wpp,l_wppp,k0,k1,k2,k3] at zz|simp [go_sem] at zz|skip);(try clear z_wppp x_wppp f_wppp l_wppp);(try clear z_wpp x_wpp f_wpp l_wpp);(try clear z_wp x_wp f_wp l_wp);(try clear z_w x_w f_w l_w);obtain ⟨z_wppp,z_wpp,z_wp,z_w⟩:=zz;obtain ⟨x_wppp,f_wppp,l_wppp⟩:=bO z_wppp;obtain ⟨x_wpp,f_wpp,l_wpp⟩:=bO z_wpp;obtain ⟨x_wp,f_wp,l_wp⟩:=bO z_wp;obtain ⟨x_w,f_w,l_w⟩:=bO z_w;have hKw2:Below w.heap.size w w2:=hCw2;clear hbw2 bb);have p1:=own_below o1 hKw2;have p2:=own_below o2 hKw2))
  go_wp2
  refine bodyPost_ret (res_cct Tryz.results49 rfl (ldChan c (.slice a1 c.cells.length q1) (.slice a2 c.words.length q2) (by simp [go_sem, *] <;> rfl)) rfl (ldHand (anew h) (by simp [go_sem, *] <;> first|rfl|simp [seenAs,anew,hci]))) rfl ⟨⟨_,_,rfl,?_,?_,fresh_refl _ _,fresh_refl _ _⟩,onlB (by exact zB)⟩
  · exact zO p1 o1
  · exact zO p2 o2
set_option maxRecDepth 100000 in
set_option maxHeartbeats 2000000 in
theorem sendDone_any (c:Ch) (h:Ha) (v1 v2:Value) (lo:Nat) (w:World) (h1:OCells w lo v1 c.cells) (h2:OInts w lo v2 c.words) (hc0:0≤h.cell) (hc1:h.cell<c.cells.length) :
    Calls Tryz.prog 50 #[.agg (cvals c v1 v2),.agg (hvals h)] w fun r w'=>StepO w w' lo v1 v2 ((stateC c h.cell 7,resting 1 0,true)) r:=by
  obtain ⟨i,hci⟩:∃ i:Nat,h.cell=(i:Int):=⟨h.cell.toNat,by omega⟩
  have hi:i<c.cells.length:=by omega
  have hi0:(0:Int)≤(i:Int):=by omega
  have hi1:(i:Int)<(c.cells.length:Int):=by omega
  have hne:=h1.ne h2
  obtain ⟨a2,q2,rfl,_⟩:=h2.seg
  obtain ⟨g,q1,rfl,hlo1,hlt,hcell,hfr⟩:=h1.open1 hi
  have O1:=Lib.hid h1
  have O2:=Lib.hid h2
  have lg0:g<w.heap.size+1:=by omega
  have lg1:g<w.heap.size+1+1:=by omega
  have lg2:g<w.heap.size+1+1+1:=by omega
  have ng0:g≠w.heap.size:=by omega
  have ng1:g≠w.heap.size+1:=by omega
  have ng2:g≠w.heap.size+1+1:=by omega
  have ng3:g≠w.heap.size+1+1+1:=by omega
  have mg0:w.heap.size≠g:=by omega
  have mg1:w.heap.size+1≠g:=by omega
  have mg2:w.heap.size+1+1≠g:=by omega
  have mg3:w.heap.size+1+1+1≠g:=by omega
  have hx:Hid (cellAt c h.cell=c.cells.getD i ⟨0,0,0⟩):=by simp [cellAt,Hid,hci]
  have c0:=hcell 0 (by omega)
  have c1:=hcell 1 (by omega)
  have c2:=hcell 2 (by omega)
  simp only [C3.val,Nat.add_zero] at c0 c1 c2
  rw [show stateC c h.cell 7=stateC c i 7 by rw [hci]]
  have e1:=stateC_cells c i 7
  have P1:=fun W (o:OCells W lo (.slice (some ⟨g,0,none⟩) c.cells.length q1) c.cells)=>OCells.setS o hi 7
  rw [← e1] at P1
  clear hx hcell h1 h2 e1
  generalize c.cells.getD i ⟨0,0,0⟩=x at *
  have o1:=O1.out
  have o2:=O2.out
  go_enter Tryz.func50,Tryz.ntmps50
  have P2:=own_store (p:=⟨g,i*3,none⟩) o2 (hne g rfl) (.int .i64 7)
  go_wp2_with fail
  go_region_held3 (fun w'=>hp w' w.heap.size=some (.cells (cvals c (.slice (some ⟨g,0,none⟩) c.cells.length q1) (.slice a2 c.words.length q2)) 27)∧hp w' (w.heap.size+1)=some (.cells (hvals h) 31))
    (first|(simp [*,go_sem]))
    (first|(go_at_call 77;refine (resting_any _ _ _).mono ?_;rintro _ w1 ⟨rfl,hbw1⟩;have hGw1:Gr g w w1:=gT (by (repeat (first|with_reducible assumption|with_reducible exact gR _ _|with_reducible refine gA ?_|with_reducible refine gD ?_|with_reducible refine gS ?_ (.inl rfl)|((with_reducible refine gBx ?_ (.inr ?_));rotate_left;(focus ((try dsimp only);(try simp);(try omega))))|((with_reducible refine gS ?_ (.inr ?_));rotate_left;(focus ((try dsimp only);(try simp);(try omega))))))) (gOfB hbw1);have hsw1:=hbw1.size;(try (simp at hsw1));have zz:=hQ hbw1 (b:=w.heap.size);(first|(simp [go_sem,z_w,l_w,hlt,lg0,lg1,lg2] at zz)|(simp [go_sem,hlt,lg0,lg1,lg2] at zz));(try clear x_w f_w);(try clear z_w);have z_w:=zz;clear zz;(try clear l_w);obtain ⟨x_w,f_w,l_w⟩:=bO z_w;have zz:=hQ hbw1 (b:=w.heap.size+1);(first|(simp [go_sem,z_wp,l_wp,hlt,lg0,lg1,lg2] at zz)|(simp [go_sem,hlt,lg0,lg1,lg2] at zz));(try clear x_wp f_wp);(try clear z_wp);have z_wp:=zz;clear zz;(try clear l_wp);obtain ⟨x_wp,f_wp,l_wp⟩:=bO z_wp;have zz:=hQ hbw1 (b:=w.heap.size+1+1);(first|(simp [go_sem,z_wpp,l_wpp,hlt,lg0,lg1,lg2] at zz)|(simp [go_sem,hlt,lg0,lg1,lg2] at zz));(try clear x_wpp f_wpp);(try clear z_wpp);have z_wpp:=zz;clear zz;(try clear l_wpp);obtain ⟨x_wpp,f_wpp,l_wpp⟩:=bO z_wpp;have zz:=hQ hbw1 (b:=w.heap.size+1+1+1);(first|(simp [go_sem,z_wppp,l_wppp,hlt,lg0,lg1,lg2] at zz)|(simp [go_sem,hlt,lg0,lg1,lg2] at zz));(try clear x_wppp f_wppp);(try clear z_wppp);have z_wppp:=zz;clear zz;(try clear l_wppp);obtain ⟨x_wppp,f_wppp,l_wppp⟩:=bO z_wppp;have p1:OCells w1 lo (.slice (some ⟨g,0,none⟩) c.cells.length q1) (stateC c i 7).cells:=own_below (by exact zO (P1 _ o1) o1) hbw1;have p2:OInts w1 lo (.slice a2 c.words.length q2) c.words:=own_below (by exact zO P2 o2) hbw1))
  go_wp2
  refine bodyPost_ret (res_cct Tryz.results50 rfl (ldChan (stateC c i 7) (.slice (some ⟨g,0,none⟩) c.cells.length q1) (.slice a2 c.words.length q2) (by simp [go_sem, *] <;> rfl)) rfl (ldHand (resting 1 0) (by simp [go_sem, *] <;> first|rfl|simp [seenAs,anew,hci]))) rfl ⟨⟨_,_,rfl,?_,?_,fresh_refl _ _,fresh_refl _ _⟩,onl1 (show w.grownBy _ (some g) from (by (repeat (first|with_reducible assumption|with_reducible exact gR _ _|with_reducible refine gA ?_|with_reducible refine gD ?_|with_reducible refine gS ?_ (.inl rfl)|((with_reducible refine gBx ?_ (.inr ?_));rotate_left;(focus ((try dsimp only);(try simp);(try omega))))|((with_reducible refine gS ?_ (.inr ?_));rotate_left;(focus ((try dsimp only);(try simp);(try omega))))))))⟩
  · show OCells _ lo (.slice (some ⟨g,0,none⟩) c.cells.length q1) (stateC c i 7).cells
    exact zO p1 o1
  · show OInts _ lo (.slice a2 c.words.length q2) c.words
    exact zO p2 o2
end Go.Proofs.YthdjlpkcmhajlaaGreat
