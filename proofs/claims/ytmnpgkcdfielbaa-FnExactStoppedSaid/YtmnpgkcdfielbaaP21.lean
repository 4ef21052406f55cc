/-
  The program's telling of a word: the closure that tells, and who makes it; lists hold at most 2 ^ 40 elements.
  The program's telling of a word to a waiter; lists lie in memory and hold at most 2 ^ 40 elements.
  The program's Stopped: what it answers, a copy of its own; the lists lie in memory and hold at most 1048576 elements.
-/
import Derived.Test.YtmnpgkcdfielbaaP19
import Derived.Test.YtmnpgkcdfielbaaP09
import Derived.Deep.AppendLies
import Derived.Test.YtmnpgkcdfielbaaP04
import Derived.Test.YtmnpgkcdfielbaaP20
set_option linter.unusedSimpArgs false
set_option linter.unusedVariables false
namespace Go.Proofs.Ytmnpgkcdfielbaa
open Go.RowKit
theorem gr_of_below {w w':World} {row:Option Nat} (h:Below w.heap.size w w'):w.grownBy w' row:=⟨h.os,h.tape,h.output,h.size,fun i hi _=>h.block i hi⟩
theorem gr_set {w w':World} {g:Nat} (h:Below w.heap.size w w') (o:Nat) (u:Value):w.grownBy (w'.setCell ⟨g,o,none⟩ u) (some g) :=
  ⟨h.os,h.tape,h.output,by simp [World.setCell];exact h.size,fun i hi hn=>by rw [Below.heap_setCell w' ⟨g,o,none⟩ u i (fun e=>hn (by rw [e]))];exact h.block i hi⟩
set_option maxRecDepth 100000 in
set_option maxHeartbeats 1000000 in
theorem teller1_any (c:Ch) (v x:Int) (g1 g2:Nat) (v2:Value) (lo:Nat) (w:World) (h:OInts w lo v2 c.words) (c1:w.cell? ⟨g1,0,none⟩=some v2) (c2:w.cell? ⟨g2,0,none⟩=some (.int .i64 v)) (hm:c.words.length≤1099511627776) :
    Calls Try.prog 77 #[.int .i64 x,.pointer (some ⟨g1,0,none⟩),.pointer (some ⟨g2,0,none⟩)] w fun r w'=>r=.returned (.bool (tellB c v x))∧OInts w' lo v2 (tellC c v x).words∧w.grownBy w' v2.ownBlock:=by
  have l1:=World.block_lt_of_cell? w _ c1
  have l2:=World.block_lt_of_cell? w _ c2
  simp only at l1 l2
  by_cases hh:hasW c v=true
  · obtain ⟨a1,a2⟩:=hasW_iff.1 hh
    obtain ⟨i,rfl⟩:∃ i:Nat,v=(i:Int)+1:=⟨(v - 1).toNat,by omega⟩
    have hi:i<c.words.length:=by omega
    obtain ⟨g,cap,rfl,hlo,hlt,hcell,hfr⟩:=h.open1 hi
    have e:wordAt c ((i:Int)+1)=c.words.getD i 0:=by simp [wordAt]
    have HE:=Lib.hid e
    have HO:=Lib.hid h
    clear e h
    generalize c.words.getD i 0=y at hcell HE
    have hi0:(0:Int)≤(i:Int):=by omega
    have hi1:(i:Int)<(c.words.length:Int):=by omega
    go_enter Try.func77,Try.ntmps77
    go_wp2_with fail
    refine (isWaiter_any c _ _ cap _).mono ?_
    rintro _ w1 ⟨rfl,hb1⟩
    have d1:=(hb1.cell (p:=⟨g1,0,none⟩) l1).trans c1
    have d2:=(hb1.cell (p:=⟨g2,0,none⟩) l2).trans c2
    have d3:=(hb1.cell (p:=⟨g,i,none⟩) hlt).trans hcell
    have d4:=fun o=>(hb1.frozen (p:=⟨g,o,none⟩) hlt).trans (hfr o)
    have o1:=own_below HO.out hb1
    by_cases ht:tellB c ((i:Int)+1) x=true
    · have ht2:=ht
      unfold tellB at ht2
      rw [HE.out] at ht2
      simp [hh] at ht2
      obtain ⟨rfl,hin⟩:=ht2
      have HW:Hid ((tellC c ((i:Int)+1) x).words=c.words.set i x):=by unfold tellC;rw [if_pos ht];simp [Hid]
      have HT:=Lib.hid ht
      have hx:x=1∨x=2:=by simp [inB] at hin;omega
      have hx2:(x != 1 && x != 2)=false:=by rcases hx with rfl|rfl <;> rfl
      clear ht HE hin
      rcases hx with rfl|rfl
      all_goals go_wp2
      all_goals go_ret
      all_goals exact ⟨ret_bool (by rw [HT.out]),by rw [HW.out];exact OInts.set o1 hi _,gr_set hb1 _ _⟩
    · have e1:tellB c ((i:Int)+1) x=false:=by simpa using ht
      have HT:=Lib.hid e1
      have HW:=Lib.hid (tellC_no e1)
      unfold tellB at e1
      rw [HE.out] at e1
      simp [hh] at e1
      clear HE ht
      by_cases hy:y=0
      · subst hy
        have hin:=e1 rfl
        have hx1:(x != 1)=true:=by simp [inB] at hin;simp;omega
        have hx2:(x != 2)=true:=by simp [inB] at hin;simp;omega
        clear e1 hin
        go_wp2
        go_ret
        exact ⟨ret_bool (by rw [HT.out]),by rw [HW.out];exact o1,gr_of_below hb1⟩
      · have hy2:(y != 0)=true:=by simpa using hy
        clear e1 hy
        go_wp2
        go_ret
        exact ⟨ret_bool (by rw [HT.out]),by rw [HW.out];exact o1,gr_of_below hb1⟩
  · have e1:=tellB_no1 (x:=x) (by simpa using hh)
    have HT:=Lib.hid e1
    have HW:=Lib.hid (tellC_no e1)
    clear e1
    have HO:=Lib.hid h
    obtain ⟨a2,q2,rfl,_⟩:=h.seg
    clear h
    go_enter Try.func77,Try.ntmps77
    go_wp2_with fail
    refine (isWaiter_any c _ _ q2 _).mono ?_
    rintro _ w1 ⟨rfl,hb1⟩
    have o1:=own_below HO.out hb1
    go_wp2
    go_ret
    exact ⟨ret_bool (by rw [HT.out]),by rw [HW.out];exact o1,gr_of_below hb1⟩
/- What is answered to a telling and to a waiter. -/
def told (c:Ch) (v x:Int):Ch:=if chanOk c then tellC c v x else Ch.zero
def toldB (c:Ch) (v x:Int):Bool:=chanOk c && tellB c v x
theorem told_no {c:Ch} {v x:Int} (h:chanOk c=false):told c v x=Ch.zero∧toldB c v x=false:=by simp [told,toldB,h]
theorem told_yes {c:Ch} {v x:Int} (h:chanOk c=true):told c v x=tellC c v x∧toldB c v x=tellB c v x:=by simp [told,toldB,h]
theorem tellC_cells (c:Ch) (v x:Int):(tellC c v x).cells=c.cells∧(tellC c v x).cap=c.cap∧(tellC c v x).sent=c.sent∧(tellC c v x).got=c.got∧(tellC c v x).fin=c.fin:=by unfold tellC;split <;> simp
end Go.Proofs.Ytmnpgkcdfielbaa
set_option linter.unusedSimpArgs false
set_option linter.unusedVariables false
namespace Go.Proofs.Ytmnpgkcdfielbaa
open Go.RowKit
set_option linter.unusedSimpArgs false
theorem teller_any (a:Option Addr) (n p:Nat) (v:Int) (w:World) :
    Calls Try.prog 53 #[.slice a n p,.int .i64 v] w fun r w'=>r=.returned (.func (.func 77) #[] #[.pointer (some ⟨w.heap.size,0,none⟩),.pointer (some ⟨w.heap.size+1,0,none⟩)])∧w'.cell? ⟨w.heap.size,0,none⟩=some (.slice a n p)∧w'.cell? ⟨w.heap.size+1,0,none⟩=some (.int .i64 v)∧Below w.heap.size w w':=by
  go_enter Try.func53,Try.ntmps53
  go_wp2
  go_ret
  exact ⟨rfl,by simp [go_sem],by simp [go_sem],by exact zB⟩
set_option maxRecDepth 100000 in
set_option maxHeartbeats 1000000 in
theorem told_any (c:Ch) (v x:Int) (a b:Option Addr) (p q:Nat) (w:World) (h1:Seg w w.heap.size a c.cells.length 3 (cellF c.cells)) (z1:a=none→p=0) (h2:Seg w w.heap.size b c.words.length 1 (intF c.words)) (z2:b=none→q=0) (m1:c.cells.length≤1099511627776) (m2:c.words.length≤1099511627776) :
    Calls Try.prog 24 #[.agg #[.int .i64 c.cap,.int .i64 c.sent,.int .i64 c.got,.int .i64 c.fin,.slice a c.cells.length p,.slice b c.words.length q],.int .i64 v,.int .i64 x] w fun r w' =>
      (∃ v1 v2,r=.returned (.tuple #[.agg #[.int .i64 (told c v x).cap,.int .i64 (told c v x).sent,.int .i64 (told c v x).got,.int .i64 (told c v x).fin,v1,v2],.bool (toldB c v x)])∧OCells w' w.heap.size v1 (told c v x).cells∧OInts w' w.heap.size v2 (told c v x).words)∧Below w.heap.size w w':=by
  have H1:=Lib.hid h1
  have H2:=Lib.hid h2
  have Z1:=Lib.hid z1
  have Z2:=Lib.hid z2
  have n1:c.cells.length≤maxLen:=by unfold maxLen;omega
  have n2:c.words.length≤maxLen:=by unfold maxLen;omega
  clear h1 h2 z1 z2
  by_cases hc:chanOk c=true
  · obtain ⟨e1,e2⟩:=told_yes (v:=v) (x:=x) hc
    obtain ⟨f1,f2,f3,f4,f5⟩:=tellC_cells c v x
    have E:=Lib.hid (And.intro e1 e2)
    have FF:=Lib.hid (tellC_cells c v x)
    clear e1 e2 f1 f2 f3 f4 f5
    go_enter Try.func24,Try.ntmps24
    go_wp2_with fail;refine bHit w (by exact zB) fun bb=>?_;refine (chanOk_any c a b p q _ ((H1.out.below bb).more bb.size) ((H2.out.below bb).more bb.size) n1 n2).mono ?_;rintro _ w1 ⟨rfl,hbw1⟩;have hCw1:Below w.heap.size w w1:=bT bb hbw1;have hsw1:=hbw1.size;(try simp at hsw1);have zz:=And.intro (fun o=>hbw1.cell (p:=⟨w.heap.size+1,o,none⟩) (by (try simp) <;> omega)) <| And.intro (fun o=>hbw1.frozen (p:=⟨w.heap.size+1,o,none⟩) (by (try simp) <;> omega)) <| And.intro (fun o=>hbw1.cell (p:=⟨w.heap.size,o,none⟩) (by (try simp) <;> omega)) <| fun o=>hbw1.frozen (p:=⟨w.heap.size,o,none⟩) (by (try simp) <;> omega);(try simp [go_sem] at zz);(try clear x_wp f_wp);(try clear x_w f_w);obtain ⟨x_wp,f_wp,x_w,f_w⟩:=zz;(try clear l_wp);have l_wp:w.heap.size+1<w1.heap.size:=(by omega);(try clear l_w);have l_w:w.heap.size<w1.heap.size:=(by omega);clear hbw1 bb
    rw [hc]
    go_wp2_with fail;refine bHit w (by exact zB) fun bb=>?_;refine (copied_any c a b p q _ ((H1.out.below bb).more bb.size) Z1.out ((H2.out.below bb).more bb.size) Z2.out m1 m2).mono ?_;rintro _ w2 ⟨⟨v1,v2,rfl,o1,o2⟩,hbw2⟩;have hCw2:Below w.heap.size w w2:=bT bb hbw2;have hsw2:=hbw2.size;(try simp at hsw2);have zz:=And.intro (fun o=>hbw2.cell (p:=⟨w.heap.size+1,o,none⟩) (by (try simp) <;> omega)) <| And.intro (fun o=>hbw2.frozen (p:=⟨w.heap.size+1,o,none⟩) (by (try simp) <;> omega)) <| And.intro (fun o=>hbw2.cell (p:=⟨w.heap.size,o,none⟩) (by (try simp) <;> omega)) <| fun o=>hbw2.frozen (p:=⟨w.heap.size,o,none⟩) (by (try simp) <;> omega);(first|simp [go_sem,x_wp,f_wp,x_w,f_w,l_w,l_wp] at zz|simp [go_sem,x_wp,x_w,l_w,l_wp] at zz|simp [go_sem] at zz|skip);(try clear x_wp f_wp);(try clear x_w f_w);obtain ⟨x_wp,f_wp,x_w,f_w⟩:=zz;(try clear l_wp);have l_wp:w.heap.size+1<w2.heap.size:=(by omega);(try clear l_w);have l_w:w.heap.size<w2.heap.size:=(by omega);clear hbw2 bb
    try simp at o1 o2
    have O1:=Lib.hid o1
    have O2:=Lib.hid o2
    obtain ⟨va,vc,rfl,_⟩:=OCells.seg o1
    obtain ⟨vb,vd,rfl,_⟩:=OInts.seg o2
    clear o1 o2
    have o1:=O1.out
    have o2:=O2.out
    go_wp2_with fail;refine bHit w (by exact zB) fun bb=>?_;refine bHit w2 (by exact zB) fun bk=>?_;refine (teller_any _ _ _ _ _).mono ?_;rintro _ w3 ⟨rfl,d1,d2,hbw3⟩;have hCw3:Below w.heap.size w w3:=bT bb hbw3;have hsw3:=hbw3.size;(try simp at hsw3);have zz:=And.intro (fun o=>hbw3.cell (p:=⟨w2.heap.size,o,none⟩) (by (try simp) <;> omega)) <| And.intro (fun o=>hbw3.frozen (p:=⟨w2.heap.size,o,none⟩) (by (try simp) <;> omega)) <| And.intro (fun o=>hbw3.cell (p:=⟨w.heap.size+1,o,none⟩) (by (try simp) <;> omega)) <| And.intro (fun o=>hbw3.frozen (p:=⟨w.heap.size+1,o,none⟩) (by (try simp) <;> omega)) <| And.intro (fun o=>hbw3.cell (p:=⟨w.heap.size,o,none⟩) (by (try simp) <;> omega)) <| fun o=>hbw3.frozen (p:=⟨w.heap.size,o,none⟩) (by (try simp) <;> omega);(first|simp [go_sem,x_wp,f_wp,x_w,f_w,l_w,l_wp] at zz|simp [go_sem,x_wp,x_w,l_w,l_wp] at zz|simp [go_sem] at zz|skip);(try clear x_w2 f_w2);(try clear x_wp f_wp);(try clear x_w f_w);obtain ⟨x_w2,f_w2,x_wp,f_wp,x_w,f_w⟩:=zz;(try clear l_w2);have l_w2:w2.heap.size<w3.heap.size:=(by omega);(try clear l_wp);have l_wp:w.heap.size+1<w3.heap.size:=(by omega);(try clear l_w);have l_w:w.heap.size<w3.heap.size:=(by omega);have hKw3:Below w2.heap.size w2 w3:=bT bk hbw3;clear hbw3 bb bk
    simp at d1 d2
    have q1:=own_below o1 hKw3
    have q2:=own_below o2 hKw3
    have b2:=fun j (hj:(Value.slice vb c.words.length vd).ownBlock=some j)=>o2.lt j hj
    have nw1:some (w.heap.size+1)≠(Value.slice vb c.words.length vd).ownBlock:=fun e=>by have:=(b2 _ e.symm).1;omega
    have nw2:some w2.heap.size≠(Value.slice vb c.words.length vd).ownBlock:=fun e=>by have:=(b2 _ e.symm).2;omega
    have nw0:some w.heap.size≠(Value.slice vb c.words.length vd).ownBlock:=fun e=>by have:=(b2 _ e.symm).1;omega
    go_wp2_with fail
    go_region_with (first|(refine (teller1_any c v x (w2.heap.size+1) (w2.heap.size+1+1) (.slice vb c.words.length vd) w1.heap.size _ (by exact zO q2 o2) (by simpa [go_sem] using d1) (by simpa [go_sem] using d2) m2).mono ?_;rintro _ w4 ⟨rfl,p2,hg4⟩;have hsw4:=hg4.size;(try (simp at hsw4));have zz:=And.intro (fun o=>hg4.cell_far ⟨w2.heap.size,o,none⟩ (by (try simp) <;> omega) (by assumption)) <| And.intro (fun o=>hg4.frozen_far ⟨w2.heap.size,o,none⟩ (by (try simp) <;> omega) (by assumption)) <| And.intro (fun o=>hg4.cell_far ⟨w.heap.size+1,o,none⟩ (by (try simp) <;> omega) (by assumption)) <| And.intro (fun o=>hg4.frozen_far ⟨w.heap.size+1,o,none⟩ (by (try simp) <;> omega) (by assumption)) <| And.intro (fun o=>hg4.cell_far ⟨w.heap.size,o,none⟩ (by (try simp) <;> omega) (by assumption)) <| fun o=>hg4.frozen_far ⟨w.heap.size,o,none⟩ (by (try simp) <;> omega) (by assumption);(first|simp [go_sem,x_w2,f_w2,x_wp,f_wp,x_w,f_w,l_w,l_w2,l_wp] at zz|simp [go_sem,x_w2,x_wp,x_w,l_w,l_w2,l_wp] at zz|simp [go_sem] at zz|skip);(try clear x_w2 f_w2);(try clear x_wp f_wp);(try clear x_w f_w);obtain ⟨x_w2,f_w2,x_wp,f_wp,x_w,f_w⟩:=zz;(try clear l_w2);have l_w2:w2.heap.size<w4.heap.size:=(by omega);(try clear l_wp);have l_wp:w.heap.size+1<w4.heap.size:=(by omega);(try clear l_w);have l_w:w.heap.size<w4.heap.size:=(by omega);have p1:=(World.ownsRow.drew q1).kept hg4 (own_off q1 q2);have hB4:Below w.heap.size w w4:=bOwn (by exact zB) hg4 (by (try simp) <;> omega) (fun k hk=>by have:=(b2 k hk).1;omega)))
    all_goals go_wp2
    all_goals (obtain ⟨e1,e2⟩:=E.out;obtain ⟨f1,f2,f3,f4,f5⟩:=FF.out;rw [e1,e2,f1,f2,f3,f4,f5])
    all_goals (refine bodyPost_ret (v:=.tuple #[.agg #[.int .i64 c.cap,.int .i64 c.sent,.int .i64 c.got,.int .i64 c.fin,.slice va c.cells.length vc,.slice vb c.words.length vd],.bool (tellB c v x)]) (by simp [results,Try.results24,go_sem, *]) rfl ⟨⟨_,_,rfl,own_lo (lo:=w1.heap.size) ?_ (by omega),own_lo (lo:=w1.heap.size) ?_ (by omega)⟩,by exact zB⟩)
    all_goals (have P1:OCells _ _ _ _:=p1)
    all_goals first|(repeat first|with_reducible exact p2|with_reducible refine oAl ?_ _|with_reducible refine oDr ?_|((with_reducible first|refine own_store ?_ ?_ _|refine own_box ?_ ?_);rotate_left;focus first|(refine own_ne o2 ?_;(try dsimp only);omega)|(refine own_ne' o2 ?_;(try dsimp only);omega)))|skip
    all_goals first|(repeat first|with_reducible exact p1|with_reducible refine oAl ?_ _|with_reducible refine oDr ?_|((with_reducible first|refine own_store ?_ ?_ _|refine own_box ?_ ?_);rotate_left;focus first|(refine own_ne o1 ?_;(try dsimp only);omega)|(refine own_ne' o1 ?_;(try dsimp only);omega)))|skip
  · have hc2:chanOk c=false:=by simpa using hc
    obtain ⟨e1,e2⟩:=told_no (v:=v) (x:=x) hc2
    have E:=Lib.hid (And.intro e1 e2)
    clear e1 e2 hc
    go_enter Try.func24,Try.ntmps24
    go_wp2_with fail;refine bHit w (by exact zB) fun bb=>?_;refine (chanOk_any c a b p q _ ((H1.out.below bb).more bb.size) ((H2.out.below bb).more bb.size) n1 n2).mono ?_;rintro _ w1 ⟨rfl,hbw1⟩;have hCw1:Below w.heap.size w w1:=bT bb hbw1;have hsw1:=hbw1.size;(try simp at hsw1);have zz:=And.intro (fun o=>hbw1.cell (p:=⟨w.heap.size+1,o,none⟩) (by (try simp) <;> omega)) <| And.intro (fun o=>hbw1.frozen (p:=⟨w.heap.size+1,o,none⟩) (by (try simp) <;> omega)) <| And.intro (fun o=>hbw1.cell (p:=⟨w.heap.size,o,none⟩) (by (try simp) <;> omega)) <| fun o=>hbw1.frozen (p:=⟨w.heap.size,o,none⟩) (by (try simp) <;> omega);(try simp [go_sem] at zz);(try clear x_wp f_wp);(try clear x_w f_w);obtain ⟨x_wp,f_wp,x_w,f_w⟩:=zz;(try clear l_wp);have l_wp:w.heap.size+1<w1.heap.size:=(by omega);(try clear l_w);have l_w:w.heap.size<w1.heap.size:=(by omega);clear hbw1 bb
    rw [hc2]
    go_wp2
    rw [E.out.1,E.out.2]
    refine bodyPost_ret (v:=.tuple #[.agg #[.int .i64 Ch.zero.cap,.int .i64 Ch.zero.sent,.int .i64 Ch.zero.got,.int .i64 Ch.zero.fin,.slice none 0 0,.slice none 0 0],.bool false]) (by simp [results,Try.results24,go_sem,Ch.zero, *]) rfl ⟨⟨_,_,rfl,World.ownsRow_nil _ _ _ _,World.ownsRow_nil _ _ _ _⟩,by exact zB⟩
end Go.Proofs.Ytmnpgkcdfielbaa
set_option linter.unusedSimpArgs false
set_option linter.unusedVariables false
namespace Go.Proofs.Ytmnpgkcdfielbaa
open Go.RowKit
set_option linter.unusedSimpArgs false
theorem okW_chan {x:Wo} (h:worldOk x=true):chanOk x.ch=true:=by
  simp [worldOk,worldHead] at h
  exact h.1.1
theorem SegW.atS {w W:World} {x:Wo} {a b d e:Option Addr} (h:SegW w w.heap.size x a b d e) (hb:Below w.heap.size w W):SegW W W.heap.size x a b d e:=⟨(h.1.below hb).more hb.size,(h.2.1.below hb).more hb.size,(h.2.2.1.below hb).more hb.size,(h.2.2.2.below hb).more hb.size⟩
theorem flatC_atS:∀ (cs:List C3) (i j:Nat),i<cs.length→j<3→(flatC cs)[i*3+j]?=some (cellF cs i j)
  | [],i,j,hi,_=>by simp at hi
  | c :: cs,0,j,_,hj=>by
    have:j=0∨j=1∨j=2:=by omega
    rcases this with rfl|rfl|rfl <;> simp [flatC,cellF,C3.val]
  | c :: cs,i+1,j,hi,hj=>by
    have h:=flatC_atS cs i j (by simpa using hi) hj
    have e:(i+1)*3+j=(i*3+j)+3:=by omega
    rw [e]
    simpa [flatC,cellF] using h
/-- A row of cells that the call owns lies in memory as a list of cells. -/
theorem toldO_any (c:Ch) (v x:Int) (a b:Option Addr) (p q lo:Nat) (w:World) (hk:chanOk c=true) (h1:OCells w lo (.slice a c.cells.length p) c.cells) (h2:OInts w lo (.slice b c.words.length q) c.words) (m1:c.cells.length≤1099511627776) (m2:c.words.length≤1099511627776) :
    Calls Try.prog 24 #[.agg (cvals c (.slice a c.cells.length p) (.slice b c.words.length q)),.int .i64 v,.int .i64 x] w fun r w'=>(∃ y1 y2,r=.returned (.tuple #[.agg (cvals (tellC c v x) y1 y2),.bool (tellB c v x)])∧OCells w' w.heap.size y1 (tellC c v x).cells∧OInts w' w.heap.size y2 (tellC c v x).words)∧Below w.heap.size w w':=by
  obtain ⟨s1,z1,_⟩:=own_segS h1 (fun i j hi hj=>flatC_atS c.cells i j hi hj)
  obtain ⟨s2,z2,_⟩:=own_segS h2 (fun i j hi hj=>ints_at c.words i j hi hj)
  have h:=told_any c v x a b p q w s1 z1 s2 z2 m1 m2
  rw [show told c v x=tellC c v x by simp [told,hk],show toldB c v x=tellB c v x by simp [toldB,hk]] at h
  exact h
attribute [local simp] bx_size
attribute [local go_sem ↓] zeroHand toLHand toVHand toSHand storeHandC
attribute [local go_sem] runSHand
set_option maxRecDepth 100000 in
set_option maxHeartbeats 4000000 in
theorem stopI_no1 (x:Wo) (who:Int) (a b d e:Option Addr) (p q r s:Nat) (w:World) (h:SegW w w.heap.size x a b d e) (m:LenW x) (hk:worldOk x=false) :
    Calls Try.prog 7 #[.agg #[.int .i64 x.ch.cap,.int .i64 x.ch.sent,.int .i64 x.ch.got,.int .i64 x.ch.fin,.slice a x.ch.cells.length p,.slice b x.ch.words.length q,.slice d x.hands.length r,.slice e x.deals.length s,.int .i64 x.now],.int .i64 who] w fun r w'=>WordR w w' Wo.zero (.bool false) r:=by
  have HW:=Lib.hid h
  clear h
  go_enter Try.func7,Try.ntmps7
  go_wp2_with fail;refine bHit w (by exact zB) fun bb=>?_;refine (worldOkI_any x a b d e p q r s _ (HW.out.atS bb) m).mono ?_;rintro _ w1 ⟨rfl,hbw1⟩;have hCw1:Below w.heap.size w w1:=bT bb hbw1;have hsw1:=hbw1.size;(try simp at hsw1);have zz:=And.intro (hQ hbw1 (b:=w.heap.size+1)) <| hQ hbw1 (b:=w.heap.size);(try simp [go_sem] at zz);(try clear z_wp x_wp f_wp l_wp);(try clear z_w x_w f_w l_w);obtain ⟨z_wp,z_w⟩:=zz;obtain ⟨x_wp,f_wp,l_wp⟩:=bO z_wp;obtain ⟨x_w,f_w,l_w⟩:=bO z_w;clear hbw1 bb
  rw [hk]
  go_wp2
  refine bodyPost_ret (v:=.tuple #[.agg #[.int .i64 0,.int .i64 0,.int .i64 0,.int .i64 0,.slice none 0 0,.slice none 0 0,.slice none 0 0,.slice none 0 0,.int .i64 0],.bool false]) (by simp [results,Try.results7,go_sem, *]) rfl ⟨⟨_,_,_,_,rfl,wown_zero _ _⟩,by exact zB⟩
set_option maxRecDepth 100000 in
set_option maxHeartbeats 4000000 in
theorem stopI_no2 (x:Wo) (who:Int) (a b d e:Option Addr) (p q r s:Nat) (w:World) (h:SegW w w.heap.size x a b d e) (m:LenW x) (hk:worldOk x=true) (ht:taskB x.hands.length who=false) :
    Calls Try.prog 7 #[.agg #[.int .i64 x.ch.cap,.int .i64 x.ch.sent,.int .i64 x.ch.got,.int .i64 x.ch.fin,.slice a x.ch.cells.length p,.slice b x.ch.words.length q,.slice d x.hands.length r,.slice e x.deals.length s,.int .i64 x.now],.int .i64 who] w fun r w'=>WordR w w' Wo.zero (.bool false) r:=by
  have HW:=Lib.hid h
  have M3:x.hands.length≤1099511627776:=by have:=m.2.2.1;omega
  clear h
  go_enter Try.func7,Try.ntmps7
  go_wp2_with fail;refine bHit w (by exact zB) fun bb=>?_;refine (worldOkI_any x a b d e p q r s _ (HW.out.atS bb) m).mono ?_;rintro _ w1 ⟨rfl,hbw1⟩;have hCw1:Below w.heap.size w w1:=bT bb hbw1;have hsw1:=hbw1.size;(try simp at hsw1);have zz:=And.intro (hQ hbw1 (b:=w.heap.size+1)) <| hQ hbw1 (b:=w.heap.size);(try simp [go_sem] at zz);(try clear z_wp x_wp f_wp l_wp);(try clear z_w x_w f_w l_w);obtain ⟨z_wp,z_w⟩:=zz;obtain ⟨x_wp,f_wp,l_wp⟩:=bO z_wp;obtain ⟨x_w,f_w,l_w⟩:=bO z_w;clear hbw1 bb
  rw [hk]
  go_wp2_with fail
  refine (isTask_any x.hands.length who w.heap.size d r _ (by simp [*]) M3).mono ?_
  rintro _ _ ⟨rfl,rfl⟩
  rw [ht]
  go_wp2
  refine bodyPost_ret (v:=.tuple #[.agg #[.int .i64 0,.int .i64 0,.int .i64 0,.int .i64 0,.slice none 0 0,.slice none 0 0,.slice none 0 0,.slice none 0 0,.int .i64 0],.bool false]) (by simp [results,Try.results7,go_sem, *]) rfl ⟨⟨_,_,_,_,rfl,wown_zero _ _⟩,by exact zB⟩
set_option maxRecDepth 100000 in
set_option maxHeartbeats 8000000 in
theorem stopI_rest (x:Wo) (i:Nat) (a b d e:Option Addr) (p q r s:Nat) (w:World) (h:SegW w w.heap.size x a b d e) (z:NoneW x a b d e p q r s) (m:LenW x) (hk:worldOk x=true) (hi:i<x.hands.length) (hp0:((handAt x i).pos != 23)=true) :
    Calls Try.prog 7 #[.agg #[.int .i64 x.ch.cap,.int .i64 x.ch.sent,.int .i64 x.ch.got,.int .i64 x.ch.fin,.slice a x.ch.cells.length p,.slice b x.ch.words.length q,.slice d x.hands.length r,.slice e x.deals.length s,.int .i64 x.now],.int .i64 i] w fun r w'=>WordR w w' x (.bool false) r:=by
  have HW:=Lib.hid h
  have HZ:=Lib.hid z
  have M3:x.hands.length≤1099511627776:=by have:=m.2.2.1;omega
  obtain ⟨b3,o3,rfl,hb3,_⟩:∃ b o,d=some ⟨b,o,none⟩∧b<w.heap.size∧Hid (∀ i j,i<x.hands.length→j<14→w.cell? ⟨b,o+i*14+j,none⟩=some (handF x.hands i j)):=by
    rcases h.2.2.1 with h0|h0
    · omega
    · exact h0
  clear h z
  have ht:taskB x.hands.length i=true:=by simp [taskB,inB];omega
  obtain ⟨h0,hh0⟩:∃ h0,Hid (h0=handAt x i):=⟨_,rfl⟩
  rw [← hh0.out] at hp0
  have hi0:(0:Int)≤(i:Int):=by omega
  have hi1:(i:Int)<(x.hands.length:Int):=by omega
  go_enter Try.func7,Try.ntmps7
  go_wp2_with fail;refine bHit w (by exact zB) fun bb=>?_;refine (worldOkI_any x a b _ e p q r s _ (HW.out.atS bb) m).mono ?_;rintro _ w1 ⟨rfl,hbw1⟩;have hCw1:Below w.heap.size w w1:=bT bb hbw1;have hsw1:=hbw1.size;(try simp at hsw1);have zz:=And.intro (hQ hbw1 (b:=w.heap.size+1)) <| hQ hbw1 (b:=w.heap.size);(try simp [go_sem] at zz);(try clear z_wp x_wp f_wp l_wp);(try clear z_w x_w f_w l_w);obtain ⟨z_wp,z_w⟩:=zz;obtain ⟨x_wp,f_wp,l_wp⟩:=bO z_wp;obtain ⟨x_w,f_w,l_w⟩:=bO z_w;clear hbw1 bb
  rw [hk]
  go_wp2_with fail
  refine (isTask_any x.hands.length i w.heap.size (some ⟨b3,o3,none⟩) r _ (by simp [*]) M3).mono ?_
  rintro _ _ ⟨rfl,rfl⟩
  rw [ht]
  go_wp2_with fail;refine bHit w (by exact zB) fun bb=>?_;refine (owned_any x a b _ e p q r s _ (HW.out.atS bb) HZ.out m).mono ?_;rintro _ w3 ⟨⟨B,v1,v2,v3,v4,rfl,hBlo,z_B,o1,o2,o3x,o4⟩,hbw3⟩;have hCw3:Below w.heap.size w w3:=bT bb hbw3;have hsw3:=hbw3.size;(try simp at hsw3);have zz:=And.intro (hQ hbw3 (b:=w.heap.size+1)) <| hQ hbw3 (b:=w.heap.size);(first|simp [go_sem,z_wp,z_w,l_w,l_wp] at zz|simp [go_sem] at zz|skip);(try clear z_wp x_wp f_wp l_wp);(try clear z_w x_w f_w l_w);obtain ⟨z_wp,z_w⟩:=zz;obtain ⟨x_wp,f_wp,l_wp⟩:=bO z_wp;obtain ⟨x_w,f_w,l_w⟩:=bO z_w;clear hbw3 bb
  obtain ⟨va,vc,rfl,_⟩:=OCells.seg o1
  obtain ⟨vb,vd,rfl,_⟩:=OInts.seg o2
  obtain ⟨g,vg,rfl,hglo,lg,hgc,hgf⟩:=OHands.open1 o3x hi
  obtain ⟨vh,vi,rfl,_⟩:=ODeals.seg o4
  have hLd:(LHand (.pointer (some ⟨g,i*14,none⟩))).run Try.prog w3=.ok (.agg (hvals h0)) w3:=by rw [o3x.ldAt hi,hh0.out];simp [handAt]
  have lB3:B<w3.heap.size:=(bO z_B).2.2
  obtain ⟨x_B,f_B,l_B⟩:=bO z_B
  simp only [wvals] at x_B
  clear hgc hgf
  go_wp2
  refine bodyPost_ret (v:=.tuple #[.agg #[.int .i64 x.ch.cap,.int .i64 x.ch.sent,.int .i64 x.ch.got,.int .i64 x.ch.fin,.slice va x.ch.cells.length vc,.slice vb x.ch.words.length vd,.slice (some ⟨g,0,none⟩) x.hands.length vg,.slice vh x.deals.length vi,.int .i64 x.now],.bool false]) (by simp [results,Try.results7,go_sem, *]) rfl ⟨⟨_,_,_,_,rfl,own_lo (lo:=w1.heap.size) (own_below (by (repeat (first|with_reducible exact o1|((with_reducible refine own_store ?_ ?_ _);rotate_left;(focus exact fun e9=>own_offs o1 z_wp (by decide) _ e9 rfl))))) (belowAlloc _ _)) (by omega),own_lo (lo:=w1.heap.size) (own_below (by (repeat (first|with_reducible exact o2|((with_reducible refine own_store ?_ ?_ _);rotate_left;(focus exact fun e9=>own_offs o2 z_wp (by decide) _ e9 rfl))))) (belowAlloc _ _)) (by omega),own_lo (lo:=w1.heap.size) (own_below (by (repeat (first|with_reducible exact o3x|((with_reducible refine own_store ?_ ?_ _);rotate_left;(focus exact fun e9=>own_offs o3x z_wp (by decide) _ e9 rfl))))) (belowAlloc _ _)) (by omega),own_lo (lo:=w1.heap.size) (own_below (by (repeat (first|with_reducible exact o4|((with_reducible refine own_store ?_ ?_ _);rotate_left;(focus exact fun e9=>own_offs o4 z_wp (by decide) _ e9 rfl))))) (belowAlloc _ _)) (by omega)⟩,by exact zB⟩
attribute [local simp] bx_size
attribute [local go_sem ↓] zeroHand zeroChan toLHand toLChan toVHand toVChan storeHand storeChan storeHandC storeChanC
set_option maxRecDepth 100000 in
set_option maxHeartbeats 8000000 in
theorem stopI_yes (x:Wo) (i:Nat) (a b d e:Option Addr) (p q r s:Nat) (w:World) (h:SegW w w.heap.size x a b d e) (z:NoneW x a b d e p q r s) (m:LenW x) (hk:worldOk x=true) (hi:i<x.hands.length) (hp0:((handAt x i).pos != 23)=false) :
    Calls Try.prog 7 #[.agg #[.int .i64 x.ch.cap,.int .i64 x.ch.sent,.int .i64 x.ch.got,.int .i64 x.ch.fin,.slice a x.ch.cells.length p,.slice b x.ch.words.length q,.slice d x.hands.length r,.slice e x.deals.length s,.int .i64 x.now],.int .i64 i] w fun r w'=>WordR w w' { x with ch:=tellC x.ch (handAt x i).mine 2 } (.bool (tellB x.ch (handAt x i).mine 2)) r:=by
  have HW:=Lib.hid h
  have HZ:=Lib.hid z
  have M3:x.hands.length≤1099511627776:=by have:=m.2.2.1;omega
  obtain ⟨b3,o3,rfl,hb3,_⟩:∃ b o,d=some ⟨b,o,none⟩∧b<w.heap.size∧Hid (∀ i j,i<x.hands.length→j<14→w.cell? ⟨b,o+i*14+j,none⟩=some (handF x.hands i j)):=by
    rcases h.2.2.1 with h0|h0
    · omega
    · exact h0
  clear h z
  have ht:taskB x.hands.length i=true:=by simp [taskB,inB];omega
  obtain ⟨h0,hh0⟩:∃ h0,Hid (h0=handAt x i):=⟨_,rfl⟩
  rw [← hh0.out] at hp0
  have hi0:(0:Int)≤(i:Int):=by omega
  have hi1:(i:Int)<(x.hands.length:Int):=by omega
  rw [← hh0.out]
  obtain ⟨T,hT⟩:∃ T,Hid (T=tellC x.ch h0.mine 2):=⟨_,rfl⟩
  obtain ⟨tb,htb⟩:∃ tb,Hid (tb=tellB x.ch h0.mine 2):=⟨_,rfl⟩
  rw [← hT.out,← htb.out]
  have hck:=okW_chan hk
  have HTA:Hid (∀ (W:World) (a b:Option Addr) (p q lo:Nat),OCells W lo (.slice a x.ch.cells.length p) x.ch.cells→OInts W lo (.slice b x.ch.words.length q) x.ch.words→Calls Try.prog 24 #[.agg (cvals x.ch (.slice a x.ch.cells.length p) (.slice b x.ch.words.length q)),.int .i64 h0.mine,.int .i64 2] W fun r w'=>(∃ y1 y2,r=.returned (.tuple #[.agg (cvals T y1 y2),.bool tb])∧OCells w' W.heap.size y1 T.cells∧OInts w' W.heap.size y2 T.words)∧Below W.heap.size W w'):=fun W a b p q lo k1 k2=>by rw [hT.out,htb.out];exact toldO_any x.ch h0.mine 2 a b p q lo W hck k1 k2 (by have:=m.1;omega) (by have:=m.2.1;omega)
  clear hck hT htb
  go_enter Try.func7,Try.ntmps7
  go_wp2_with fail;refine bHit w (by exact zB) fun bb=>?_;refine (worldOkI_any x a b _ e p q r s _ (HW.out.atS bb) m).mono ?_;rintro _ w1 ⟨rfl,hbw1⟩;have hCw1:Below w.heap.size w w1:=bT bb hbw1;have hsw1:=hbw1.size;(try simp at hsw1);have zz:=And.intro (hQ hbw1 (b:=w.heap.size+1)) <| hQ hbw1 (b:=w.heap.size);(try simp [go_sem] at zz);(try clear z_wp x_wp f_wp l_wp);(try clear z_w x_w f_w l_w);obtain ⟨z_wp,z_w⟩:=zz;obtain ⟨x_wp,f_wp,l_wp⟩:=bO z_wp;obtain ⟨x_w,f_w,l_w⟩:=bO z_w;clear hbw1 bb
  rw [hk]
  go_wp2_with fail
  refine (isTask_any x.hands.length i w.heap.size (some ⟨b3,o3,none⟩) r _ (by simp [*]) M3).mono ?_
  rintro _ _ ⟨rfl,rfl⟩
  rw [ht]
  go_wp2_with fail;refine bHit w (by exact zB) fun bb=>?_;refine (owned_any x a b _ e p q r s _ (HW.out.atS bb) HZ.out m).mono ?_;rintro _ w3 ⟨⟨B,v1,v2,v3,v4,rfl,hBlo,z_B,o1,o2,o3x,o4⟩,hbw3⟩;have hCw3:Below w.heap.size w w3:=bT bb hbw3;have hsw3:=hbw3.size;(try simp at hsw3);have zz:=And.intro (hQ hbw3 (b:=w.heap.size+1)) <| hQ hbw3 (b:=w.heap.size);(first|simp [go_sem,z_wp,z_w,l_w,l_wp] at zz|simp [go_sem] at zz|skip);(try clear z_wp x_wp f_wp l_wp);(try clear z_w x_w f_w l_w);obtain ⟨z_wp,z_w⟩:=zz;obtain ⟨x_wp,f_wp,l_wp⟩:=bO z_wp;obtain ⟨x_w,f_w,l_w⟩:=bO z_w;clear hbw3 bb
  obtain ⟨va,vc,rfl,_⟩:=OCells.seg o1
  obtain ⟨vb,vd,rfl,_⟩:=OInts.seg o2
  obtain ⟨g,vg,rfl,hglo,lg,hgc,hgf⟩:=OHands.open1 o3x hi
  obtain ⟨vh,vi,rfl,_⟩:=ODeals.seg o4
  have hLd:(LHand (.pointer (some ⟨g,i*14,none⟩))).run Try.prog w3=.ok (.agg (hvals h0)) w3:=by rw [o3x.ldAt hi,hh0.out];simp [handAt]
  have lB3:B<w3.heap.size:=(bO z_B).2.2
  obtain ⟨x_B,f_B,l_B⟩:=bO z_B
  simp only [wvals] at x_B
  clear hgc hgf
  go_wp2_with fail
  generalize hw5:World.alloc w3 _=w5
  have z_h:hp w5 w3.heap.size=some (.cells (hvals h0) 53):=by rw [← hw5];exact heap_alloc_new _ _
  have hb5:Below w3.heap.size w3 w5:=by rw [← hw5];exact belowAlloc _ _
  have hs5:w5.heap.size=w3.heap.size+1:=by rw [← hw5];exact alloc_sz _ _
  replace z_wp:=hpS z_wp hb5
  replace z_B:=hpS z_B hb5
  replace o1:=own_below o1 hb5
  replace o2:=own_below o2 hb5
  replace o3x:=own_below o3x hb5
  replace o4:=own_below o4 hb5
  clear hw5 hLd x_B f_B l_B x_w x_wp f_w f_wp
  have O1:=Lib.hid o1
  have O2:=Lib.hid o2
  have z_B5:=z_B
  have HTO:=Lib.hid fun W k1 k2=>HTA.out W va vb vc vd w1.heap.size k1 k2
  clear HTA
  refine wp_region_inv [[],[0],[0,1],[0,1,2],[],[4],[0,1,2,3,4,5],[0,1,2,3,4,5,6],[0,1,2,3,4,5,6,7],[0,1,2,3,4,5,6,7],[],[0,1,2,3,4,5,6,7,8,10],[0,1,2,3,4,5,6,7,9]] [35,36,37,38,39,40,41,34,42,43,8,9] (fun l s wx=>(Below w5.heap.size w5 wx)∧(l 0=true→s 35=.pointer (some ⟨B,0,none⟩))∧(l 1=true→s 36=.pointer (some ⟨B,0,none⟩))∧(l 2=true→s 37=.pointer (some ⟨B,0,none⟩))∧(l 3=true→s 38=.agg (cvals x.ch (.slice va x.ch.cells.length vc) (.slice vb x.ch.words.length vd)))∧(l 4=true→s 39=.pointer (some ⟨w3.heap.size,9,none⟩))∧(l 5=true→s 40=.int .i64 h0.mine)∧(l 6=true→s 41=.tuple #[.agg (cvals T (s 1003) (s 1004)),.bool tb]∧OCells wx w5.heap.size (s 1003) T.cells∧OInts wx w5.heap.size (s 1004) T.words)∧(l 7=true→s 34=.tuple #[.agg (cvals T (s 1003) (s 1004)),.bool tb])∧(l 8=true→s 42=.agg (cvals T (s 1003) (s 1004)))∧(l 9=true→s 43=.bool tb)∧(l 10=true→IsBox wx (s 8) w5.heap.size (cond (l 11) (cvals T (s 1003) (s 1004)) (cvals Ch.zero (.slice none 0 0) (.slice none 0 0))) 33)∧(l 12=true→s 9=.bool tb)) (by kernel_rfl) (by kernel_rfl) (by kernel_rfl) (fun s=>by (simp only [fill,fillA,List.setIfInBounds_toArray,List.set_cons_zero,List.set_cons_succ];rfl)) (fun s=>⟨(Below.refl _ _).drew,fun h=>absurd h Bool.false_ne_true,fun h=>absurd h Bool.false_ne_true,fun h=>absurd h Bool.false_ne_true,fun h=>absurd h Bool.false_ne_true,fun h=>absurd h Bool.false_ne_true,fun h=>absurd h Bool.false_ne_true,fun h=>absurd h Bool.false_ne_true,fun h=>absurd h Bool.false_ne_true,fun h=>absurd h Bool.false_ne_true,fun h=>absurd h Bool.false_ne_true,fun h=>absurd h Bool.false_ne_true,fun h=>absurd h Bool.false_ne_true⟩) ?_ ?_
  refine ⟨?_,?_,?_,?_,?_,?_,?_,?_,?_,?_,?_,?_,?_,trivial⟩;rotate_left 13
  · intro l s w8 hall hf
    have hb8:=hf.1
    obtain ⟨-,oX1,oX2⟩:=(hf.2.2.2.2.2.2.2.1 (hall 6 rfl))
    obtain ⟨gc,ea,hgc2,z_gc⟩:=(hf.2.2.2.2.2.2.2.2.2.2.2.1 (hall 10 rfl))
    have ec:=(hf.2.2.2.2.2.2.2.2.2.2.2.2 (hall 12 rfl))
    rw [hall 11 rfl] at z_gc
    dsimp only [cond] at z_gc
    simp only [ea,ec]
    clear ea ec hf hall
    generalize s 1003=y1 at *
    generalize s 1004=y2 at *
    replace z_wp:=hpS z_wp hb8
    replace z_B:=hpS z_B hb8
    replace o3x:=own_below o3x hb8
    replace o4:=own_below o4 hb8
    have hB8:Below w3.heap.size w3 w8:=bT hb5 hb8
    have hs8:=hb8.size
    clear z_B5 O1 O2 HTO z_h o1 o2
    obtain ⟨xa,xp,rfl,_⟩:=OCells.seg oX1
    obtain ⟨xb,xq,rfl,_⟩:=OInts.seg oX2
    have hS:=stChanW z_B T xa xb T.cells.length xp T.words.length xq
    obtain ⟨w9,hw9⟩:∃ w9,w9=stC w8 B T (.slice xa T.cells.length xp) (.slice xb T.words.length xq):=⟨_,rfl⟩
    have gr:=stC_gr w8 B T (.slice xa T.cells.length xp) (.slice xb T.words.length xq)
    have z_B9:=stC_hp z_B T (.slice xa T.cells.length xp) (.slice xb T.words.length xq)
    rw [← hw9] at hS gr z_B9
    clear hw9
    have r1:=World.ownsRow.kept oX1 gr (.inr fun e9=>own_offs oX1 z_B (by decide) _ e9 rfl)
    have r2:=World.ownsRow.kept oX2 gr (.inr fun e9=>own_offs oX2 z_B (by decide) _ e9 rfl)
    have r3:=World.ownsRow.kept o3x gr (.inr fun e9=>own_offs o3x z_B (by decide) _ e9 rfl)
    have r4:=World.ownsRow.kept o4 gr (.inr fun e9=>own_offs o4 z_B (by decide) _ e9 rfl)
    have n1:B≠w.heap.size+1:=by omega
    have z_r:=(grHp gr (bO z_wp).2.2 (by simp;omega)).trans z_wp
    have hs9:=gr.size
    have hB9:Below w.heap.size w w9:=bOwn (bT hCw3 hB8) gr (by omega) (fun k hk=>by simp at hk;omega)
    clear gr oX1 oX2 o3x o4
    obtain ⟨x_gc,f_gc,l_gc⟩:=bO z_gc
    obtain ⟨x_B8,f_B8,l_B8⟩:=bO z_B
    obtain ⟨x_B9,f_B9,l_B9⟩:=bO z_B9
    obtain ⟨x_r,f_r,l_r⟩:=bO z_r
    simp only [wvals] at x_B9
    go_wp2
    refine bodyPost_ret (v:=.tuple #[.agg #[.int .i64 T.cap,.int .i64 T.sent,.int .i64 T.got,.int .i64 T.fin,(.slice xa T.cells.length xp),(.slice xb T.words.length xq),.slice (some ⟨g,0,none⟩) x.hands.length vg,.slice vh x.deals.length vi,.int .i64 x.now],.bool tb]) (by simp [results,Try.results7,go_sem, *]) rfl ⟨⟨_,_,_,_,rfl,own_lo (lo:=w5.heap.size) (by (repeat (first|with_reducible exact r1|((with_reducible refine own_store ?_ ?_ _);rotate_left;(focus exact fun e9=>own_offs r1 z_r (by decide) _ e9 rfl))))) (by omega),own_lo (lo:=w5.heap.size) (by (repeat (first|with_reducible exact r2|((with_reducible refine own_store ?_ ?_ _);rotate_left;(focus exact fun e9=>own_offs r2 z_r (by decide) _ e9 rfl))))) (by omega),own_lo (lo:=w1.heap.size) (by (repeat (first|with_reducible exact r3|((with_reducible refine own_store ?_ ?_ _);rotate_left;(focus exact fun e9=>own_offs r3 z_r (by decide) _ e9 rfl))))) (by omega),own_lo (lo:=w1.heap.size) (by (repeat (first|with_reducible exact r4|((with_reducible refine own_store ?_ ?_ _);rotate_left;(focus exact fun e9=>own_offs r4 z_r (by decide) _ e9 rfl))))) (by omega)⟩,by exact zB⟩
  · intro l s wx hl hd hn hf0 K hK
    have hf:=Lib.hid hf0
    clear hf0
    go_simp
    refine hK.out (upd s 35 (.pointer (some ⟨B,0,none⟩))) _ _ (by simp [upd_at] <;> rfl) ⟨hf.out.1,fun _=>rfl,fun h=>absurd h (by rw [show upd l 0 true 1=l 1 from rfl,hn 1 rfl];exact Bool.false_ne_true),fun h=>absurd h (by rw [show upd l 0 true 2=l 2 from rfl,hn 2 rfl];exact Bool.false_ne_true),fun h=>absurd h (by rw [show upd l 0 true 3=l 3 from rfl,hn 3 rfl];exact Bool.false_ne_true),fun h=>(hf.out.2.2.2.2.2.1 h),fun h=>(hf.out.2.2.2.2.2.2.1 h),fun h=>absurd h (by rw [show upd l 0 true 6=l 6 from rfl,hn 6 rfl];exact Bool.false_ne_true),fun h=>absurd h (by rw [show upd l 0 true 7=l 7 from rfl,hn 7 rfl];exact Bool.false_ne_true),fun h=>absurd h (by rw [show upd l 0 true 8=l 8 from rfl,hn 8 rfl];exact Bool.false_ne_true),fun h=>absurd h (by rw [show upd l 0 true 9=l 9 from rfl,hn 9 rfl];exact Bool.false_ne_true),fun h=>(hf.out.2.2.2.2.2.2.2.2.2.2.2.1 h),fun h=>absurd h (by rw [show upd l 0 true 12=l 12 from rfl,hn 12 rfl];exact Bool.false_ne_true)⟩
  · intro l s wx hl hd hn hf0 K hK
    have hf:=Lib.hid hf0
    clear hf0
    have e0:=(hf.out.2.1 (hd 0 rfl))
    go_simp
    refine hK.out (upd s 36 (.pointer (some ⟨B,0,none⟩))) _ _ (by simp [upd_at,e0] <;> rfl) ⟨hf.out.1,fun h=>(hf.out.2.1 h),fun _=>rfl,fun h=>absurd h (by rw [show upd l 1 true 2=l 2 from rfl,hn 2 rfl];exact Bool.false_ne_true),fun h=>absurd h (by rw [show upd l 1 true 3=l 3 from rfl,hn 3 rfl];exact Bool.false_ne_true),fun h=>(hf.out.2.2.2.2.2.1 h),fun h=>(hf.out.2.2.2.2.2.2.1 h),fun h=>absurd h (by rw [show upd l 1 true 6=l 6 from rfl,hn 6 rfl];exact Bool.false_ne_true),fun h=>absurd h (by rw [show upd l 1 true 7=l 7 from rfl,hn 7 rfl];exact Bool.false_ne_true),fun h=>absurd h (by rw [show upd l 1 true 8=l 8 from rfl,hn 8 rfl];exact Bool.false_ne_true),fun h=>absurd h (by rw [show upd l 1 true 9=l 9 from rfl,hn 9 rfl];exact Bool.false_ne_true),fun h=>(hf.out.2.2.2.2.2.2.2.2.2.2.2.1 h),fun h=>absurd h (by rw [show upd l 1 true 12=l 12 from rfl,hn 12 rfl];exact Bool.false_ne_true)⟩
  · intro l s wx hl hd hn hf0 K hK
    have hf:=Lib.hid hf0
    clear hf0
    have e1:=(hf.out.2.2.1 (hd 1 rfl))
    go_simp
    refine hK.out (upd s 37 (.pointer (some ⟨B,0,none⟩))) _ _ (by simp [upd_at,e1] <;> rfl) ⟨hf.out.1,fun h=>(hf.out.2.1 h),fun h=>(hf.out.2.2.1 h),fun _=>rfl,fun h=>absurd h (by rw [show upd l 2 true 3=l 3 from rfl,hn 3 rfl];exact Bool.false_ne_true),fun h=>(hf.out.2.2.2.2.2.1 h),fun h=>(hf.out.2.2.2.2.2.2.1 h),fun h=>absurd h (by rw [show upd l 2 true 6=l 6 from rfl,hn 6 rfl];exact Bool.false_ne_true),fun h=>absurd h (by rw [show upd l 2 true 7=l 7 from rfl,hn 7 rfl];exact Bool.false_ne_true),fun h=>absurd h (by rw [show upd l 2 true 8=l 8 from rfl,hn 8 rfl];exact Bool.false_ne_true),fun h=>absurd h (by rw [show upd l 2 true 9=l 9 from rfl,hn 9 rfl];exact Bool.false_ne_true),fun h=>(hf.out.2.2.2.2.2.2.2.2.2.2.2.1 h),fun h=>absurd h (by rw [show upd l 2 true 12=l 12 from rfl,hn 12 rfl];exact Bool.false_ne_true)⟩
  · intro l s wx hl hd hn hf0 K hK
    have hf:=Lib.hid hf0
    clear hf0
    have e2:=(hf.out.2.2.2.1 (hd 2 rfl))
    have hL:=ldChanW (hpS z_B5 hf.out.1)
    go_simp
    refine hK.out (upd s 38 (.agg (cvals x.ch (.slice va x.ch.cells.length vc) (.slice vb x.ch.words.length vd)))) _ _ (by simp [upd_at,e2] <;> rfl) ⟨hf.out.1,fun h=>(hf.out.2.1 h),fun h=>(hf.out.2.2.1 h),fun h=>(hf.out.2.2.2.1 h),fun _=>rfl,fun h=>(hf.out.2.2.2.2.2.1 h),fun h=>(hf.out.2.2.2.2.2.2.1 h),fun h=>absurd h (by rw [show upd l 3 true 6=l 6 from rfl,hn 6 rfl];exact Bool.false_ne_true),fun h=>absurd h (by rw [show upd l 3 true 7=l 7 from rfl,hn 7 rfl];exact Bool.false_ne_true),fun h=>absurd h (by rw [show upd l 3 true 8=l 8 from rfl,hn 8 rfl];exact Bool.false_ne_true),fun h=>absurd h (by rw [show upd l 3 true 9=l 9 from rfl,hn 9 rfl];exact Bool.false_ne_true),fun h=>(hf.out.2.2.2.2.2.2.2.2.2.2.2.1 h),fun h=>absurd h (by rw [show upd l 3 true 12=l 12 from rfl,hn 12 rfl];exact Bool.false_ne_true)⟩
  · intro l s wx hl hd hn hf0 K hK
    have hf:=Lib.hid hf0
    clear hf0
    go_simp
    refine hK.out (upd s 39 (.pointer (some ⟨w3.heap.size,9,none⟩))) _ _ (by simp [upd_at] <;> rfl) ⟨hf.out.1,fun h=>(hf.out.2.1 h),fun h=>(hf.out.2.2.1 h),fun h=>(hf.out.2.2.2.1 h),fun h=>(hf.out.2.2.2.2.1 h),fun _=>rfl,fun h=>absurd h (by rw [show upd l 4 true 5=l 5 from rfl,hn 5 rfl];exact Bool.false_ne_true),fun h=>absurd h (by rw [show upd l 4 true 6=l 6 from rfl,hn 6 rfl];exact Bool.false_ne_true),fun h=>absurd h (by rw [show upd l 4 true 7=l 7 from rfl,hn 7 rfl];exact Bool.false_ne_true),fun h=>absurd h (by rw [show upd l 4 true 8=l 8 from rfl,hn 8 rfl];exact Bool.false_ne_true),fun h=>absurd h (by rw [show upd l 4 true 9=l 9 from rfl,hn 9 rfl];exact Bool.false_ne_true),fun h=>(hf.out.2.2.2.2.2.2.2.2.2.2.2.1 h),fun h=>absurd h (by rw [show upd l 4 true 12=l 12 from rfl,hn 12 rfl];exact Bool.false_ne_true)⟩
  · intro l s wx hl hd hn hf0 K hK
    have hf:=Lib.hid hf0
    clear hf0
    have e4:=(hf.out.2.2.2.2.2.1 (hd 4 rfl))
    have z:=(bO (hpS z_h hf.out.1)).1 9
    simp [hvals] at z
    go_simp
    refine hK.out (upd s 40 (.int .i64 h0.mine)) _ _ (by simp [upd_at,e4] <;> rfl) ⟨hf.out.1,fun h=>(hf.out.2.1 h),fun h=>(hf.out.2.2.1 h),fun h=>(hf.out.2.2.2.1 h),fun h=>(hf.out.2.2.2.2.1 h),fun h=>(hf.out.2.2.2.2.2.1 h),fun _=>rfl,fun h=>absurd h (by rw [show upd l 5 true 6=l 6 from rfl,hn 6 rfl];exact Bool.false_ne_true),fun h=>absurd h (by rw [show upd l 5 true 7=l 7 from rfl,hn 7 rfl];exact Bool.false_ne_true),fun h=>absurd h (by rw [show upd l 5 true 8=l 8 from rfl,hn 8 rfl];exact Bool.false_ne_true),fun h=>absurd h (by rw [show upd l 5 true 9=l 9 from rfl,hn 9 rfl];exact Bool.false_ne_true),fun h=>(hf.out.2.2.2.2.2.2.2.2.2.2.2.1 h),fun h=>absurd h (by rw [show upd l 5 true 12=l 12 from rfl,hn 12 rfl];exact Bool.false_ne_true)⟩
  · intro l s wx hl hd hn hf0 K hK
    have hf:=Lib.hid hf0
    clear hf0
    have e3:=(hf.out.2.2.2.2.1 (hd 3 rfl))
    have e5:=(hf.out.2.2.2.2.2.2.1 (hd 5 rfl))
    go_simp
    go_at_call 24
    refine (HTO.out _ (own_below O1.out hf.out.1) (own_below O2.out hf.out.1)).mono ?_
    rintro _ wy ⟨⟨y1,y2,rfl,X1,X2⟩,hE⟩
    refine hK.out (upd (upd (upd s 1003 (y1)) 1004 (y2)) 41 (.tuple #[.agg (cvals T y1 y2),.bool tb])) _ _ (by simp [upd_at,e3,e5] <;> rfl) ⟨bT hf.out.1 hE,fun h=>(hf.out.2.1 h),fun h=>(hf.out.2.2.1 h),fun h=>(hf.out.2.2.2.1 h),fun h=>(hf.out.2.2.2.2.1 h),fun h=>(hf.out.2.2.2.2.2.1 h),fun h=>(hf.out.2.2.2.2.2.2.1 h),fun _=>⟨rfl,own_lo X1 (Below.size hf.out.1),own_lo X2 (Below.size hf.out.1)⟩,fun h=>absurd h (by rw [show upd l 6 true 7=l 7 from rfl,hn 7 rfl];exact Bool.false_ne_true),fun h=>absurd h (by rw [show upd l 6 true 8=l 8 from rfl,hn 8 rfl];exact Bool.false_ne_true),fun h=>absurd h (by rw [show upd l 6 true 9=l 9 from rfl,hn 9 rfl];exact Bool.false_ne_true),fun h=>by (have ee:l 11=false:=hn 11 rfl);(have F:=hf.out.2.2.2.2.2.2.2.2.2.2.2.1 h);rw [ee] at F;rw [show upd l 6 true 11=false from ee];exact F.below hE,fun h=>absurd h (by rw [show upd l 6 true 12=l 12 from rfl,hn 12 rfl];exact Bool.false_ne_true)⟩
  · intro l s wx hl hd hn hf0 K hK
    have hf:=Lib.hid hf0
    clear hf0
    have e6:=(hf.out.2.2.2.2.2.2.2.1 (hd 6 rfl)).1
    go_simp
    refine hK.out (upd s 34 (.tuple #[.agg (cvals T (s 1003) (s 1004)),.bool tb])) _ _ (by simp [upd_at,e6] <;> rfl) ⟨hf.out.1,fun h=>(hf.out.2.1 h),fun h=>(hf.out.2.2.1 h),fun h=>(hf.out.2.2.2.1 h),fun h=>(hf.out.2.2.2.2.1 h),fun h=>(hf.out.2.2.2.2.2.1 h),fun h=>(hf.out.2.2.2.2.2.2.1 h),fun h=>(hf.out.2.2.2.2.2.2.2.1 h),fun _=>rfl,fun h=>absurd h (by rw [show upd l 7 true 8=l 8 from rfl,hn 8 rfl];exact Bool.false_ne_true),fun h=>absurd h (by rw [show upd l 7 true 9=l 9 from rfl,hn 9 rfl];exact Bool.false_ne_true),fun h=>(hf.out.2.2.2.2.2.2.2.2.2.2.2.1 h),fun h=>absurd h (by rw [show upd l 7 true 12=l 12 from rfl,hn 12 rfl];exact Bool.false_ne_true)⟩
  · intro l s wx hl hd hn hf0 K hK
    have hf:=Lib.hid hf0
    clear hf0
    have e7:=(hf.out.2.2.2.2.2.2.2.2.1 (hd 7 rfl))
    go_simp
    refine hK.out (upd s 42 (.agg (cvals T (s 1003) (s 1004)))) _ _ (by simp [upd_at,e7] <;> rfl) ⟨hf.out.1,fun h=>(hf.out.2.1 h),fun h=>(hf.out.2.2.1 h),fun h=>(hf.out.2.2.2.1 h),fun h=>(hf.out.2.2.2.2.1 h),fun h=>(hf.out.2.2.2.2.2.1 h),fun h=>(hf.out.2.2.2.2.2.2.1 h),fun h=>(hf.out.2.2.2.2.2.2.2.1 h),fun h=>(hf.out.2.2.2.2.2.2.2.2.1 h),fun _=>rfl,fun h=>(hf.out.2.2.2.2.2.2.2.2.2.2.1 h),fun h=>(hf.out.2.2.2.2.2.2.2.2.2.2.2.1 h),fun h=>(hf.out.2.2.2.2.2.2.2.2.2.2.2.2 h)⟩
  · intro l s wx hl hd hn hf0 K hK
    have hf:=Lib.hid hf0
    clear hf0
    have e7:=(hf.out.2.2.2.2.2.2.2.2.1 (hd 7 rfl))
    go_simp
    refine hK.out (upd s 43 (.bool tb)) _ _ (by simp [upd_at,e7] <;> rfl) ⟨hf.out.1,fun h=>(hf.out.2.1 h),fun h=>(hf.out.2.2.1 h),fun h=>(hf.out.2.2.2.1 h),fun h=>(hf.out.2.2.2.2.1 h),fun h=>(hf.out.2.2.2.2.2.1 h),fun h=>(hf.out.2.2.2.2.2.2.1 h),fun h=>(hf.out.2.2.2.2.2.2.2.1 h),fun h=>(hf.out.2.2.2.2.2.2.2.2.1 h),fun h=>(hf.out.2.2.2.2.2.2.2.2.2.1 h),fun _=>rfl,fun h=>(hf.out.2.2.2.2.2.2.2.2.2.2.2.1 h),fun h=>absurd h (by rw [show upd l 9 true 12=l 12 from rfl,hn 12 rfl];exact Bool.false_ne_true)⟩
  · intro l s wx hl hd hn hf0 K hK
    have hf:=Lib.hid hf0
    clear hf0
    go_simp
    refine hK.out (upd s 8 (.pointer (some ⟨wx.heap.size,0,none⟩))) _ _ (by simp [upd_at] <;> rfl) ⟨bT hf.out.1 (belowAlloc _ _),fun h=>(hf.out.2.1 h),fun h=>(hf.out.2.2.1 h),fun h=>(hf.out.2.2.2.1 h),fun h=>(hf.out.2.2.2.2.1 h),fun h=>(hf.out.2.2.2.2.2.1 h),fun h=>(hf.out.2.2.2.2.2.2.1 h),fun h=>(let ⟨e,X1,X2⟩:=(hf.out.2.2.2.2.2.2.2.1 h);⟨e,own_below X1 (belowAlloc _ _),own_below X2 (belowAlloc _ _)⟩),fun h=>(hf.out.2.2.2.2.2.2.2.2.1 h),fun h=>(hf.out.2.2.2.2.2.2.2.2.2.1 h),fun h=>(hf.out.2.2.2.2.2.2.2.2.2.2.1 h),fun _=>by rw [show upd l 10 true 11=false from hn 11 rfl];exact IsBox.new (Below.size hf.out.1),fun h=>(hf.out.2.2.2.2.2.2.2.2.2.2.2.2 h)⟩
  · intro l s wx hl hd hn hf0 K hK
    have hf:=Lib.hid hf0
    clear hf0
    have e8:=(hf.out.2.2.2.2.2.2.2.2.2.1 (hd 8 rfl))
    have e6:=(hf.out.2.2.2.2.2.2.2.1 (hd 6 rfl))
    have X1:=e6.2.1
    have X2:=e6.2.2
    clear e6
    obtain ⟨bb,eb,hlo,zb⟩:=(hf.out.2.2.2.2.2.2.2.2.2.2.2.1 (hd 10 rfl))
    rw [hl] at zb
    dsimp only [cond] at zb
    obtain ⟨xa,xp,ea,_⟩:=X1.seg
    obtain ⟨xb,xq,eb2,_⟩:=X2.seg
    rw [ea,eb2] at e8
    have zn:hp (setBox wx bb (cvals T (.slice xa T.cells.length xp) (.slice xb T.words.length xq))) bb=some (.cells (cvals T (s 1003) (s 1004)) 33):=by rw [ea,eb2];exact hp_set zb
    go_simp
    refine hK.out (s) _ _ (by simp [upd_at,eb,e8,ea,eb2] <;> rfl) ⟨bBx hf.out.1 hlo,fun h=>(hf.out.2.1 h),fun h=>(hf.out.2.2.1 h),fun h=>(hf.out.2.2.2.1 h),fun h=>(hf.out.2.2.2.2.1 h),fun h=>(hf.out.2.2.2.2.2.1 h),fun h=>(hf.out.2.2.2.2.2.2.1 h),fun h=>⟨(hf.out.2.2.2.2.2.2.2.1 h).1,own_far (hf.out.2.2.2.2.2.2.2.1 h).2.1 zb (by decide),own_far (hf.out.2.2.2.2.2.2.2.1 h).2.2 zb (by decide)⟩,fun h=>(hf.out.2.2.2.2.2.2.2.2.1 h),fun h=>(hf.out.2.2.2.2.2.2.2.2.2.1 h),fun h=>(hf.out.2.2.2.2.2.2.2.2.2.2.1 h),fun _=>⟨bb,eb,hlo,zn⟩,fun h=>(hf.out.2.2.2.2.2.2.2.2.2.2.2.2 h)⟩
  · intro l s wx hl hd hn hf0 K hK
    have hf:=Lib.hid hf0
    clear hf0
    have e9:=(hf.out.2.2.2.2.2.2.2.2.2.2.1 (hd 9 rfl))
    go_simp
    refine hK.out (upd s 9 (.bool tb)) _ _ (by simp [upd_at,e9] <;> rfl) ⟨hf.out.1,fun h=>(hf.out.2.1 h),fun h=>(hf.out.2.2.1 h),fun h=>(hf.out.2.2.2.1 h),fun h=>(hf.out.2.2.2.2.1 h),fun h=>(hf.out.2.2.2.2.2.1 h),fun h=>(hf.out.2.2.2.2.2.2.1 h),fun h=>(hf.out.2.2.2.2.2.2.2.1 h),fun h=>(hf.out.2.2.2.2.2.2.2.2.1 h),fun h=>(hf.out.2.2.2.2.2.2.2.2.2.1 h),fun h=>(hf.out.2.2.2.2.2.2.2.2.2.2.1 h),fun h=>(hf.out.2.2.2.2.2.2.2.2.2.2.2.1 h),fun _=>rfl⟩
theorem stoppedI_any (x:Wo) (who:Int) (a b d e:Option Addr) (p q r s:Nat) (w:World) (h:SegW w w.heap.size x a b d e) (z:NoneW x a b d e p q r s) (m:LenW x) :
    Calls Try.prog 7 #[.agg #[.int .i64 x.ch.cap,.int .i64 x.ch.sent,.int .i64 x.ch.got,.int .i64 x.ch.fin,.slice a x.ch.cells.length p,.slice b x.ch.words.length q,.slice d x.hands.length r,.slice e x.deals.length s,.int .i64 x.now],.int .i64 who] w fun r w'=>WordR w w' (stopped x who).1 (.bool (stopped x who).2) r:=by
  cases hk:worldOk x with
  | false =>
    rw [show stopped x who=(Wo.zero,false) by simp [stopped,hk]]
    exact stopI_no1 x who a b d e p q r s w h m hk
  | true =>
    cases ht:taskB x.hands.length who with
    | false =>
      rw [show stopped x who=(Wo.zero,false) by simp [stopped,hk,taskOk,ht]]
      exact stopI_no2 x who a b d e p q r s w h m hk ht
    | true =>
      obtain ⟨i,rfl⟩:∃ i:Nat,who=(i:Int):=⟨who.toNat,by simp [taskB,inB] at ht;omega⟩
      have hi:i<x.hands.length:=by simp [taskB,inB] at ht;omega
      cases hp0:(handAt x i).pos != 23 with
      | true =>
        rw [show stopped x i=(x,false) by simp [stopped,hk,taskOk,ht,hp0]]
        exact stopI_rest x i a b d e p q r s w h z m hk hi hp0
      | false =>
        rw [show stopped x i=({ x with ch:=tellC x.ch (handAt x i).mine 2 },tellB x.ch (handAt x i).mine 2) by simp [stopped,hk,taskOk,ht,hp0]]
        exact stopI_yes x i a b d e p q r s w h z m hk hi hp0
end Go.Proofs.Ytmnpgkcdfielbaa
