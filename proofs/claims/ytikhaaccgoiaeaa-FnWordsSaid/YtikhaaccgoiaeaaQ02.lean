/-
  The program's telling of a word to a waiter; lists lie in memory and hold at most 2 ^ 40 elements.
  The reference model's telling of a word to a waiter, and its new waiter; lists lie in memory and hold at most 2 ^ 40 elements.
  A new waiter, of the reference model and of the program; lists lie in memory and hold at most 2 ^ 40 elements.
-/
import Derived.Deep.AppendLies
import Derived.Test.YtikhaaccgoiaeaaQ01
import Derived.Test.YtikhaaccgoiaeaaP02
import Derived.BigRegion
set_option linter.unusedSimpArgs false
set_option linter.unusedVariables false
namespace Go.Proofs.Ytikhaaccgoiaeaa
open Go.RowKit
set_option linter.unusedSimpArgs false
theorem teller_any (a:Option Addr) (n p:Nat) (v:Int) (w:World) :
    Calls Try.prog 56 #[.slice a n p,.int .i64 v] w fun r w'=>r=.returned (.func (.func 76) #[] #[.pointer (some ⟨w.heap.size,0,none⟩),.pointer (some ⟨w.heap.size+1,0,none⟩)])∧w'.cell? ⟨w.heap.size,0,none⟩=some (.slice a n p)∧w'.cell? ⟨w.heap.size+1,0,none⟩=some (.int .i64 v)∧Below w.heap.size w w':=by
  go_enter Try.func56,Try.ntmps56
  go_wp2
  go_ret
  exact ⟨rfl,by simp [go_sem],by simp [go_sem],by (repeat (with_reducible first|assumption|exact bR|refine bA ?_|refine bD ?_|((first|refine bS ?_ ?_|refine bBx ?_ ?_);rotate_left;focus (try simp) <;> (try omega))))⟩
set_option maxRecDepth 100000 in
set_option maxHeartbeats 1000000 in
theorem told_any (c:Ch) (v x:Int) (a b:Option Addr) (p q:Nat) (w:World) (h1:Seg w w.heap.size a c.cells.length 3 (cellF c.cells)) (z1:a=none→p=0) (h2:Seg w w.heap.size b c.words.length 1 (intF c.words)) (z2:b=none→q=0) (m1:c.cells.length≤1099511627776) (m2:c.words.length≤1099511627776) :
    Calls Try.prog 23 #[.agg #[.int .i64 c.cap,.int .i64 c.sent,.int .i64 c.got,.int .i64 c.fin,.slice a c.cells.length p,.slice b c.words.length q],.int .i64 v,.int .i64 x] w fun r w' =>
      (∃ v1 v2,r=.returned (.tuple #[.agg #[.int .i64 (told c v x).cap,.int .i64 (told c v x).sent,.int .i64 (told c v x).got,.int .i64 (told c v x).fin,v1,v2],.bool (toldB c v x)])∧OCells w' w.heap.size v1 (told c v x).cells∧OInts w' w.heap.size v2 (told c v x).words)∧Below w.heap.size w w':=by
  have H1:=Lib.hid h1
  have H2:=Lib.hid h2
  have Z1:=Lib.hid z1
  have Z2:=Lib.hid z2
  have n1:c.cells.length≤maxLen:=by unfold maxLen;omega
  have n2:c.words.length≤maxLen:=by unfold maxLen;omega
  clear h1 h2 z1 z2
  by_cases hc:chanOk c=true
  · obtain ⟨e1,e2⟩:=told_yes (v:=v) (x:=x) hc
    obtain ⟨f1,f2,f3,f4,f5⟩:=tellC_cells c v x
    have E:=Lib.hid (And.intro e1 e2)
    have FF:=Lib.hid (tellC_cells c v x)
    clear e1 e2 f1 f2 f3 f4 f5
    go_enter Try.func23,Try.ntmps23
    go_wp2_with fail;refine bHit w (by (repeat (with_reducible first|assumption|exact bR|refine bA ?_|refine bD ?_|((first|refine bS ?_ ?_|refine bBx ?_ ?_);rotate_left;focus (try simp) <;> (try omega))))) fun bb=>?_;refine (chanOk_any c a b p q _ ((H1.out.below bb).more bb.size) ((H2.out.below bb).more bb.size) n1 n2).mono ?_;rintro _ w1 ⟨rfl,hbw1⟩;have hCw1:Below w.heap.size w w1:=bT bb hbw1;have hsw1:=hbw1.size;(try simp at hsw1);have zz:=And.intro (fun o=>hbw1.cell (p:=⟨w.heap.size+1,o,none⟩) (by (try simp) <;> omega)) <| And.intro (fun o=>hbw1.frozen (p:=⟨w.heap.size+1,o,none⟩) (by (try simp) <;> omega)) <| And.intro (fun o=>hbw1.cell (p:=⟨w.heap.size,o,none⟩) (by (try simp) <;> omega)) <| fun o=>hbw1.frozen (p:=⟨w.heap.size,o,none⟩) (by (try simp) <;> omega);(try simp [go_sem] at zz);(try clear x_wp f_wp);(try clear x_w f_w);obtain ⟨x_wp,f_wp,x_w,f_w⟩:=zz;(try clear l_wp);have l_wp:w.heap.size+1<w1.heap.size:=(by omega);(try clear l_w);have l_w:w.heap.size<w1.heap.size:=(by omega);clear hbw1 bb
    rw [hc]
    go_wp2_with fail;refine bHit w (by (repeat (with_reducible first|assumption|exact bR|refine bA ?_|refine bD ?_|((first|refine bS ?_ ?_|refine bBx ?_ ?_);rotate_left;focus (try simp) <;> (try omega))))) fun bb=>?_;refine (copied_any c a b p q _ ((H1.out.below bb).more bb.size) Z1.out ((H2.out.below bb).more bb.size) Z2.out m1 m2).mono ?_;rintro _ w2 ⟨⟨v1,v2,rfl,o1,o2⟩,hbw2⟩;have hCw2:Below w.heap.size w w2:=bT bb hbw2;have hsw2:=hbw2.size;(try simp at hsw2);have zz:=And.intro (fun o=>hbw2.cell (p:=⟨w.heap.size+1,o,none⟩) (by (try simp) <;> omega)) <| And.intro (fun o=>hbw2.frozen (p:=⟨w.heap.size+1,o,none⟩) (by (try simp) <;> omega)) <| And.intro (fun o=>hbw2.cell (p:=⟨w.heap.size,o,none⟩) (by (try simp) <;> omega)) <| fun o=>hbw2.frozen (p:=⟨w.heap.size,o,none⟩) (by (try simp) <;> omega);(first|simp [go_sem,x_wp,f_wp,x_w,f_w,l_w,l_wp] at zz|simp [go_sem,x_wp,x_w,l_w,l_wp] at zz|simp [go_sem] at zz|skip);(try clear x_wp f_wp);(try clear x_w f_w);obtain ⟨x_wp,f_wp,x_w,f_w⟩:=zz;(try clear l_wp);have l_wp:w.heap.size+1<w2.heap.size:=(by omega);(try clear l_w);have l_w:w.heap.size<w2.heap.size:=(by omega);clear hbw2 bb
    try simp at o1 o2
    have O1:=Lib.hid o1
    have O2:=Lib.hid o2
    obtain ⟨va,vc,rfl,_⟩:=OCells.seg o1
    obtain ⟨vb,vd,rfl,_⟩:=OInts.seg o2
    clear o1 o2
    have o1:=O1.out
    have o2:=O2.out
    go_wp2_with fail;refine bHit w (by (repeat (with_reducible first|assumption|exact bR|refine bA ?_|refine bD ?_|((first|refine bS ?_ ?_|refine bBx ?_ ?_);rotate_left;focus (try simp) <;> (try omega))))) fun bb=>?_;refine bHit w2 (by (repeat (with_reducible first|assumption|exact bR|refine bA ?_|refine bD ?_|((first|refine bS ?_ ?_|refine bBx ?_ ?_);rotate_left;focus (try simp) <;> (try omega))))) fun bk=>?_;refine (teller_any _ _ _ _ _).mono ?_;rintro _ w3 ⟨rfl,d1,d2,hbw3⟩;have hCw3:Below w.heap.size w w3:=bT bb hbw3;have hsw3:=hbw3.size;(try simp at hsw3);have zz:=And.intro (fun o=>hbw3.cell (p:=⟨w2.heap.size,o,none⟩) (by (try simp) <;> omega)) <| And.intro (fun o=>hbw3.frozen (p:=⟨w2.heap.size,o,none⟩) (by (try simp) <;> omega)) <| And.intro (fun o=>hbw3.cell (p:=⟨w.heap.size+1,o,none⟩) (by (try simp) <;> omega)) <| And.intro (fun o=>hbw3.frozen (p:=⟨w.heap.size+1,o,none⟩) (by (try simp) <;> omega)) <| And.intro (fun o=>hbw3.cell (p:=⟨w.heap.size,o,none⟩) (by (try simp) <;> omega)) <| fun o=>hbw3.frozen (p:=⟨w.heap.size,o,none⟩) (by (try simp) <;> omega);(first|simp [go_sem,x_wp,f_wp,x_w,f_w,l_w,l_wp] at zz|simp [go_sem,x_wp,x_w,l_w,l_wp] at zz|simp [go_sem] at zz|skip);(try clear x_w2 f_w2);(try clear x_wp f_wp);(try clear x_w f_w);obtain ⟨x_w2,f_w2,x_wp,f_wp,x_w,f_w⟩:=zz;(try clear l_w2);have l_w2:w2.heap.size<w3.heap.size:=(by omega);(try clear l_wp);have l_wp:w.heap.size+1<w3.heap.size:=(by omega);(try clear l_w);have l_w:w.heap.size<w3.heap.size:=(by omega);have hKw3:Below w2.heap.size w2 w3:=bT bk hbw3;clear hbw3 bb bk
    simp at d1 d2
    have q1:=own_below o1 hKw3
    have q2:=own_below o2 hKw3
    have b2:=fun j (hj:(Value.slice vb c.words.length vd).ownBlock=some j)=>o2.lt j hj
    have nw1:some (w.heap.size+1)≠(Value.slice vb c.words.length vd).ownBlock:=fun e=>by have:=(b2 _ e.symm).1;omega
    have nw2:some w2.heap.size≠(Value.slice vb c.words.length vd).ownBlock:=fun e=>by have:=(b2 _ e.symm).2;omega
    have nw0:some w.heap.size≠(Value.slice vb c.words.length vd).ownBlock:=fun e=>by have:=(b2 _ e.symm).1;omega
    go_wp2_with fail
    go_region_with (first|(refine (teller1_any c v x (w2.heap.size+1) (w2.heap.size+1+1) (.slice vb c.words.length vd) w1.heap.size _ (by (repeat first|with_reducible exact q2|with_reducible refine oAl ?_ _|with_reducible refine oDr ?_|((with_reducible first|refine own_store ?_ ?_ _|refine own_box ?_ ?_);rotate_left;focus first|(refine own_ne o2 ?_;(try dsimp only);omega)|(refine own_ne' o2 ?_;(try dsimp only);omega)))) (by simpa [go_sem] using d1) (by simpa [go_sem] using d2) m2).mono ?_;rintro _ w4 ⟨rfl,p2,hg4⟩;have hsw4:=hg4.size;(try (simp at hsw4));have zz:=And.intro (fun o=>hg4.cell_far ⟨w2.heap.size,o,none⟩ (by (try simp) <;> omega) (by assumption)) <| And.intro (fun o=>hg4.frozen_far ⟨w2.heap.size,o,none⟩ (by (try simp) <;> omega) (by assumption)) <| And.intro (fun o=>hg4.cell_far ⟨w.heap.size+1,o,none⟩ (by (try simp) <;> omega) (by assumption)) <| And.intro (fun o=>hg4.frozen_far ⟨w.heap.size+1,o,none⟩ (by (try simp) <;> omega) (by assumption)) <| And.intro (fun o=>hg4.cell_far ⟨w.heap.size,o,none⟩ (by (try simp) <;> omega) (by assumption)) <| fun o=>hg4.frozen_far ⟨w.heap.size,o,none⟩ (by (try simp) <;> omega) (by assumption);(first|simp [go_sem,x_w2,f_w2,x_wp,f_wp,x_w,f_w,l_w,l_w2,l_wp] at zz|simp [go_sem,x_w2,x_wp,x_w,l_w,l_w2,l_wp] at zz|simp [go_sem] at zz|skip);(try clear x_w2 f_w2);(try clear x_wp f_wp);(try clear x_w f_w);obtain ⟨x_w2,f_w2,x_wp,f_wp,x_w,f_w⟩:=zz;(try clear l_w2);have l_w2:w2.heap.size<w4.heap.size:=(by omega);(try clear l_wp);have l_wp:w.heap.size+1<w4.heap.size:=(by omega);(try clear l_w);have l_w:w.heap.size<w4.heap.size:=(by omega);have p1:=(World.ownsRow.drew q1).kept hg4 (own_off q1 q2);have hB4:Below w.heap.size w w4:=bOwn (by (repeat (with_reducible first|assumption|exact bR|refine bA ?_|refine bD ?_|((first|refine bS ?_ ?_|refine bBx ?_ ?_);rotate_left;focus (try simp) <;> (try omega))))) hg4 (by (try simp) <;> omega) (fun k hk=>by have:=(b2 k hk).1;omega)))
    all_goals go_wp2
    all_goals (obtain ⟨e1,e2⟩:=E.out;obtain ⟨f1,f2,f3,f4,f5⟩:=FF.out;rw [e1,e2,f1,f2,f3,f4,f5])
    all_goals (refine bodyPost_ret (v:=.tuple #[.agg #[.int .i64 c.cap,.int .i64 c.sent,.int .i64 c.got,.int .i64 c.fin,.slice va c.cells.length vc,.slice vb c.words.length vd],.bool (tellB c v x)]) (by simp [results,Try.results23,go_sem, *]) rfl ⟨⟨_,_,rfl,own_lo (lo:=w1.heap.size) ?_ (by omega),own_lo (lo:=w1.heap.size) ?_ (by omega)⟩,by (repeat (with_reducible first|assumption|exact bR|refine bA ?_|refine bD ?_|((first|refine bS ?_ ?_|refine bBx ?_ ?_);rotate_left;focus (try simp) <;> (try omega))))⟩)
    all_goals (have P1:OCells _ _ _ _:=p1)
    all_goals first|(repeat first|with_reducible exact p2|with_reducible refine oAl ?_ _|with_reducible refine oDr ?_|((with_reducible first|refine own_store ?_ ?_ _|refine own_box ?_ ?_);rotate_left;focus first|(refine own_ne o2 ?_;(try dsimp only);omega)|(refine own_ne' o2 ?_;(try dsimp only);omega)))|skip
    all_goals first|(repeat first|with_reducible exact p1|with_reducible refine oAl ?_ _|with_reducible refine oDr ?_|((with_reducible first|refine own_store ?_ ?_ _|refine own_box ?_ ?_);rotate_left;focus first|(refine own_ne o1 ?_;(try dsimp only);omega)|(refine own_ne' o1 ?_;(try dsimp only);omega)))|skip
  · have hc2:chanOk c=false:=by simpa using hc
    obtain ⟨e1,e2⟩:=told_no (v:=v) (x:=x) hc2
    have E:=Lib.hid (And.intro e1 e2)
    clear e1 e2 hc
    go_enter Try.func23,Try.ntmps23
    go_wp2_with fail;refine bHit w (by (repeat (with_reducible first|assumption|exact bR|refine bA ?_|refine bD ?_|((first|refine bS ?_ ?_|refine bBx ?_ ?_);rotate_left;focus (try simp) <;> (try omega))))) fun bb=>?_;refine (chanOk_any c a b p q _ ((H1.out.below bb).more bb.size) ((H2.out.below bb).more bb.size) n1 n2).mono ?_;rintro _ w1 ⟨rfl,hbw1⟩;have hCw1:Below w.heap.size w w1:=bT bb hbw1;have hsw1:=hbw1.size;(try simp at hsw1);have zz:=And.intro (fun o=>hbw1.cell (p:=⟨w.heap.size+1,o,none⟩) (by (try simp) <;> omega)) <| And.intro (fun o=>hbw1.frozen (p:=⟨w.heap.size+1,o,none⟩) (by (try simp) <;> omega)) <| And.intro (fun o=>hbw1.cell (p:=⟨w.heap.size,o,none⟩) (by (try simp) <;> omega)) <| fun o=>hbw1.frozen (p:=⟨w.heap.size,o,none⟩) (by (try simp) <;> omega);(try simp [go_sem] at zz);(try clear x_wp f_wp);(try clear x_w f_w);obtain ⟨x_wp,f_wp,x_w,f_w⟩:=zz;(try clear l_wp);have l_wp:w.heap.size+1<w1.heap.size:=(by omega);(try clear l_w);have l_w:w.heap.size<w1.heap.size:=(by omega);clear hbw1 bb
    rw [hc2]
    go_wp2
    rw [E.out.1,E.out.2]
    refine bodyPost_ret (v:=.tuple #[.agg #[.int .i64 Ch.zero.cap,.int .i64 Ch.zero.sent,.int .i64 Ch.zero.got,.int .i64 Ch.zero.fin,.slice none 0 0,.slice none 0 0],.bool false]) (by simp [results,Try.results23,go_sem,Ch.zero, *]) rfl ⟨⟨_,_,rfl,World.ownsRow_nil _ _ _ _,World.ownsRow_nil _ _ _ _⟩,by (repeat (with_reducible first|assumption|exact bR|refine bA ?_|refine bD ?_|((first|refine bS ?_ ?_|refine bBx ?_ ?_);rotate_left;focus (try simp) <;> (try omega))))⟩
end Go.Proofs.Ytikhaaccgoiaeaa
set_option linter.unusedSimpArgs false
set_option linter.unusedVariables false
namespace Go.Proofs.Ytikhaaccgoiaeaa
open Go.RowKit
set_option linter.unusedSimpArgs false
set_option maxRecDepth 100000 in
set_option maxHeartbeats 1000000 in
theorem sTold_any (c:Ch) (v x:Int) (a b:Option Addr) (p q:Nat) (w:World) (h1:Seg w w.heap.size a c.cells.length 3 (cellF c.cells)) (z1:a=none→p=0) (h2:Seg w w.heap.size b c.words.length 1 (intF c.words)) (z2:b=none→q=0) (m1:c.cells.length≤1099511627776) (m2:c.words.length≤1099511627776) :
    Calls Try.prog 24 #[.agg #[.int .i64 c.cap,.int .i64 c.sent,.int .i64 c.got,.int .i64 c.fin,.slice a c.cells.length p,.slice b c.words.length q],.int .i64 v,.int .i64 x] w fun r w' =>
      (∃ v1 v2,r=.returned (.tuple #[.agg #[.int .i64 (told c v x).cap,.int .i64 (told c v x).sent,.int .i64 (told c v x).got,.int .i64 (told c v x).fin,v1,v2],.bool (toldB c v x)])∧OCells w' w.heap.size v1 (told c v x).cells∧OInts w' w.heap.size v2 (told c v x).words)∧Below w.heap.size w w':=by
  have H1:=Lib.hid h1
  have H2:=Lib.hid h2
  have Z1:=Lib.hid z1
  have Z2:=Lib.hid z2
  clear h1 h2 z1 z2
  by_cases hc:chanOk c=true
  · obtain ⟨e1,e2⟩:=told_yes (v:=v) (x:=x) hc
    have E:=Lib.hid (And.intro e1 e2)
    have FF:=Lib.hid (tellC_cells c v x)
    have FL:=Lib.hid (tellC_len c v x)
    clear e1 e2
    go_enter Try.func24,Try.ntmps24
    go_wp2_with fail;refine bHit w (by (repeat (with_reducible first|assumption|exact bR|refine bA ?_|refine bD ?_|((first|refine bS ?_ ?_|refine bBx ?_ ?_);rotate_left;focus (try simp) <;> (try omega))))) fun bb=>?_;refine (sChanOk_any c a b p q _ ((H1.out.below bb).more bb.size) ((H2.out.below bb).more bb.size)).mono ?_;rintro _ w1 ⟨rfl,hbw1⟩;have hCw1:Below w.heap.size w w1:=bT bb hbw1;have hsw1:=hbw1.size;(try simp at hsw1);have zz:=And.intro (fun o=>hbw1.cell (p:=⟨w.heap.size+1,o,none⟩) (by (try simp) <;> omega)) <| And.intro (fun o=>hbw1.frozen (p:=⟨w.heap.size+1,o,none⟩) (by (try simp) <;> omega)) <| And.intro (fun o=>hbw1.cell (p:=⟨w.heap.size,o,none⟩) (by (try simp) <;> omega)) <| fun o=>hbw1.frozen (p:=⟨w.heap.size,o,none⟩) (by (try simp) <;> omega);(try simp [go_sem] at zz);(try clear x_wp f_wp);(try clear x_w f_w);obtain ⟨x_wp,f_wp,x_w,f_w⟩:=zz;(try clear l_wp);have l_wp:w.heap.size+1<w1.heap.size:=(by omega);(try clear l_w);have l_w:w.heap.size<w1.heap.size:=(by omega);clear hbw1 bb
    rw [hc]
    go_wp2_with fail;refine bHit w (by (repeat (with_reducible first|assumption|exact bR|refine bA ?_|refine bD ?_|((first|refine bS ?_ ?_|refine bBx ?_ ?_);rotate_left;focus (try simp) <;> (try omega))))) fun bb=>?_;refine (l3Told_any c v x a b p q _ ((H1.out.below bb).more bb.size) Z1.out ((H2.out.below bb).more bb.size) Z2.out m1 m2).mono ?_;rintro _ w2 ⟨⟨v1,v2,rfl,o1,o2⟩,hbw2⟩;have hCw2:Below w.heap.size w w2:=bT bb hbw2;have hsw2:=hbw2.size;(try simp at hsw2);have zz:=And.intro (fun o=>hbw2.cell (p:=⟨w.heap.size+1,o,none⟩) (by (try simp) <;> omega)) <| And.intro (fun o=>hbw2.frozen (p:=⟨w.heap.size+1,o,none⟩) (by (try simp) <;> omega)) <| And.intro (fun o=>hbw2.cell (p:=⟨w.heap.size,o,none⟩) (by (try simp) <;> omega)) <| fun o=>hbw2.frozen (p:=⟨w.heap.size,o,none⟩) (by (try simp) <;> omega);(first|simp [go_sem,x_wp,f_wp,x_w,f_w,l_w,l_wp] at zz|simp [go_sem,x_wp,x_w,l_w,l_wp] at zz|simp [go_sem] at zz|skip);(try clear x_wp f_wp);(try clear x_w f_w);obtain ⟨x_wp,f_wp,x_w,f_w⟩:=zz;(try clear l_wp);have l_wp:w.heap.size+1<w2.heap.size:=(by omega);(try clear l_w);have l_w:w.heap.size<w2.heap.size:=(by omega);clear hbw2 bb
    try simp at o1 o2
    have O1:=Lib.hid o1
    have O2:=Lib.hid o2
    obtain ⟨va,vc,rfl,_⟩:=OCells.seg o1
    obtain ⟨vb,vd,rfl,_⟩:=OInts.seg o2
    clear o1 o2
    rw [FL.out] at O2 ⊢
    go_wp2_with fail
    have o1:=O1.out
    have o2:=O2.out
    obtain ⟨e1,e2⟩:=E.out
    obtain ⟨f1,f2,f3,f4,f5⟩:=FF.out
    rw [e1,e2,f1,f2,f3,f4,f5]
    refine bodyPost_ret (v:=.tuple #[.agg #[.int .i64 c.cap,.int .i64 c.sent,.int .i64 c.got,.int .i64 c.fin,.slice va c.cells.length vc,.slice vb c.words.length vd],.bool (tellB c v x)]) (by simp [results,Try.results24,go_sem, *]) rfl ⟨⟨_,_,rfl,own_lo (lo:=w1.heap.size) ?_ (by omega),own_lo (lo:=w1.heap.size) ?_ (by omega)⟩,by (repeat (with_reducible first|assumption|exact bR|refine bA ?_|refine bD ?_|((first|refine bS ?_ ?_|refine bBx ?_ ?_);rotate_left;focus (try simp) <;> (try omega))))⟩
    · (repeat first|with_reducible exact o1|with_reducible refine oAl ?_ _|with_reducible refine oDr ?_|((with_reducible first|refine own_store ?_ ?_ _|refine own_box ?_ ?_);rotate_left;focus first|(refine own_ne o1 ?_;(try dsimp only);omega)|(refine own_ne' o1 ?_;(try dsimp only);omega)))
    · (repeat first|with_reducible exact o2|with_reducible refine oAl ?_ _|with_reducible refine oDr ?_|((with_reducible first|refine own_store ?_ ?_ _|refine own_box ?_ ?_);rotate_left;focus first|(refine own_ne o2 ?_;(try dsimp only);omega)|(refine own_ne' o2 ?_;(try dsimp only);omega)))
  · have hc2:chanOk c=false:=by simpa using hc
    obtain ⟨e1,e2⟩:=told_no (v:=v) (x:=x) hc2
    have E:=Lib.hid (And.intro e1 e2)
    clear e1 e2 hc
    go_enter Try.func24,Try.ntmps24
    go_wp2_with fail;refine bHit w (by (repeat (with_reducible first|assumption|exact bR|refine bA ?_|refine bD ?_|((first|refine bS ?_ ?_|refine bBx ?_ ?_);rotate_left;focus (try simp) <;> (try omega))))) fun bb=>?_;refine (sChanOk_any c a b p q _ ((H1.out.below bb).more bb.size) ((H2.out.below bb).more bb.size)).mono ?_;rintro _ w1 ⟨rfl,hbw1⟩;have hCw1:Below w.heap.size w w1:=bT bb hbw1;have hsw1:=hbw1.size;(try simp at hsw1);have zz:=And.intro (fun o=>hbw1.cell (p:=⟨w.heap.size+1,o,none⟩) (by (try simp) <;> omega)) <| And.intro (fun o=>hbw1.frozen (p:=⟨w.heap.size+1,o,none⟩) (by (try simp) <;> omega)) <| And.intro (fun o=>hbw1.cell (p:=⟨w.heap.size,o,none⟩) (by (try simp) <;> omega)) <| fun o=>hbw1.frozen (p:=⟨w.heap.size,o,none⟩) (by (try simp) <;> omega);(try simp [go_sem] at zz);(try clear x_wp f_wp);(try clear x_w f_w);obtain ⟨x_wp,f_wp,x_w,f_w⟩:=zz;(try clear l_wp);have l_wp:w.heap.size+1<w1.heap.size:=(by omega);(try clear l_w);have l_w:w.heap.size<w1.heap.size:=(by omega);clear hbw1 bb
    rw [hc2]
    go_wp2
    rw [E.out.1,E.out.2]
    refine bodyPost_ret (v:=.tuple #[.agg #[.int .i64 Ch.zero.cap,.int .i64 Ch.zero.sent,.int .i64 Ch.zero.got,.int .i64 Ch.zero.fin,.slice none 0 0,.slice none 0 0],.bool false]) (by simp [results,Try.results24,go_sem,Ch.zero, *]) rfl ⟨⟨_,_,rfl,World.ownsRow_nil _ _ _ _,World.ownsRow_nil _ _ _ _⟩,by (repeat (with_reducible first|assumption|exact bR|refine bA ?_|refine bD ?_|((first|refine bS ?_ ?_|refine bBx ?_ ?_);rotate_left;focus (try simp) <;> (try omega))))⟩
end Go.Proofs.Ytikhaaccgoiaeaa
set_option linter.unusedSimpArgs false
set_option linter.unusedVariables false
namespace Go.Proofs.Ytikhaaccgoiaeaa
open Go.RowKit
set_option linter.unusedSimpArgs false
theorem waitC_no {c:Ch} (h:chanOk c=false):waitC c=Ch.zero∧waitN c=0:=by simp [waitC,waitN,h]
theorem waitC_full {c:Ch} (h:chanOk c=true) (h2:80≤c.words.length):waitC c=c∧waitN c=0:=by simp [waitC,waitN,h,h2]
theorem waitC_more {c:Ch} (h:chanOk c=true) (h2:¬ 80≤c.words.length):waitC c={ c with words:=c.words ++ [0] }∧waitN c=c.words.length+1:=by simp [waitC,waitN,h,h2]
theorem chanOk_words {c:Ch} (h:chanOk c=true):c.words.length≤80:=by
  unfold chanOk chanHead at h
  simp only [Bool.and_eq_true,decide_eq_true_eq] at h
  exact h.1.2.2.2.2.2
set_option maxRecDepth 100000 in
set_option maxHeartbeats 1000000 in
theorem sWaiter_any (c:Ch) (a b:Option Addr) (p q:Nat) (w:World) (h1:Seg w w.heap.size a c.cells.length 3 (cellF c.cells)) (z1:a=none→p=0) (h2:Seg w w.heap.size b c.words.length 1 (intF c.words)) (z2:b=none→q=0) (m1:c.cells.length≤1099511627776) (m2:c.words.length≤1099511627776) :
    Calls Try.prog 27 #[.agg #[.int .i64 c.cap,.int .i64 c.sent,.int .i64 c.got,.int .i64 c.fin,.slice a c.cells.length p,.slice b c.words.length q]] w fun r w' =>
      (∃ v1 v2,r=.returned (.tuple #[.agg #[.int .i64 (waitC c).cap,.int .i64 (waitC c).sent,.int .i64 (waitC c).got,.int .i64 (waitC c).fin,v1,v2],.int .i64 (waitN c)])∧OCells w' w.heap.size v1 (waitC c).cells∧OInts w' w.heap.size v2 (waitC c).words)∧Below w.heap.size w w':=by
  have H1:=Lib.hid h1
  have H2:=Lib.hid h2
  have Z1:=Lib.hid z1
  have Z2:=Lib.hid z2
  have n1:c.cells.length≤maxLen:=by unfold maxLen;omega
  have n2:c.words.length≤maxLen:=by unfold maxLen;omega
  clear h1 h2 z1 z2
  by_cases hc:chanOk c=true
  · by_cases hf:80≤c.words.length
    · have hf80:c.words.length=80:=by
        have:=hc
        simp [chanOk,chanHead] at this
        omega
      have E:=Lib.hid (waitC_full hc hf)
      have hfi:(80:Int)≤(c.words.length:Int):=by omega
      have HFE:Hid ((c.words.length:Int)=80):=Lib.hid (by omega)
      clear hf80
      go_enter Try.func27,Try.ntmps27
      go_wp2_with fail;refine bHit w (by (repeat (with_reducible first|assumption|exact bR|refine bA ?_|refine bD ?_|((first|refine bS ?_ ?_|refine bBx ?_ ?_);rotate_left;focus (try simp) <;> (try omega))))) fun bb=>?_;refine (sChanOk_any c a b p q _ ((H1.out.below bb).more bb.size) ((H2.out.below bb).more bb.size)).mono ?_;rintro _ w1 ⟨rfl,hbw1⟩;have hCw1:Below w.heap.size w w1:=bT bb hbw1;have hsw1:=hbw1.size;(try simp at hsw1);have zz:=And.intro (fun o=>hbw1.cell (p:=⟨w.heap.size+1,o,none⟩) (by (try simp) <;> omega)) <| And.intro (fun o=>hbw1.frozen (p:=⟨w.heap.size+1,o,none⟩) (by (try simp) <;> omega)) <| And.intro (fun o=>hbw1.cell (p:=⟨w.heap.size,o,none⟩) (by (try simp) <;> omega)) <| fun o=>hbw1.frozen (p:=⟨w.heap.size,o,none⟩) (by (try simp) <;> omega);(try simp [go_sem] at zz);(try clear x_wp f_wp);(try clear x_w f_w);obtain ⟨x_wp,f_wp,x_w,f_w⟩:=zz;(try clear l_wp);have l_wp:w.heap.size+1<w1.heap.size:=(by omega);(try clear l_w);have l_w:w.heap.size<w1.heap.size:=(by omega);clear hbw1 bb
      rw [hc]
      go_wp2_with fail;refine bHit w (by (repeat (with_reducible first|assumption|exact bR|refine bA ?_|refine bD ?_|((first|refine bS ?_ ?_|refine bBx ?_ ?_);rotate_left;focus (try simp) <;> (try omega))))) fun bb=>?_;refine (l2Copy_any c a b p q _ ((H1.out.below bb).more bb.size) Z1.out ((H2.out.below bb).more bb.size) Z2.out m1 m2).mono ?_;rintro _ w2 ⟨⟨v1,v2,rfl,o1,o2⟩,hbw2⟩;have hCw2:Below w.heap.size w w2:=bT bb hbw2;have hsw2:=hbw2.size;(try simp at hsw2);have zz:=And.intro (fun o=>hbw2.cell (p:=⟨w.heap.size+1,o,none⟩) (by (try simp) <;> omega)) <| And.intro (fun o=>hbw2.frozen (p:=⟨w.heap.size+1,o,none⟩) (by (try simp) <;> omega)) <| And.intro (fun o=>hbw2.cell (p:=⟨w.heap.size,o,none⟩) (by (try simp) <;> omega)) <| fun o=>hbw2.frozen (p:=⟨w.heap.size,o,none⟩) (by (try simp) <;> omega);(first|simp [go_sem,x_wp,f_wp,x_w,f_w,l_w,l_wp] at zz|simp [go_sem,x_wp,x_w,l_w,l_wp] at zz|simp [go_sem] at zz|skip);(try clear x_wp f_wp);(try clear x_w f_w);obtain ⟨x_wp,f_wp,x_w,f_w⟩:=zz;(try clear l_wp);have l_wp:w.heap.size+1<w2.heap.size:=(by omega);(try clear l_w);have l_w:w.heap.size<w2.heap.size:=(by omega);clear hbw2 bb
      try simp at o1 o2
      have O1:=Lib.hid o1
      have O2:=Lib.hid o2
      obtain ⟨va,vc,rfl,_⟩:=OCells.seg o1
      obtain ⟨vb,vd,rfl,_⟩:=OInts.seg o2
      clear o1 o2
      have hfe:=HFE.out
      go_wp2_with fail
      have o1:=O1.out
      have o2:=O2.out
      obtain ⟨e1,e2⟩:=E.out
      rw [e1,e2]
      refine bodyPost_ret (v:=.tuple #[.agg #[.int .i64 c.cap,.int .i64 c.sent,.int .i64 c.got,.int .i64 c.fin,.slice va c.cells.length vc,.slice vb c.words.length vd],.int .i64 0]) (by simp [results,Try.results27,go_sem, *]) rfl ⟨⟨_,_,rfl,own_lo (lo:=w1.heap.size) ?_ (by omega),own_lo (lo:=w1.heap.size) ?_ (by omega)⟩,by (repeat (with_reducible first|assumption|exact bR|refine bA ?_|refine bD ?_|((first|refine bS ?_ ?_|refine bBx ?_ ?_);rotate_left;focus (try simp) <;> (try omega))))⟩
      · (repeat first|with_reducible exact o1|with_reducible refine oAl ?_ _|with_reducible refine oDr ?_|((with_reducible first|refine own_store ?_ ?_ _|refine own_box ?_ ?_);rotate_left;focus first|(refine own_ne o1 ?_;(try dsimp only);omega)|(refine own_ne' o1 ?_;(try dsimp only);omega)))
      · (repeat first|with_reducible exact o2|with_reducible refine oAl ?_ _|with_reducible refine oDr ?_|((with_reducible first|refine own_store ?_ ?_ _|refine own_box ?_ ?_);rotate_left;focus first|(refine own_ne o2 ?_;(try dsimp only);omega)|(refine own_ne' o2 ?_;(try dsimp only);omega)))
    · have E:=Lib.hid (waitC_more hc hf)
      have hfi:¬ (80:Int)≤(c.words.length:Int):=by omega
      have hfe:(c.words.length:Int)≠80:=by omega
      obtain ⟨i0,hi0,hz0,hz1,hz2⟩:=info_parts infoInt
      go_enter Try.func27,Try.ntmps27
      go_wp2_with fail;refine bHit w (by (repeat (with_reducible first|assumption|exact bR|refine bA ?_|refine bD ?_|((first|refine bS ?_ ?_|refine bBx ?_ ?_);rotate_left;focus (try simp) <;> (try omega))))) fun bb=>?_;refine (sChanOk_any c a b p q _ ((H1.out.below bb).more bb.size) ((H2.out.below bb).more bb.size)).mono ?_;rintro _ w1 ⟨rfl,hbw1⟩;have hCw1:Below w.heap.size w w1:=bT bb hbw1;have hsw1:=hbw1.size;(try simp at hsw1);have zz:=And.intro (fun o=>hbw1.cell (p:=⟨w.heap.size+1,o,none⟩) (by (try simp) <;> omega)) <| And.intro (fun o=>hbw1.frozen (p:=⟨w.heap.size+1,o,none⟩) (by (try simp) <;> omega)) <| And.intro (fun o=>hbw1.cell (p:=⟨w.heap.size,o,none⟩) (by (try simp) <;> omega)) <| fun o=>hbw1.frozen (p:=⟨w.heap.size,o,none⟩) (by (try simp) <;> omega);(try simp [go_sem] at zz);(try clear x_wp f_wp);(try clear x_w f_w);obtain ⟨x_wp,f_wp,x_w,f_w⟩:=zz;(try clear l_wp);have l_wp:w.heap.size+1<w1.heap.size:=(by omega);(try clear l_w);have l_w:w.heap.size<w1.heap.size:=(by omega);clear hbw1 bb
      rw [hc]
      go_wp2_with fail;refine bHit w (by (repeat (with_reducible first|assumption|exact bR|refine bA ?_|refine bD ?_|((first|refine bS ?_ ?_|refine bBx ?_ ?_);rotate_left;focus (try simp) <;> (try omega))))) fun bb=>?_;refine (l2Copy_any c a b p q _ ((H1.out.below bb).more bb.size) Z1.out ((H2.out.below bb).more bb.size) Z2.out m1 m2).mono ?_;rintro _ w2 ⟨⟨v1,v2,rfl,o1,o2⟩,hbw2⟩;have hCw2:Below w.heap.size w w2:=bT bb hbw2;have hsw2:=hbw2.size;(try simp at hsw2);have zz:=And.intro (fun o=>hbw2.cell (p:=⟨w.heap.size+1,o,none⟩) (by (try simp) <;> omega)) <| And.intro (fun o=>hbw2.frozen (p:=⟨w.heap.size+1,o,none⟩) (by (try simp) <;> omega)) <| And.intro (fun o=>hbw2.cell (p:=⟨w.heap.size,o,none⟩) (by (try simp) <;> omega)) <| fun o=>hbw2.frozen (p:=⟨w.heap.size,o,none⟩) (by (try simp) <;> omega);(first|simp [go_sem,x_wp,f_wp,x_w,f_w,l_w,l_wp] at zz|simp [go_sem,x_wp,x_w,l_w,l_wp] at zz|simp [go_sem] at zz|skip);(try clear x_wp f_wp);(try clear x_w f_w);obtain ⟨x_wp,f_wp,x_w,f_w⟩:=zz;(try clear l_wp);have l_wp:w.heap.size+1<w2.heap.size:=(by omega);(try clear l_w);have l_w:w.heap.size<w2.heap.size:=(by omega);clear hbw2 bb
      try simp at o1 o2
      have O1:=Lib.hid o1
      have O2:=Lib.hid o2
      obtain ⟨va,vc,rfl,_⟩:=OCells.seg o1
      obtain ⟨vb,vd,rfl,_⟩:=OInts.seg o2
      clear o1 o2
      have o1:=O1.out
      have o2:=O2.out
      have b2:=fun j (hj:(Value.slice vb c.words.length vd).ownBlock=some j)=>o2.lt j hj
      have mw:∀ j,j<w1.heap.size∨w2.heap.size≤j→some j≠(Value.slice vb c.words.length vd).ownBlock:=fun j hj e=>by have:=b2 _ e.symm;omega
      have mw0:=mw w.heap.size (by omega)
      have mw1:=mw (w.heap.size+1) (by omega)
      have mw2:=mw w2.heap.size (by omega)
      go_wp2_with (at_builtin;refine wpList_append_lies _ rfl _ _ 25 rfl w1.heap.size 2 i0 _ 1 8 Try.underlying25 hi0 hz0 hz1 hz2 rfl (by decide) (.slice vb c.words.length vd) c.words.length (ints c.words) rfl (World.ownsRow.alloc (World.ownsRow.alloc o2 _) _) ⟨w2.heap.size+1,0,none⟩ 1 1 [.int .i64 0] rfl rfl ?c2 (by simp [Value.oneCell']) (by omega) ?c3 ?c4 ?c5 (w2.heap.size+1+1) (by simp) ?_)
      case c2=>have:=cell_one_new (w2.alloc (.cells #[.int .i64 c.cap,.int .i64 c.sent,.int .i64 c.got,.int .i64 c.fin,.slice va c.cells.length vc,.slice vb c.words.length vd] 27)) (.int .i64 0) 2;simpa using this
      case c3=>unfold maxLen;omega
      case c4=>omega
      case c5=>simp;omega
      intro g4b q4 w4 o4 g4 hat hlt4
      have l_w2:w2.heap.size<w2.heap.size+1:=by omega
      have hsw4:=g4.size;(try (simp at hsw4));have zz:=And.intro (fun o=>g4.cell_far ⟨w2.heap.size,o,none⟩ (by (try simp) <;> omega) (by assumption)) <| And.intro (fun o=>g4.frozen_far ⟨w2.heap.size,o,none⟩ (by (try simp) <;> omega) (by assumption)) <| And.intro (fun o=>g4.cell_far ⟨w.heap.size+1,o,none⟩ (by (try simp) <;> omega) (by assumption)) <| And.intro (fun o=>g4.frozen_far ⟨w.heap.size+1,o,none⟩ (by (try simp) <;> omega) (by assumption)) <| And.intro (fun o=>g4.cell_far ⟨w.heap.size,o,none⟩ (by (try simp) <;> omega) (by assumption)) <| fun o=>g4.frozen_far ⟨w.heap.size,o,none⟩ (by (try simp) <;> omega) (by assumption);(first|simp [go_sem,x_wp,f_wp,x_w,f_w,l_w,l_w2,l_wp] at zz|simp [go_sem,x_wp,x_w,l_w,l_w2,l_wp] at zz|simp [go_sem] at zz|skip);(try clear x_w2 f_w2);(try clear x_wp f_wp);(try clear x_w f_w);obtain ⟨x_w2,f_w2,x_wp,f_wp,x_w,f_w⟩:=zz;(try clear l_w2);have l_w2:w2.heap.size<w4.heap.size:=(by omega);(try clear l_wp);have l_wp:w.heap.size+1<w4.heap.size:=(by omega);(try clear l_w);have l_w:w.heap.size<w4.heap.size:=(by omega)
      have p1:OCells w4 w1.heap.size (.slice va c.cells.length vc) c.cells:=((World.ownsRow.alloc (World.ownsRow.alloc o1 _) _)).kept g4 (own_off o1 o2)
      have p2:OInts w4 w1.heap.size (.slice (some ⟨g4b,0,none⟩) (c.words.length+1) q4) (c.words ++ [0]):=OInts.snoc o4
      have hgb:∀ j,j<w1.heap.size∨(w2.heap.size≤j∧j<w2.heap.size+1)→(Value.slice (some ⟨g4b,0,none⟩) (c.words.length+1) q4).ownBlock≠some j:=fun j h1 e=>by
        have e2:g4b=j:=by simpa [Value.ownBlock] using e
        rcases hat with hat|hat
        · have:=b2 _ hat;omega
        · omega
      have hB4:Below w.heap.size w w4:=bOwn (by (repeat (with_reducible first|assumption|exact bR|refine bA ?_|refine bD ?_|((first|refine bS ?_ ?_|refine bBx ?_ ?_);rotate_left;focus (try simp) <;> (try omega))))) g4 (by (try simp) <;> omega) (fun k hk=>by have:=(b2 k hk).1;omega)
      clear o4 g4
      go_wp2_with fail
      go_region
      all_goals go_wp2_with fail
      all_goals (obtain ⟨e1,e2⟩:=E.out;rw [e1,e2])
      all_goals refine bodyPost_ret (v:=.tuple #[.agg #[.int .i64 c.cap,.int .i64 c.sent,.int .i64 c.got,.int .i64 c.fin,.slice va c.cells.length vc,.slice (some ⟨g4b,0,none⟩) (c.words.length+1) q4],.int .i64 (c.words.length+1)]) (by simp [results,Try.results27,go_sem, *]) rfl ⟨⟨_,_,rfl,own_lo (lo:=w1.heap.size) ?_ (by omega),own_lo (lo:=w1.heap.size) ?_ (by omega)⟩,by (repeat (with_reducible first|assumption|exact bR|refine bA ?_|refine bD ?_|((first|refine bS ?_ ?_|refine bBx ?_ ?_);rotate_left;focus (try simp) <;> (try omega))))⟩
      all_goals first|(repeat first|with_reducible exact p1|with_reducible refine oAl ?_ _|with_reducible refine oDr ?_|((with_reducible first|refine own_store ?_ ?_ _|refine own_box ?_ ?_);rotate_left;focus first|(refine own_ne o1 ?_;(try dsimp only);omega)|(refine own_ne' o1 ?_;(try dsimp only);omega)))|skip
      all_goals (repeat first|with_reducible exact p2|with_reducible refine oAl ?_ _|with_reducible refine oDr ?_|((with_reducible first|refine own_store ?_ ?_ _|refine own_box ?_ ?_);rotate_left;focus first|(refine own_ne p2 ?_;(try dsimp only);omega)|(refine own_ne' p2 ?_;(try dsimp only);omega)|exact hgb _ (by (try dsimp only) <;> omega)))
  · have hc2:chanOk c=false:=by simpa using hc
    have E:=Lib.hid (waitC_no hc2)
    clear hc
    go_enter Try.func27,Try.ntmps27
    go_wp2_with fail;refine bHit w (by (repeat (with_reducible first|assumption|exact bR|refine bA ?_|refine bD ?_|((first|refine bS ?_ ?_|refine bBx ?_ ?_);rotate_left;focus (try simp) <;> (try omega))))) fun bb=>?_;refine (sChanOk_any c a b p q _ ((H1.out.below bb).more bb.size) ((H2.out.below bb).more bb.size)).mono ?_;rintro _ w1 ⟨rfl,hbw1⟩;have hCw1:Below w.heap.size w w1:=bT bb hbw1;have hsw1:=hbw1.size;(try simp at hsw1);have zz:=And.intro (fun o=>hbw1.cell (p:=⟨w.heap.size+1,o,none⟩) (by (try simp) <;> omega)) <| And.intro (fun o=>hbw1.frozen (p:=⟨w.heap.size+1,o,none⟩) (by (try simp) <;> omega)) <| And.intro (fun o=>hbw1.cell (p:=⟨w.heap.size,o,none⟩) (by (try simp) <;> omega)) <| fun o=>hbw1.frozen (p:=⟨w.heap.size,o,none⟩) (by (try simp) <;> omega);(try simp [go_sem] at zz);(try clear x_wp f_wp);(try clear x_w f_w);obtain ⟨x_wp,f_wp,x_w,f_w⟩:=zz;(try clear l_wp);have l_wp:w.heap.size+1<w1.heap.size:=(by omega);(try clear l_w);have l_w:w.heap.size<w1.heap.size:=(by omega);clear hbw1 bb
    rw [hc2]
    go_wp2
    rw [E.out.1,E.out.2]
    refine bodyPost_ret (v:=.tuple #[.agg #[.int .i64 Ch.zero.cap,.int .i64 Ch.zero.sent,.int .i64 Ch.zero.got,.int .i64 Ch.zero.fin,.slice none 0 0,.slice none 0 0],.int .i64 0]) (by simp [results,Try.results27,go_sem,Ch.zero, *]) rfl ⟨⟨_,_,rfl,World.ownsRow_nil _ _ _ _,World.ownsRow_nil _ _ _ _⟩,by (repeat (with_reducible first|assumption|exact bR|refine bA ?_|refine bD ?_|((first|refine bS ?_ ?_|refine bBx ?_ ?_);rotate_left;focus (try simp) <;> (try omega))))⟩
set_option maxRecDepth 100000 in
set_option maxHeartbeats 1000000 in
theorem waiter_any (c:Ch) (a b:Option Addr) (p q:Nat) (w:World) (h1:Seg w w.heap.size a c.cells.length 3 (cellF c.cells)) (z1:a=none→p=0) (h2:Seg w w.heap.size b c.words.length 1 (intF c.words)) (z2:b=none→q=0) (m1:c.cells.length≤1099511627776) (m2:c.words.length≤1099511627776) :
    Calls Try.prog 26 #[.agg #[.int .i64 c.cap,.int .i64 c.sent,.int .i64 c.got,.int .i64 c.fin,.slice a c.cells.length p,.slice b c.words.length q]] w fun r w' =>
      (∃ v1 v2,r=.returned (.tuple #[.agg #[.int .i64 (waitC c).cap,.int .i64 (waitC c).sent,.int .i64 (waitC c).got,.int .i64 (waitC c).fin,v1,v2],.int .i64 (waitN c)])∧OCells w' w.heap.size v1 (waitC c).cells∧OInts w' w.heap.size v2 (waitC c).words)∧Below w.heap.size w w':=by
  have H1:=Lib.hid h1
  have H2:=Lib.hid h2
  have Z1:=Lib.hid z1
  have Z2:=Lib.hid z2
  have n1:c.cells.length≤maxLen:=by unfold maxLen;omega
  have n2:c.words.length≤maxLen:=by unfold maxLen;omega
  clear h1 h2 z1 z2
  by_cases hc:chanOk c=true
  · by_cases hf:80≤c.words.length
    · have hf80:c.words.length=80:=by
        have:=hc
        simp [chanOk,chanHead] at this
        omega
      have E:=Lib.hid (waitC_full hc hf)
      have hfi:(80:Int)≤(c.words.length:Int):=by omega
      have HFE:Hid ((c.words.length:Int)=80):=Lib.hid (by omega)
      clear hf80
      go_enter Try.func26,Try.ntmps26
      go_wp2_with fail;refine bHit w (by (repeat (with_reducible first|assumption|exact bR|refine bA ?_|refine bD ?_|((first|refine bS ?_ ?_|refine bBx ?_ ?_);rotate_left;focus (try simp) <;> (try omega))))) fun bb=>?_;refine (chanOk_any c a b p q _ ((H1.out.below bb).more bb.size) ((H2.out.below bb).more bb.size) n1 n2).mono ?_;rintro _ w1 ⟨rfl,hbw1⟩;have hCw1:Below w.heap.size w w1:=bT bb hbw1;have hsw1:=hbw1.size;(try simp at hsw1);have zz:=And.intro (fun o=>hbw1.cell (p:=⟨w.heap.size+1,o,none⟩) (by (try simp) <;> omega)) <| And.intro (fun o=>hbw1.frozen (p:=⟨w.heap.size+1,o,none⟩) (by (try simp) <;> omega)) <| And.intro (fun o=>hbw1.cell (p:=⟨w.heap.size,o,none⟩) (by (try simp) <;> omega)) <| fun o=>hbw1.frozen (p:=⟨w.heap.size,o,none⟩) (by (try simp) <;> omega);(try simp [go_sem] at zz);(try clear x_wp f_wp);(try clear x_w f_w);obtain ⟨x_wp,f_wp,x_w,f_w⟩:=zz;(try clear l_wp);have l_wp:w.heap.size+1<w1.heap.size:=(by omega);(try clear l_w);have l_w:w.heap.size<w1.heap.size:=(by omega);clear hbw1 bb
      rw [hc]
      go_wp2_with fail;refine bHit w (by (repeat (with_reducible first|assumption|exact bR|refine bA ?_|refine bD ?_|((first|refine bS ?_ ?_|refine bBx ?_ ?_);rotate_left;focus (try simp) <;> (try omega))))) fun bb=>?_;refine (copied_any c a b p q _ ((H1.out.below bb).more bb.size) Z1.out ((H2.out.below bb).more bb.size) Z2.out m1 m2).mono ?_;rintro _ w2 ⟨⟨v1,v2,rfl,o1,o2⟩,hbw2⟩;have hCw2:Below w.heap.size w w2:=bT bb hbw2;have hsw2:=hbw2.size;(try simp at hsw2);have zz:=And.intro (fun o=>hbw2.cell (p:=⟨w.heap.size+1,o,none⟩) (by (try simp) <;> omega)) <| And.intro (fun o=>hbw2.frozen (p:=⟨w.heap.size+1,o,none⟩) (by (try simp) <;> omega)) <| And.intro (fun o=>hbw2.cell (p:=⟨w.heap.size,o,none⟩) (by (try simp) <;> omega)) <| fun o=>hbw2.frozen (p:=⟨w.heap.size,o,none⟩) (by (try simp) <;> omega);(first|simp [go_sem,x_wp,f_wp,x_w,f_w,l_w,l_wp] at zz|simp [go_sem,x_wp,x_w,l_w,l_wp] at zz|simp [go_sem] at zz|skip);(try clear x_wp f_wp);(try clear x_w f_w);obtain ⟨x_wp,f_wp,x_w,f_w⟩:=zz;(try clear l_wp);have l_wp:w.heap.size+1<w2.heap.size:=(by omega);(try clear l_w);have l_w:w.heap.size<w2.heap.size:=(by omega);clear hbw2 bb
      try simp at o1 o2
      have O1:=Lib.hid o1
      have O2:=Lib.hid o2
      obtain ⟨va,vc,rfl,_⟩:=OCells.seg o1
      obtain ⟨vb,vd,rfl,_⟩:=OInts.seg o2
      clear o1 o2
      have hfe:=HFE.out
      go_wp2_with fail
      have o1:=O1.out
      have o2:=O2.out
      obtain ⟨e1,e2⟩:=E.out
      rw [e1,e2]
      refine bodyPost_ret (v:=.tuple #[.agg #[.int .i64 c.cap,.int .i64 c.sent,.int .i64 c.got,.int .i64 c.fin,.slice va c.cells.length vc,.slice vb c.words.length vd],.int .i64 0]) (by simp [results,Try.results26,go_sem, *]) rfl ⟨⟨_,_,rfl,own_lo (lo:=w1.heap.size) ?_ (by omega),own_lo (lo:=w1.heap.size) ?_ (by omega)⟩,by (repeat (with_reducible first|assumption|exact bR|refine bA ?_|refine bD ?_|((first|refine bS ?_ ?_|refine bBx ?_ ?_);rotate_left;focus (try simp) <;> (try omega))))⟩
      · (repeat first|with_reducible exact o1|with_reducible refine oAl ?_ _|with_reducible refine oDr ?_|((with_reducible first|refine own_store ?_ ?_ _|refine own_box ?_ ?_);rotate_left;focus first|(refine own_ne o1 ?_;(try dsimp only);omega)|(refine own_ne' o1 ?_;(try dsimp only);omega)))
      · (repeat first|with_reducible exact o2|with_reducible refine oAl ?_ _|with_reducible refine oDr ?_|((with_reducible first|refine own_store ?_ ?_ _|refine own_box ?_ ?_);rotate_left;focus first|(refine own_ne o2 ?_;(try dsimp only);omega)|(refine own_ne' o2 ?_;(try dsimp only);omega)))
    · have E:=Lib.hid (waitC_more hc hf)
      have hfi:¬ (80:Int)≤(c.words.length:Int):=by omega
      have hfe:(c.words.length:Int)≠80:=by omega
      obtain ⟨i0,hi0,hz0,hz1,hz2⟩:=info_parts infoInt
      go_enter Try.func26,Try.ntmps26
      go_wp2_with fail;refine bHit w (by (repeat (with_reducible first|assumption|exact bR|refine bA ?_|refine bD ?_|((first|refine bS ?_ ?_|refine bBx ?_ ?_);rotate_left;focus (try simp) <;> (try omega))))) fun bb=>?_;refine (chanOk_any c a b p q _ ((H1.out.below bb).more bb.size) ((H2.out.below bb).more bb.size) n1 n2).mono ?_;rintro _ w1 ⟨rfl,hbw1⟩;have hCw1:Below w.heap.size w w1:=bT bb hbw1;have hsw1:=hbw1.size;(try simp at hsw1);have zz:=And.intro (fun o=>hbw1.cell (p:=⟨w.heap.size+1,o,none⟩) (by (try simp) <;> omega)) <| And.intro (fun o=>hbw1.frozen (p:=⟨w.heap.size+1,o,none⟩) (by (try simp) <;> omega)) <| And.intro (fun o=>hbw1.cell (p:=⟨w.heap.size,o,none⟩) (by (try simp) <;> omega)) <| fun o=>hbw1.frozen (p:=⟨w.heap.size,o,none⟩) (by (try simp) <;> omega);(try simp [go_sem] at zz);(try clear x_wp f_wp);(try clear x_w f_w);obtain ⟨x_wp,f_wp,x_w,f_w⟩:=zz;(try clear l_wp);have l_wp:w.heap.size+1<w1.heap.size:=(by omega);(try clear l_w);have l_w:w.heap.size<w1.heap.size:=(by omega);clear hbw1 bb
      rw [hc]
      go_wp2_with fail;refine bHit w (by (repeat (with_reducible first|assumption|exact bR|refine bA ?_|refine bD ?_|((first|refine bS ?_ ?_|refine bBx ?_ ?_);rotate_left;focus (try simp) <;> (try omega))))) fun bb=>?_;refine (copied_any c a b p q _ ((H1.out.below bb).more bb.size) Z1.out ((H2.out.below bb).more bb.size) Z2.out m1 m2).mono ?_;rintro _ w2 ⟨⟨v1,v2,rfl,o1,o2⟩,hbw2⟩;have hCw2:Below w.heap.size w w2:=bT bb hbw2;have hsw2:=hbw2.size;(try simp at hsw2);have zz:=And.intro (fun o=>hbw2.cell (p:=⟨w.heap.size+1,o,none⟩) (by (try simp) <;> omega)) <| And.intro (fun o=>hbw2.frozen (p:=⟨w.heap.size+1,o,none⟩) (by (try simp) <;> omega)) <| And.intro (fun o=>hbw2.cell (p:=⟨w.heap.size,o,none⟩) (by (try simp) <;> omega)) <| fun o=>hbw2.frozen (p:=⟨w.heap.size,o,none⟩) (by (try simp) <;> omega);(first|simp [go_sem,x_wp,f_wp,x_w,f_w,l_w,l_wp] at zz|simp [go_sem,x_wp,x_w,l_w,l_wp] at zz|simp [go_sem] at zz|skip);(try clear x_wp f_wp);(try clear x_w f_w);obtain ⟨x_wp,f_wp,x_w,f_w⟩:=zz;(try clear l_wp);have l_wp:w.heap.size+1<w2.heap.size:=(by omega);(try clear l_w);have l_w:w.heap.size<w2.heap.size:=(by omega);clear hbw2 bb
      try simp at o1 o2
      have O1:=Lib.hid o1
      have O2:=Lib.hid o2
      obtain ⟨va,vc,rfl,_⟩:=OCells.seg o1
      obtain ⟨vb,vd,rfl,_⟩:=OInts.seg o2
      clear o1 o2
      have o1:=O1.out
      have o2:=O2.out
      have b2:=fun j (hj:(Value.slice vb c.words.length vd).ownBlock=some j)=>o2.lt j hj
      have mw:∀ j,j<w1.heap.size∨w2.heap.size≤j→some j≠(Value.slice vb c.words.length vd).ownBlock:=fun j hj e=>by have:=b2 _ e.symm;omega
      have mw0:=mw w.heap.size (by omega)
      have mw1:=mw (w.heap.size+1) (by omega)
      have mw2:=mw w2.heap.size (by omega)
      go_wp2_with (at_builtin;refine wpList_append_lies _ rfl _ _ 25 rfl w1.heap.size 2 i0 _ 1 8 Try.underlying25 hi0 hz0 hz1 hz2 rfl (by decide) (.slice vb c.words.length vd) c.words.length (ints c.words) rfl (World.ownsRow.alloc (World.ownsRow.alloc o2 _) _) ⟨w2.heap.size+1,0,none⟩ 1 1 [.int .i64 0] rfl rfl ?c2 (by simp [Value.oneCell']) (by omega) ?c3 ?c4 ?c5 (w2.heap.size+1+1) (by simp) ?_)
      case c2=>have:=cell_one_new (w2.alloc (.cells #[.int .i64 c.cap,.int .i64 c.sent,.int .i64 c.got,.int .i64 c.fin,.slice va c.cells.length vc,.slice vb c.words.length vd] 27)) (.int .i64 0) 2;simpa using this
      case c3=>unfold maxLen;omega
      case c4=>omega
      case c5=>simp;omega
      intro g4b q4 w4 o4 g4 hat hlt4
      have l_w2:w2.heap.size<w2.heap.size+1:=by omega
      have hsw4:=g4.size;(try (simp at hsw4));have zz:=And.intro (fun o=>g4.cell_far ⟨w2.heap.size,o,none⟩ (by (try simp) <;> omega) (by assumption)) <| And.intro (fun o=>g4.frozen_far ⟨w2.heap.size,o,none⟩ (by (try simp) <;> omega) (by assumption)) <| And.intro (fun o=>g4.cell_far ⟨w.heap.size+1,o,none⟩ (by (try simp) <;> omega) (by assumption)) <| And.intro (fun o=>g4.frozen_far ⟨w.heap.size+1,o,none⟩ (by (try simp) <;> omega) (by assumption)) <| And.intro (fun o=>g4.cell_far ⟨w.heap.size,o,none⟩ (by (try simp) <;> omega) (by assumption)) <| fun o=>g4.frozen_far ⟨w.heap.size,o,none⟩ (by (try simp) <;> omega) (by assumption);(first|simp [go_sem,x_wp,f_wp,x_w,f_w,l_w,l_w2,l_wp] at zz|simp [go_sem,x_wp,x_w,l_w,l_w2,l_wp] at zz|simp [go_sem] at zz|skip);(try clear x_w2 f_w2);(try clear x_wp f_wp);(try clear x_w f_w);obtain ⟨x_w2,f_w2,x_wp,f_wp,x_w,f_w⟩:=zz;(try clear l_w2);have l_w2:w2.heap.size<w4.heap.size:=(by omega);(try clear l_wp);have l_wp:w.heap.size+1<w4.heap.size:=(by omega);(try clear l_w);have l_w:w.heap.size<w4.heap.size:=(by omega)
      have p1:OCells w4 w1.heap.size (.slice va c.cells.length vc) c.cells:=((World.ownsRow.alloc (World.ownsRow.alloc o1 _) _)).kept g4 (own_off o1 o2)
      have p2:OInts w4 w1.heap.size (.slice (some ⟨g4b,0,none⟩) (c.words.length+1) q4) (c.words ++ [0]):=OInts.snoc o4
      have hgb:∀ j,j<w1.heap.size∨(w2.heap.size≤j∧j<w2.heap.size+1)→(Value.slice (some ⟨g4b,0,none⟩) (c.words.length+1) q4).ownBlock≠some j:=fun j h1 e=>by
        have e2:g4b=j:=by simpa [Value.ownBlock] using e
        rcases hat with hat|hat
        · have:=b2 _ hat;omega
        · omega
      have hB4:Below w.heap.size w w4:=bOwn (by (repeat (with_reducible first|assumption|exact bR|refine bA ?_|refine bD ?_|((first|refine bS ?_ ?_|refine bBx ?_ ?_);rotate_left;focus (try simp) <;> (try omega))))) g4 (by (try simp) <;> omega) (fun k hk=>by have:=(b2 k hk).1;omega)
      clear o4 g4
      go_wp2_with fail
      go_region
      all_goals go_wp2_with fail
      all_goals (obtain ⟨e1,e2⟩:=E.out;rw [e1,e2])
      all_goals refine bodyPost_ret (v:=.tuple #[.agg #[.int .i64 c.cap,.int .i64 c.sent,.int .i64 c.got,.int .i64 c.fin,.slice va c.cells.length vc,.slice (some ⟨g4b,0,none⟩) (c.words.length+1) q4],.int .i64 (c.words.length+1)]) (by simp [results,Try.results26,go_sem, *]) rfl ⟨⟨_,_,rfl,own_lo (lo:=w1.heap.size) ?_ (by omega),own_lo (lo:=w1.heap.size) ?_ (by omega)⟩,by (repeat (with_reducible first|assumption|exact bR|refine bA ?_|refine bD ?_|((first|refine bS ?_ ?_|refine bBx ?_ ?_);rotate_left;focus (try simp) <;> (try omega))))⟩
      all_goals first|(repeat first|with_reducible exact p1|with_reducible refine oAl ?_ _|with_reducible refine oDr ?_|((with_reducible first|refine own_store ?_ ?_ _|refine own_box ?_ ?_);rotate_left;focus first|(refine own_ne o1 ?_;(try dsimp only);omega)|(refine own_ne' o1 ?_;(try dsimp only);omega)))|skip
      all_goals (repeat first|with_reducible exact p2|with_reducible refine oAl ?_ _|with_reducible refine oDr ?_|((with_reducible first|refine own_store ?_ ?_ _|refine own_box ?_ ?_);rotate_left;focus first|(refine own_ne p2 ?_;(try dsimp only);omega)|(refine own_ne' p2 ?_;(try dsimp only);omega)|exact hgb _ (by (try dsimp only) <;> omega)))
  · have hc2:chanOk c=false:=by simpa using hc
    have E:=Lib.hid (waitC_no hc2)
    clear hc
    go_enter Try.func26,Try.ntmps26
    go_wp2_with fail;refine bHit w (by (repeat (with_reducible first|assumption|exact bR|refine bA ?_|refine bD ?_|((first|refine bS ?_ ?_|refine bBx ?_ ?_);rotate_left;focus (try simp) <;> (try omega))))) fun bb=>?_;refine (chanOk_any c a b p q _ ((H1.out.below bb).more bb.size) ((H2.out.below bb).more bb.size) n1 n2).mono ?_;rintro _ w1 ⟨rfl,hbw1⟩;have hCw1:Below w.heap.size w w1:=bT bb hbw1;have hsw1:=hbw1.size;(try simp at hsw1);have zz:=And.intro (fun o=>hbw1.cell (p:=⟨w.heap.size+1,o,none⟩) (by (try simp) <;> omega)) <| And.intro (fun o=>hbw1.frozen (p:=⟨w.heap.size+1,o,none⟩) (by (try simp) <;> omega)) <| And.intro (fun o=>hbw1.cell (p:=⟨w.heap.size,o,none⟩) (by (try simp) <;> omega)) <| fun o=>hbw1.frozen (p:=⟨w.heap.size,o,none⟩) (by (try simp) <;> omega);(try simp [go_sem] at zz);(try clear x_wp f_wp);(try clear x_w f_w);obtain ⟨x_wp,f_wp,x_w,f_w⟩:=zz;(try clear l_wp);have l_wp:w.heap.size+1<w1.heap.size:=(by omega);(try clear l_w);have l_w:w.heap.size<w1.heap.size:=(by omega);clear hbw1 bb
    rw [hc2]
    go_wp2
    rw [E.out.1,E.out.2]
    refine bodyPost_ret (v:=.tuple #[.agg #[.int .i64 Ch.zero.cap,.int .i64 Ch.zero.sent,.int .i64 Ch.zero.got,.int .i64 Ch.zero.fin,.slice none 0 0,.slice none 0 0],.int .i64 0]) (by simp [results,Try.results26,go_sem,Ch.zero, *]) rfl ⟨⟨_,_,rfl,World.ownsRow_nil _ _ _ _,World.ownsRow_nil _ _ _ _⟩,by (repeat (with_reducible first|assumption|exact bR|refine bA ?_|refine bD ?_|((first|refine bS ?_ ?_|refine bBx ?_ ?_);rotate_left;focus (try simp) <;> (try omega))))⟩
end Go.Proofs.Ytikhaaccgoiaeaa
