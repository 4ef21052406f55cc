/-
  FnWords returns true for every list of bytes that it is called with, and turns nothing; no condition.
-/
import Derived.Test.YtikhaaccgoiaeaaQ01
import Derived.Test.YtikhaaccgoiaeaaP23
import Derived.Test.YtikhaaccgoiaeaaQ02
import Derived.Test.YtikhaaccgoiaeaaP04
set_option linter.unusedSimpArgs false
set_option linter.unusedVariables false
namespace Go.Proofs.Ytikhaaccgoiaeaa
open Go.RowKit
set_option linter.unusedSimpArgs false
theorem told_sizes (c:Ch) (v x:Int):(told c v x).cells.length≤c.cells.length∧(told c v x).words.length≤c.words.length:=by
  unfold told
  split
  · rw [tellC_len,(tellC_cells c v x).1]
    exact ⟨Nat.le_refl _,Nat.le_refl _⟩
  · simp [Ch.zero]
theorem wait_sizes (c:Ch):(waitC c).cells.length≤c.cells.length∧(waitC c).words.length≤c.words.length+1:=by
  unfold waitC
  split
  · split <;> simp
  · simp [Ch.zero]
theorem wait_pos (c:Ch):0≤waitN c:=by
  unfold waitN
  split
  · split <;> omega
  · omega

set_option maxRecDepth 100000 in
set_option maxHeartbeats 4000000 in
theorem fnWords_any (n cap:Nat) (a:Option Addr) (bs:Nat→Int) (w:World) (hbs:∀ j,0≤bs j∧bs j≤255) (h:Seg w w.heap.size a n 1 (fun j _=>.int .u8 (bs j))) :
    Calls Try.prog 4 #[.slice a n cap] w fun r w'=>r=.returned (.bool true)∧Below w.heap.size w w':=by
  have HB:=Lib.hid hbs
  have HS:=Lib.hid h
  clear hbs h
  by_cases hn:(4096:Int)<(n:Int)
  · go_enter Try.func4,Try.ntmps4
    go_wp2_with fail
    refine (big_any _ _ _ _).mono ?_
    rintro _ _ ⟨rfl,rfl⟩
    go_wp2
    go_ret
    exact ⟨rfl,Below.refl _ _⟩
  · have HC:Hid (Code w w.heap.size a n bs):=⟨by omega,HB.out,HS.out⟩
    clear HB HS
    go_enter Try.func4,Try.ntmps4
    go_wp2_with fail
    refine (big_any _ _ _ _).mono ?_
    rintro _ _ ⟨rfl,rfl⟩
    go_wp2_with fail;refine bHit w (by (repeat (with_reducible first|assumption|exact bR|refine bA ?_|refine bD ?_|((first|refine bS ?_ ?_|refine bBx ?_ ?_);rotate_left;focus (try simp) <;> (try omega))))) fun bb=>?_;refine (drawTold_any _ _ _ bs _ ((HC.out.below bb).more bb.size)).mono ?_;rintro _ w1 ⟨⟨c1,a1,p1,v1,n1,d1,rfl,s1,zs1,t1,l1,m1⟩,hbw1⟩;have hCw1:Below w.heap.size w w1:=bT bb hbw1;have hsw1:=hbw1.size;(try simp at hsw1);have hKw1:Below w.heap.size w w1:=hCw1;clear hbw1 bb
    replace HC:=Lib.hid ((HC.out.below hKw1).more hKw1.size)
    obtain ⟨b1,q1,rfl,_⟩:=t1.seg
    have zt1:=(OInts.segz t1).2
    have S1:=Lib.hid s1
    have T1:=Lib.hid (OInts.segz t1).1
    clear s1 t1
    obtain ⟨x2,HX2⟩:∃ x,Hid (told c1 n1 d1=x):=⟨_,Lib.hid rfl⟩
    obtain ⟨i2,HI2⟩:∃ i,Hid (toldB c1 n1 d1=i):=⟨_,Lib.hid rfl⟩
    have hx2:x2.cells.length≤40∧x2.words.length≤81:=by rw [← HX2.out];have:=told_sizes c1 n1 d1;omega
    obtain ⟨hc2,hw2⟩:=hx2
    go_wp2_with fail;refine bHit w (by (repeat (with_reducible first|assumption|exact bR|refine bA ?_|refine bD ?_|((first|refine bS ?_ ?_|refine bBx ?_ ?_);rotate_left;focus (try simp) <;> (try omega))))) fun bb=>?_;refine bHit w1 (by (repeat (with_reducible first|assumption|exact bR|refine bA ?_|refine bD ?_|((first|refine bS ?_ ?_|refine bBx ?_ ?_);rotate_left;focus (try simp) <;> (try omega))))) fun bk=>?_;refine (told_any c1 n1 d1 _ _ _ _ _ ((S1.out.below bk).more bk.size) zs1 ((T1.out.below bk).more bk.size) zt1 (by omega) (by omega)).mono ?_;rintro _ w2 ⟨⟨v2,u2,rfl,s2,t2⟩,hbw2⟩;have hCw2:Below w.heap.size w w2:=bT bb hbw2;have hsw2:=hbw2.size;(try simp at hsw2);have zz:=And.intro (fun o=>hbw2.cell (p:=⟨w1.heap.size,o,none⟩) (by (try simp) <;> omega)) <| fun o=>hbw2.frozen (p:=⟨w1.heap.size,o,none⟩) (by (try simp) <;> omega);(try simp [go_sem] at zz);(try clear x_w1 f_w1);obtain ⟨x_w1,f_w1⟩:=zz;(try clear l_w1);have l_w1:w1.heap.size<w2.heap.size:=(by omega);have hKw2:Below w1.heap.size w1 w2:=bT bk hbw2;clear hbw2 bb bk
    replace HC:=Lib.hid ((HC.out.below hKw2).more hKw2.size)
    replace S1:=Lib.hid ((S1.out.below hKw2).more hKw2.size)
    replace T1:=Lib.hid ((T1.out.below hKw2).more hKw2.size)
    rw [HX2.out] at s2 t2
    simp only [HX2.out,HI2.out]
    obtain ⟨a2,p2,rfl,_⟩:=s2.seg
    obtain ⟨b2,q2,rfl,_⟩:=t2.seg
    have zs2:=(OCells.segz s2).2
    have zt2:=(OInts.segz t2).2
    have S2:=Lib.hid (OCells.segz s2).1
    have T2:=Lib.hid (OInts.segz t2).1
    clear s2 t2
    go_wp2_with fail;refine bHit w (by (repeat (with_reducible first|assumption|exact bR|refine bA ?_|refine bD ?_|((first|refine bS ?_ ?_|refine bBx ?_ ?_);rotate_left;focus (try simp) <;> (try omega))))) fun bb=>?_;refine bHit w2 (by (repeat (with_reducible first|assumption|exact bR|refine bA ?_|refine bD ?_|((first|refine bS ?_ ?_|refine bBx ?_ ?_);rotate_left;focus (try simp) <;> (try omega))))) fun bk=>?_;refine (sTold_any c1 n1 d1 _ _ _ _ _ ((S1.out.below bk).more bk.size) zs1 ((T1.out.below bk).more bk.size) zt1 (by omega) (by omega)).mono ?_;rintro _ w3 ⟨⟨v3,u3,rfl,s3,t3⟩,hbw3⟩;have hCw3:Below w.heap.size w w3:=bT bb hbw3;have hsw3:=hbw3.size;(try simp at hsw3);have zz:=And.intro (fun o=>hbw3.cell (p:=⟨w2.heap.size,o,none⟩) (by (try simp) <;> omega)) <| And.intro (fun o=>hbw3.frozen (p:=⟨w2.heap.size,o,none⟩) (by (try simp) <;> omega)) <| And.intro (fun o=>hbw3.cell (p:=⟨w1.heap.size,o,none⟩) (by (try simp) <;> omega)) <| fun o=>hbw3.frozen (p:=⟨w1.heap.size,o,none⟩) (by (try simp) <;> omega);(first|simp [go_sem,x_w1,f_w1,l_w1] at zz|simp [go_sem,x_w1,l_w1] at zz|simp [go_sem] at zz|skip);(try clear x_w2 f_w2);(try clear x_w1 f_w1);obtain ⟨x_w2,f_w2,x_w1,f_w1⟩:=zz;(try clear l_w2);have l_w2:w2.heap.size<w3.heap.size:=(by omega);(try clear l_w1);have l_w1:w1.heap.size<w3.heap.size:=(by omega);have hKw3:Below w2.heap.size w2 w3:=bT bk hbw3;clear hbw3 bb bk
    replace HC:=Lib.hid ((HC.out.below hKw3).more hKw3.size)
    replace S1:=Lib.hid ((S1.out.below hKw3).more hKw3.size)
    replace T1:=Lib.hid ((T1.out.below hKw3).more hKw3.size)
    replace S2:=Lib.hid ((S2.out.below hKw3).more hKw3.size)
    replace T2:=Lib.hid ((T2.out.below hKw3).more hKw3.size)
    rw [HX2.out] at s3 t3
    simp only [HX2.out,HI2.out]
    obtain ⟨a3,p3,rfl,_⟩:=s3.seg
    obtain ⟨b3,q3,rfl,_⟩:=t3.seg
    have zs3:=(OCells.segz s3).2
    have zt3:=(OInts.segz t3).2
    have S3:=Lib.hid (OCells.segz s3).1
    have T3:=Lib.hid (OInts.segz t3).1
    clear s3 t3
    clear S1 T1
    go_wp2_with fail;refine bHit w (by (repeat (with_reducible first|assumption|exact bR|refine bA ?_|refine bD ?_|((first|refine bS ?_ ?_|refine bBx ?_ ?_);rotate_left;focus (try simp) <;> (try omega))))) fun bb=>?_;refine bHit w3 (by (repeat (with_reducible first|assumption|exact bR|refine bA ?_|refine bD ?_|((first|refine bS ?_ ?_|refine bBx ?_ ?_);rotate_left;focus (try simp) <;> (try omega))))) fun bk=>?_;refine (drawWaiter_any _ _ _ bs _ ((HC.out.below bk).more bk.size)).mono ?_;rintro _ w4 ⟨⟨c4,a4,p4,v4,rfl,s4,zs4,t4,l4,m4⟩,hbw4⟩;have hCw4:Below w.heap.size w w4:=bT bb hbw4;have hsw4:=hbw4.size;(try simp at hsw4);have zz:=And.intro (fun o=>hbw4.cell (p:=⟨w3.heap.size,o,none⟩) (by (try simp) <;> omega)) <| And.intro (fun o=>hbw4.frozen (p:=⟨w3.heap.size,o,none⟩) (by (try simp) <;> omega)) <| And.intro (fun o=>hbw4.cell (p:=⟨w2.heap.size,o,none⟩) (by (try simp) <;> omega)) <| fun o=>hbw4.frozen (p:=⟨w2.heap.size,o,none⟩) (by (try simp) <;> omega);(first|simp [go_sem,x_w2,f_w2,l_w2] at zz|simp [go_sem,x_w2,l_w2] at zz|simp [go_sem] at zz|skip);(try clear x_w3 f_w3);(try clear x_w2 f_w2);obtain ⟨x_w3,f_w3,x_w2,f_w2⟩:=zz;(try clear l_w3);have l_w3:w3.heap.size<w4.heap.size:=(by omega);(try clear l_w2);have l_w2:w2.heap.size<w4.heap.size:=(by omega);have hKw4:Below w3.heap.size w3 w4:=bT bk hbw4;clear hbw4 bb bk
    replace HC:=Lib.hid ((HC.out.below hKw4).more hKw4.size)
    replace S2:=Lib.hid ((S2.out.below hKw4).more hKw4.size)
    replace T2:=Lib.hid ((T2.out.below hKw4).more hKw4.size)
    replace S3:=Lib.hid ((S3.out.below hKw4).more hKw4.size)
    replace T3:=Lib.hid ((T3.out.below hKw4).more hKw4.size)
    obtain ⟨b4,q4,rfl,_⟩:=t4.seg
    have zt4:=(OInts.segz t4).2
    have S4:=Lib.hid s4
    have T4:=Lib.hid (OInts.segz t4).1
    clear s4 t4
    obtain ⟨x5,HX5⟩:∃ x,Hid (waitC c4=x):=⟨_,Lib.hid rfl⟩
    obtain ⟨i5,HI5⟩:∃ i,Hid (waitN c4=i):=⟨_,Lib.hid rfl⟩
    have hx5:x5.cells.length≤40∧x5.words.length≤81:=by rw [← HX5.out];have:=wait_sizes c4;omega
    obtain ⟨hc5,hw5⟩:=hx5
    go_wp2_with fail;refine bHit w (by (repeat (with_reducible first|assumption|exact bR|refine bA ?_|refine bD ?_|((first|refine bS ?_ ?_|refine bBx ?_ ?_);rotate_left;focus (try simp) <;> (try omega))))) fun bb=>?_;refine bHit w4 (by (repeat (with_reducible first|assumption|exact bR|refine bA ?_|refine bD ?_|((first|refine bS ?_ ?_|refine bBx ?_ ?_);rotate_left;focus (try simp) <;> (try omega))))) fun bk=>?_;refine (waiter_any c4 _ _ _ _ _ ((S4.out.below bk).more bk.size) zs4 ((T4.out.below bk).more bk.size) zt4 (by omega) (by omega)).mono ?_;rintro _ w5 ⟨⟨v5,u5,rfl,s5,t5⟩,hbw5⟩;have hCw5:Below w.heap.size w w5:=bT bb hbw5;have hsw5:=hbw5.size;(try simp at hsw5);have zz:=And.intro (fun o=>hbw5.cell (p:=⟨w4.heap.size,o,none⟩) (by (try simp) <;> omega)) <| And.intro (fun o=>hbw5.frozen (p:=⟨w4.heap.size,o,none⟩) (by (try simp) <;> omega)) <| And.intro (fun o=>hbw5.cell (p:=⟨w3.heap.size,o,none⟩) (by (try simp) <;> omega)) <| And.intro (fun o=>hbw5.frozen (p:=⟨w3.heap.size,o,none⟩) (by (try simp) <;> omega)) <| And.intro (fun o=>hbw5.cell (p:=⟨w2.heap.size,o,none⟩) (by (try simp) <;> omega)) <| fun o=>hbw5.frozen (p:=⟨w2.heap.size,o,none⟩) (by (try simp) <;> omega);(first|simp [go_sem,x_w3,f_w3,x_w2,f_w2,l_w2,l_w3] at zz|simp [go_sem,x_w3,x_w2,l_w2,l_w3] at zz|simp [go_sem] at zz|skip);(try clear x_w4 f_w4);(try clear x_w3 f_w3);(try clear x_w2 f_w2);obtain ⟨x_w4,f_w4,x_w3,f_w3,x_w2,f_w2⟩:=zz;(try clear l_w4);have l_w4:w4.heap.size<w5.heap.size:=(by omega);(try clear l_w3);have l_w3:w3.heap.size<w5.heap.size:=(by omega);(try clear l_w2);have l_w2:w2.heap.size<w5.heap.size:=(by omega);have hKw5:Below w4.heap.size w4 w5:=bT bk hbw5;clear hbw5 bb bk
    replace HC:=Lib.hid ((HC.out.below hKw5).more hKw5.size)
    replace S2:=Lib.hid ((S2.out.below hKw5).more hKw5.size)
    replace T2:=Lib.hid ((T2.out.below hKw5).more hKw5.size)
    replace S3:=Lib.hid ((S3.out.below hKw5).more hKw5.size)
    replace T3:=Lib.hid ((T3.out.below hKw5).more hKw5.size)
    replace S4:=Lib.hid ((S4.out.below hKw5).more hKw5.size)
    replace T4:=Lib.hid ((T4.out.below hKw5).more hKw5.size)
    rw [HX5.out] at s5 t5
    simp only [HX5.out,HI5.out]
    obtain ⟨a5,p5,rfl,_⟩:=s5.seg
    obtain ⟨b5,q5,rfl,_⟩:=t5.seg
    have zs5:=(OCells.segz s5).2
    have zt5:=(OInts.segz t5).2
    have S5:=Lib.hid (OCells.segz s5).1
    have T5:=Lib.hid (OInts.segz t5).1
    clear s5 t5
    go_wp2_with fail;refine bHit w (by (repeat (with_reducible first|assumption|exact bR|refine bA ?_|refine bD ?_|((first|refine bS ?_ ?_|refine bBx ?_ ?_);rotate_left;focus (try simp) <;> (try omega))))) fun bb=>?_;refine bHit w5 (by (repeat (with_reducible first|assumption|exact bR|refine bA ?_|refine bD ?_|((first|refine bS ?_ ?_|refine bBx ?_ ?_);rotate_left;focus (try simp) <;> (try omega))))) fun bk=>?_;refine (sWaiter_any c4 _ _ _ _ _ ((S4.out.below bk).more bk.size) zs4 ((T4.out.below bk).more bk.size) zt4 (by omega) (by omega)).mono ?_;rintro _ w6 ⟨⟨v6,u6,rfl,s6,t6⟩,hbw6⟩;have hCw6:Below w.heap.size w w6:=bT bb hbw6;have hsw6:=hbw6.size;(try simp at hsw6);have zz:=And.intro (fun o=>hbw6.cell (p:=⟨w5.heap.size,o,none⟩) (by (try simp) <;> omega)) <| And.intro (fun o=>hbw6.frozen (p:=⟨w5.heap.size,o,none⟩) (by (try simp) <;> omega)) <| And.intro (fun o=>hbw6.cell (p:=⟨w4.heap.size,o,none⟩) (by (try simp) <;> omega)) <| And.intro (fun o=>hbw6.frozen (p:=⟨w4.heap.size,o,none⟩) (by (try simp) <;> omega)) <| And.intro (fun o=>hbw6.cell (p:=⟨w3.heap.size,o,none⟩) (by (try simp) <;> omega)) <| And.intro (fun o=>hbw6.frozen (p:=⟨w3.heap.size,o,none⟩) (by (try simp) <;> omega)) <| And.intro (fun o=>hbw6.cell (p:=⟨w2.heap.size,o,none⟩) (by (try simp) <;> omega)) <| fun o=>hbw6.frozen (p:=⟨w2.heap.size,o,none⟩) (by (try simp) <;> omega);(first|simp [go_sem,x_w4,f_w4,x_w3,f_w3,x_w2,f_w2,l_w2,l_w3,l_w4] at zz|simp [go_sem,x_w4,x_w3,x_w2,l_w2,l_w3,l_w4] at zz|simp [go_sem] at zz|skip);(try clear x_w5 f_w5);(try clear x_w4 f_w4);(try clear x_w3 f_w3);(try clear x_w2 f_w2);obtain ⟨x_w5,f_w5,x_w4,f_w4,x_w3,f_w3,x_w2,f_w2⟩:=zz;(try clear l_w5);have l_w5:w5.heap.size<w6.heap.size:=(by omega);(try clear l_w4);have l_w4:w4.heap.size<w6.heap.size:=(by omega);(try clear l_w3);have l_w3:w3.heap.size<w6.heap.size:=(by omega);(try clear l_w2);have l_w2:w2.heap.size<w6.heap.size:=(by omega);have hKw6:Below w5.heap.size w5 w6:=bT bk hbw6;clear hbw6 bb bk
    replace HC:=Lib.hid ((HC.out.below hKw6).more hKw6.size)
    replace S2:=Lib.hid ((S2.out.below hKw6).more hKw6.size)
    replace T2:=Lib.hid ((T2.out.below hKw6).more hKw6.size)
    replace S3:=Lib.hid ((S3.out.below hKw6).more hKw6.size)
    replace T3:=Lib.hid ((T3.out.below hKw6).more hKw6.size)
    replace S4:=Lib.hid ((S4.out.below hKw6).more hKw6.size)
    replace T4:=Lib.hid ((T4.out.below hKw6).more hKw6.size)
    replace S5:=Lib.hid ((S5.out.below hKw6).more hKw6.size)
    replace T5:=Lib.hid ((T5.out.below hKw6).more hKw6.size)
    rw [HX5.out] at s6 t6
    simp only [HX5.out,HI5.out]
    obtain ⟨a6,p6,rfl,_⟩:=s6.seg
    obtain ⟨b6,q6,rfl,_⟩:=t6.seg
    have zs6:=(OCells.segz s6).2
    have zt6:=(OInts.segz t6).2
    have S6:=Lib.hid (OCells.segz s6).1
    have T6:=Lib.hid (OInts.segz t6).1
    clear s6 t6
    clear S4 T4
    go_wp2_with fail;refine bHit w (by (repeat (with_reducible first|assumption|exact bR|refine bA ?_|refine bD ?_|((first|refine bS ?_ ?_|refine bBx ?_ ?_);rotate_left;focus (try simp) <;> (try omega))))) fun bb=>?_;refine bHit w6 (by (repeat (with_reducible first|assumption|exact bR|refine bA ?_|refine bD ?_|((first|refine bS ?_ ?_|refine bBx ?_ ?_);rotate_left;focus (try simp) <;> (try omega))))) fun bk=>?_;refine (drawWordOf_any _ _ _ bs _ ((HC.out.below bk).more bk.size)).mono ?_;rintro _ w7 ⟨⟨f7,a7,p7,v7,n7,rfl,s7,zs7,lo7,t7,l7,m7⟩,hbw7⟩;have hCw7:Below w.heap.size w w7:=bT bb hbw7;have hsw7:=hbw7.size;(try simp at hsw7);have zz:=And.intro (fun o=>hbw7.cell (p:=⟨w6.heap.size,o,none⟩) (by (try simp) <;> omega)) <| And.intro (fun o=>hbw7.frozen (p:=⟨w6.heap.size,o,none⟩) (by (try simp) <;> omega)) <| And.intro (fun o=>hbw7.cell (p:=⟨w5.heap.size,o,none⟩) (by (try simp) <;> omega)) <| And.intro (fun o=>hbw7.frozen (p:=⟨w5.heap.size,o,none⟩) (by (try simp) <;> omega)) <| And.intro (fun o=>hbw7.cell (p:=⟨w3.heap.size,o,none⟩) (by (try simp) <;> omega)) <| And.intro (fun o=>hbw7.frozen (p:=⟨w3.heap.size,o,none⟩) (by (try simp) <;> omega)) <| And.intro (fun o=>hbw7.cell (p:=⟨w2.heap.size,o,none⟩) (by (try simp) <;> omega)) <| fun o=>hbw7.frozen (p:=⟨w2.heap.size,o,none⟩) (by (try simp) <;> omega);(first|simp [go_sem,x_w5,f_w5,x_w3,f_w3,x_w2,f_w2,l_w2,l_w3,l_w5] at zz|simp [go_sem,x_w5,x_w3,x_w2,l_w2,l_w3,l_w5] at zz|simp [go_sem] at zz|skip);(try clear x_w6 f_w6);(try clear x_w5 f_w5);(try clear x_w3 f_w3);(try clear x_w2 f_w2);obtain ⟨x_w6,f_w6,x_w5,f_w5,x_w3,f_w3,x_w2,f_w2⟩:=zz;(try clear l_w6);have l_w6:w6.heap.size<w7.heap.size:=(by omega);(try clear l_w5);have l_w5:w5.heap.size<w7.heap.size:=(by omega);(try clear l_w3);have l_w3:w3.heap.size<w7.heap.size:=(by omega);(try clear l_w2);have l_w2:w2.heap.size<w7.heap.size:=(by omega);have hKw7:Below w6.heap.size w6 w7:=bT bk hbw7;clear hbw7 bb bk
    replace HC:=Lib.hid ((HC.out.below hKw7).more hKw7.size)
    replace S2:=Lib.hid ((S2.out.below hKw7).more hKw7.size)
    replace T2:=Lib.hid ((T2.out.below hKw7).more hKw7.size)
    replace S3:=Lib.hid ((S3.out.below hKw7).more hKw7.size)
    replace T3:=Lib.hid ((T3.out.below hKw7).more hKw7.size)
    replace S5:=Lib.hid ((S5.out.below hKw7).more hKw7.size)
    replace T5:=Lib.hid ((T5.out.below hKw7).more hKw7.size)
    replace S6:=Lib.hid ((S6.out.below hKw7).more hKw7.size)
    replace T6:=Lib.hid ((T6.out.below hKw7).more hKw7.size)
    obtain ⟨b7,q7,rfl,_⟩:=t7.seg
    have zt7:=(OInts.segz t7).2
    have S7:=Lib.hid s7
    have T7:=Lib.hid (OInts.segz t7).1
    clear s7 t7
    clear HC
    obtain ⟨kf,HF⟩:∃ k,Hid (wordOf f7 n7=k):=⟨_,Lib.hid rfl⟩
    go_wp2_with fail
    go_region_held3 (fun w'=>(∀ o,w'.cell? ⟨w2.heap.size,o,none⟩=[.int .i64 x2.cap,.int .i64 x2.sent,.int .i64 x2.got,.int .i64 x2.fin,.slice a2 x2.cells.length p2,.slice b2 x2.words.length q2][o]?)∧(∀ o,w'.cell? ⟨w3.heap.size,o,none⟩=[.int .i64 x2.cap,.int .i64 x2.sent,.int .i64 x2.got,.int .i64 x2.fin,.slice a3 x2.cells.length p3,.slice b3 x2.words.length q3][o]?)∧(∀ o,w'.cell? ⟨w5.heap.size,o,none⟩=[.int .i64 x5.cap,.int .i64 x5.sent,.int .i64 x5.got,.int .i64 x5.fin,.slice a5 x5.cells.length p5,.slice b5 x5.words.length q5][o]?)∧(∀ o,w'.cell? ⟨w6.heap.size,o,none⟩=[.int .i64 x5.cap,.int .i64 x5.sent,.int .i64 x5.got,.int .i64 x5.fin,.slice a6 x5.cells.length p6,.slice b6 x5.words.length q6][o]?)∧(∀ o,w'.cell? ⟨w7.heap.size,o,none⟩=[.int .i64 f7.cap,.int .i64 f7.sent,.int .i64 f7.got,.int .i64 f7.fin,.slice a7 f7.cells.length p7,.slice b7 f7.words.length q7][o]?))
      (first|exact ⟨x_w2,x_w3,x_w5,x_w6,x_w7⟩|(simp [*,go_sem]))
      (first|((go_at_call 14;(with_reducible show Calls _ _ #[.agg #[.int .i64 x2.cap,_,_,_,_,_],.agg _] _ _);(go_at_call 14;refine bHit w (by (repeat (with_reducible first|assumption|exact bR|refine bA ?_|refine bD ?_|((first|refine bS ?_ ?_|refine bBx ?_ ?_);rotate_left;focus (try simp) <;> (try omega))))) fun bb=>?_;refine bHit w7 (by (repeat (with_reducible first|assumption|exact bR|refine bA ?_|refine bD ?_|((first|refine bS ?_ ?_|refine bBx ?_ ?_);rotate_left;focus (try simp) <;> (try omega))))) fun bk=>?_;refine (likeChan_any x2 _ _ _ _ _ _ _ _ _ ((S2.out.below bk).more bk.size) ((T2.out.below bk).more bk.size) ((S3.out.below bk).more bk.size) ((T3.out.below bk).more bk.size) (by unfold maxLen;omega) (by unfold maxLen;omega)).mono ?_;rintro _ w8 ⟨rfl,hbw8⟩;have hCw8:Below w.heap.size w w8:=bT bb hbw8;have hsw8:=hbw8.size;(try simp at hsw8);have zz:=And.intro (fun o=>hbw8.cell (p:=⟨w7.heap.size,o,none⟩) (by (try simp) <;> omega)) <| And.intro (fun o=>hbw8.frozen (p:=⟨w7.heap.size,o,none⟩) (by (try simp) <;> omega)) <| And.intro (fun o=>hbw8.cell (p:=⟨w6.heap.size,o,none⟩) (by (try simp) <;> omega)) <| And.intro (fun o=>hbw8.frozen (p:=⟨w6.heap.size,o,none⟩) (by (try simp) <;> omega)) <| And.intro (fun o=>hbw8.cell (p:=⟨w5.heap.size,o,none⟩) (by (try simp) <;> omega)) <| And.intro (fun o=>hbw8.frozen (p:=⟨w5.heap.size,o,none⟩) (by (try simp) <;> omega)) <| And.intro (fun o=>hbw8.cell (p:=⟨w3.heap.size,o,none⟩) (by (try simp) <;> omega)) <| And.intro (fun o=>hbw8.frozen (p:=⟨w3.heap.size,o,none⟩) (by (try simp) <;> omega)) <| And.intro (fun o=>hbw8.cell (p:=⟨w2.heap.size,o,none⟩) (by (try simp) <;> omega)) <| fun o=>hbw8.frozen (p:=⟨w2.heap.size,o,none⟩) (by (try simp) <;> omega);(first|simp [go_sem,x_w6,f_w6,x_w5,f_w5,x_w3,f_w3,x_w2,f_w2,l_w2,l_w3,l_w5,l_w6] at zz|simp [go_sem,x_w6,x_w5,x_w3,x_w2,l_w2,l_w3,l_w5,l_w6] at zz|simp [go_sem] at zz|skip);(try clear x_w7 f_w7);(try clear x_w6 f_w6);(try clear x_w5 f_w5);(try clear x_w3 f_w3);(try clear x_w2 f_w2);obtain ⟨x_w7,f_w7,x_w6,f_w6,x_w5,f_w5,x_w3,f_w3,x_w2,f_w2⟩:=zz;(try clear l_w7);have l_w7:w7.heap.size<w8.heap.size:=(by omega);(try clear l_w6);have l_w6:w6.heap.size<w8.heap.size:=(by omega);(try clear l_w5);have l_w5:w5.heap.size<w8.heap.size:=(by omega);(try clear l_w3);have l_w3:w3.heap.size<w8.heap.size:=(by omega);(try clear l_w2);have l_w2:w2.heap.size<w8.heap.size:=(by omega);have hKw8:Below w7.heap.size w7 w8:=bT bk hbw8;clear hbw8 bb bk));replace S2:=Lib.hid ((S2.out.below hKw8).more hKw8.size);replace T2:=Lib.hid ((T2.out.below hKw8).more hKw8.size);replace S3:=Lib.hid ((S3.out.below hKw8).more hKw8.size);replace T3:=Lib.hid ((T3.out.below hKw8).more hKw8.size);replace S5:=Lib.hid ((S5.out.below hKw8).more hKw8.size);replace T5:=Lib.hid ((T5.out.below hKw8).more hKw8.size);replace S6:=Lib.hid ((S6.out.below hKw8).more hKw8.size);replace T6:=Lib.hid ((T6.out.below hKw8).more hKw8.size);replace S7:=Lib.hid ((S7.out.below hKw8).more hKw8.size);replace T7:=Lib.hid ((T7.out.below hKw8).more hKw8.size))|((go_at_call 14;(with_reducible show Calls _ _ #[.agg #[.int .i64 x5.cap,_,_,_,_,_],.agg _] _ _);(go_at_call 14;refine bHit w (by (repeat (with_reducible first|assumption|exact bR|refine bA ?_|refine bD ?_|((first|refine bS ?_ ?_|refine bBx ?_ ?_);rotate_left;focus (try simp) <;> (try omega))))) fun bb=>?_;refine bHit w8 (by (repeat (with_reducible first|assumption|exact bR|refine bA ?_|refine bD ?_|((first|refine bS ?_ ?_|refine bBx ?_ ?_);rotate_left;focus (try simp) <;> (try omega))))) fun bk=>?_;refine (likeChan_any x5 _ _ _ _ _ _ _ _ _ ((S5.out.below bk).more bk.size) ((T5.out.below bk).more bk.size) ((S6.out.below bk).more bk.size) ((T6.out.below bk).more bk.size) (by unfold maxLen;omega) (by unfold maxLen;omega)).mono ?_;rintro _ w9 ⟨rfl,hbw9⟩;have hCw9:Below w.heap.size w w9:=bT bb hbw9;have hsw9:=hbw9.size;(try simp at hsw9);have zz:=And.intro (fun o=>hbw9.cell (p:=⟨w7.heap.size,o,none⟩) (by (try simp) <;> omega)) <| And.intro (fun o=>hbw9.frozen (p:=⟨w7.heap.size,o,none⟩) (by (try simp) <;> omega)) <| And.intro (fun o=>hbw9.cell (p:=⟨w6.heap.size,o,none⟩) (by (try simp) <;> omega)) <| And.intro (fun o=>hbw9.frozen (p:=⟨w6.heap.size,o,none⟩) (by (try simp) <;> omega)) <| And.intro (fun o=>hbw9.cell (p:=⟨w5.heap.size,o,none⟩) (by (try simp) <;> omega)) <| And.intro (fun o=>hbw9.frozen (p:=⟨w5.heap.size,o,none⟩) (by (try simp) <;> omega)) <| And.intro (fun o=>hbw9.cell (p:=⟨w3.heap.size,o,none⟩) (by (try simp) <;> omega)) <| And.intro (fun o=>hbw9.frozen (p:=⟨w3.heap.size,o,none⟩) (by (try simp) <;> omega)) <| And.intro (fun o=>hbw9.cell (p:=⟨w2.heap.size,o,none⟩) (by (try simp) <;> omega)) <| fun o=>hbw9.frozen (p:=⟨w2.heap.size,o,none⟩) (by (try simp) <;> omega);(first|simp [go_sem,x_w7,f_w7,x_w6,f_w6,x_w5,f_w5,x_w3,f_w3,x_w2,f_w2,l_w2,l_w3,l_w5,l_w6,l_w7] at zz|simp [go_sem,x_w6,f_w6,x_w5,f_w5,x_w3,f_w3,x_w2,f_w2,l_w2,l_w3,l_w5,l_w6] at zz|simp [go_sem,x_w6,x_w5,x_w3,x_w2,l_w2,l_w3,l_w5,l_w6] at zz|simp [go_sem] at zz|skip);(try clear x_w7 f_w7);(try clear x_w6 f_w6);(try clear x_w5 f_w5);(try clear x_w3 f_w3);(try clear x_w2 f_w2);obtain ⟨x_w7,f_w7,x_w6,f_w6,x_w5,f_w5,x_w3,f_w3,x_w2,f_w2⟩:=zz;(try clear l_w7);have l_w7:w7.heap.size<w9.heap.size:=(by omega);(try clear l_w6);have l_w6:w6.heap.size<w9.heap.size:=(by omega);(try clear l_w5);have l_w5:w5.heap.size<w9.heap.size:=(by omega);(try clear l_w3);have l_w3:w3.heap.size<w9.heap.size:=(by omega);(try clear l_w2);have l_w2:w2.heap.size<w9.heap.size:=(by omega);have hKw9:Below w8.heap.size w8 w9:=bT bk hbw9;clear hbw9 bb bk));replace S2:=Lib.hid ((S2.out.below hKw9).more hKw9.size);replace T2:=Lib.hid ((T2.out.below hKw9).more hKw9.size);replace S3:=Lib.hid ((S3.out.below hKw9).more hKw9.size);replace T3:=Lib.hid ((T3.out.below hKw9).more hKw9.size);replace S5:=Lib.hid ((S5.out.below hKw9).more hKw9.size);replace T5:=Lib.hid ((T5.out.below hKw9).more hKw9.size);replace S6:=Lib.hid ((S6.out.below hKw9).more hKw9.size);replace T6:=Lib.hid ((T6.out.below hKw9).more hKw9.size);replace S7:=Lib.hid ((S7.out.below hKw9).more hKw9.size);replace T7:=Lib.hid ((T7.out.below hKw9).more hKw9.size))|((go_at_call 29;refine bHit w (by (repeat (with_reducible first|assumption|exact bR|refine bA ?_|refine bD ?_|((first|refine bS ?_ ?_|refine bBx ?_ ?_);rotate_left;focus (try simp) <;> (try omega))))) fun bb=>?_;refine bHit w9 (by (repeat (with_reducible first|assumption|exact bR|refine bA ?_|refine bD ?_|((first|refine bS ?_ ?_|refine bBx ?_ ?_);rotate_left;focus (try simp) <;> (try omega))))) fun bk=>?_;refine (wordOf_any f7 n7 _ _ _ _ _ ((S7.out.below bk).more bk.size) ((T7.out.below bk).more bk.size) (by unfold maxLen;omega) (by unfold maxLen;omega)).mono ?_;rintro _ w10 ⟨rfl,hbw10⟩;have hCw10:Below w.heap.size w w10:=bT bb hbw10;have hsw10:=hbw10.size;(try simp at hsw10);have zz:=And.intro (fun o=>hbw10.cell (p:=⟨w7.heap.size,o,none⟩) (by (try simp) <;> omega)) <| And.intro (fun o=>hbw10.frozen (p:=⟨w7.heap.size,o,none⟩) (by (try simp) <;> omega)) <| And.intro (fun o=>hbw10.cell (p:=⟨w6.heap.size,o,none⟩) (by (try simp) <;> omega)) <| And.intro (fun o=>hbw10.frozen (p:=⟨w6.heap.size,o,none⟩) (by (try simp) <;> omega)) <| And.intro (fun o=>hbw10.cell (p:=⟨w5.heap.size,o,none⟩) (by (try simp) <;> omega)) <| And.intro (fun o=>hbw10.frozen (p:=⟨w5.heap.size,o,none⟩) (by (try simp) <;> omega)) <| And.intro (fun o=>hbw10.cell (p:=⟨w3.heap.size,o,none⟩) (by (try simp) <;> omega)) <| And.intro (fun o=>hbw10.frozen (p:=⟨w3.heap.size,o,none⟩) (by (try simp) <;> omega)) <| And.intro (fun o=>hbw10.cell (p:=⟨w2.heap.size,o,none⟩) (by (try simp) <;> omega)) <| fun o=>hbw10.frozen (p:=⟨w2.heap.size,o,none⟩) (by (try simp) <;> omega);(first|simp [go_sem,x_w7,f_w7,x_w6,f_w6,x_w5,f_w5,x_w3,f_w3,x_w2,f_w2,l_w2,l_w3,l_w5,l_w6,l_w7] at zz|simp [go_sem,x_w6,f_w6,x_w5,f_w5,x_w3,f_w3,x_w2,f_w2,l_w2,l_w3,l_w5,l_w6] at zz|simp [go_sem,x_w6,x_w5,x_w3,x_w2,l_w2,l_w3,l_w5,l_w6] at zz|simp [go_sem] at zz|skip);(try clear x_w7 f_w7);(try clear x_w6 f_w6);(try clear x_w5 f_w5);(try clear x_w3 f_w3);(try clear x_w2 f_w2);obtain ⟨x_w7,f_w7,x_w6,f_w6,x_w5,f_w5,x_w3,f_w3,x_w2,f_w2⟩:=zz;(try clear l_w7);have l_w7:w7.heap.size<w10.heap.size:=(by omega);(try clear l_w6);have l_w6:w6.heap.size<w10.heap.size:=(by omega);(try clear l_w5);have l_w5:w5.heap.size<w10.heap.size:=(by omega);(try clear l_w3);have l_w3:w3.heap.size<w10.heap.size:=(by omega);(try clear l_w2);have l_w2:w2.heap.size<w10.heap.size:=(by omega);have hKw10:Below w9.heap.size w9 w10:=bT bk hbw10;clear hbw10 bb bk);replace S2:=Lib.hid ((S2.out.below hKw10).more hKw10.size);replace T2:=Lib.hid ((T2.out.below hKw10).more hKw10.size);replace S3:=Lib.hid ((S3.out.below hKw10).more hKw10.size);replace T3:=Lib.hid ((T3.out.below hKw10).more hKw10.size);replace S5:=Lib.hid ((S5.out.below hKw10).more hKw10.size);replace T5:=Lib.hid ((T5.out.below hKw10).more hKw10.size);replace S6:=Lib.hid ((S6.out.below hKw10).more hKw10.size);replace T6:=Lib.hid ((T6.out.below hKw10).more hKw10.size);replace S7:=Lib.hid ((S7.out.below hKw10).more hKw10.size);replace T7:=Lib.hid ((T7.out.below hKw10).more hKw10.size);rw [HF.out])|((go_at_call 30;refine bHit w (by (repeat (with_reducible first|assumption|exact bR|refine bA ?_|refine bD ?_|((first|refine bS ?_ ?_|refine bBx ?_ ?_);rotate_left;focus (try simp) <;> (try omega))))) fun bb=>?_;refine bHit w10 (by (repeat (with_reducible first|assumption|exact bR|refine bA ?_|refine bD ?_|((first|refine bS ?_ ?_|refine bBx ?_ ?_);rotate_left;focus (try simp) <;> (try omega))))) fun bk=>?_;refine (sWordOf_any f7 n7 _ _ _ _ _ ((S7.out.below bk).more bk.size) ((T7.out.below bk).more bk.size) (by omega)).mono ?_;rintro _ w11 ⟨rfl,hbw11⟩;have hCw11:Below w.heap.size w w11:=bT bb hbw11;have hsw11:=hbw11.size;(try simp at hsw11);have zz:=And.intro (fun o=>hbw11.cell (p:=⟨w7.heap.size,o,none⟩) (by (try simp) <;> omega)) <| And.intro (fun o=>hbw11.frozen (p:=⟨w7.heap.size,o,none⟩) (by (try simp) <;> omega)) <| And.intro (fun o=>hbw11.cell (p:=⟨w6.heap.size,o,none⟩) (by (try simp) <;> omega)) <| And.intro (fun o=>hbw11.frozen (p:=⟨w6.heap.size,o,none⟩) (by (try simp) <;> omega)) <| And.intro (fun o=>hbw11.cell (p:=⟨w5.heap.size,o,none⟩) (by (try simp) <;> omega)) <| And.intro (fun o=>hbw11.frozen (p:=⟨w5.heap.size,o,none⟩) (by (try simp) <;> omega)) <| And.intro (fun o=>hbw11.cell (p:=⟨w3.heap.size,o,none⟩) (by (try simp) <;> omega)) <| And.intro (fun o=>hbw11.frozen (p:=⟨w3.heap.size,o,none⟩) (by (try simp) <;> omega)) <| And.intro (fun o=>hbw11.cell (p:=⟨w2.heap.size,o,none⟩) (by (try simp) <;> omega)) <| fun o=>hbw11.frozen (p:=⟨w2.heap.size,o,none⟩) (by (try simp) <;> omega);(first|simp [go_sem,x_w7,f_w7,x_w6,f_w6,x_w5,f_w5,x_w3,f_w3,x_w2,f_w2,l_w2,l_w3,l_w5,l_w6,l_w7] at zz|simp [go_sem,x_w6,f_w6,x_w5,f_w5,x_w3,f_w3,x_w2,f_w2,l_w2,l_w3,l_w5,l_w6] at zz|simp [go_sem,x_w6,x_w5,x_w3,x_w2,l_w2,l_w3,l_w5,l_w6] at zz|simp [go_sem] at zz|skip);(try clear x_w7 f_w7);(try clear x_w6 f_w6);(try clear x_w5 f_w5);(try clear x_w3 f_w3);(try clear x_w2 f_w2);obtain ⟨x_w7,f_w7,x_w6,f_w6,x_w5,f_w5,x_w3,f_w3,x_w2,f_w2⟩:=zz;(try clear l_w7);have l_w7:w7.heap.size<w11.heap.size:=(by omega);(try clear l_w6);have l_w6:w6.heap.size<w11.heap.size:=(by omega);(try clear l_w5);have l_w5:w5.heap.size<w11.heap.size:=(by omega);(try clear l_w3);have l_w3:w3.heap.size<w11.heap.size:=(by omega);(try clear l_w2);have l_w2:w2.heap.size<w11.heap.size:=(by omega);have hKw11:Below w10.heap.size w10 w11:=bT bk hbw11;clear hbw11 bb bk);replace S2:=Lib.hid ((S2.out.below hKw11).more hKw11.size);replace T2:=Lib.hid ((T2.out.below hKw11).more hKw11.size);replace S3:=Lib.hid ((S3.out.below hKw11).more hKw11.size);replace T3:=Lib.hid ((T3.out.below hKw11).more hKw11.size);replace S5:=Lib.hid ((S5.out.below hKw11).more hKw11.size);replace T5:=Lib.hid ((T5.out.below hKw11).more hKw11.size);replace S6:=Lib.hid ((S6.out.below hKw11).more hKw11.size);replace T6:=Lib.hid ((T6.out.below hKw11).more hKw11.size);replace S7:=Lib.hid ((S7.out.below hKw11).more hKw11.size);replace T7:=Lib.hid ((T7.out.below hKw11).more hKw11.size);rw [HF.out]))
    clear S3 T3
    clear S6 T6
    clear S7 T7
    by_cases h5:i5=0
    · subst h5
      cases i2
      · go_wp2_with fail
        go_ret
        exact ⟨rfl,by (repeat (with_reducible first|assumption|exact bR|refine bA ?_|refine bD ?_|((first|refine bS ?_ ?_|refine bBx ?_ ?_);rotate_left;focus (try simp) <;> (try omega))))⟩
      · have HG:Hid (wordOf x2 n1=d1):=Lib.hid (by rw [← HX2.out];exact told_word HI2.out)
        go_wp2_with fail;refine bHit w (by (repeat (with_reducible first|assumption|exact bR|refine bA ?_|refine bD ?_|((first|refine bS ?_ ?_|refine bBx ?_ ?_);rotate_left;focus (try simp) <;> (try omega))))) fun bb=>?_;refine bHit w11 (by (repeat (with_reducible first|assumption|exact bR|refine bA ?_|refine bD ?_|((first|refine bS ?_ ?_|refine bBx ?_ ?_);rotate_left;focus (try simp) <;> (try omega))))) fun bk=>?_;refine (wordOf_any x2 n1 _ _ _ _ _ ((S2.out.below bk).more bk.size) ((T2.out.below bk).more bk.size) (by unfold maxLen;omega) (by unfold maxLen;omega)).mono ?_;rintro _ w12 ⟨rfl,hbw12⟩;have hCw12:Below w.heap.size w w12:=bT bb hbw12;have hsw12:=hbw12.size;(try simp at hsw12);have zz:=And.intro (fun o=>hbw12.cell (p:=⟨w2.heap.size,o,none⟩) (by (try simp) <;> omega)) <| fun o=>hbw12.frozen (p:=⟨w2.heap.size,o,none⟩) (by (try simp) <;> omega);(first|simp [go_sem,x_w2,f_w2,l_w2] at zz|simp [go_sem,x_w2,l_w2] at zz|simp [go_sem] at zz|skip);(try clear x_w2 f_w2);obtain ⟨x_w2,f_w2⟩:=zz;(try clear l_w2);have l_w2:w2.heap.size<w12.heap.size:=(by omega);have hKw12:Below w11.heap.size w11 w12:=bT bk hbw12;clear hbw12 bb bk
        replace S2:=Lib.hid ((S2.out.below hKw12).more hKw12.size)
        replace T2:=Lib.hid ((T2.out.below hKw12).more hKw12.size)
        rw [HG.out]
        go_wp2
        go_ret
        exact ⟨rfl,by (repeat (with_reducible first|assumption|exact bR|refine bA ?_|refine bD ?_|((first|refine bS ?_ ?_|refine bBx ?_ ?_);rotate_left;focus (try simp) <;> (try omega))))⟩
    have hp5:(0:Int)<i5:=by have:=wait_pos c4;rw [HI5.out] at this;omega
    have en5:decide ((0:Int)<i5)=true:=by simpa using hp5
    obtain ⟨k1,k2,k3,k4⟩:=wait_facts (c:=c4) (by rw [HI5.out];exact h5)
    rw [HX5.out,HI5.out] at k1 k2 k3 k4
    obtain ⟨x8,HX8⟩:∃ x,Hid (told x5 i5 2=x):=⟨_,Lib.hid rfl⟩
    rw [HX8.out] at k3 k4
    obtain ⟨x9,HX9⟩:∃ x,Hid (told x8 i5 1=x):=⟨_,Lib.hid rfl⟩
    rw [HX9.out] at k4
    have HI8:=Lib.hid k2
    have HI9:=Lib.hid k3
    have K1:=Lib.hid k1
    have K4:=Lib.hid k4
    clear k1 k2 k3 k4
    have hx8:x8.cells.length≤40∧x8.words.length≤81:=by rw [← HX8.out];have:=told_sizes x5 i5 2;omega
    obtain ⟨hc8,hw8⟩:=hx8
    have hx9:x9.cells.length≤40∧x9.words.length≤81:=by rw [← HX9.out];have:=told_sizes x8 i5 1;omega
    obtain ⟨hc9,hw9⟩:=hx9
    go_wp2_with fail;refine bHit w (by (repeat (with_reducible first|assumption|exact bR|refine bA ?_|refine bD ?_|((first|refine bS ?_ ?_|refine bBx ?_ ?_);rotate_left;focus (try simp) <;> (try omega))))) fun bb=>?_;refine bHit w11 (by (repeat (with_reducible first|assumption|exact bR|refine bA ?_|refine bD ?_|((first|refine bS ?_ ?_|refine bBx ?_ ?_);rotate_left;focus (try simp) <;> (try omega))))) fun bk=>?_;refine (told_any x5 i5 2 _ _ _ _ _ ((S5.out.below bk).more bk.size) zs5 ((T5.out.below bk).more bk.size) zt5 (by omega) (by omega)).mono ?_;rintro _ w12 ⟨⟨v8,u8,rfl,s8,t8⟩,hbw12⟩;have hCw12:Below w.heap.size w w12:=bT bb hbw12;have hsw12:=hbw12.size;(try simp at hsw12);have zz:=And.intro (fun o=>hbw12.cell (p:=⟨w5.heap.size,o,none⟩) (by (try simp) <;> omega)) <| And.intro (fun o=>hbw12.frozen (p:=⟨w5.heap.size,o,none⟩) (by (try simp) <;> omega)) <| And.intro (fun o=>hbw12.cell (p:=⟨w2.heap.size,o,none⟩) (by (try simp) <;> omega)) <| fun o=>hbw12.frozen (p:=⟨w2.heap.size,o,none⟩) (by (try simp) <;> omega);(first|simp [go_sem,x_w5,f_w5,x_w2,f_w2,l_w2,l_w5] at zz|simp [go_sem,x_w5,x_w2,l_w2,l_w5] at zz|simp [go_sem] at zz|skip);(try clear x_w5 f_w5);(try clear x_w2 f_w2);obtain ⟨x_w5,f_w5,x_w2,f_w2⟩:=zz;(try clear l_w5);have l_w5:w5.heap.size<w12.heap.size:=(by omega);(try clear l_w2);have l_w2:w2.heap.size<w12.heap.size:=(by omega);have hKw12:Below w11.heap.size w11 w12:=bT bk hbw12;clear hbw12 bb bk
    replace S2:=Lib.hid ((S2.out.below hKw12).more hKw12.size)
    replace T2:=Lib.hid ((T2.out.below hKw12).more hKw12.size)
    replace S5:=Lib.hid ((S5.out.below hKw12).more hKw12.size)
    replace T5:=Lib.hid ((T5.out.below hKw12).more hKw12.size)
    rw [HX8.out] at s8 t8
    simp only [HX8.out,HI8.out]
    obtain ⟨a8,p8,rfl,_⟩:=s8.seg
    obtain ⟨b8,q8,rfl,_⟩:=t8.seg
    have zs8:=(OCells.segz s8).2
    have zt8:=(OInts.segz t8).2
    have S8:=Lib.hid (OCells.segz s8).1
    have T8:=Lib.hid (OInts.segz t8).1
    clear s8 t8
    go_wp2_with fail;refine bHit w (by (repeat (with_reducible first|assumption|exact bR|refine bA ?_|refine bD ?_|((first|refine bS ?_ ?_|refine bBx ?_ ?_);rotate_left;focus (try simp) <;> (try omega))))) fun bb=>?_;refine bHit w12 (by (repeat (with_reducible first|assumption|exact bR|refine bA ?_|refine bD ?_|((first|refine bS ?_ ?_|refine bBx ?_ ?_);rotate_left;focus (try simp) <;> (try omega))))) fun bk=>?_;refine (told_any x8 i5 1 _ _ _ _ _ ((S8.out.below bk).more bk.size) zs8 ((T8.out.below bk).more bk.size) zt8 (by omega) (by omega)).mono ?_;rintro _ w13 ⟨⟨v9,u9,rfl,s9,t9⟩,hbw13⟩;have hCw13:Below w.heap.size w w13:=bT bb hbw13;have hsw13:=hbw13.size;(try simp at hsw13);have zz:=And.intro (fun o=>hbw13.cell (p:=⟨w12.heap.size,o,none⟩) (by (try simp) <;> omega)) <| And.intro (fun o=>hbw13.frozen (p:=⟨w12.heap.size,o,none⟩) (by (try simp) <;> omega)) <| And.intro (fun o=>hbw13.cell (p:=⟨w5.heap.size,o,none⟩) (by (try simp) <;> omega)) <| And.intro (fun o=>hbw13.frozen (p:=⟨w5.heap.size,o,none⟩) (by (try simp) <;> omega)) <| And.intro (fun o=>hbw13.cell (p:=⟨w2.heap.size,o,none⟩) (by (try simp) <;> omega)) <| fun o=>hbw13.frozen (p:=⟨w2.heap.size,o,none⟩) (by (try simp) <;> omega);(first|simp [go_sem,x_w5,f_w5,x_w2,f_w2,l_w2,l_w5] at zz|simp [go_sem,x_w5,x_w2,l_w2,l_w5] at zz|simp [go_sem] at zz|skip);(try clear x_w12 f_w12);(try clear x_w5 f_w5);(try clear x_w2 f_w2);obtain ⟨x_w12,f_w12,x_w5,f_w5,x_w2,f_w2⟩:=zz;(try clear l_w12);have l_w12:w12.heap.size<w13.heap.size:=(by omega);(try clear l_w5);have l_w5:w5.heap.size<w13.heap.size:=(by omega);(try clear l_w2);have l_w2:w2.heap.size<w13.heap.size:=(by omega);have hKw13:Below w12.heap.size w12 w13:=bT bk hbw13;clear hbw13 bb bk
    replace S2:=Lib.hid ((S2.out.below hKw13).more hKw13.size)
    replace T2:=Lib.hid ((T2.out.below hKw13).more hKw13.size)
    replace S5:=Lib.hid ((S5.out.below hKw13).more hKw13.size)
    replace T5:=Lib.hid ((T5.out.below hKw13).more hKw13.size)
    replace S8:=Lib.hid ((S8.out.below hKw13).more hKw13.size)
    replace T8:=Lib.hid ((T8.out.below hKw13).more hKw13.size)
    rw [HX9.out] at s9 t9
    simp only [HX9.out,HI9.out]
    obtain ⟨a9,p9,rfl,_⟩:=s9.seg
    obtain ⟨b9,q9,rfl,_⟩:=t9.seg
    have zs9:=(OCells.segz s9).2
    have zt9:=(OInts.segz t9).2
    have S9:=Lib.hid (OCells.segz s9).1
    have T9:=Lib.hid (OInts.segz t9).1
    clear s9 t9
    go_wp2_with fail;refine bHit w (by (repeat (with_reducible first|assumption|exact bR|refine bA ?_|refine bD ?_|((first|refine bS ?_ ?_|refine bBx ?_ ?_);rotate_left;focus (try simp) <;> (try omega))))) fun bb=>?_;refine bHit w13 (by (repeat (with_reducible first|assumption|exact bR|refine bA ?_|refine bD ?_|((first|refine bS ?_ ?_|refine bBx ?_ ?_);rotate_left;focus (try simp) <;> (try omega))))) fun bk=>?_;refine (wordOf_any x5 i5 _ _ _ _ _ ((S5.out.below bk).more bk.size) ((T5.out.below bk).more bk.size) (by unfold maxLen;omega) (by unfold maxLen;omega)).mono ?_;rintro _ w14 ⟨rfl,hbw14⟩;have hCw14:Below w.heap.size w w14:=bT bb hbw14;have hsw14:=hbw14.size;(try simp at hsw14);have zz:=And.intro (fun o=>hbw14.cell (p:=⟨w13.heap.size,o,none⟩) (by (try simp) <;> omega)) <| And.intro (fun o=>hbw14.frozen (p:=⟨w13.heap.size,o,none⟩) (by (try simp) <;> omega)) <| And.intro (fun o=>hbw14.cell (p:=⟨w12.heap.size,o,none⟩) (by (try simp) <;> omega)) <| And.intro (fun o=>hbw14.frozen (p:=⟨w12.heap.size,o,none⟩) (by (try simp) <;> omega)) <| And.intro (fun o=>hbw14.cell (p:=⟨w5.heap.size,o,none⟩) (by (try simp) <;> omega)) <| And.intro (fun o=>hbw14.frozen (p:=⟨w5.heap.size,o,none⟩) (by (try simp) <;> omega)) <| And.intro (fun o=>hbw14.cell (p:=⟨w2.heap.size,o,none⟩) (by (try simp) <;> omega)) <| fun o=>hbw14.frozen (p:=⟨w2.heap.size,o,none⟩) (by (try simp) <;> omega);(first|simp [go_sem,x_w12,f_w12,x_w5,f_w5,x_w2,f_w2,l_w12,l_w2,l_w5] at zz|simp [go_sem,x_w12,x_w5,x_w2,l_w12,l_w2,l_w5] at zz|simp [go_sem] at zz|skip);(try clear x_w13 f_w13);(try clear x_w12 f_w12);(try clear x_w5 f_w5);(try clear x_w2 f_w2);obtain ⟨x_w13,f_w13,x_w12,f_w12,x_w5,f_w5,x_w2,f_w2⟩:=zz;(try clear l_w13);have l_w13:w13.heap.size<w14.heap.size:=(by omega);(try clear l_w12);have l_w12:w12.heap.size<w14.heap.size:=(by omega);(try clear l_w5);have l_w5:w5.heap.size<w14.heap.size:=(by omega);(try clear l_w2);have l_w2:w2.heap.size<w14.heap.size:=(by omega);have hKw14:Below w13.heap.size w13 w14:=bT bk hbw14;clear hbw14 bb bk
    replace S2:=Lib.hid ((S2.out.below hKw14).more hKw14.size)
    replace T2:=Lib.hid ((T2.out.below hKw14).more hKw14.size)
    replace S5:=Lib.hid ((S5.out.below hKw14).more hKw14.size)
    replace T5:=Lib.hid ((T5.out.below hKw14).more hKw14.size)
    replace S9:=Lib.hid ((S9.out.below hKw14).more hKw14.size)
    replace T9:=Lib.hid ((T9.out.below hKw14).more hKw14.size)
    rw [K1.out]
    go_wp2_with fail;refine bHit w (by (repeat (with_reducible first|assumption|exact bR|refine bA ?_|refine bD ?_|((first|refine bS ?_ ?_|refine bBx ?_ ?_);rotate_left;focus (try simp) <;> (try omega))))) fun bb=>?_;refine bHit w14 (by (repeat (with_reducible first|assumption|exact bR|refine bA ?_|refine bD ?_|((first|refine bS ?_ ?_|refine bBx ?_ ?_);rotate_left;focus (try simp) <;> (try omega))))) fun bk=>?_;refine (wordOf_any x9 i5 _ _ _ _ _ ((S9.out.below bk).more bk.size) ((T9.out.below bk).more bk.size) (by unfold maxLen;omega) (by unfold maxLen;omega)).mono ?_;rintro _ w15 ⟨rfl,hbw15⟩;have hCw15:Below w.heap.size w w15:=bT bb hbw15;have hsw15:=hbw15.size;(try simp at hsw15);have zz:=And.intro (fun o=>hbw15.cell (p:=⟨w13.heap.size,o,none⟩) (by (try simp) <;> omega)) <| And.intro (fun o=>hbw15.frozen (p:=⟨w13.heap.size,o,none⟩) (by (try simp) <;> omega)) <| And.intro (fun o=>hbw15.cell (p:=⟨w12.heap.size,o,none⟩) (by (try simp) <;> omega)) <| And.intro (fun o=>hbw15.frozen (p:=⟨w12.heap.size,o,none⟩) (by (try simp) <;> omega)) <| And.intro (fun o=>hbw15.cell (p:=⟨w5.heap.size,o,none⟩) (by (try simp) <;> omega)) <| And.intro (fun o=>hbw15.frozen (p:=⟨w5.heap.size,o,none⟩) (by (try simp) <;> omega)) <| And.intro (fun o=>hbw15.cell (p:=⟨w2.heap.size,o,none⟩) (by (try simp) <;> omega)) <| fun o=>hbw15.frozen (p:=⟨w2.heap.size,o,none⟩) (by (try simp) <;> omega);(first|simp [go_sem,x_w13,f_w13,x_w12,f_w12,x_w5,f_w5,x_w2,f_w2,l_w12,l_w13,l_w2,l_w5] at zz|simp [go_sem,x_w13,x_w12,x_w5,x_w2,l_w12,l_w13,l_w2,l_w5] at zz|simp [go_sem] at zz|skip);(try clear x_w13 f_w13);(try clear x_w12 f_w12);(try clear x_w5 f_w5);(try clear x_w2 f_w2);obtain ⟨x_w13,f_w13,x_w12,f_w12,x_w5,f_w5,x_w2,f_w2⟩:=zz;(try clear l_w13);have l_w13:w13.heap.size<w15.heap.size:=(by omega);(try clear l_w12);have l_w12:w12.heap.size<w15.heap.size:=(by omega);(try clear l_w5);have l_w5:w5.heap.size<w15.heap.size:=(by omega);(try clear l_w2);have l_w2:w2.heap.size<w15.heap.size:=(by omega);have hKw15:Below w14.heap.size w14 w15:=bT bk hbw15;clear hbw15 bb bk
    replace S2:=Lib.hid ((S2.out.below hKw15).more hKw15.size)
    replace T2:=Lib.hid ((T2.out.below hKw15).more hKw15.size)
    replace S5:=Lib.hid ((S5.out.below hKw15).more hKw15.size)
    replace T5:=Lib.hid ((T5.out.below hKw15).more hKw15.size)
    replace S9:=Lib.hid ((S9.out.below hKw15).more hKw15.size)
    replace T9:=Lib.hid ((T9.out.below hKw15).more hKw15.size)
    rw [K4.out]
    cases i2
    · go_wp2_with fail
      go_ret
      exact ⟨rfl,by (repeat (with_reducible first|assumption|exact bR|refine bA ?_|refine bD ?_|((first|refine bS ?_ ?_|refine bBx ?_ ?_);rotate_left;focus (try simp) <;> (try omega))))⟩
    · have HG:Hid (wordOf x2 n1=d1):=Lib.hid (by rw [← HX2.out];exact told_word HI2.out)
      go_wp2_with fail;refine bHit w (by (repeat (with_reducible first|assumption|exact bR|refine bA ?_|refine bD ?_|((first|refine bS ?_ ?_|refine bBx ?_ ?_);rotate_left;focus (try simp) <;> (try omega))))) fun bb=>?_;refine bHit w15 (by (repeat (with_reducible first|assumption|exact bR|refine bA ?_|refine bD ?_|((first|refine bS ?_ ?_|refine bBx ?_ ?_);rotate_left;focus (try simp) <;> (try omega))))) fun bk=>?_;refine (wordOf_any x2 n1 _ _ _ _ _ ((S2.out.below bk).more bk.size) ((T2.out.below bk).more bk.size) (by unfold maxLen;omega) (by unfold maxLen;omega)).mono ?_;rintro _ w16 ⟨rfl,hbw16⟩;have hCw16:Below w.heap.size w w16:=bT bb hbw16;have hsw16:=hbw16.size;(try simp at hsw16);have zz:=And.intro (fun o=>hbw16.cell (p:=⟨w2.heap.size,o,none⟩) (by (try simp) <;> omega)) <| fun o=>hbw16.frozen (p:=⟨w2.heap.size,o,none⟩) (by (try simp) <;> omega);(first|simp [go_sem,x_w2,f_w2,l_w2] at zz|simp [go_sem,x_w2,l_w2] at zz|simp [go_sem] at zz|skip);(try clear x_w2 f_w2);obtain ⟨x_w2,f_w2⟩:=zz;(try clear l_w2);have l_w2:w2.heap.size<w16.heap.size:=(by omega);have hKw16:Below w15.heap.size w15 w16:=bT bk hbw16;clear hbw16 bb bk
      replace S2:=Lib.hid ((S2.out.below hKw16).more hKw16.size)
      replace T2:=Lib.hid ((T2.out.below hKw16).more hKw16.size)
      rw [HG.out]
      go_wp2
      go_ret
      exact ⟨rfl,by (repeat (with_reducible first|assumption|exact bR|refine bA ?_|refine bD ?_|((first|refine bS ?_ ?_|refine bBx ?_ ?_);rotate_left;focus (try simp) <;> (try omega))))⟩
end Go.Proofs.Ytikhaaccgoiaeaa
