/-
  The program's functions of chapter 2; lists lie in memory and hold at most what memory can hold.
  Whether a world is right, as the program asks it; the lists lie in memory.
  The program's functions of chapter 3 that tell a word, and its copies of lists; lists lie in memory and hold at most 2 ^ 40 elements.
  The program's copy of a channel: the same in new memory; lists lie in memory and hold at most 2 ^ 40 elements.
  copy of elements of any size into a row of the call's own that it fills; no condition.
  The program's world of its own: a copy behind a pointer; the lists lie in memory and hold at most 1048576 elements.
-/
import Derived.Test.YtgpdocmclkpknaaP01
import Derived.Test.YtgpdocmclkpknaaP02
import Derived.Test.YtgpdocmclkpknaaP08
import Derived.Test.YtgpdocmclkpknaaP04
import Derived.Test.YtgpdocmclkpknaaP10
import Derived.Test.YtgpdocmclkpknaaP06
import Derived.Test.YtgpdocmclkpknaaP05
import Derived.Laws.Cover3
import Derived.Laws.CopyOwn
import Derived.Test.YtgpdocmclkpknaaP07
set_option linter.unusedSimpArgs false
set_option linter.unusedVariables false
namespace Go.Proofs.Ytgpdocmclkpknaa
open Go.RowKit
set_option maxRecDepth 100000 in
theorem cutC (n:Nat) (hn:n≤40) (g:Nat) (W:World):(Instr.sliceAt 106 (.pointer (some ⟨g,0,none⟩)) none (some (.int .i64 n)) (some (.int .i64 n))).run Try.prog W=.ok (.slice (some ⟨g,0,none⟩) n n) W:=by
  have hl:Try.prog.arrayLen 106=40:=by kernel_rfl
  rw [run_sliceAt_array_hm (P:=Try.prog) W 106 ⟨g,0,none⟩ Try.underlying106 .i64 .i64 n n (by omega) (by omega) (by omega)]
  simp [go_sem,slicedAt]
set_option maxRecDepth 100000 in
theorem cutC_any (n:Nat) (hn:n≤40) (g:Nat) (w:World):Calls Try.prog 74 #[.pointer (some ⟨g,0,none⟩),.int .i64 n] w fun r w'=>r=.returned (.slice (some ⟨g,0,none⟩) n n)∧w=w':=by
  have hcut:=cutC n hn g
  go_enter Try.func74,Try.ntmps74
  go_wp2
  go_ret
  exact ⟨rfl,rfl⟩
def wordsB (l:List Int):Bool:=decide (l.length≤80) && l.all (fun x=>inB x 0 2)
def cellsB (n:Nat) (cs:List C3):Bool:=decide (cs.length=40) && cs.all (cellFits n)
def countB (c:Ch):Bool:=inB c.sent 0 40 && (inB c.got 0 40 && inB c.fin 0 40)
theorem chanOk_parts (c:Ch):chanOk c=(inB c.cap 0 4 && (countB c && (wordsB c.words && cellsB c.words.length c.cells))):=by
  unfold chanOk chanHead countB wordsB cellsB
  cases inB c.cap 0 4 <;> cases inB c.sent 0 40 <;> cases inB c.got 0 40 <;> cases inB c.fin 0 40 <;> cases decide (c.cells.length=40) <;> cases decide (c.words.length≤80) <;> cases c.cells.all (cellFits c.words.length) <;> cases c.words.all (fun x=>inB x 0 2) <;> rfl
set_option maxRecDepth 100000 in
theorem countersOk_any (c:Ch) (v1 v2:Value) (w:World) :
    Calls Try.prog 65 #[.agg #[.int .i64 c.cap,.int .i64 c.sent,.int .i64 c.got,.int .i64 c.fin,v1,v2]] w fun r w'=>r=.returned (.bool (countB c))∧Below w.heap.size w w':=by
  go_enter Try.func65,Try.ntmps65
  go_wp2_with (go_at_call 32;refine (inRange_any _ _ _).mono ?_;rintro _ _ ⟨rfl,rfl⟩)
  all_goals go_ret
  all_goals exact ⟨ret_bool (by simp [countB, *]),by exact zB⟩
theorem wordsB_bad {l:List Int} {k:Nat} {x:Int} (hk:k<l.length) (hc:l.getD k 0=x) (h:inB x 0 2=false):false=wordsB l:=by
  have:l.all (fun x=>inB x 0 2)=false:=by
    rw [List.all_eq_false]
    refine ⟨l[k],List.getElem_mem hk,?_⟩
    rw [← hc] at h
    simpa [List.getD,List.getElem?_eq_getElem hk] using h
  simp [wordsB,this]
theorem wordsB_end {l:List Int} (h:l.length≤80) (h2:(l.take l.length).all (fun x=>inB x 0 2)=true):true=wordsB l:=by
  rw [List.take_length] at h2
  simp only [wordsB,h2,h,decide_true];rfl
set_option maxRecDepth 100000 in
set_option maxHeartbeats 400000 in
theorem wordsOk_any (l:List Int) (a:Option Addr) (p:Nat) (w:World) (h:Seg w w.heap.size a l.length 1 (intF l)) (hm:l.length≤maxLen) :
    Calls Try.prog 66 #[.slice a l.length p] w fun r w'=>r=.returned (.bool (wordsB l))∧Below w.heap.size w w':=by
  unfold maxLen at hm
  by_cases hlen:80<l.length
  · have hV:Hid (false=wordsB l):=by simp [wordsB,Hid];omega
    go_enter Try.func66,Try.ntmps66
    go_wp2
    go_ret
    exact ⟨ret_bool hV.out,Below.refl _ _⟩
  · have hd:decide (80<(l.length:Int))=false:=by simp;omega
    have hle:l.length≤80:=by omega
    clear hlen
    have HS:=Lib.hid h
    clear h
    go_enter Try.func66,Try.ntmps66
    go_wp2
    go_loopw [10] (fun i wr=>∃ k:Nat,k≤l.length∧i=.int .i64 k∧Hid ((l.take k).all (fun x=>inB x 0 2)=true)∧Below w.heap.size w wr) (fun i _=>l.length - (intOf i).toNat)
    case atStart=>exact ⟨0,Nat.zero_le _,rfl,rfl,Below.refl _ _⟩
    case round =>
      obtain ⟨k,hk,rfl,hall,hB⟩:=hrel
      by_cases hlt:k<l.length
      · obtain h0|⟨b,o,rfl,hb,hc⟩:=HS.out
        · omega
        have c0:=(hB.cell (p:=⟨b,o+k*1+0,none⟩) hb).trans (hc k 0 hlt (by omega))
        simp only [intF,Nat.add_zero,Nat.mul_one] at c0
        clear hc
        generalize hcg:l.getD k 0=x at c0
        have HC:=Lib.hid hcg
        clear hcg
        go_wp2_with (go_at_call 32;refine (inRange_any _ _ _).mono ?_;rintro _ _ ⟨rfl,rfl⟩)
        · go_ret
          exact ⟨ret_bool (wordsB_bad hlt HC.out (not_true ‹_›)),hB⟩
        · go_roundw
          case rel=>exact ⟨k+1,by omega,by go_num,words_snoc hlt HC.out hall.out (not_false ‹_›),hB⟩
          case measure=>simp [intOf];omega
      · have:k=l.length:=by omega
        subst this
        go_wp2
        go_ret
        exact ⟨ret_bool (wordsB_end hle hall.out),hB⟩
theorem cellsB_bad {n:Nat} {cs:List C3} {k:Nat} {c:C3} (hk:k<cs.length) (hc:cs.getD k ⟨0,0,0⟩=c) (h:cellFits n c=false):false=cellsB n cs:=by
  have:cs.all (cellFits n)=false:=by
    rw [List.all_eq_false]
    refine ⟨cs[k],List.getElem_mem hk,?_⟩
    rw [← hc] at h
    simpa [List.getD,List.getElem?_eq_getElem hk] using h
  simp [cellsB,this]
theorem cellsB_end {n:Nat} {cs:List C3} (h:cs.length=40) (h2:(cs.take cs.length).all (cellFits n)=true):true=cellsB n cs:=by
  rw [List.take_length] at h2
  simp only [cellsB,h2,h,decide_true];rfl
theorem cellsB_snoc {n:Nat} {cs:List C3} {k:Nat} {c:C3} (hk:k<cs.length) (hc:cs.getD k ⟨0,0,0⟩=c) (h:(cs.take k).all (cellFits n)=true) (h1:cellFits n c=true):(cs.take (k+1)).all (cellFits n)=true:=by
  rw [take_snocC cs k hk,hc,List.all_append,h];simp [h1]
set_option maxRecDepth 100000 in
set_option maxHeartbeats 400000 in
theorem cellsOk_any (n:Nat) (cs:List C3) (a:Option Addr) (p:Nat) (w:World) (h:Seg w w.heap.size a cs.length 3 (cellF cs)) (hm:cs.length≤maxLen) :
    Calls Try.prog 67 #[.slice a cs.length p,.int .i64 n] w fun r w'=>r=.returned (.bool (cellsB n cs))∧Below w.heap.size w w':=by
  unfold maxLen at hm
  by_cases hlen:cs.length=40
  · have hd:((cs.length:Int) != 40)=false:=by simp;omega
    have hle:cs.length≤40:=by omega
    have HL:=Lib.hid hlen
    clear hlen
    have HS:=Lib.hid h
    clear h
    go_enter Try.func67,Try.ntmps67
    go_wp2
    go_loopw [12] (fun i wr=>∃ k:Nat,k≤cs.length∧i=.int .i64 k∧Hid ((cs.take k).all (cellFits n)=true)∧Below w.heap.size w wr) (fun i _=>cs.length - (intOf i).toNat)
    case atStart=>exact ⟨0,Nat.zero_le _,rfl,rfl,Below.refl _ _⟩
    case round =>
      obtain ⟨k,hk,rfl,hall,hB⟩:=hrel
      have hs:=hB.size
      by_cases hlt:k<cs.length
      · obtain h0|⟨b,o,rfl,hb,hc⟩:=HS.out
        · omega
        have c0:=(hB.cell (p:=⟨b,o+k*3+0,none⟩) hb).trans (hc k 0 hlt (by omega))
        have c1:=(hB.cell (p:=⟨b,o+k*3+1,none⟩) hb).trans (hc k 1 hlt (by omega))
        have c2:=(hB.cell (p:=⟨b,o+k*3+2,none⟩) hb).trans (hc k 2 hlt (by omega))
        simp only [cellF,C3.val,Nat.add_zero] at c0 c1 c2
        clear hc
        generalize hcg:cs.getD k ⟨0,0,0⟩=c at c0 c1 c2
        have HC:=Lib.hid hcg
        clear hcg
        go_wp2_with (go_at_call 86;refine (cellOk_any _ _ _ _).mono ?_;rintro _ w1 ⟨rfl,hbw1⟩;have hBw1:Below w.heap.size w w1:=bT (by exact zB) hbw1;have hsw1:=hbw1.size;(try (simp at hsw1));have:=fun o=>hbw1.cell (p:=⟨wr.heap.size,o,none⟩) (by ((try simp);(try omega)));have:=fun o=>hbw1.frozen (p:=⟨wr.heap.size,o,none⟩) (by ((try simp);(try omega)));have:wr.heap.size<w1.heap.size:=(by omega);have:wr.heap.size≤w1.heap.size:=(by omega);have:wr.heap.size≤w1.heap.size+1:=(by omega))
        all_goals first
          | (go_ret;exact ⟨ret_bool (cellsB_bad hlt HC.out (by simp_all [cellFits,okC])),by exact zB⟩)
          | (go_roundw
             case rel=>exact ⟨k+1,by omega,by go_num,cellsB_snoc hlt HC.out hall.out (by simp_all [cellFits,okC]),by exact zB⟩
             case measure=>simp [intOf];omega)
      · have:k=cs.length:=by omega
        subst this
        go_wp2
        go_ret
        exact ⟨ret_bool (cellsB_end HL.out hall.out),hB⟩
  · have hd:((cs.length:Int) != 40)=true:=by simp;omega
    have hV:Hid (false=cellsB n cs):=by simp [cellsB,Hid,hlen]
    clear hlen
    go_enter Try.func67,Try.ntmps67
    go_wp2
    go_ret
    exact ⟨ret_bool hV.out,Below.refl _ _⟩
set_option maxRecDepth 100000 in
set_option maxHeartbeats 400000 in
theorem chanOk_any (c:Ch) (a b:Option Addr) (p q:Nat) (w:World) (h1:Seg w w.heap.size a c.cells.length 3 (cellF c.cells)) (h2:Seg w w.heap.size b c.words.length 1 (intF c.words)) (m1:c.cells.length≤maxLen) (m2:c.words.length≤maxLen) :
    Calls Try.prog 31 #[.agg #[.int .i64 c.cap,.int .i64 c.sent,.int .i64 c.got,.int .i64 c.fin,.slice a c.cells.length p,.slice b c.words.length q]] w fun r w'=>r=.returned (.bool (chanOk c))∧Below w.heap.size w w':=by
  rw [chanOk_parts]
  have H1:=Lib.hid h1
  have H2:=Lib.hid h2
  have M1:=Lib.hid m1
  have M2:=Lib.hid m2
  clear h1 h2 m1 m2
  go_enter Try.func31,Try.ntmps31
  go_wp2_with (first|(go_at_call 32;refine (inRange_any _ _ _).mono ?_;rintro _ _ ⟨rfl,rfl⟩)|(go_at_call 65;refine (countersOk_any c _ _ _).mono ?_;rintro _ w1 ⟨rfl,hbw1⟩;have hBw1:Below w.heap.size w w1:=bT (by exact zB) hbw1;have hsw1:=hbw1.size;(try (simp at hsw1));have:=fun o=>hbw1.cell (p:=⟨w.heap.size,o,none⟩) (by ((try simp);(try omega)));have:=fun o=>hbw1.frozen (p:=⟨w.heap.size,o,none⟩) (by ((try simp);(try omega)));have:w.heap.size<w1.heap.size:=(by omega);have:w.heap.size≤w1.heap.size:=(by omega);have:w.heap.size≤w1.heap.size+1:=(by omega))|(go_at_call 66;refine (wordsOk_any c.words b q _ ((H2.out.below (by exact zB)).more (by (try simp);omega)) M2.out).mono ?_;rintro _ w2 ⟨rfl,hb2⟩;have hB2:Below w.heap.size w w2:=bT (by exact zB) hb2;have hs2:=hb2.size;have:=fun o=>hb2.cell (p:=⟨w.heap.size,o,none⟩) (by (try simp);omega))|(go_at_call 67;refine (cellsOk_any c.words.length c.cells a p _ ((H1.out.below (by exact zB)).more (by (try simp);omega)) M1.out).mono ?_;rintro _ w3 ⟨rfl,hb3⟩;have hB3:Below w.heap.size w w3:=bT (by exact zB) hb3))
  all_goals go_ret
  all_goals exact ⟨ret_bool (by simp [*]),by exact zB⟩
end Go.Proofs.Ytgpdocmclkpknaa
set_option linter.unusedSimpArgs false
set_option linter.unusedVariables false
namespace Go.Proofs.Ytgpdocmclkpknaa
open Go.RowKit
set_option linter.unusedSimpArgs false
theorem worldOk_is (x:Wo):worldOk x=(((chanOk x.ch && inB x.now 0 20000) && handsB x.hands x.now) && dealsB x.deals x.hands.length x.now):=by
  unfold worldOk worldHead handsB dealsB
  cases chanOk x.ch <;> cases inB x.now 0 20000 <;> cases decide (1≤x.hands.length) <;> cases decide (x.hands.length≤6) <;> cases decide (x.deals.length≤1000) <;> simp
set_option maxRecDepth 100000 in
set_option maxHeartbeats 4000000 in
theorem worldOkI_any (x:Wo) (a b d e:Option Addr) (p q r s:Nat) (w:World) (h:SegW w w.heap.size x a b d e) (m:LenW x) :
    Calls Try.prog 9 #[.agg #[.int .i64 x.ch.cap,.int .i64 x.ch.sent,.int .i64 x.ch.got,.int .i64 x.ch.fin,.slice a x.ch.cells.length p,.slice b x.ch.words.length q,.slice d x.hands.length r,.slice e x.deals.length s,.int .i64 x.now]] w fun r w'=>r=.returned (.bool (worldOk x))∧Below w.heap.size w w':=by
  rw [worldOk_is]
  obtain ⟨h1,h2,h3,h4⟩:=h
  obtain ⟨m1,m2,m3,m4⟩:=m
  have H1:=Lib.hid h1
  have H2:=Lib.hid h2
  have H3:=Lib.hid h3
  have H4:=Lib.hid h4
  have M1:x.ch.cells.length≤maxLen:=by unfold maxLen;omega
  have M2:x.ch.words.length≤maxLen:=by unfold maxLen;omega
  have M3:x.hands.length≤1099511627776:=by omega
  have M4:x.deals.length≤1099511627776:=by omega
  clear h1 h2 h3 h4 m1 m2 m3 m4
  go_enter Try.func9,Try.ntmps9
  go_wp2_with (first
    | (go_at_call 31;refine bHit w (by exact zB) fun bb=>?_;refine (chanOk_any x.ch a b p q _ ((H1.out.below bb).more bb.size) ((H2.out.below bb).more bb.size) M1 M2).mono ?_;rintro _ w1 ⟨rfl,hbw1⟩;have hCw1:Below w.heap.size w w1:=bT bb hbw1;have hsw1:=hbw1.size;(try simp at hsw1);have zz:=And.intro (fun o=>hbw1.cell (p:=⟨w.heap.size,o,none⟩) (by (try simp) <;> omega)) <| fun o=>hbw1.frozen (p:=⟨w.heap.size,o,none⟩) (by (try simp) <;> omega);(try simp [go_sem] at zz);(try clear x_w f_w);obtain ⟨x_w,f_w⟩:=zz;(try clear l_w);have l_w:w.heap.size<w1.heap.size:=(by omega);clear hbw1 bb)
    | (go_at_call 32;refine (inRange_any _ _ _).mono ?_;rintro _ _ ⟨rfl,rfl⟩)
    | (go_at_call 33;refine bHit w (by exact zB) fun bb=>?_;refine (handsOk_any x.hands x.now w.heap.size d r _ (by simp [*]) (by simp [*]) (by (try simp) <;> omega) ((H3.out.below bb).more bb.size) M3).mono ?_;rintro _ w2 ⟨rfl,hbw2⟩;have hCw2:Below w.heap.size w w2:=bT bb hbw2;have hsw2:=hbw2.size;(try simp at hsw2);have zz:=And.intro (fun o=>hbw2.cell (p:=⟨w.heap.size,o,none⟩) (by (try simp) <;> omega)) <| fun o=>hbw2.frozen (p:=⟨w.heap.size,o,none⟩) (by (try simp) <;> omega);(first|simp [go_sem,x_w,f_w,l_w] at zz|simp [go_sem,x_w,l_w] at zz|simp [go_sem] at zz|skip);(try clear x_w f_w);obtain ⟨x_w,f_w⟩:=zz;(try clear l_w);have l_w:w.heap.size<w2.heap.size:=(by omega);clear hbw2 bb)
    | (go_at_call 34;refine bHit w (by exact zB) fun bb=>?_;refine (dealsOk_any x.deals x.hands.length x.now w.heap.size d e r s _ (by simp [*]) (by simp [*]) (by simp [*]) (by (try simp) <;> omega) ((H4.out.below bb).more bb.size) M4 M3).mono ?_;rintro _ w3 ⟨rfl,hbw3⟩;have hCw3:Below w.heap.size w w3:=bT bb hbw3;have hsw3:=hbw3.size;(try simp at hsw3);have zz:=And.intro (fun o=>hbw3.cell (p:=⟨w.heap.size,o,none⟩) (by (try simp) <;> omega)) <| fun o=>hbw3.frozen (p:=⟨w.heap.size,o,none⟩) (by (try simp) <;> omega);(first|simp [go_sem,x_w,f_w,l_w] at zz|simp [go_sem,x_w,l_w] at zz|simp [go_sem] at zz|skip);(try clear x_w f_w);obtain ⟨x_w,f_w⟩:=zz;(try clear l_w);have l_w:w.heap.size<w3.heap.size:=(by omega);clear hbw3 bb))
  all_goals go_ret
  all_goals exact ⟨ret_bool (by simp [*]),by exact zB⟩
end Go.Proofs.Ytgpdocmclkpknaa
set_option linter.unusedSimpArgs false
set_option linter.unusedVariables false
namespace Go.Proofs.Ytgpdocmclkpknaa
open Go.RowKit
theorem eqlNil (t e:TypeId) (a:Option Addr) (l c:Nat) (h:Try.prog.underlying t=some (.slice e)) (w:World):(binOp .eql t (.slice a l c) (.slice none 0 0)).run Try.prog w=.ok (.bool a.isNone) w:=by
  simp only [binOp]
  simp [run_equal_slice_nil w t e a l c h]
set_option maxHeartbeats 400000 in
theorem cloneI_any (l:List Int) (b:Option Addr) (q:Nat) (w:World) (h:Seg w w.heap.size b l.length 1 (intF l)) (hz:b=none→q=0) (hm:l.length≤1099511627776) :
    Calls Try.prog 97 #[.slice b l.length q] w fun r w'=>(∃ v,r=.returned v∧OInts w' w.heap.size v l)∧Below w.heap.size w w':=by
  obtain ⟨i0,hi0,hz0,hz1,hz2⟩:=info_parts infoInt
  have hE:=eqlNil _ _ b l.length q Try.underlying23
  rcases b with _|⟨bb,bo,sp⟩
  · obtain rfl:=hz rfl
    have hn:l.length=0:=by rcases h with h|⟨_,_,h,_⟩;exact h;cases h
    obtain rfl:l=[]:=List.eq_nil_of_length_eq_zero hn
    simp at hE
    go_enter Try.func97,Try.ntmps97
    go_wp2
    go_ret
    exact ⟨⟨_,rfl,World.ownsRow_nil _ _ _ _⟩,by exact zB⟩
  · have HN:Hid (∀ j u,(ints l)[j]?=some u→w.cell? ((⟨bb,bo,sp⟩:Addr).add j)=some u):=by
      rcases h with h0|⟨b',o',e,h1,h2⟩
      · obtain rfl:l=[]:=List.eq_nil_of_length_eq_zero h0
        intro j u hu;simp [ints] at hu
      · simp at e
        obtain ⟨rfl,rfl,rfl⟩:=e
        exact Seg.newsI (.inr ⟨bb,bo,rfl,h1,h2⟩)
    clear h hz
    simp at hE
    go_enter Try.func97,Try.ntmps97
    go_wp2_with (at_builtin;refine wpList_append_own _ rfl _ _ 23 rfl w.heap.size 2 i0 _ 1 8 Try.underlying23 hi0 hz0 hz1 hz2 rfl (by decide) _ 0 [] rfl (own_made _ _ _ _ (Nat.le_refl _)) ⟨bb,bo,sp⟩ l.length q (ints l) rfl (by simp [ints]) ?c0 (ints_one l) ?c3 ?c4 ?c5 ?_)
    case c0=>exact fun j u hu=>cell_alloc_of (HN.out j u hu)
    case c3=>unfold maxLen;omega
    case c4=>omega
    case c5=>simp
    intro v w1 hown hg _
    go_wp2
    go_ret
    exact ⟨⟨_,rfl,by simpa using hown⟩,bOwn (by exact zB) hg (by simp) (by simp [Value.ownBlock])⟩
set_option maxHeartbeats 400000 in
theorem cloneC_any (l:List C3) (b:Option Addr) (q:Nat) (w:World) (h:Seg w w.heap.size b l.length 3 (cellF l)) (hz:b=none→q=0) (hm:l.length≤1099511627776) :
    Calls Try.prog 96 #[.slice b l.length q] w fun r w'=>(∃ v,r=.returned v∧OCells w' w.heap.size v l)∧Below w.heap.size w w':=by
  obtain ⟨i0,hi0,hz0,hz1,hz2⟩:=info_parts infoCell'
  have hE:=eqlNil _ _ b l.length q Try.underlying32
  rcases b with _|⟨bb,bo,sp⟩
  · obtain rfl:=hz rfl
    have hn:l.length=0:=by rcases h with h|⟨_,_,h,_⟩;exact h;cases h
    obtain rfl:l=[]:=List.eq_nil_of_length_eq_zero hn
    simp at hE
    go_enter Try.func96,Try.ntmps96
    go_wp2
    go_ret
    exact ⟨⟨_,rfl,World.ownsRow_nil _ _ _ _⟩,by exact zB⟩
  · have HN:Hid (∀ j u,(flatC l)[j]?=some u→w.cell? ((⟨bb,bo,sp⟩:Addr).add j)=some u):=by
      rcases h with h0|⟨b',o',e,h1,h2⟩
      · obtain rfl:l=[]:=List.eq_nil_of_length_eq_zero h0
        intro j u hu;simp [flatC] at hu
      · simp at e
        obtain ⟨rfl,rfl,rfl⟩:=e
        exact Seg.newsC (.inr ⟨bb,bo,rfl,h1,h2⟩)
    clear h hz
    simp at hE
    go_enter Try.func96,Try.ntmps96
    go_wp2_with (at_builtin;refine wpList_append_own _ rfl _ _ 32 rfl w.heap.size 89 i0 _ 3 24 Try.underlying32 hi0 hz0 hz1 hz2 rfl (by decide) _ 0 [] rfl (own_made _ _ _ _ (Nat.le_refl _)) ⟨bb,bo,sp⟩ l.length q (flatC l) rfl (flatC_len l) ?c0 (flatC_one l) ?c3 ?c4 ?c5 ?_)
    case c0=>exact fun j u hu=>cell_alloc_of (HN.out j u hu)
    case c3=>unfold maxLen;omega
    case c4=>omega
    case c5=>simp
    intro v w1 hown hg _
    go_wp2
    go_ret
    exact ⟨⟨_,rfl,by simpa using hown⟩,bOwn (by exact zB) hg (by simp) (by simp [Value.ownBlock])⟩
end Go.Proofs.Ytgpdocmclkpknaa
set_option linter.unusedSimpArgs false
set_option linter.unusedVariables false
namespace Go.Proofs.Ytgpdocmclkpknaa
open Go.RowKit
set_option maxRecDepth 100000 in
set_option maxHeartbeats 1000000 in
theorem copied_any (c:Ch) (a b:Option Addr) (p q:Nat) (w:World) (h1:Seg w w.heap.size a c.cells.length 3 (cellF c.cells)) (z1:a=none→p=0) (h2:Seg w w.heap.size b c.words.length 1 (intF c.words)) (z2:b=none→q=0) (m1:c.cells.length≤1099511627776) (m2:c.words.length≤1099511627776) :
    Calls Try.prog 82 #[.agg #[.int .i64 c.cap,.int .i64 c.sent,.int .i64 c.got,.int .i64 c.fin,.slice a c.cells.length p,.slice b c.words.length q]] w fun r w' =>
      (∃ v1 v2,r=.returned (.agg #[.int .i64 c.cap,.int .i64 c.sent,.int .i64 c.got,.int .i64 c.fin,v1,v2])∧OCells w' w.heap.size v1 c.cells∧OInts w' w.heap.size v2 c.words)∧Below w.heap.size w w':=by
  obtain ⟨cap,sent,got,fin,cells,words⟩:=c
  simp only at *
  have H1:=Lib.hid h1
  have Z1:=Lib.hid z1
  have H2:=Lib.hid h2
  have Z2:=Lib.hid z2
  clear h1 h2 z1 z2
  go_enter Try.func82,Try.ntmps82
  go_wp2_with fail
  refine (cloneC_any cells a p _ ((H1.out.below (by exact zB)).more (by simp;try omega)) Z1.out m1).mono ?_
  rintro _ w1 ⟨⟨v1,rfl,o1⟩,hb1⟩
  have hs1:=hb1.size
  simp at hs1
  have:=fun o=>hb1.cell (p:=⟨w.heap.size,o,none⟩) (by simp;omega)
  have:=fun o=>hb1.frozen (p:=⟨w.heap.size,o,none⟩) (by simp;omega)
  have:=fun o=>hb1.cell (p:=⟨w.heap.size+1,o,none⟩) (by simp)
  have:=fun o=>hb1.frozen (p:=⟨w.heap.size+1,o,none⟩) (by simp)
  have hB1:Below w.heap.size w w1:=bT (by exact zB) hb1
  have k0:w.heap.size<w1.heap.size:=by omega
  have k1:w.heap.size+1<w1.heap.size:=by omega
  have o1':=own_lo o1 (lo':=w.heap.size+1+1) (by simp)
  obtain ⟨va,vc,rfl,_⟩:=OCells.seg o1
  clear o1 hb1
  go_wp2_with fail
  refine (cloneI_any words b q _ ((H2.out.below hB1).setOther (by simp [World.setCell];omega) (by simp)) Z2.out m2).mono ?_
  rintro _ w2 ⟨⟨v2,rfl,o2⟩,hb2⟩
  have p1:=own_below (own_store o1' (p:=⟨w.heap.size,4,none⟩) (own_ne o1' (by (try simp);try omega)) (.slice va cells.length vc)) hb2
  have p2:=own_lo o2 (lo':=w.heap.size+1+1) (by simp [World.setCell];omega)
  obtain ⟨vb,vd,rfl,_⟩:=OInts.seg o2
  clear o2
  have hs2:=hb2.size
  simp [World.setCell] at hs2
  have hB2:Below w.heap.size w w2:=bT (by exact zB) hb2
  have:=fun o=>hb2.cell (p:=⟨w.heap.size,o,none⟩) (by simp [World.setCell];omega)
  have:=fun o=>hb2.frozen (p:=⟨w.heap.size,o,none⟩) (by simp [World.setCell];omega)
  have:=fun o=>hb2.cell (p:=⟨w.heap.size+1,o,none⟩) (by simp [World.setCell];omega)
  have:=fun o=>hb2.frozen (p:=⟨w.heap.size+1,o,none⟩) (by simp [World.setCell];omega)
  clear hb2
  have:w.heap.size<w2.heap.size:=by omega
  have:w.heap.size+1<w2.heap.size:=by omega
  go_wp2_with fail
  refine bodyPost_ret (v:=.agg #[.int .i64 cap,.int .i64 sent,.int .i64 got,.int .i64 fin,.slice va cells.length vc,.slice vb words.length vd]) (by simp [results,Try.results82,go_sem, *]) rfl ⟨⟨_,_,rfl,?_,?_⟩,?_⟩
  · refine own_lo (lo:=w.heap.size+1+1) ?_ (by omega)
    repeat (first|with_reducible exact p1|((with_reducible refine own_store ?_ ?_ _);rotate_left;(focus exact own_ne p1 (by (try simp);try omega))))
  · refine own_lo (lo:=w.heap.size+1+1) ?_ (by omega)
    repeat (first|with_reducible exact p2|((with_reducible refine own_store ?_ ?_ _);rotate_left;(focus exact own_ne p2 (by (try simp);try omega))))
  · exact zB
end Go.Proofs.Ytgpdocmclkpknaa
set_option linter.unusedSimpArgs false
set_option linter.unusedVariables false
namespace Go.Proofs.Ytgpdocmclkpknaa
open Go.RowKit
section
variable {P:Program}
theorem run_copy_big (w:World) (dT sT ty elem:TypeId) (g o dLen dCap k:Nat) (a:Addr) (sLen sCap:Nat) (cur:Array Value) (t:TypeId) (cs:List Value)
    (hu:P.underlying dT=some (.slice elem)) (hs:(P.info? elem).map (·.size)=some k)
    (hg:w.heap[g]?=some (.cells cur t (0,0))) (hn:cs.length=Nat.min sLen dLen*k)
    (hsrc:∀ j v,cs[j]?=some v→w.cell? (a.add j)=some v) (hfit:o+cs.length≤cur.size) (h1:∀ v ∈ cs,v.oneCell'=true) :
    (Builtin.copy_ #[dT,sT] ty #[.slice (some ⟨g,o,none⟩) dLen dCap,.slice (some a) sLen sCap]).run P w =
      .ok (goInt (Nat.min sLen dLen)) (w.setRow g (cur.toList.take o ++ cs ++ cur.toList.drop (o+cs.length)).toArray):=by
  have hl:=run_loadCells_list (P:=P) w a cs hsrc
  have hst:=run_storeCells_at P g o t cs 0 cur w hg (by simpa using hfit) h1
  cases hq:P.info? elem with
  | none=>simp [hq] at hs
  | some i =>
    have hi:i.size=k:=by simpa [hq] using hs
    simp [Builtin.copy_,run_underlying hu,Builtin.lenOf,Builtin.firstCells,sizeOf,typeInfo,hq,hi,← hn,hl,hst]
theorem run_copy_zero (w:World) (dT sT ty elem:TypeId) (d:Option Addr) (dLen dCap sLen sCap k:Nat) (hu:P.underlying dT=some (.slice elem)) (hs:(P.info? elem).map (·.size)=some k) (hz:sLen=0) :
    (Builtin.copy_ #[dT,sT] ty #[.slice d dLen dCap,.slice none sLen sCap]).run P w=.ok (goInt 0) w:=by
  subst hz
  cases hq:P.info? elem with
  | none=>simp [hq] at hs
  | some i=>cases d <;> simp [Builtin.copy_,run_underlying hu,Builtin.lenOf,Builtin.firstCells,sizeOf,typeInfo,hq,storeCells]
theorem setRow_gr (w:World) (g:Nat) (cs:Array Value):w.grownBy (w.setRow g cs) (some g):=⟨rfl,rfl,rfl,by simp [World.setRow],fun k _ hn=>setRow_other w g k cs (fun e=>hn (by rw [e]))⟩
/-- A row that was made is filled whole by copy. -/
theorem run_copy_fill (w:World) (dT sT ty elem:TypeId) (g n k:Nat) (sp:Option Addr) (sCap:Nat) (cur:Array Value) (t:TypeId) (xs:List Value)
    (hu:P.underlying dT=some (.slice elem)) (hs:(P.info? elem).map (·.size)=some k) (hg:w.heap[g]?=some (.cells cur t (0,0))) (hc:cur.size=n*k) (hl:xs.length=n*k)
    (hz:sp=none→n=0) (hsrc:∀ ad,sp=some ad→∀ j v,xs[j]?=some v→w.cell? (ad.add j)=some v) (h1:∀ v ∈ xs,v.oneCell'=true) :
    ∃ w',(Builtin.copy_ #[dT,sT] ty #[.slice (some ⟨g,0,none⟩) n n,.slice sp n sCap]).run P w=.ok (goInt n) w'∧w'.heap[g]?=some (.cells xs.toArray t (0,0))∧w.grownBy w' (some g):=by
  rcases sp with _|ad
  · obtain rfl:=hz rfl
    refine ⟨w,run_copy_zero w dT sT ty elem _ 0 0 0 sCap k hu hs rfl,?_,⟨rfl,rfl,rfl,Nat.le_refl _,fun _ _ _=>rfl⟩⟩
    have e1:xs=[]:=List.eq_nil_of_length_eq_zero (by simpa using hl)
    have e2:cur=#[]:=Array.eq_empty_of_size_eq_zero (by simpa using hc)
    rw [hg,e1,e2]
  · have hm:Nat.min n n=n:=Nat.min_self n
    have:=run_copy_big (P:=P) w dT sT ty elem g 0 n n k ad n sCap cur t xs hu hs hg (by rw [hm];exact hl) (hsrc ad rfl) (by omega) h1
    rw [hm] at this
    refine ⟨_,this,?_,setRow_gr w g _⟩
    have:=setRow_heap w g cur ((cur.toList.take 0 ++ xs ++ cur.toList.drop (0+xs.length)).toArray) t (0,0) hg
    rw [this]
    have e:cur.toList.drop (0+xs.length)=[]:=by apply List.drop_eq_nil_of_le;simp;omega
    rw [e]
    simp
end
theorem own_fill {w:World} {lo g n k:Nat} {t:TypeId} {xs:List Value} (h:w.heap[g]?=some (.cells xs.toArray t (0,0))) (hl:xs.length=n*k) (hlo:lo≤g) (hm:n≤maxLen):w.ownsRow lo t k (.slice (some ⟨g,0,none⟩) n n) n xs :=
  ⟨hl,.inr ⟨g,n,xs.toArray,rfl,hlo,h,Nat.le_refl _,hm,by simp [hl],by simp [← hl]⟩⟩
end Go.Proofs.Ytgpdocmclkpknaa
set_option linter.unusedSimpArgs false
set_option linter.unusedVariables false
namespace Go.Proofs.Ytgpdocmclkpknaa
open Go.RowKit
set_option linter.unusedSimpArgs false
attribute [local simp] bx_size
def WBoxR (w w':World) (x:Wo) (r:Ending):Prop:=(∃ B v1 v2 v3 v4,r=.returned (.pointer (some ⟨B,0,none⟩))∧w.heap.size≤B∧hp w' B=some (.cells (wvals x v1 v2 v3 v4) 38)∧WOwn w' w.heap.size v1 v2 v3 v4 x)∧Below w.heap.size w w'
set_option maxRecDepth 100000 in
set_option maxHeartbeats 4000000 in
theorem owned_any (x:Wo) (a b d e:Option Addr) (p q r s:Nat) (w:World) (h:SegW w w.heap.size x a b d e) (z:NoneW x a b d e p q r s) (m:LenW x) :
    Calls Try.prog 52 #[.agg #[.int .i64 x.ch.cap,.int .i64 x.ch.sent,.int .i64 x.ch.got,.int .i64 x.ch.fin,.slice a x.ch.cells.length p,.slice b x.ch.words.length q,.slice d x.hands.length r,.slice e x.deals.length s,.int .i64 x.now]] w fun r w'=>WBoxR w w' x r:=by
  obtain ⟨h1,h2,h3,h4⟩:=h
  obtain ⟨z1,z2,z3,z4⟩:=z
  obtain ⟨m1,m2,m3,m4⟩:=m
  have H1:=Lib.hid h1
  have H2:=Lib.hid h2
  have H3:=Lib.hid h3
  have H4:=Lib.hid h4
  have Z3:=Lib.hid z3
  have Z4:=Lib.hid z4
  have M1:x.ch.cells.length≤1099511627776:=by omega
  have M2:x.ch.words.length≤1099511627776:=by omega
  have hmk3:=mkHands x.hands.length m3
  have hmk4:=mkDeals x.deals.length m4
  clear h1 h2 h3 h4 z3 z4
  go_enter Try.func52,Try.ntmps52
  go_wp2_with fail
  go_wp2_with fail;refine bHit w (by exact zB) fun bb=>?_;refine (copied_any x.ch a b p q _ ((H1.out.below bb).more bb.size) z1 ((H2.out.below bb).more bb.size) z2 M1 M2).mono ?_;rintro _ w1 ⟨⟨v1,v2,rfl,o1,o2⟩,hbw1⟩;have hCw1:Below w.heap.size w w1:=bT bb hbw1;have hsw1:=hbw1.size;(try simp at hsw1);have zz:=And.intro (hQ hbw1 (b:=w.heap.size+1)) <| hQ hbw1 (b:=w.heap.size);(try simp [go_sem] at zz);(try clear z_wp x_wp f_wp l_wp);(try clear z_w x_w f_w l_w);obtain ⟨z_wp,z_w⟩:=zz;obtain ⟨x_wp,f_wp,l_wp⟩:=bO z_wp;obtain ⟨x_w,f_w,l_w⟩:=bO z_w;clear hbw1 bb
  replace o1:=own_lo (lo':=w.heap.size+1+1) o1 (by simp)
  replace o2:=own_lo (lo':=w.heap.size+1+1) o2 (by simp)
  have o10:=o1
  have o20:=o2
  obtain ⟨va,vc,rfl,_⟩:=OCells.seg o1
  obtain ⟨vb,vd,rfl,_⟩:=OInts.seg o2
  go_wp2_with fail
  have hCa0:=hCw1
  generalize hwa:World.alloc _ _=wa
  have hga:hp wa w1.heap.size=some (.cells (madeCells (hvals Ha.zero) (x.hands.length*14)) 60):=by rw [← hwa];simp [go_sem]
  have z_a:hp wa w.heap.size=some (.cells (wvals x (.slice a x.ch.cells.length p) (.slice b x.ch.words.length q) (.slice d x.hands.length r) (.slice e x.deals.length s)) 38):=by rw [← hwa];simp [go_sem,z_w,l_w];rfl
  have z_b:hp wa (w.heap.size+1)=some (.cells (wvals x (.slice va x.ch.cells.length vc) (.slice vb x.ch.words.length vd) (.slice (some ⟨w1.heap.size,0,none⟩) x.hands.length x.hands.length) (.slice e x.deals.length s)) 38):=by rw [← hwa];simp [go_sem,z_wp,l_wp];rfl
  have hBa:Below w.heap.size w wa:=by rw [← hwa];exact zB
  have hsa:wa.heap.size=w1.heap.size+1:=by rw [← hwa];simp
  have i1:wa.ownsRow (w.heap.size+1+1) 89 3 (.slice va x.ch.cells.length vc) x.ch.cells.length (flatC x.ch.cells):=(by rw [← hwa];(repeat (first|with_reducible exact o10|with_reducible refine World.ownsRow.alloc ?_ _|((with_reducible refine own_store ?_ ?_ _);rotate_left;(focus exact own_ne o10 (by (try simp);try omega))))))
  have i2:wa.ownsRow (w.heap.size+1+1) 2 1 (.slice vb x.ch.words.length vd) x.ch.words.length (ints x.ch.words):=(by rw [← hwa];(repeat (first|with_reducible exact o20|with_reducible refine World.ownsRow.alloc ?_ _|((with_reducible refine own_store ?_ ?_ _);rotate_left;(focus exact own_ne o20 (by (try simp);try omega))))))
  clear hwa o1 o2 o10 o20 z_w z_wp x_w x_wp f_w f_wp l_w l_wp
  obtain ⟨w2,hrun,hg2,gr2⟩:=run_copy_fill (P:=Try.prog) wa 35 35 3 60 w1.heap.size x.hands.length 14 d r _ 60 (flatH x.hands) Try.underlying35 (by kernel_rfl) hga (by simp [madeCells]) (flatH_len _) (fun e=>(Z3.out e).1) (Seg.news (H3.out.below hBa) (flatH_len _) (flatH_get _)) (flatH_one _)
  rw [hrun]
  replace i1:=World.ownsRow.kept i1 gr2 (.inr fun e=>own_offs i1 hga (by decide) _ e rfl)
  replace i2:=World.ownsRow.kept i2 gr2 (.inr fun e=>own_offs i2 hga (by decide) _ e rfl)
  have i3:w2.ownsRow (w.heap.size+1+1) 60 14 (.slice (some ⟨w1.heap.size,0,none⟩) x.hands.length x.hands.length) x.hands.length (flatH x.hands):=own_fill hg2 (flatH_len _) (by omega) (by unfold maxLen;omega)
  replace z_a:=(grHp gr2 (bO z_a).2.2 (by simp;omega)).trans z_a
  replace z_b:=(grHp gr2 (bO z_b).2.2 (by simp;omega)).trans z_b
  have hB2:Below w.heap.size w w2:=bOwn hBa gr2 hBa.size (fun k hk=>by simp at hk;omega)
  obtain ⟨x_a,f_a,l_a⟩:=bO z_a
  obtain ⟨x_b,f_b,l_b⟩:=bO z_b
  simp only [wvals] at x_a x_b
  have hs2:=gr2.size
  clear hrun gr2 hga hg2
  go_wp2_with fail
  generalize hwb:World.alloc _ _=wb
  have hgb:hp wb w2.heap.size=some (.cells (madeCells (dvals De.zero) (x.deals.length*7)) 62):=by rw [← hwb];simp [go_sem]
  have y_a:hp wb w.heap.size=some (.cells (wvals x (.slice a x.ch.cells.length p) (.slice b x.ch.words.length q) (.slice d x.hands.length r) (.slice e x.deals.length s)) 38):=by rw [← hwb];simp [go_sem,z_a,l_a]
  have y_b:hp wb (w.heap.size+1)=some (.cells (wvals x (.slice va x.ch.cells.length vc) (.slice vb x.ch.words.length vd) (.slice (some ⟨w1.heap.size,0,none⟩) x.hands.length x.hands.length) (.slice (some ⟨w2.heap.size,0,none⟩) x.deals.length x.deals.length)) 38):=by rw [← hwb];simp [go_sem,z_b,l_b,wvals]
  have hBb:Below w.heap.size w wb:=by rw [← hwb];exact zB
  have hsb:wb.heap.size=w2.heap.size+1:=by rw [← hwb];simp
  have j1:wb.ownsRow (w.heap.size+1+1) 89 3 (.slice va x.ch.cells.length vc) x.ch.cells.length (flatC x.ch.cells):=(by rw [← hwb];(repeat (first|with_reducible exact i1|with_reducible refine World.ownsRow.alloc ?_ _|((with_reducible refine own_store ?_ ?_ _);rotate_left;(focus exact own_ne i1 (by (try simp);try omega))))))
  have j2:wb.ownsRow (w.heap.size+1+1) 2 1 (.slice vb x.ch.words.length vd) x.ch.words.length (ints x.ch.words):=(by rw [← hwb];(repeat (first|with_reducible exact i2|with_reducible refine World.ownsRow.alloc ?_ _|((with_reducible refine own_store ?_ ?_ _);rotate_left;(focus exact own_ne i2 (by (try simp);try omega))))))
  have j3:wb.ownsRow (w.heap.size+1+1) 60 14 (.slice (some ⟨w1.heap.size,0,none⟩) x.hands.length x.hands.length) x.hands.length (flatH x.hands):=(by rw [← hwb];(repeat (first|with_reducible exact i3|with_reducible refine World.ownsRow.alloc ?_ _|((with_reducible refine own_store ?_ ?_ _);rotate_left;(focus exact own_ne i3 (by (try simp);try omega))))))
  clear hwb i1 i2 i3 z_a z_b x_a x_b f_a f_b l_a l_b
  obtain ⟨w3,hrun,hg3,gr3⟩:=run_copy_fill (P:=Try.prog) wb 36 36 3 62 w2.heap.size x.deals.length 7 e s _ 62 (flatD x.deals) Try.underlying36 (by kernel_rfl) hgb (by simp [madeCells]) (flatD_len _) (fun e=>(Z4.out e).1) (Seg.news (H4.out.below hBb) (flatD_len _) (flatD_get _)) (flatD_one _)
  rw [hrun]
  replace j1:=World.ownsRow.kept j1 gr3 (.inr fun e=>own_offs j1 hgb (by decide) _ e rfl)
  replace j2:=World.ownsRow.kept j2 gr3 (.inr fun e=>own_offs j2 hgb (by decide) _ e rfl)
  replace j3:=World.ownsRow.kept j3 gr3 (.inr fun e=>own_offs j3 hgb (by decide) _ e rfl)
  have j4:w3.ownsRow (w.heap.size+1+1) 62 7 (.slice (some ⟨w2.heap.size,0,none⟩) x.deals.length x.deals.length) x.deals.length (flatD x.deals):=own_fill hg3 (flatD_len _) (by omega) (by unfold maxLen;omega)
  replace y_b:=(grHp gr3 (bO y_b).2.2 (by simp;omega)).trans y_b
  have hB3:Below w.heap.size w w3:=bOwn hBb gr3 hBb.size (fun k hk=>by simp at hk;omega)
  clear hrun gr3 hgb hg3 y_a
  go_wp2
  go_ret
  exact ⟨⟨_,_,_,_,_,rfl,by omega,y_b,own_lo j1 (by omega),own_lo j2 (by omega),own_lo j3 (by omega),own_lo j4 (by omega)⟩,hB3⟩
end Go.Proofs.Ytgpdocmclkpknaa
