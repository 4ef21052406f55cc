/-
  The contracts of the reference model's functions of chapter 1; no condition.
  The reference model's functions of chapter 4; no condition.
  The reference model's functions of chapter 2; lists lie in memory and hold at most what memory can hold.
-/
import Derived.Test.YtmnpgkcdfielbaaP01
import Derived.Test.YtmnpgkcdfielbaaP04
import Derived.Test.YtmnpgkcdfielbaaP02
set_option linter.unusedSimpArgs false
set_option linter.unusedVariables false
namespace Go.Proofs.Ytmnpgkcdfielbaa
open Go.RowKit
set_option maxHeartbeats 400000 in
theorem l1In_any (n m k:Int) (w:World):Calls Try.prog 40 #[.int .i64 n,.int .i64 m,.int .i64 k] w fun e w'=>e=.returned (.bool (inB n m k))∧w=w':=by
  go_enter Try.func40,Try.ntmps40
  go_wp2
  all_goals go_ret
  · exact ⟨ret_bool (inB_lo ‹_›),rfl⟩
  · exact ⟨ret_bool (inB_no (.inl ‹_›)).symm,rfl⟩
set_option maxHeartbeats 400000 in
theorem l1State_any (n:Int) (w:World):Calls Try.prog 66 #[.int .i64 n] w fun r w'=>r=.returned (.bool (inB n 0 10))∧w=w':=by
  go_enter Try.func66,Try.ntmps66
  go_wp2_with (go_at_call 40;refine (l1In_any _ _ _ _).mono ?_;rintro _ _ ⟨rfl,rfl⟩)
  go_ret
  exact ⟨rfl,rfl⟩
set_option maxHeartbeats 400000 in
theorem l1Elem_any (n:Int) (w:World):Calls Try.prog 41 #[.int .i64 n] w fun r w'=>r=.returned (.bool (inB n 0 999))∧w=w':=by
  go_enter Try.func41,Try.ntmps41
  go_wp2_with (go_at_call 40;refine (l1In_any _ _ _ _).mono ?_;rintro _ _ ⟨rfl,rfl⟩)
  go_ret
  exact ⟨rfl,rfl⟩
set_option maxHeartbeats 400000 in
theorem sCellOk_any (s e t:Int) (w:World):Calls Try.prog 63 #[.agg #[.int .i64 s,.int .i64 e,.int .i64 t]] w fun r w'=>r=.returned (.bool (cellB s e t))∧Below w.heap.size w w':=by
  go_enter Try.func63,Try.ntmps63
  go_wp2_with (first|(go_at_call 66;refine (l1State_any _ _).mono ?_;rintro _ _ ⟨rfl,rfl⟩)|(go_at_call 41;refine (l1Elem_any _ _).mono ?_;rintro _ _ ⟨rfl,rfl⟩)|(go_at_call 40;refine (l1In_any _ _ _ _).mono ?_;rintro _ _ ⟨rfl,rfl⟩))
  all_goals go_ret
  all_goals refine ⟨ret_bool ?_,by exact zB⟩
  · exact cellB_3 ‹_› ‹_›
  · exact cellB_2 ‹_›
  · exact cellB_1 ‹_›
end Go.Proofs.Ytmnpgkcdfielbaa
set_option linter.unusedSimpArgs false
set_option linter.unusedVariables false
namespace Go.Proofs.Ytmnpgkcdfielbaa
open Go.RowKit
set_option maxRecDepth 100000 in
set_option maxHeartbeats 400000 in
theorem sCallOk_any (k e:Int) (w:World):Calls Try.prog 65 #[.agg #[.int .i64 k,.int .i64 e]] w fun r w'=>r=.returned (.bool (callOk k e))∧Below w.heap.size w w':=by
  go_enter Try.func65,Try.ntmps65
  go_wp2_with (go_at_call 41;refine (l1Elem_any _ _).mono ?_;rintro _ _ ⟨rfl,rfl⟩)
  all_goals go_ret
  all_goals exact ⟨ret_bool (by simp_all [callOk]),by exact zB⟩
set_option maxRecDepth 100000 in
set_option maxHeartbeats 400000 in
theorem sReplyOk_any (k e x:Int) (w:World):Calls Try.prog 39 #[.agg #[.int .i64 k,.int .i64 e],.int .i64 x] w fun r w'=>r=.returned (.bool (replyOk k e x))∧Below w.heap.size w w':=by
  go_enter Try.func39,Try.ntmps39
  go_wp2_with (first|(go_at_call 65;refine (sCallOk_any _ _ _).mono ?_;rintro _ w1 ⟨rfl,hbw1⟩;have hBw1:Below w.heap.size w w1:=bT (by exact zB) hbw1;have hsw1:=hbw1.size;(try (simp at hsw1));have:=fun o=>hbw1.cell (p:=⟨w.heap.size,o,none⟩) (by ((try simp);(try omega)));have:=fun o=>hbw1.frozen (p:=⟨w.heap.size,o,none⟩) (by ((try simp);(try omega)));have:w.heap.size<w1.heap.size:=(by omega);have:w.heap.size≤w1.heap.size:=(by omega);have:w.heap.size≤w1.heap.size+1:=(by omega))|(go_at_call 40;refine (l1In_any _ _ _ _).mono ?_;rintro _ _ ⟨rfl,rfl⟩))
  all_goals go_ret
  all_goals exact ⟨ret_bool (by simp_all [replyOk]),by exact zB⟩
set_option maxRecDepth 100000 in
theorem l4None_any (k e:Int) (w:World):Calls Try.prog 64 #[.agg #[.int .i64 k,.int .i64 e]] w fun r w'=>r=.returned (.bool (noCall k e))∧Below w.heap.size w w':=by
  go_enter Try.func64,Try.ntmps64
  go_wp2
  all_goals go_ret
  all_goals exact ⟨ret_bool (by simp_all [noCall]),by exact zB⟩
end Go.Proofs.Ytmnpgkcdfielbaa
set_option linter.unusedSimpArgs false
set_option linter.unusedVariables false
namespace Go.Proofs.Ytmnpgkcdfielbaa
open Go.RowKit
set_option maxHeartbeats 400000 in
theorem l2Count_any (n:Int) (w:World):Calls Try.prog 62 #[.int .i64 n] w fun r w'=>r=.returned (.bool (inB n 0 40))∧w=w':=by
  go_enter Try.func62,Try.ntmps62
  go_wp2_with (go_at_call 40;refine (l1In_any _ _ _ _).mono ?_;rintro _ _ ⟨rfl,rfl⟩)
  go_ret
  exact ⟨rfl,rfl⟩
/-- Where the head of a channel is not right. -/
theorem head_no (cap sent got fin:Int) (cells:List C3) (words:List Int) (h:chanHead ⟨cap,sent,got,fin,cells,words⟩=false):false=chanOk ⟨cap,sent,got,fin,cells,words⟩:=by simp [chanOk,h]
theorem head_yes {cap sent got fin:Int} {cells:List C3} {words:List Int} (h:chanHead ⟨cap,sent,got,fin,cells,words⟩=true) :
    inB cap 0 4=true∧inB sent 0 40=true∧inB got 0 40=true∧inB fin 0 40=true∧cells.length=40∧words.length≤80:=by
  simpa [chanHead] using h
theorem sChanOk_no (cap sent got fin:Int) (cells:List C3) (words:List Int) (a b:Option Addr) (p q:Nat) (w:World) (h:chanHead ⟨cap,sent,got,fin,cells,words⟩=false) :
    Calls Try.prog 36 #[.agg #[.int .i64 cap,.int .i64 sent,.int .i64 got,.int .i64 fin,.slice a cells.length p,.slice b words.length q]] w fun r w'=>r=.returned (.bool (chanOk ⟨cap,sent,got,fin,cells,words⟩))∧Below w.heap.size w w':=by
  rw [← head_no _ _ _ _ _ _ h]
  have H:=Lib.hid h
  clear h
  go_enter Try.func36,Try.ntmps36
  go_wp2_with (first|(go_at_call 40;refine (l1In_any _ _ _ _).mono ?_;rintro _ _ ⟨rfl,rfl⟩)|(go_at_call 62;refine (l2Count_any _ _).mono ?_;rintro _ _ ⟨rfl,rfl⟩))
  all_goals first|(go_ret;exact ⟨rfl,by exact zB⟩)|skip
  exfalso
  have h:=H.out
  simp [chanHead, *] at h
  omega
theorem chan_bad1 {cap sent got fin:Int} {cells:List C3} {words:List Int} {k:Nat} {c:C3} (hk:k<cells.length) (hc:cells.getD k ⟨0,0,0⟩=c) (h:cellFits words.length c=false):false=chanOk ⟨cap,sent,got,fin,cells,words⟩:=by
  have:cells.all (cellFits words.length)=false:=by
    rw [List.all_eq_false]
    refine ⟨cells[k],List.getElem_mem hk,?_⟩
    rw [← hc] at h
    simpa [List.getD,List.getElem?_eq_getElem hk] using h
  simp [chanOk,this]
theorem chan_bad2 {cap sent got fin:Int} {cells:List C3} {words:List Int} {k:Nat} {x:Int} (hk:k<words.length) (hc:words.getD k 0=x) (h:inB x 0 2=false):false=chanOk ⟨cap,sent,got,fin,cells,words⟩:=by
  have:words.all (fun x=>inB x 0 2)=false:=by
    rw [List.all_eq_false]
    refine ⟨words[k],List.getElem_mem hk,?_⟩
    rw [← hc] at h
    simpa [List.getD,List.getElem?_eq_getElem hk] using h
  simp [chanOk,this]
theorem words_snoc {words:List Int} {k:Nat} {x:Int} (hk:k<words.length) (hc:words.getD k 0=x) (h:(words.take k).all (fun x=>inB x 0 2)=true) (h1:inB x 0 2=true):(words.take (k+1)).all (fun x=>inB x 0 2)=true:=by
  have e:words.take (k+1)=words.take k ++ [x]:=by
    rw [List.take_succ_eq_append_getElem hk,← hc];simp [List.getD,List.getElem?_eq_getElem hk]
  rw [e,List.all_append,h];simp [h1]
def fitsAt (words:List Int) (cells:List C3) (k:Nat):Prop:=(cells.take k).all (cellFits words.length)=true
theorem chan_all {cap sent got fin:Int} {cells:List C3} {words:List Int} (h:chanHead ⟨cap,sent,got,fin,cells,words⟩=true) (h1:fitsAt words cells cells.length) (h2:(words.take words.length).all (fun x=>inB x 0 2)=true):true=chanOk ⟨cap,sent,got,fin,cells,words⟩:=by
  unfold fitsAt at h1
  rw [List.take_length] at h1 h2
  unfold chanOk
  rw [h,h1,h2];rfl
theorem fits_snoc {words:List Int} {cells:List C3} {k:Nat} {c:C3} (hk:k<cells.length) (hc:cells.getD k ⟨0,0,0⟩=c) (h:fitsAt words cells k) (h1:cellFits words.length c=true):fitsAt words cells (k+1):=by
  unfold fitsAt at *
  rw [take_snocC cells k hk,hc,List.all_append,h];simp [h1]
set_option maxRecDepth 100000 in
set_option linter.unusedSimpArgs false in
set_option maxHeartbeats 2000000 in
theorem sChanOk_yes (cap sent got fin:Int) (cells:List C3) (words:List Int) (a b:Option Addr) (p q:Nat) (w:World) (h1:Seg w w.heap.size a cells.length 3 (cellF cells)) (h2:Seg w w.heap.size b words.length 1 (intF words)) (h:chanHead ⟨cap,sent,got,fin,cells,words⟩=true) :
    Calls Try.prog 36 #[.agg #[.int .i64 cap,.int .i64 sent,.int .i64 got,.int .i64 fin,.slice a cells.length p,.slice b words.length q]] w fun r w'=>r=.returned (.bool (chanOk ⟨cap,sent,got,fin,cells,words⟩))∧Below w.heap.size w w':=by
  obtain ⟨i1,i2,i3,i4,i5,i6⟩:=head_yes h
  have hl:((cells.length:Int) != 40)=false:=by simp;omega
  have hl0:cells.length≤40:=by omega
  have hw:decide (80<(words.length:Int))=false:=by simp;omega
  have H1:=Lib.hid h1
  have H2:=Lib.hid h2
  have HH:=Lib.hid h
  have I5:=Lib.hid i5
  clear h1 h2 h i5
  obtain ⟨b1,o1,rfl,hb1,hc1⟩:∃ b o,a=some ⟨b,o,none⟩∧b<w.heap.size∧Hid (∀ i j,i<cells.length→j<3→w.cell? ⟨b,o+i*3+j,none⟩=some (cellF cells i j)):=by
    rcases H1.out with h0|h0
    · exact absurd h0 (by have:=I5.out;omega)
    · exact h0
  go_enter Try.func36,Try.ntmps36
  go_wp2_with (first|(go_at_call 40;refine (l1In_any _ _ _ _).mono ?_;rintro _ _ ⟨rfl,rfl⟩)|(go_at_call 62;refine (l2Count_any _ _).mono ?_;rintro _ _ ⟨rfl,rfl⟩))
  go_loopw [3] (fun i wr=>∃ k:Nat,k≤cells.length∧i=.int .i64 k∧fitsAt words cells k∧(∀ o,wr.cell? ⟨w.heap.size,o,none⟩=#[Value.int .i64 cap,.int .i64 sent,.int .i64 got,.int .i64 fin,.slice (some ⟨b1,o1,none⟩) cells.length p,.slice b words.length q][o]?)∧w.heap.size<wr.heap.size∧Below w.heap.size w wr) (fun i _=>cells.length - (intOf i).toNat)
  case atStart=>exact ⟨0,Nat.zero_le _,rfl,rfl,fun o=>by simp,by simp,by exact zB⟩
  case round =>
    obtain ⟨k,hk,rfl,hfit,hbx,hlt1,hB⟩:=hrel
    by_cases hlt:k<cells.length
    · have c0:=(hB.cell (p:=⟨b1,o1+k*3+0,none⟩) hb1).trans (hc1.out k 0 hlt (by omega))
      have c1:=(hB.cell (p:=⟨b1,o1+k*3+1,none⟩) hb1).trans (hc1.out k 1 hlt (by omega))
      have c2:=(hB.cell (p:=⟨b1,o1+k*3+2,none⟩) hb1).trans (hc1.out k 2 hlt (by omega))
      simp only [cellF,C3.val,Nat.add_zero] at c0 c1 c2
      generalize hcg:cells.getD k ⟨0,0,0⟩=c at c0 c1 c2
      have HC:=Lib.hid hcg
      clear hcg
      have x4:=hbx 4
      have x5:=hbx 5
      simp at x4 x5
      have hk0:(0:Int)≤(k:Int):=by omega
      have hk1:(k:Int)<(cells.length:Int):=by omega
      by_cases hok:cellB c.s c.e c.t=true
      · go_wp2_with fail
        go_region_held3 (fun w'=>w'.cell? ⟨w.heap.size,4,none⟩=some (.slice (some ⟨b1,o1,none⟩) cells.length p)∧w'.cell? ⟨w.heap.size,5,none⟩=some (.slice b words.length q)∧w'.cell? ⟨b1,o1+k*3,none⟩=some (.int .i64 c.s)∧w'.cell? ⟨b1,o1+k*3+1,none⟩=some (.int .i64 c.e)∧w'.cell? ⟨b1,o1+k*3+2,none⟩=some (.int .i64 c.t))
          (first|(simp [*,go_sem]))
          (first|(go_at_call 63;refine (sCellOk_any _ _ _ _).mono ?_;rintro _ w7 ⟨rfl,hb7⟩;have hB7:Below w.heap.size w w7:=bT (by exact zB) hb7;have:=hb7.cell (p:=⟨w.heap.size,4,none⟩) (by simp;omega);have:=hb7.cell (p:=⟨w.heap.size,5,none⟩) (by simp;omega);have:=hb7.cell (p:=⟨b1,o1+k*3,none⟩) (by simp;omega);have:=hb7.cell (p:=⟨b1,o1+k*3+1,none⟩) (by simp;omega);have:=hb7.cell (p:=⟨b1,o1+k*3+2,none⟩) (by simp;omega);have hx7:=fun o=>(hb7.cell (p:=⟨w.heap.size,o,none⟩) (by simp;omega)).trans (hbx o);have hs7:=hb7.size;simp at hs7))
        by_cases hct:(words.length:Int)<c.t
        · go_wp2
          go_ret
          exact ⟨ret_bool (chan_bad1 hlt HC.out (by simp [cellFits,okC,hok];omega)),hB7⟩
        · go_wp2
          go_roundw
          case rel=>exact ⟨k+1,by omega,by go_num,fits_snoc hlt HC.out hfit (by simp [cellFits,okC,hok];omega),hx7,by omega,hB7⟩
          case measure=>simp [intOf];omega
      · have hok2:cellB c.s c.e c.t=false:=by simpa using hok
        clear hok x5
        go_wp2_with fail
        refine wp_region_held_drew (S:=fun w'=>w'.cell? ⟨w.heap.size,4,none⟩=some (.slice (some ⟨b1,o1,none⟩) cells.length p)∧w'.cell? ⟨b1,o1+k*3,none⟩=some (.int .i64 c.s)∧w'.cell? ⟨b1,o1+k*3+1,none⟩=some (.int .i64 c.e)∧w'.cell? ⟨b1,o1+k*3+2,none⟩=some (.int .i64 c.t)) (by kernel_rfl) (by simp [*,go_sem]) (fun hS0=>?_)
        refine wpAnyH_take (i:=0) (oi:=⟨some 46,_,_,_,_,_⟩) (v:=?_) rfl (by kernel_rfl) (by kernel_rfl) (by kernel_rfl) (fun _ _ _ h=>h) (Or.inl ⟨by rfl,?_⟩) (by assumption) ?_;rotate_left;(focus (intro w' hSw;(try dsimp only at hSw);go_simp;(try with_reducible rfl)));(try rotate_left);(try simp only [Act.put,List.setIfInBounds_toArray,List.set_cons_zero,List.set_cons_succ])
        refine wpAnyH_take (i:=1) (oi:=⟨some 47,_,_,_,_,_⟩) (v:=?_) rfl (by kernel_rfl) (by kernel_rfl) (by kernel_rfl) (fun _ _ _ h=>h) (Or.inl ⟨by rfl,?_⟩) (by assumption) ?_;rotate_left;(focus (intro w' hSw;(try dsimp only at hSw);go_simp;(try with_reducible rfl)));(try rotate_left);(try simp only [Act.put,List.setIfInBounds_toArray,List.set_cons_zero,List.set_cons_succ])
        refine wpAnyH_take (i:=2) (oi:=⟨some 48,_,_,_,_,_⟩) (v:=?_) rfl (by kernel_rfl) (by kernel_rfl) (by kernel_rfl) (fun _ _ _ h=>h) (Or.inl ⟨by rfl,?_⟩) (by assumption) ?_;rotate_left;(focus (intro w' hSw;(try dsimp only at hSw);go_simp;(try with_reducible rfl)));(try rotate_left);(try simp only [Act.put,List.setIfInBounds_toArray,List.set_cons_zero,List.set_cons_succ])
        refine wpAnyH_take (i:=3) (oi:=⟨some 49,_,_,_,_,_⟩) (v:=?_) rfl (by kernel_rfl) (by kernel_rfl) (by kernel_rfl) (fun _ _ _ h=>h) (Or.inl ⟨by rfl,?_⟩) (by assumption) ?_;rotate_left;(focus (intro w' hSw;(try dsimp only at hSw);go_simp;(try with_reducible rfl)));(try rotate_left);(try simp only [Act.put,List.setIfInBounds_toArray,List.set_cons_zero,List.set_cons_succ])
        refine wpAnyH_take (i:=4) (oi:=⟨some 50,_,_,_,_,_⟩) (v:=?_) rfl (by kernel_rfl) (by kernel_rfl) (by kernel_rfl) (fun _ _ _ h=>h) (Or.inl ⟨by rfl,?_⟩) (by assumption) ?_;rotate_left;(focus (intro w' hSw;(try dsimp only at hSw);go_simp;(try with_reducible rfl)));(try rotate_left);(try simp only [Act.put,List.setIfInBounds_toArray,List.set_cons_zero,List.set_cons_succ])
        refine wpAnyH_ready (rs:=[5]) (by kernel_rfl) (by simp) ?_
        refine AllReadyH.cons (o:=⟨some 51,_,_,_,_,_⟩) rfl (fun K hK=>?_) AllReadyH.nil
        go_simp
        go_at_call 63
        refine (sCellOk_any _ _ _ _).mono ?_
        rintro _ w7 ⟨rfl,hb7⟩
        have hB7:Below w.heap.size w w7:=bT (by exact zB) hb7
        rw [hok2]
        refine hK.out _ _ ?_ (fun hS7=>?_)
        · refine ⟨(hb7.cell (by simp;omega)).trans x4,(hb7.cell (by simp;omega)).trans c0,(hb7.cell (by simp;omega)).trans c1,(hb7.cell (by simp;omega)).trans c2⟩
        clear hK
        (try simp only [Act.put,List.setIfInBounds_toArray,List.set_cons_zero,List.set_cons_succ])
        refine wpAnyH_take (i:=6) (oi:=⟨some 52,_,_,_,_,_⟩) (v:=?_) rfl (by kernel_rfl) (by kernel_rfl) (by kernel_rfl) (fun _ _ _ h=>h) (Or.inl ⟨by rfl,?_⟩) (by assumption) ?_;rotate_left;(focus (intro w' hSw;(try dsimp only at hSw);go_simp;(try with_reducible rfl)));(try rotate_left);(try simp only [Act.put,List.setIfInBounds_toArray,List.set_cons_zero,List.set_cons_succ])
        refine wpAnyH_take (i:=7) (oi:=⟨some 53,_,_,_,_,_⟩) (v:=?_) rfl (by kernel_rfl) (by kernel_rfl) (by kernel_rfl) (fun _ _ _ h=>h) (Or.inl ⟨by rfl,?_⟩) (by assumption) ?_;rotate_left;(focus (intro w' hSw;(try dsimp only at hSw);go_simp;(try with_reducible rfl)));(try rotate_left);(try simp only [Act.put,List.setIfInBounds_toArray,List.set_cons_zero,List.set_cons_succ])
        refine wpAnyH_take (i:=8) (oi:=⟨some 54,_,_,_,_,_⟩) (v:=undef) rfl (by kernel_rfl) (by kernel_rfl) (by kernel_rfl) (fun _ _ _ h=>h) (Or.inr ⟨by rfl,rfl⟩) (by assumption) ?_;(try simp only [Act.put,List.setIfInBounds_toArray,List.set_cons_zero,List.set_cons_succ])
        refine wpAnyH_take (i:=9) (oi:=⟨some 55,_,_,_,_,_⟩) (v:=undef) rfl (by kernel_rfl) (by kernel_rfl) (by kernel_rfl) (fun _ _ _ h=>h) (Or.inr ⟨by rfl,rfl⟩) (by assumption) ?_;(try simp only [Act.put,List.setIfInBounds_toArray,List.set_cons_zero,List.set_cons_succ])
        refine wpAnyH_take (i:=10) (oi:=⟨some 56,_,_,_,_,_⟩) (v:=undef) rfl (by kernel_rfl) (by kernel_rfl) (by kernel_rfl) (fun _ _ _ h=>h) (Or.inr ⟨by rfl,rfl⟩) (by assumption) ?_;(try simp only [Act.put,List.setIfInBounds_toArray,List.set_cons_zero,List.set_cons_succ])
        refine wpAnyH_take (i:=11) (oi:=⟨some 57,_,_,_,_,_⟩) (v:=undef) rfl (by kernel_rfl) (by kernel_rfl) (by kernel_rfl) (fun _ _ _ h=>h) (Or.inr ⟨by rfl,rfl⟩) (by assumption) ?_;(try simp only [Act.put,List.setIfInBounds_toArray,List.set_cons_zero,List.set_cons_succ])
        refine wpAnyH_take (i:=12) (oi:=⟨some 58,_,_,_,_,_⟩) (v:=undef) rfl (by kernel_rfl) (by kernel_rfl) (by kernel_rfl) (fun _ _ _ h=>h) (Or.inr ⟨by rfl,rfl⟩) (by assumption) ?_;(try simp only [Act.put,List.setIfInBounds_toArray,List.set_cons_zero,List.set_cons_succ])
        refine wpAnyH_take (i:=13) (oi:=⟨some 59,_,_,_,_,_⟩) (v:=undef) rfl (by kernel_rfl) (by kernel_rfl) (by kernel_rfl) (fun _ _ _ h=>h) (Or.inr ⟨by rfl,rfl⟩) (by assumption) ?_;(try simp only [Act.put,List.setIfInBounds_toArray,List.set_cons_zero,List.set_cons_succ])
        refine wpAnyH_take (i:=14) (oi:=⟨some 60,_,_,_,_,_⟩) (v:=undef) rfl (by kernel_rfl) (by kernel_rfl) (by kernel_rfl) (fun _ _ _ h=>h) (Or.inr ⟨by rfl,rfl⟩) (by assumption) ?_;(try simp only [Act.put,List.setIfInBounds_toArray,List.set_cons_zero,List.set_cons_succ])
        refine wpAnyH_take (i:=15) (oi:=⟨some 61,_,_,_,_,_⟩) (v:=undef) rfl (by kernel_rfl) (by kernel_rfl) (by kernel_rfl) (fun _ _ _ h=>h) (Or.inr ⟨by rfl,rfl⟩) (by assumption) ?_;(try simp only [Act.put,List.setIfInBounds_toArray,List.set_cons_zero,List.set_cons_succ])
        refine wpAnyH_take (i:=16) (oi:=⟨some 62,_,_,_,_,_⟩) (v:=undef) rfl (by kernel_rfl) (by kernel_rfl) (by kernel_rfl) (fun _ _ _ h=>h) (Or.inr ⟨by rfl,rfl⟩) (by assumption) ?_;(try simp only [Act.put,List.setIfInBounds_toArray,List.set_cons_zero,List.set_cons_succ])
        refine wpAnyH_take (i:=17) (oi:=⟨some 63,_,_,_,_,_⟩) (v:=undef) rfl (by kernel_rfl) (by kernel_rfl) (by kernel_rfl) (fun _ _ _ h=>h) (Or.inr ⟨by rfl,rfl⟩) (by assumption) ?_;(try simp only [Act.put,List.setIfInBounds_toArray,List.set_cons_zero,List.set_cons_succ])
        refine wpAnyH_take (i:=18) (oi:=⟨some 64,_,_,_,_,_⟩) (v:=?_) rfl (by kernel_rfl) (by kernel_rfl) (by kernel_rfl) (fun _ _ _ h=>h) (Or.inl ⟨by rfl,?_⟩) (by assumption) ?_;rotate_left;(focus (intro w' hSw;(try dsimp only at hSw);go_simp;(try with_reducible rfl)));(try rotate_left);(try simp only [Act.put,List.setIfInBounds_toArray,List.set_cons_zero,List.set_cons_succ])
        refine wpAnyH_done (by kernel_rfl) ?_ _
        go_wp2
        go_ret
        exact ⟨ret_bool (chan_bad1 hlt HC.out (by simp [cellFits,okC,hok2])),hB7⟩
    · have:k=cells.length:=by omega
      subst this
      go_wp2
      go_loopw [4] (fun i wr=>∃ k:Nat,k≤words.length∧i=.int .i64 k∧Hid ((words.take k).all (fun x=>inB x 0 2)=true)∧(∀ o,wr.cell? ⟨w.heap.size,o,none⟩=#[Value.int .i64 cap,.int .i64 sent,.int .i64 got,.int .i64 fin,.slice (some ⟨b1,o1,none⟩) cells.length p,.slice b words.length q][o]?)∧w.heap.size<wr.heap.size∧Below w.heap.size w wr) (fun i _=>words.length - (intOf i).toNat)
      case atStart=>exact ⟨0,Nat.zero_le _,rfl,rfl,hbx,hlt1,hB⟩
      case round =>
        clear hbx hlt1 hB hk
        obtain ⟨k,hk,rfl,hall,hbx,hlt1,hB⟩:=hrel
        have x5:=hbx 5
        simp at x5
        by_cases hlt:k<words.length
        · obtain h0|⟨b2,o2,rfl,hb2,hc2⟩:=H2.out
          · omega
          have c0:=(hB.cell (p:=⟨b2,o2+k*1+0,none⟩) hb2).trans (hc2 k 0 hlt (by omega))
          simp only [intF,Nat.add_zero,Nat.mul_one] at c0
          clear hc2
          generalize hcg:words.getD k 0=x at c0
          have HC:=Lib.hid hcg
          clear hcg
          go_wp2_with (go_at_call 40;refine (l1In_any _ _ _ _).mono ?_;rintro _ _ ⟨rfl,rfl⟩)
          · go_ret
            exact ⟨ret_bool (chan_bad2 hlt HC.out (not_true ‹_›)),hB⟩
          · go_roundw
            case rel=>exact ⟨k+1,by omega,by go_num,words_snoc hlt HC.out hall.out (not_false ‹_›),hbx,hlt1,hB⟩
            case measure=>simp [intOf];omega
        · have:k=words.length:=by omega
          subst this
          go_wp2
          go_ret
          exact ⟨ret_bool (chan_all HH.out hfit hall.out),hB⟩
theorem sChanOk_any (c:Ch) (a b:Option Addr) (p q:Nat) (w:World) (h1:Seg w w.heap.size a c.cells.length 3 (cellF c.cells)) (h2:Seg w w.heap.size b c.words.length 1 (intF c.words)) :
    Calls Try.prog 36 #[.agg #[.int .i64 c.cap,.int .i64 c.sent,.int .i64 c.got,.int .i64 c.fin,.slice a c.cells.length p,.slice b c.words.length q]] w fun r w'=>r=.returned (.bool (chanOk c))∧Below w.heap.size w w':=by
  obtain ⟨cap,sent,got,fin,cells,words⟩:=c
  by_cases h:chanHead ⟨cap,sent,got,fin,cells,words⟩=true
  · exact sChanOk_yes cap sent got fin cells words a b p q w h1 h2 h
  · exact sChanOk_no cap sent got fin cells words a b p q w (by simpa using h)
end Go.Proofs.Ytmnpgkcdfielbaa
