/-
  The reference model's functions of chapter 2; lists lie in memory and hold at most what memory can hold.
  The reference model's functions of chapter 5, on hands that are kept whole; no condition.
  The reference model's copies of lists and of a channel: the same in new memory; lists lie in memory and hold at most 2 ^ 40 elements.
  The reference model's functions of chapter 3; lists lie in memory and hold at most 2 ^ 40 elements.
  The reference model's telling of a word; lists lie in memory and hold at most 2 ^ 40 elements.
  The reference model's small functions of chapter 6, on hands and channels that are kept whole; lists lie in memory.
-/
import Derived.Test.YtajopaegmocnlaaP01
import Derived.Test.YtajopaegmocnlaaP03
import Derived.Test.YtajopaegmocnlaaP02
set_option linter.unusedSimpArgs false
set_option linter.unusedVariables false
namespace Go.Proofs.Ytajopaegmocnlaa
open Go.RowKit
set_option maxHeartbeats 400000 in
theorem l2Count_any (n:Int) (w:World):Calls Try.prog 71 #[.int .i64 n] w fun r w'=>r=.returned (.bool (inB n 0 40))∧w=w':=by
  go_enter Try.func71,Try.ntmps71
  go_wp2_with (go_at_call 48;refine (l1In_any _ _ _ _).mono ?_;rintro _ _ ⟨rfl,rfl⟩)
  go_ret
  exact ⟨rfl,rfl⟩
/-- Where the head of a channel is not right. -/
theorem head_no (cap sent got fin:Int) (cells:List C3) (words:List Int) (h:chanHead ⟨cap,sent,got,fin,cells,words⟩=false):false=chanOk ⟨cap,sent,got,fin,cells,words⟩:=by simp [chanOk,h]
theorem head_yes {cap sent got fin:Int} {cells:List C3} {words:List Int} (h:chanHead ⟨cap,sent,got,fin,cells,words⟩=true) :
    inB cap 0 4=true∧inB sent 0 40=true∧inB got 0 40=true∧inB fin 0 40=true∧cells.length=40∧words.length≤80:=by
  simpa [chanHead] using h
theorem sChanOk_no (cap sent got fin:Int) (cells:List C3) (words:List Int) (a b:Option Addr) (p q:Nat) (w:World) (h:chanHead ⟨cap,sent,got,fin,cells,words⟩=false) :
    Calls Try.prog 46 #[.agg #[.int .i64 cap,.int .i64 sent,.int .i64 got,.int .i64 fin,.slice a cells.length p,.slice b words.length q]] w fun r w'=>r=.returned (.bool (chanOk ⟨cap,sent,got,fin,cells,words⟩))∧Below w.heap.size w w':=by
  rw [← head_no _ _ _ _ _ _ h]
  have H:=Lib.hid h
  clear h
  go_enter Try.func46,Try.ntmps46
  go_wp2_with (first|(go_at_call 48;refine (l1In_any _ _ _ _).mono ?_;rintro _ _ ⟨rfl,rfl⟩)|(go_at_call 71;refine (l2Count_any _ _).mono ?_;rintro _ _ ⟨rfl,rfl⟩))
  all_goals first|(go_ret;exact ⟨rfl,by exact zB⟩)|skip
  exfalso
  have h:=H.out
  simp [chanHead, *] at h
  omega
theorem chan_bad1 {cap sent got fin:Int} {cells:List C3} {words:List Int} {k:Nat} {c:C3} (hk:k<cells.length) (hc:cells.getD k ⟨0,0,0⟩=c) (h:cellFits words.length c=false):false=chanOk ⟨cap,sent,got,fin,cells,words⟩:=by
  have:cells.all (cellFits words.length)=false:=by
    rw [List.all_eq_false]
    refine ⟨cells[k],List.getElem_mem hk,?_⟩
    rw [← hc] at h
    simpa [List.getD,List.getElem?_eq_getElem hk] using h
  simp [chanOk,this]
theorem chan_bad2 {cap sent got fin:Int} {cells:List C3} {words:List Int} {k:Nat} {x:Int} (hk:k<words.length) (hc:words.getD k 0=x) (h:inB x 0 2=false):false=chanOk ⟨cap,sent,got,fin,cells,words⟩:=by
  have:words.all (fun x=>inB x 0 2)=false:=by
    rw [List.all_eq_false]
    refine ⟨words[k],List.getElem_mem hk,?_⟩
    rw [← hc] at h
    simpa [List.getD,List.getElem?_eq_getElem hk] using h
  simp [chanOk,this]
theorem words_snoc {words:List Int} {k:Nat} {x:Int} (hk:k<words.length) (hc:words.getD k 0=x) (h:(words.take k).all (fun x=>inB x 0 2)=true) (h1:inB x 0 2=true):(words.take (k+1)).all (fun x=>inB x 0 2)=true:=by
  have e:words.take (k+1)=words.take k ++ [x]:=by
    rw [List.take_succ_eq_append_getElem hk,← hc];simp [List.getD,List.getElem?_eq_getElem hk]
  rw [e,List.all_append,h];simp [h1]
def fitsAt (words:List Int) (cells:List C3) (k:Nat):Prop:=(cells.take k).all (cellFits words.length)=true
theorem chan_all {cap sent got fin:Int} {cells:List C3} {words:List Int} (h:chanHead ⟨cap,sent,got,fin,cells,words⟩=true) (h1:fitsAt words cells cells.length) (h2:(words.take words.length).all (fun x=>inB x 0 2)=true):true=chanOk ⟨cap,sent,got,fin,cells,words⟩:=by
  unfold fitsAt at h1
  rw [List.take_length] at h1 h2
  unfold chanOk
  rw [h,h1,h2];rfl
theorem fits_snoc {words:List Int} {cells:List C3} {k:Nat} {c:C3} (hk:k<cells.length) (hc:cells.getD k ⟨0,0,0⟩=c) (h:fitsAt words cells k) (h1:cellFits words.length c=true):fitsAt words cells (k+1):=by
  unfold fitsAt at *
  rw [take_snocC cells k hk,hc,List.all_append,h];simp [h1]
set_option maxRecDepth 100000 in
set_option linter.unusedSimpArgs false in
set_option maxHeartbeats 2000000 in
theorem sChanOk_yes (cap sent got fin:Int) (cells:List C3) (words:List Int) (a b:Option Addr) (p q:Nat) (w:World) (h1:Seg w w.heap.size a cells.length 3 (cellF cells)) (h2:Seg w w.heap.size b words.length 1 (intF words)) (h:chanHead ⟨cap,sent,got,fin,cells,words⟩=true) :
    Calls Try.prog 46 #[.agg #[.int .i64 cap,.int .i64 sent,.int .i64 got,.int .i64 fin,.slice a cells.length p,.slice b words.length q]] w fun r w'=>r=.returned (.bool (chanOk ⟨cap,sent,got,fin,cells,words⟩))∧Below w.heap.size w w':=by
  obtain ⟨i1,i2,i3,i4,i5,i6⟩:=head_yes h
  have hl:((cells.length:Int) != 40)=false:=by simp;omega
  have hl0:cells.length≤40:=by omega
  have hw:decide (80<(words.length:Int))=false:=by simp;omega
  have H1:=Lib.hid h1
  have H2:=Lib.hid h2
  have HH:=Lib.hid h
  have I5:=Lib.hid i5
  clear h1 h2 h i5
  obtain ⟨b1,o1,rfl,hb1,hc1⟩:∃ b o,a=some ⟨b,o,none⟩∧b<w.heap.size∧Hid (∀ i j,i<cells.length→j<3→w.cell? ⟨b,o+i*3+j,none⟩=some (cellF cells i j)):=by
    rcases H1.out with h0|h0
    · exact absurd h0 (by have:=I5.out;omega)
    · exact h0
  go_enter Try.func46,Try.ntmps46
  go_wp2_with (first|(go_at_call 48;refine (l1In_any _ _ _ _).mono ?_;rintro _ _ ⟨rfl,rfl⟩)|(go_at_call 71;refine (l2Count_any _ _).mono ?_;rintro _ _ ⟨rfl,rfl⟩))
  go_loopw [3] (fun i wr=>∃ k:Nat,k≤cells.length∧i=.int .i64 k∧fitsAt words cells k∧(∀ o,wr.cell? ⟨w.heap.size,o,none⟩=#[Value.int .i64 cap,.int .i64 sent,.int .i64 got,.int .i64 fin,.slice (some ⟨b1,o1,none⟩) cells.length p,.slice b words.length q][o]?)∧w.heap.size<wr.heap.size∧Below w.heap.size w wr) (fun i _=>cells.length - (intOf i).toNat)
  case atStart=>exact ⟨0,Nat.zero_le _,rfl,rfl,fun o=>by simp,by simp,by exact zB⟩
  case round =>
    obtain ⟨k,hk,rfl,hfit,hbx,hlt1,hB⟩:=hrel
    by_cases hlt:k<cells.length
    · have c0:=(hB.cell (p:=⟨b1,o1+k*3+0,none⟩) hb1).trans (hc1.out k 0 hlt (by omega))
      have c1:=(hB.cell (p:=⟨b1,o1+k*3+1,none⟩) hb1).trans (hc1.out k 1 hlt (by omega))
      have c2:=(hB.cell (p:=⟨b1,o1+k*3+2,none⟩) hb1).trans (hc1.out k 2 hlt (by omega))
      simp only [cellF,C3.val,Nat.add_zero] at c0 c1 c2
      generalize hcg:cells.getD k ⟨0,0,0⟩=c at c0 c1 c2
      have HC:=Lib.hid hcg
      clear hcg
      have x4:=hbx 4
      have x5:=hbx 5
      simp at x4 x5
      have hk0:(0:Int)≤(k:Int):=by omega
      have hk1:(k:Int)<(cells.length:Int):=by omega
      by_cases hok:cellB c.s c.e c.t=true
      · go_wp2_with fail
        go_region_held3 (fun w'=>w'.cell? ⟨w.heap.size,4,none⟩=some (.slice (some ⟨b1,o1,none⟩) cells.length p)∧w'.cell? ⟨w.heap.size,5,none⟩=some (.slice b words.length q)∧w'.cell? ⟨b1,o1+k*3,none⟩=some (.int .i64 c.s)∧w'.cell? ⟨b1,o1+k*3+1,none⟩=some (.int .i64 c.e)∧w'.cell? ⟨b1,o1+k*3+2,none⟩=some (.int .i64 c.t))
          (first|(simp [*,go_sem]))
          (first|(go_at_call 50;refine (sCellOk_any _ _ _ _).mono ?_;rintro _ w7 ⟨rfl,hb7⟩;have hB7:Below w.heap.size w w7:=bT (by exact zB) hb7;have:=hb7.cell (p:=⟨w.heap.size,4,none⟩) (by simp;omega);have:=hb7.cell (p:=⟨w.heap.size,5,none⟩) (by simp;omega);have:=hb7.cell (p:=⟨b1,o1+k*3,none⟩) (by simp;omega);have:=hb7.cell (p:=⟨b1,o1+k*3+1,none⟩) (by simp;omega);have:=hb7.cell (p:=⟨b1,o1+k*3+2,none⟩) (by simp;omega);have hx7:=fun o=>(hb7.cell (p:=⟨w.heap.size,o,none⟩) (by simp;omega)).trans (hbx o);have hs7:=hb7.size;simp at hs7))
        by_cases hct:(words.length:Int)<c.t
        · go_wp2
          go_ret
          exact ⟨ret_bool (chan_bad1 hlt HC.out (by simp [cellFits,okC,hok];omega)),hB7⟩
        · go_wp2
          go_roundw
          case rel=>exact ⟨k+1,by omega,by go_num,fits_snoc hlt HC.out hfit (by simp [cellFits,okC,hok];omega),hx7,by omega,hB7⟩
          case measure=>simp [intOf];omega
      · have hok2:cellB c.s c.e c.t=false:=by simpa using hok
        clear hok x5
        go_wp2_with fail
        refine wp_region_held_drew (S:=fun w'=>w'.cell? ⟨w.heap.size,4,none⟩=some (.slice (some ⟨b1,o1,none⟩) cells.length p)∧w'.cell? ⟨b1,o1+k*3,none⟩=some (.int .i64 c.s)∧w'.cell? ⟨b1,o1+k*3+1,none⟩=some (.int .i64 c.e)∧w'.cell? ⟨b1,o1+k*3+2,none⟩=some (.int .i64 c.t)) (by kernel_rfl) (by simp [*,go_sem]) (fun hS0=>?_)
        refine wpAnyH_take (i:=0) (oi:=⟨some 46,_,_,_,_,_⟩) (v:=?_) rfl (by kernel_rfl) (by kernel_rfl) (by kernel_rfl) (fun _ _ _ h=>h) (Or.inl ⟨by rfl,?_⟩) (by assumption) ?_;rotate_left;(focus (intro w' hSw;(try dsimp only at hSw);go_simp;(try with_reducible rfl)));(try rotate_left);(try simp only [Act.put,List.setIfInBounds_toArray,List.set_cons_zero,List.set_cons_succ])
        refine wpAnyH_take (i:=1) (oi:=⟨some 47,_,_,_,_,_⟩) (v:=?_) rfl (by kernel_rfl) (by kernel_rfl) (by kernel_rfl) (fun _ _ _ h=>h) (Or.inl ⟨by rfl,?_⟩) (by assumption) ?_;rotate_left;(focus (intro w' hSw;(try dsimp only at hSw);go_simp;(try with_reducible rfl)));(try rotate_left);(try simp only [Act.put,List.setIfInBounds_toArray,List.set_cons_zero,List.set_cons_succ])
        refine wpAnyH_take (i:=2) (oi:=⟨some 48,_,_,_,_,_⟩) (v:=?_) rfl (by kernel_rfl) (by kernel_rfl) (by kernel_rfl) (fun _ _ _ h=>h) (Or.inl ⟨by rfl,?_⟩) (by assumption) ?_;rotate_left;(focus (intro w' hSw;(try dsimp only at hSw);go_simp;(try with_reducible rfl)));(try rotate_left);(try simp only [Act.put,List.setIfInBounds_toArray,List.set_cons_zero,List.set_cons_succ])
        refine wpAnyH_take (i:=3) (oi:=⟨some 49,_,_,_,_,_⟩) (v:=?_) rfl (by kernel_rfl) (by kernel_rfl) (by kernel_rfl) (fun _ _ _ h=>h) (Or.inl ⟨by rfl,?_⟩) (by assumption) ?_;rotate_left;(focus (intro w' hSw;(try dsimp only at hSw);go_simp;(try with_reducible rfl)));(try rotate_left);(try simp only [Act.put,List.setIfInBounds_toArray,List.set_cons_zero,List.set_cons_succ])
        refine wpAnyH_take (i:=4) (oi:=⟨some 50,_,_,_,_,_⟩) (v:=?_) rfl (by kernel_rfl) (by kernel_rfl) (by kernel_rfl) (fun _ _ _ h=>h) (Or.inl ⟨by rfl,?_⟩) (by assumption) ?_;rotate_left;(focus (intro w' hSw;(try dsimp only at hSw);go_simp;(try with_reducible rfl)));(try rotate_left);(try simp only [Act.put,List.setIfInBounds_toArray,List.set_cons_zero,List.set_cons_succ])
        refine wpAnyH_ready (rs:=[5]) (by kernel_rfl) (by simp) ?_
        refine AllReadyH.cons (o:=⟨some 51,_,_,_,_,_⟩) rfl (fun K hK=>?_) AllReadyH.nil
        go_simp
        go_at_call 50
        refine (sCellOk_any _ _ _ _).mono ?_
        rintro _ w7 ⟨rfl,hb7⟩
        have hB7:Below w.heap.size w w7:=bT (by exact zB) hb7
        rw [hok2]
        refine hK.out _ _ ?_ (fun hS7=>?_)
        · refine ⟨(hb7.cell (by simp;omega)).trans x4,(hb7.cell (by simp;omega)).trans c0,(hb7.cell (by simp;omega)).trans c1,(hb7.cell (by simp;omega)).trans c2⟩
        clear hK
        (try simp only [Act.put,List.setIfInBounds_toArray,List.set_cons_zero,List.set_cons_succ])
        refine wpAnyH_take (i:=6) (oi:=⟨some 52,_,_,_,_,_⟩) (v:=?_) rfl (by kernel_rfl) (by kernel_rfl) (by kernel_rfl) (fun _ _ _ h=>h) (Or.inl ⟨by rfl,?_⟩) (by assumption) ?_;rotate_left;(focus (intro w' hSw;(try dsimp only at hSw);go_simp;(try with_reducible rfl)));(try rotate_left);(try simp only [Act.put,List.setIfInBounds_toArray,List.set_cons_zero,List.set_cons_succ])
        refine wpAnyH_take (i:=7) (oi:=⟨some 53,_,_,_,_,_⟩) (v:=?_) rfl (by kernel_rfl) (by kernel_rfl) (by kernel_rfl) (fun _ _ _ h=>h) (Or.inl ⟨by rfl,?_⟩) (by assumption) ?_;rotate_left;(focus (intro w' hSw;(try dsimp only at hSw);go_simp;(try with_reducible rfl)));(try rotate_left);(try simp only [Act.put,List.setIfInBounds_toArray,List.set_cons_zero,List.set_cons_succ])
        refine wpAnyH_take (i:=8) (oi:=⟨some 54,_,_,_,_,_⟩) (v:=undef) rfl (by kernel_rfl) (by kernel_rfl) (by kernel_rfl) (fun _ _ _ h=>h) (Or.inr ⟨by rfl,rfl⟩) (by assumption) ?_;(try simp only [Act.put,List.setIfInBounds_toArray,List.set_cons_zero,List.set_cons_succ])
        refine wpAnyH_take (i:=9) (oi:=⟨some 55,_,_,_,_,_⟩) (v:=undef) rfl (by kernel_rfl) (by kernel_rfl) (by kernel_rfl) (fun _ _ _ h=>h) (Or.inr ⟨by rfl,rfl⟩) (by assumption) ?_;(try simp only [Act.put,List.setIfInBounds_toArray,List.set_cons_zero,List.set_cons_succ])
        refine wpAnyH_take (i:=10) (oi:=⟨some 56,_,_,_,_,_⟩) (v:=undef) rfl (by kernel_rfl) (by kernel_rfl) (by kernel_rfl) (fun _ _ _ h=>h) (Or.inr ⟨by rfl,rfl⟩) (by assumption) ?_;(try simp only [Act.put,List.setIfInBounds_toArray,List.set_cons_zero,List.set_cons_succ])
        refine wpAnyH_take (i:=11) (oi:=⟨some 57,_,_,_,_,_⟩) (v:=undef) rfl (by kernel_rfl) (by kernel_rfl) (by kernel_rfl) (fun _ _ _ h=>h) (Or.inr ⟨by rfl,rfl⟩) (by assumption) ?_;(try simp only [Act.put,List.setIfInBounds_toArray,List.set_cons_zero,List.set_cons_succ])
        refine wpAnyH_take (i:=12) (oi:=⟨some 58,_,_,_,_,_⟩) (v:=undef) rfl (by kernel_rfl) (by kernel_rfl) (by kernel_rfl) (fun _ _ _ h=>h) (Or.inr ⟨by rfl,rfl⟩) (by assumption) ?_;(try simp only [Act.put,List.setIfInBounds_toArray,List.set_cons_zero,List.set_cons_succ])
        refine wpAnyH_take (i:=13) (oi:=⟨some 59,_,_,_,_,_⟩) (v:=undef) rfl (by kernel_rfl) (by kernel_rfl) (by kernel_rfl) (fun _ _ _ h=>h) (Or.inr ⟨by rfl,rfl⟩) (by assumption) ?_;(try simp only [Act.put,List.setIfInBounds_toArray,List.set_cons_zero,List.set_cons_succ])
        refine wpAnyH_take (i:=14) (oi:=⟨some 60,_,_,_,_,_⟩) (v:=undef) rfl (by kernel_rfl) (by kernel_rfl) (by kernel_rfl) (fun _ _ _ h=>h) (Or.inr ⟨by rfl,rfl⟩) (by assumption) ?_;(try simp only [Act.put,List.setIfInBounds_toArray,List.set_cons_zero,List.set_cons_succ])
        refine wpAnyH_take (i:=15) (oi:=⟨some 61,_,_,_,_,_⟩) (v:=undef) rfl (by kernel_rfl) (by kernel_rfl) (by kernel_rfl) (fun _ _ _ h=>h) (Or.inr ⟨by rfl,rfl⟩) (by assumption) ?_;(try simp only [Act.put,List.setIfInBounds_toArray,List.set_cons_zero,List.set_cons_succ])
        refine wpAnyH_take (i:=16) (oi:=⟨some 62,_,_,_,_,_⟩) (v:=undef) rfl (by kernel_rfl) (by kernel_rfl) (by kernel_rfl) (fun _ _ _ h=>h) (Or.inr ⟨by rfl,rfl⟩) (by assumption) ?_;(try simp only [Act.put,List.setIfInBounds_toArray,List.set_cons_zero,List.set_cons_succ])
        refine wpAnyH_take (i:=17) (oi:=⟨some 63,_,_,_,_,_⟩) (v:=undef) rfl (by kernel_rfl) (by kernel_rfl) (by kernel_rfl) (fun _ _ _ h=>h) (Or.inr ⟨by rfl,rfl⟩) (by assumption) ?_;(try simp only [Act.put,List.setIfInBounds_toArray,List.set_cons_zero,List.set_cons_succ])
        refine wpAnyH_take (i:=18) (oi:=⟨some 64,_,_,_,_,_⟩) (v:=?_) rfl (by kernel_rfl) (by kernel_rfl) (by kernel_rfl) (fun _ _ _ h=>h) (Or.inl ⟨by rfl,?_⟩) (by assumption) ?_;rotate_left;(focus (intro w' hSw;(try dsimp only at hSw);go_simp;(try with_reducible rfl)));(try rotate_left);(try simp only [Act.put,List.setIfInBounds_toArray,List.set_cons_zero,List.set_cons_succ])
        refine wpAnyH_done (by kernel_rfl) ?_ _
        go_wp2
        go_ret
        exact ⟨ret_bool (chan_bad1 hlt HC.out (by simp [cellFits,okC,hok2])),hB7⟩
    · have:k=cells.length:=by omega
      subst this
      go_wp2
      go_loopw [4] (fun i wr=>∃ k:Nat,k≤words.length∧i=.int .i64 k∧Hid ((words.take k).all (fun x=>inB x 0 2)=true)∧(∀ o,wr.cell? ⟨w.heap.size,o,none⟩=#[Value.int .i64 cap,.int .i64 sent,.int .i64 got,.int .i64 fin,.slice (some ⟨b1,o1,none⟩) cells.length p,.slice b words.length q][o]?)∧w.heap.size<wr.heap.size∧Below w.heap.size w wr) (fun i _=>words.length - (intOf i).toNat)
      case atStart=>exact ⟨0,Nat.zero_le _,rfl,rfl,hbx,hlt1,hB⟩
      case round =>
        clear hbx hlt1 hB hk
        obtain ⟨k,hk,rfl,hall,hbx,hlt1,hB⟩:=hrel
        have x5:=hbx 5
        simp at x5
        by_cases hlt:k<words.length
        · obtain h0|⟨b2,o2,rfl,hb2,hc2⟩:=H2.out
          · omega
          have c0:=(hB.cell (p:=⟨b2,o2+k*1+0,none⟩) hb2).trans (hc2 k 0 hlt (by omega))
          simp only [intF,Nat.add_zero,Nat.mul_one] at c0
          clear hc2
          generalize hcg:words.getD k 0=x at c0
          have HC:=Lib.hid hcg
          clear hcg
          go_wp2_with (go_at_call 48;refine (l1In_any _ _ _ _).mono ?_;rintro _ _ ⟨rfl,rfl⟩)
          · go_ret
            exact ⟨ret_bool (chan_bad2 hlt HC.out (not_true ‹_›)),hB⟩
          · go_roundw
            case rel=>exact ⟨k+1,by omega,by go_num,words_snoc hlt HC.out hall.out (not_false ‹_›),hbx,hlt1,hB⟩
            case measure=>simp [intOf];omega
        · have:k=words.length:=by omega
          subst this
          go_wp2
          go_ret
          exact ⟨ret_bool (chan_all HH.out hfit hall.out),hB⟩
theorem sChanOk_any (c:Ch) (a b:Option Addr) (p q:Nat) (w:World) (h1:Seg w w.heap.size a c.cells.length 3 (cellF c.cells)) (h2:Seg w w.heap.size b c.words.length 1 (intF c.words)) :
    Calls Try.prog 46 #[.agg #[.int .i64 c.cap,.int .i64 c.sent,.int .i64 c.got,.int .i64 c.fin,.slice a c.cells.length p,.slice b c.words.length q]] w fun r w'=>r=.returned (.bool (chanOk c))∧Below w.heap.size w w':=by
  obtain ⟨cap,sent,got,fin,cells,words⟩:=c
  by_cases h:chanHead ⟨cap,sent,got,fin,cells,words⟩=true
  · exact sChanOk_yes cap sent got fin cells words a b p q w h1 h2 h
  · exact sChanOk_no cap sent got fin cells words a b p q w (by simpa using h)
end Go.Proofs.Ytajopaegmocnlaa
set_option linter.unusedSimpArgs false
set_option linter.unusedVariables false
namespace Go.Proofs.Ytajopaegmocnlaa
open Go.RowKit
attribute [local go_sem ↓] zeroHand toLHand toVHand storeHand storeHandC
set_option maxRecDepth 100000 in
set_option maxHeartbeats 1000000 in
theorem sHandOk_any (h:Ha) (w:World):Calls Try.prog 47 #[.agg (hvals h)] w fun r w'=>r=.returned (.bool (handOk h))∧Below w.heap.size w w':=by
  go_enter Try.func47,Try.ntmps47
  go_wp2_with (first|(go_at_call 48;refine (l1In_any _ _ _ _).mono ?_;rintro _ _ ⟨rfl,rfl⟩)|(go_at_call 74;refine (l1State_any _ _).mono ?_;rintro _ _ ⟨rfl,rfl⟩)|(go_at_call 51;refine (l1Elem_any _ _).mono ?_;rintro _ _ ⟨rfl,rfl⟩)|(go_at_call 71;refine (l2Count_any _ _).mono ?_;rintro _ _ ⟨rfl,rfl⟩)|(go_at_call 73;refine bHit w (by exact zB) fun bb=>?_;refine (sCallOk_any _ _ _).mono ?_;rintro _ w1 ⟨rfl,hbw1⟩;have hCw1:Below w.heap.size w w1:=bT bb hbw1;have hsw1:=hbw1.size;(try simp at hsw1);have zz:=hQ hbw1 (b:=w.heap.size);(try simp [go_sem] at zz);(try clear z_w x_w f_w l_w);have z_w:=zz;clear zz;obtain ⟨x_w,f_w,l_w⟩:=bO z_w;clear hbw1 bb)|(go_at_call 72;refine bHit w (by exact zB) fun bb=>?_;refine (l4None_any _ _ _).mono ?_;rintro _ w1 ⟨rfl,hbw1⟩;have hCw1:Below w.heap.size w w1:=bT bb hbw1;have hsw1:=hbw1.size;(try simp at hsw1);have zz:=hQ hbw1 (b:=w.heap.size);(first|simp [go_sem,z_w,l_w] at zz|simp [go_sem] at zz|skip);(try clear z_w x_w f_w l_w);have z_w:=zz;clear zz;obtain ⟨x_w,f_w,l_w⟩:=bO z_w;clear hbw1 bb))
  all_goals go_ret
  all_goals exact ⟨ret_bool (by simp_all [handOk,handA,handB,handC]),by exact zB⟩
set_option maxRecDepth 100000 in
theorem sResting_any (x o:Int) (w:World):Calls Try.prog 22 #[.int .i64 x,.int .i64 o] w fun r w'=>r=.returned (.agg (hvals (resting x o)))∧Below w.heap.size w w':=by
  go_enter Try.func22,Try.ntmps22
  go_wp2
  refine bodyPost_ret (res_c Try.results22 rfl (ldHand (resting x o) (by simp [go_sem] <;> rfl))) rfl ⟨rfl,by exact zB⟩
set_option maxRecDepth 100000 in
theorem l5Begin_any (k e b:Int) (w:World):Calls Try.prog 63 #[.agg #[.int .i64 k,.int .i64 e],.int .i64 b] w fun r w'=>r=.returned (.agg (hvals (begun k e b)))∧Below w.heap.size w w':=by
  by_cases h:k=2
  · subst h
    go_enter Try.func63,Try.ntmps63
    go_wp2
    refine bodyPost_ret (res_c Try.results63 rfl (ldHand (begun 2 e b) (by simp [go_sem] <;> rfl))) rfl ⟨rfl,by exact zB⟩
  · have e1:begun k e b=⟨1,k,e,0,0,0,0,0,0,0,0,b,0,0⟩:=by simp [begun,h]
    rw [e1]
    have h2:(k == 2)=false:=by simpa using h
    clear h
    go_enter Try.func63,Try.ntmps63
    go_wp2
    refine bodyPost_ret (res_c Try.results63 rfl (ldHand ⟨1,k,e,0,0,0,0,0,0,0,0,b,0,0⟩ (by simp [go_sem] <;> rfl))) rfl ⟨rfl,by exact zB⟩
set_option maxRecDepth 100000 in
theorem l6Anew_any (h:Ha) (w:World):Calls Try.prog 44 #[.agg (hvals h)] w fun r w'=>r=.returned (.agg (hvals (begun h.code h.elem h.beg)))∧Below w.heap.size w w':=by
  go_enter Try.func44,Try.ntmps44
  go_wp2_with fail;refine bHit w (by exact zB) fun bb=>?_;refine (l5Begin_any h.code h.elem h.beg _).mono ?_;rintro _ w1 ⟨rfl,hbw1⟩;have hCw1:Below w.heap.size w w1:=bT bb hbw1;have hsw1:=hbw1.size;(try simp at hsw1);have zz:=And.intro (hQ hbw1 (b:=w.heap.size+1)) <| hQ hbw1 (b:=w.heap.size);(try simp [go_sem] at zz);(try clear z_wp x_wp f_wp l_wp);(try clear z_w x_w f_w l_w);obtain ⟨z_wp,z_w⟩:=zz;obtain ⟨x_wp,f_wp,l_wp⟩:=bO z_wp;obtain ⟨x_w,f_w,l_w⟩:=bO z_w;clear hbw1 bb
  go_wp2
  refine bodyPost_ret (res_c Try.results44 rfl (ldHand (begun h.code h.elem h.beg) (by simp [go_sem, *] <;> rfl))) rfl ⟨rfl,by exact zB⟩
end Go.Proofs.Ytajopaegmocnlaa
set_option linter.unusedSimpArgs false
set_option linter.unusedVariables false
namespace Go.Proofs.Ytajopaegmocnlaa
open Go.RowKit
set_option maxHeartbeats 400000 in
theorem l1Copy_any (l:List Int) (b:Option Addr) (q:Nat) (w:World) (h:Seg w w.heap.size b l.length 1 (intF l)) (hz:b=none→q=0) (hm:l.length≤1099511627776) :
    Calls Try.prog 49 #[.slice b l.length q] w fun r w'=>(∃ v,r=.returned v∧OInts w' w.heap.size v l)∧Below w.heap.size w w':=by
  obtain ⟨i0,hi0,hz0,hz1,hz2⟩:=info_parts infoInt
  rcases b with _|⟨bb,bo,sp⟩
  · obtain rfl:=hz rfl
    have hn:l.length=0:=by rcases h with h|⟨_,_,h,_⟩;exact h;cases h
    obtain rfl:l=[]:=List.eq_nil_of_length_eq_zero hn
    go_enter Try.func49,Try.ntmps49
    go_wp2_with (at_builtin;refine wpList_append_own_none rfl _ _ 23 rfl w.heap.size 2 i0 1 Try.underlying23 hi0 _ 0 [] rfl (own_made _ _ _ _ (Nat.le_refl _)) rfl ?_)
    go_ret
    exact ⟨⟨_,rfl,own_made _ _ _ _ (Nat.le_refl _)⟩,by exact zB⟩
  · have HN:Hid (∀ j u,(ints l)[j]?=some u→w.cell? ((⟨bb,bo,sp⟩:Addr).add j)=some u):=by
      rcases h with h0|⟨b',o',e,h1,h2⟩
      · obtain rfl:l=[]:=List.eq_nil_of_length_eq_zero h0
        intro j u hu;simp [ints] at hu
      · simp at e
        obtain ⟨rfl,rfl,rfl⟩:=e
        exact Seg.newsI (.inr ⟨bb,bo,rfl,h1,h2⟩)
    clear h hz
    go_enter Try.func49,Try.ntmps49
    go_wp2_with (at_builtin;refine wpList_append_own _ rfl _ _ 23 rfl w.heap.size 2 i0 _ 1 8 Try.underlying23 hi0 hz0 hz1 hz2 rfl (by decide) _ 0 [] rfl (own_made _ _ _ _ (Nat.le_refl _)) ⟨bb,bo,sp⟩ l.length q (ints l) rfl (by simp [ints]) ?c0 (ints_one l) ?c3 ?c4 ?c5 ?_)
    case c0=>exact fun j u hu=>cell_alloc_of (HN.out j u hu)
    case c3=>unfold maxLen;omega
    case c4=>omega
    case c5=>simp
    intro v w1 hown hg _
    go_wp2
    go_ret
    exact ⟨⟨_,rfl,by simpa using hown⟩,bOwn (by exact zB) hg (by simp) (by simp [Value.ownBlock])⟩
theorem infoCell':(Try.prog.info? 52).map (fun i=>(i.zero,i.size,i.bytes))=some (some (.agg #[.int .i64 0,.int .i64 0,.int .i64 0]),3,24):=by kernel_rfl
set_option maxRecDepth 100000 in
set_option maxHeartbeats 1000000 in
theorem l2Copy_any (c:Ch) (a b:Option Addr) (p q:Nat) (w:World) (h1:Seg w w.heap.size a c.cells.length 3 (cellF c.cells)) (z1:a=none→p=0) (h2:Seg w w.heap.size b c.words.length 1 (intF c.words)) (z2:b=none→q=0) (m1:c.cells.length≤1099511627776) (m2:c.words.length≤1099511627776) :
    Calls Try.prog 20 #[.agg #[.int .i64 c.cap,.int .i64 c.sent,.int .i64 c.got,.int .i64 c.fin,.slice a c.cells.length p,.slice b c.words.length q]] w fun r w' =>
      (∃ v1 v2,r=.returned (.agg #[.int .i64 c.cap,.int .i64 c.sent,.int .i64 c.got,.int .i64 c.fin,v1,v2])∧OCells w' w.heap.size v1 c.cells∧OInts w' w.heap.size v2 c.words)∧Below w.heap.size w w':=by
  obtain ⟨i0,hi0,hz0,hz1,hz2⟩:=info_parts infoCell'
  obtain ⟨cap,sent,got,fin,cells,words⟩:=c
  simp only at *
  have H2:=Lib.hid h2
  have Z2:=Lib.hid z2
  clear h2 z2
  rcases a with _|⟨bb,bo,sp⟩
  · obtain rfl:=z1 rfl
    have hn:cells.length=0:=by rcases h1 with h|⟨_,_,h,_⟩;exact h;cases h
    obtain rfl:cells=[]:=List.eq_nil_of_length_eq_zero hn
    clear h1 z1 hn m1
    go_enter Try.func20,Try.ntmps20
    go_wp2_with (at_builtin;refine wpList_append_own_none rfl _ _ 31 rfl (w.heap.size+1+1) 52 i0 3 Try.underlying31 hi0 _ 0 [] rfl (own_made_at _ _ _ _ _ (by simp) (by simp)) rfl ?_)
    refine (l1Copy_any words b q _ ((H2.out.below (by exact zB)).more (by simp;try omega)) Z2.out m2).mono ?_
    rintro _ w2 ⟨⟨v2,rfl,hown2⟩,hb2⟩
    have hown3:OCells w2 (w.heap.size+1+1) (.slice (some ⟨w.heap.size+1+1,0,none⟩) 0 0) []:=own_below (own_made_at _ _ _ _ _ (by simp) (by simp)) hb2
    have hown4:=own_lo hown2 (lo':=w.heap.size+1+1) (by simp;try omega)
    obtain ⟨vb,vd,rfl,_⟩:=OInts.seg hown2
    clear hown2
    have hs2:=hb2.size
    simp at hs2
    have hB2:Below w.heap.size w w2:=bT (by exact zB) hb2
    have:=fun o=>hb2.cell (p:=⟨w.heap.size,o,none⟩) (by simp;try omega)
    have:=fun o=>hb2.cell (p:=⟨w.heap.size+1,o,none⟩) (by simp;try omega)
    have:=fun o=>hb2.frozen (p:=⟨w.heap.size,o,none⟩) (by simp;try omega)
    have:=fun o=>hb2.frozen (p:=⟨w.heap.size+1,o,none⟩) (by simp;try omega)
    clear hb2
    have:w.heap.size<w.heap.size+1+1:=by omega
    have:w.heap.size≤w.heap.size+1:=by omega
    go_wp2_with fail
    refine bodyPost_ret (v:=.agg #[.int .i64 cap,.int .i64 sent,.int .i64 got,.int .i64 fin,.slice (some ⟨w.heap.size+1+1,0,none⟩) 0 0,.slice vb words.length vd]) (by simp [results,Try.results20,go_sem, *]) rfl ⟨⟨_,_,rfl,?_,?_⟩,?_⟩
    · refine own_lo (lo:=w.heap.size+1+1) ?_ (by omega)
      repeat (first|with_reducible exact hown3|((with_reducible refine own_store ?_ ?_ _);rotate_left;(focus exact own_ne hown3 (by (try simp);try omega))))
    · refine own_lo (lo:=w.heap.size+1+1) ?_ (by omega)
      repeat (first|with_reducible exact hown4|((with_reducible refine own_store ?_ ?_ _);rotate_left;(focus exact own_ne hown4 (by (try simp);try omega))))
    · exact zB
  · have HN:Hid (∀ j u,(flatC cells)[j]?=some u→w.cell? ((⟨bb,bo,sp⟩:Addr).add j)=some u):=by
      rcases h1 with h0|⟨b',o',e,h1,h2⟩
      · obtain rfl:cells=[]:=List.eq_nil_of_length_eq_zero h0
        intro j u hu;simp [flatC] at hu
      · simp at e
        obtain ⟨rfl,rfl,rfl⟩:=e
        exact Seg.newsC (.inr ⟨bb,bo,rfl,h1,h2⟩)
    clear h1 z1
    go_enter Try.func20,Try.ntmps20
    go_wp2_with (at_builtin;refine wpList_append_own _ rfl _ _ 31 rfl (w.heap.size+1+1) 52 i0 _ 3 24 Try.underlying31 hi0 hz0 hz1 hz2 rfl (by decide) _ 0 [] rfl (own_made_at _ _ _ _ _ (by simp) (by simp;try omega)) ⟨bb,bo,sp⟩ cells.length p (flatC cells) rfl (flatC_len cells) ?c0 (flatC_one cells) ?c3 ?c4 ?c5 ?_)
    case c0=>exact fun j u hu=>cell_alloc_of (cell_alloc_of (cell_alloc_of (HN.out j u hu)))
    case c3=>unfold maxLen;omega
    case c4=>omega
    case c5=>(simp;try omega)
    intro v w1 hown hg _
    simp [Value.ownBlock] at hg
    have hs1:=hg.size
    simp at hs1
    have:=rCell (b:=w.heap.size) hg (by simp;omega) (by omega)
    have:=rCell (b:=w.heap.size+1) hg (by simp) (by omega)
    have:=rFroz (b:=w.heap.size) hg (by simp;omega) (by omega)
    have:=rFroz (b:=w.heap.size+1) hg (by simp) (by omega)
    have:w.heap.size<w1.heap.size:=by omega
    have:w.heap.size≤w1.heap.size:=by omega
    have hB1:Below w.heap.size w w1:=bOwn (by exact zB) hg (by simp;omega) (by simp;omega)
    have hown1:OCells w1 (w.heap.size+1+1) v cells:=by simpa using hown
    clear hown
    obtain ⟨va,vc,rfl,_⟩:=OCells.seg hown1
    go_wp2_with fail
    refine (l1Copy_any words b q _ ((H2.out.below hB1).setOther (by simp [World.setCell];omega) (by simp)) Z2.out m2).mono ?_
    rintro _ w2 ⟨⟨v2,rfl,hown2⟩,hb2⟩
    have hown3:=own_below (own_store hown1 (p:=⟨w.heap.size,4,none⟩) (own_ne hown1 (by (try simp);try omega)) (.slice va cells.length vc)) hb2
    have hown4:=own_lo hown2 (lo':=w.heap.size+1+1) (by simp [World.setCell];omega)
    obtain ⟨vb,vd,rfl,_⟩:=OInts.seg hown2
    clear hown2
    have hs2:=hb2.size
    simp [World.setCell] at hs2
    have hB2:Below w.heap.size w w2:=bT (by exact zB) hb2
    have:=fun o=>hb2.cell (p:=⟨w.heap.size,o,none⟩) (by simp [World.setCell];omega)
    have:=fun o=>hb2.cell (p:=⟨w.heap.size+1,o,none⟩) (by simp [World.setCell];omega)
    have:=fun o=>hb2.frozen (p:=⟨w.heap.size,o,none⟩) (by simp [World.setCell];omega)
    have:=fun o=>hb2.frozen (p:=⟨w.heap.size+1,o,none⟩) (by simp [World.setCell];omega)
    clear hb2
    have:w.heap.size<w.heap.size+1+1:=by omega
    have:w.heap.size≤w.heap.size+1:=by omega
    go_wp2_with fail
    refine bodyPost_ret (v:=.agg #[.int .i64 cap,.int .i64 sent,.int .i64 got,.int .i64 fin,.slice va cells.length vc,.slice vb words.length vd]) (by simp [results,Try.results20,go_sem, *]) rfl ⟨⟨_,_,rfl,?_,?_⟩,?_⟩
    · refine own_lo (lo:=w.heap.size+1+1) ?_ (by omega)
      repeat (first|with_reducible exact hown3|((with_reducible refine own_store ?_ ?_ _);rotate_left;(focus exact own_ne hown3 (by (try simp);try omega))))
    · refine own_lo (lo:=w.heap.size+1+1) ?_ (by omega)
      repeat (first|with_reducible exact hown4|((with_reducible refine own_store ?_ ?_ _);rotate_left;(focus exact own_ne hown4 (by (try simp);try omega))))
    · exact zB
end Go.Proofs.Ytajopaegmocnlaa
set_option linter.unusedSimpArgs false
set_option linter.unusedVariables false
namespace Go.Proofs.Ytajopaegmocnlaa
open Go.RowKit
set_option maxHeartbeats 400000 in
theorem l3Has_any (c:Ch) (v:Int) (a b:Option Addr) (p q:Nat) (w:World) :
    Calls Try.prog 62 #[.agg #[.int .i64 c.cap,.int .i64 c.sent,.int .i64 c.got,.int .i64 c.fin,.slice a c.cells.length p,.slice b c.words.length q],.int .i64 v] w fun r w'=>r=.returned (.bool (hasW c v))∧Below w.heap.size w w':=by
  go_enter Try.func62,Try.ntmps62
  go_wp2_with (go_at_call 48;refine (l1In_any _ _ _ _).mono ?_;rintro _ _ ⟨rfl,rfl⟩)
  go_ret
  exact ⟨rfl,by exact zB⟩
theorem hasW_iff {c:Ch} {v:Int}:hasW c v=true↔1≤v∧v≤c.words.length:=by simp [hasW,inB]
end Go.Proofs.Ytajopaegmocnlaa
set_option linter.unusedSimpArgs false
set_option linter.unusedVariables false
namespace Go.Proofs.Ytajopaegmocnlaa
open Go.RowKit
theorem tellB_no1 {c:Ch} {v x:Int} (h:hasW c v=false):tellB c v x=false:=by simp [tellB,h]
theorem tellC_no {c:Ch} {v x:Int} (h:tellB c v x=false):tellC c v x=c:=by simp [tellC,h]
/-- A list of numbers that is not empty lies in a block of its own. -/
theorem OInts.open1 {w:World} {lo:Nat} {v:Value} {l:List Int} (h:OInts w lo v l) {i:Nat} (hi:i<l.length) :
    ∃ g cap,v=.slice (some ⟨g,0,none⟩) l.length cap∧lo≤g∧g<w.heap.size∧w.cell? ⟨g,i,none⟩=some (.int .i64 (l.getD i 0))∧∀ o,w.frozen? ⟨g,o,none⟩=false:=by
  have h2:=h
  rcases h.2 with ⟨_,h0⟩|⟨g,cap,cur,rfl,hl,hg,_⟩
  · omega
  · refine ⟨g,cap,rfl,hl,(Array.getElem?_eq_some_iff.1 hg).1,?_,fun o=>by simp [World.frozen?,hg]⟩
    have:=h2.cells (g:=g) rfl i (.int .i64 (l.getD i 0)) (by simp [ints,List.getD,hi])
    rw [← this];congr 1;by_cases e:i=0 <;> simp [Addr.add,e]
theorem OInts.set {w:World} {lo g cap:Nat} {l:List Int} (h:OInts w lo (.slice (some ⟨g,0,none⟩) l.length cap) l) {i:Nat} (hi:i<l.length) (x:Int) :
    OInts (w.setCell ⟨g,i,none⟩ (.int .i64 x)) lo (.slice (some ⟨g,0,none⟩) l.length cap) (l.set i x):=by
  have:=own_set_cell h i (by rw [ints_len];exact hi) (.int .i64 x)
  unfold OInts
  rw [ints_set,List.length_set]
  exact this
theorem own_ne' {w:World} {lo:Nat} {e:TypeId} {k n:Nat} {v:Value} {xs:List Value} (h:w.ownsRow lo e k v n xs) {b:Nat} (hb:w.heap.size≤b):v.ownBlock≠some b:=fun he=>by have:=(h.lt b he).2;omega
theorem OCells.ne {w:World} {lo lo':Nat} {v v':Value} {cs:List C3} {l:List Int} (h:OCells w lo v cs) (h':OInts w lo' v' l) (i:Nat) (hi:v.ownBlock=some i):v'.ownBlock≠some i:=by
  intro hi'
  rcases h.2 with ⟨rfl,_⟩|⟨g,cap,cur,rfl,_,hg,_⟩
  · cases hi
  rcases h'.2 with ⟨rfl,_⟩|⟨g',cap',cur',rfl,_,hg',_⟩
  · cases hi'
  simp [Value.ownBlock] at hi hi'
  subst hi hi'
  rw [hg] at hg'
  simp at hg'
theorem own_off {w:World} {lo lo':Nat} {v v':Value} {cs:List C3} {l:List Int} (h:OCells w lo v cs) (h':OInts w lo' v' l):v.ownBlock=none∨v.ownBlock≠v'.ownBlock:=by
  cases e:v.ownBlock with
  | none=>exact .inl rfl
  | some j=>exact .inr fun e2=>OCells.ne h h' j e e2.symm
set_option maxRecDepth 100000 in
set_option maxHeartbeats 1000000 in
theorem l3Told_any (c:Ch) (v x:Int) (a b:Option Addr) (p q:Nat) (w:World) (h1:Seg w w.heap.size a c.cells.length 3 (cellF c.cells)) (z1:a=none→p=0) (h2:Seg w w.heap.size b c.words.length 1 (intF c.words)) (z2:b=none→q=0) (m1:c.cells.length≤1099511627776) (m2:c.words.length≤1099511627776) :
    Calls Try.prog 42 #[.agg #[.int .i64 c.cap,.int .i64 c.sent,.int .i64 c.got,.int .i64 c.fin,.slice a c.cells.length p,.slice b c.words.length q],.int .i64 v,.int .i64 x] w fun r w' =>
      (∃ v1 v2,r=.returned (.tuple #[.agg #[.int .i64 c.cap,.int .i64 c.sent,.int .i64 c.got,.int .i64 c.fin,v1,v2],.bool (tellB c v x)])∧OCells w' w.heap.size v1 c.cells∧OInts w' w.heap.size v2 (tellC c v x).words)∧Below w.heap.size w w':=by
  have H1:=Lib.hid h1
  have H2:=Lib.hid h2
  have Z1:=Lib.hid z1
  have Z2:=Lib.hid z2
  clear h1 h2 z1 z2
  go_enter Try.func42,Try.ntmps42
  go_wp2_with fail;refine bHit w (by exact zB) fun bb=>?_;refine (l2Copy_any c a b p q _ ((H1.out.below bb).more bb.size) Z1.out ((H2.out.below bb).more bb.size) Z2.out m1 m2).mono ?_;rintro _ w1 ⟨⟨v1,v2,rfl,o1,o2⟩,hbw1⟩;have hCw1:Below w.heap.size w w1:=bT bb hbw1;have hsw1:=hbw1.size;(try simp at hsw1);have zz:=And.intro (fun o=>hbw1.cell (p:=⟨w.heap.size+1,o,none⟩) (by (try simp) <;> omega)) <| And.intro (fun o=>hbw1.frozen (p:=⟨w.heap.size+1,o,none⟩) (by (try simp) <;> omega)) <| And.intro (fun o=>hbw1.cell (p:=⟨w.heap.size,o,none⟩) (by (try simp) <;> omega)) <| fun o=>hbw1.frozen (p:=⟨w.heap.size,o,none⟩) (by (try simp) <;> omega);(try simp [go_sem] at zz);(try clear x_wp f_wp);(try clear x_w f_w);obtain ⟨x_wp,f_wp,x_w,f_w⟩:=zz;(try clear l_wp);have l_wp:w.heap.size+1<w1.heap.size:=(by omega);(try clear l_w);have l_w:w.heap.size<w1.heap.size:=(by omega);clear hbw1 bb
  try simp at o1 o2
  obtain ⟨a1,q1,rfl,_⟩:=o1.seg
  by_cases hh:hasW c v=true
  · obtain ⟨g1,g2⟩:=hasW_iff.1 hh
    obtain ⟨i,rfl⟩:∃ i:Nat,v=(i:Int)+1:=⟨(v - 1).toNat,by omega⟩
    have hi:i<c.words.length:=by omega
    obtain ⟨g,cap,rfl,hlo,hlt,hcell,hfr⟩:=o2.open1 hi
    obtain ⟨bb,bo,rfl,hb,hcell0⟩:∃ b' o,b=some ⟨b',o,none⟩∧b'<w.heap.size∧w.cell? ⟨b',o+i,none⟩=some (.int .i64 (c.words.getD i 0)):=by
      rcases H2.out with h0|⟨b',o',e,h1,h2⟩
      · omega
      · exact ⟨b',o',e,h1,by simpa [intF] using h2 i 0 hi (by omega)⟩
    have e:wordAt c ((i:Int)+1)=c.words.getD i 0:=by simp [wordAt]
    have HE:=Lib.hid e
    clear e
    generalize c.words.getD i 0=y at hcell hcell0 HE
    have hi0:(0:Int)≤(i:Int):=by omega
    have hi1:(i:Int)<(c.words.length:Int):=by omega
    have hcell1:=(hCw1.cell (p:=⟨bb,bo+i,none⟩) hb).trans hcell0
    go_wp2_with fail;refine bHit w (by exact zB) fun bb=>?_;refine bHit w1 (by exact zB) fun bk=>?_;refine (l3Has_any c _ a _ p q _).mono ?_;rintro _ w2 ⟨rfl,hbw2⟩;have hCw2:Below w.heap.size w w2:=bT bb hbw2;have hsw2:=hbw2.size;(try simp at hsw2);have zz:=And.intro (fun o=>hbw2.cell (p:=⟨w1.heap.size,o,none⟩) (by (try simp) <;> omega)) <| And.intro (fun o=>hbw2.frozen (p:=⟨w1.heap.size,o,none⟩) (by (try simp) <;> omega)) <| And.intro (fun o=>hbw2.cell (p:=⟨w.heap.size+1,o,none⟩) (by (try simp) <;> omega)) <| And.intro (fun o=>hbw2.frozen (p:=⟨w.heap.size+1,o,none⟩) (by (try simp) <;> omega)) <| And.intro (fun o=>hbw2.cell (p:=⟨w.heap.size,o,none⟩) (by (try simp) <;> omega)) <| fun o=>hbw2.frozen (p:=⟨w.heap.size,o,none⟩) (by (try simp) <;> omega);(first|simp [go_sem,x_wp,f_wp,x_w,f_w,l_w,l_wp] at zz|simp [go_sem,x_wp,x_w,l_w,l_wp] at zz|simp [go_sem] at zz|skip);(try clear x_w1 f_w1);(try clear x_wp f_wp);(try clear x_w f_w);obtain ⟨x_w1,f_w1,x_wp,f_wp,x_w,f_w⟩:=zz;(try clear l_w1);have l_w1:w1.heap.size<w2.heap.size:=(by omega);(try clear l_wp);have l_wp:w.heap.size+1<w2.heap.size:=(by omega);(try clear l_w);have l_w:w.heap.size<w2.heap.size:=(by omega);have hKw2:Below w1.heap.size w1 w2:=bT bk hbw2;clear hbw2 bb bk
    have p1:=own_below o1 hKw2
    have p2:=own_below o2 hKw2
    have hcell2:=(hKw2.cell (p:=⟨g,i,none⟩) hlt).trans hcell
    have hfr2:=fun o=>(hKw2.frozen (p:=⟨g,o,none⟩) hlt).trans (hfr o)
    have hcell3:=(hCw2.cell (p:=⟨bb,bo+i,none⟩) hb).trans hcell0
    have hny:w1.heap.size≠g:=by omega
    by_cases ht:tellB c ((i:Int)+1) x=true
    · have ht2:=ht
      unfold tellB at ht2
      rw [HE.out] at ht2
      simp [hh] at ht2
      obtain ⟨rfl,hin⟩:=ht2
      have HW:Hid ((tellC c ((i:Int)+1) x).words=c.words.set i x):=by unfold tellC;rw [if_pos ht];simp [Hid]
      have HT:=Lib.hid ht
      clear ht HE
      go_wp2_with (go_at_call 48;refine (l1In_any _ _ _ _).mono ?_;rintro _ _ ⟨rfl,rfl⟩)
      rw [HT.out,HW.out]
      refine bodyPost_ret (v:=.tuple #[.agg #[.int .i64 c.cap,.int .i64 c.sent,.int .i64 c.got,.int .i64 c.fin,.slice a1 c.cells.length q1,.slice (some ⟨g,0,none⟩) c.words.length cap],.bool true]) (by simp [results,Try.results42,go_sem, *]) rfl ⟨⟨_,_,rfl,own_lo (lo:=w.heap.size+1+1) ?_ (by omega),own_lo (lo:=w.heap.size+1+1) ?_ (by omega)⟩,by exact zB⟩
      · (repeat first|with_reducible exact p1|with_reducible refine oAl ?_ _|with_reducible refine oDr ?_|((with_reducible first|refine own_store ?_ ?_ _|refine own_box ?_ ?_);rotate_left;focus first|(refine own_ne o1 ?_;(try dsimp only);omega)|(refine own_ne' o1 ?_;(try dsimp only);omega)|exact fun h=>OCells.ne o1 o2 _ h rfl))
      · have P2:=OInts.set p2 hi x
        exact zO P2 o2
    · have e1:tellB c ((i:Int)+1) x=false:=by simpa using ht
      have HT:=Lib.hid e1
      have HW:=Lib.hid (tellC_no e1)
      unfold tellB at e1
      rw [HE.out] at e1
      simp [hh] at e1
      clear HE ht
      by_cases hy:y=0
      · subst hy
        have hin:=e1 rfl
        clear e1
        go_wp2_with (go_at_call 48;refine (l1In_any _ _ _ _).mono ?_;rintro _ _ ⟨rfl,rfl⟩)
        rw [HT.out,HW.out]
        refine bodyPost_ret (v:=.tuple #[.agg #[.int .i64 c.cap,.int .i64 c.sent,.int .i64 c.got,.int .i64 c.fin,.slice a1 c.cells.length q1,.slice (some ⟨g,0,none⟩) c.words.length cap],.bool false]) (by simp [results,Try.results42,go_sem, *]) rfl ⟨⟨_,_,rfl,own_lo (lo:=w.heap.size+1+1) ?_ (by omega),own_lo (lo:=w.heap.size+1+1) ?_ (by omega)⟩,by exact zB⟩
        · exact zO p1 o1
        · exact zO p2 o2
      · have hy2:(y != 0)=true:=by simpa using hy
        clear e1 hy
        go_wp2_with (go_at_call 48;refine (l1In_any _ _ _ _).mono ?_;rintro _ _ ⟨rfl,rfl⟩)
        rw [HT.out,HW.out]
        refine bodyPost_ret (v:=.tuple #[.agg #[.int .i64 c.cap,.int .i64 c.sent,.int .i64 c.got,.int .i64 c.fin,.slice a1 c.cells.length q1,.slice (some ⟨g,0,none⟩) c.words.length cap],.bool false]) (by simp [results,Try.results42,go_sem, *]) rfl ⟨⟨_,_,rfl,own_lo (lo:=w.heap.size+1+1) ?_ (by omega),own_lo (lo:=w.heap.size+1+1) ?_ (by omega)⟩,by exact zB⟩
        · exact zO p1 o1
        · exact zO p2 o2
  · have e1:=tellB_no1 (x:=x) (by simpa using hh)
    have HT:=Lib.hid e1
    have HW:=Lib.hid (tellC_no e1)
    clear e1
    obtain ⟨a2,q2,rfl,_⟩:=o2.seg
    go_wp2_with fail;refine bHit w (by exact zB) fun bb=>?_;refine bHit w1 (by exact zB) fun bk=>?_;refine (l3Has_any c _ a b p q _).mono ?_;rintro _ w2 ⟨rfl,hbw2⟩;have hCw2:Below w.heap.size w w2:=bT bb hbw2;have hsw2:=hbw2.size;(try simp at hsw2);have zz:=And.intro (fun o=>hbw2.cell (p:=⟨w1.heap.size,o,none⟩) (by (try simp) <;> omega)) <| And.intro (fun o=>hbw2.frozen (p:=⟨w1.heap.size,o,none⟩) (by (try simp) <;> omega)) <| And.intro (fun o=>hbw2.cell (p:=⟨w.heap.size+1,o,none⟩) (by (try simp) <;> omega)) <| And.intro (fun o=>hbw2.frozen (p:=⟨w.heap.size+1,o,none⟩) (by (try simp) <;> omega)) <| And.intro (fun o=>hbw2.cell (p:=⟨w.heap.size,o,none⟩) (by (try simp) <;> omega)) <| fun o=>hbw2.frozen (p:=⟨w.heap.size,o,none⟩) (by (try simp) <;> omega);(first|simp [go_sem,x_wp,f_wp,x_w,f_w,l_w,l_wp] at zz|simp [go_sem,x_wp,x_w,l_w,l_wp] at zz|simp [go_sem] at zz|skip);(try clear x_w1 f_w1);(try clear x_wp f_wp);(try clear x_w f_w);obtain ⟨x_w1,f_w1,x_wp,f_wp,x_w,f_w⟩:=zz;(try clear l_w1);have l_w1:w1.heap.size<w2.heap.size:=(by omega);(try clear l_wp);have l_wp:w.heap.size+1<w2.heap.size:=(by omega);(try clear l_w);have l_w:w.heap.size<w2.heap.size:=(by omega);have hKw2:Below w1.heap.size w1 w2:=bT bk hbw2;clear hbw2 bb bk
    have p1:=own_below o1 hKw2
    have p2:=own_below o2 hKw2
    go_wp2
    rw [HT.out,HW.out]
    refine bodyPost_ret (v:=.tuple #[.agg #[.int .i64 c.cap,.int .i64 c.sent,.int .i64 c.got,.int .i64 c.fin,.slice a1 c.cells.length q1,.slice a2 c.words.length q2],.bool false]) (by simp [results,Try.results42,go_sem, *]) rfl ⟨⟨_,_,rfl,own_lo (lo:=w.heap.size+1+1) ?_ (by omega),own_lo (lo:=w.heap.size+1+1) ?_ (by omega)⟩,by exact zB⟩
    · exact zO p1 o1
    · exact zO p2 o2
end Go.Proofs.Ytajopaegmocnlaa
set_option linter.unusedSimpArgs false
set_option linter.unusedVariables false
namespace Go.Proofs.Ytajopaegmocnlaa
open Go.RowKit
set_option linter.unusedSimpArgs false
attribute [local simp] bx_size
attribute [local go_sem ↓] zeroHand zeroChan toLHand toLChan toVHand toVChan storeHand storeChan storeHandC storeChanC /- Elder contracts, said of channels kept whole. -/
theorem wChanOk_any (c:Ch) (a b:Option Addr) (p q:Nat) (w:World) (h1:Seg w w.heap.size a c.cells.length 3 (cellF c.cells)) (h2:Seg w w.heap.size b c.words.length 1 (intF c.words)) :
    Calls Try.prog 46 #[.agg (cvals c (.slice a c.cells.length p) (.slice b c.words.length q))] w fun r w'=>r=.returned (.bool (chanOk c))∧Below w.heap.size w w':=sChanOk_any c a b p q w h1 h2
theorem wCopy_any (c:Ch) (a b:Option Addr) (p q:Nat) (w:World) (h1:Seg w w.heap.size a c.cells.length 3 (cellF c.cells)) (z1:a=none→p=0) (h2:Seg w w.heap.size b c.words.length 1 (intF c.words)) (z2:b=none→q=0) (m1:c.cells.length≤1099511627776) (m2:c.words.length≤1099511627776) :
    Calls Try.prog 20 #[.agg (cvals c (.slice a c.cells.length p) (.slice b c.words.length q))] w fun r w'=>(∃ v1 v2,r=.returned (.agg (cvals c v1 v2))∧OCells w' w.heap.size v1 c.cells∧OInts w' w.heap.size v2 c.words)∧Below w.heap.size w w':=l2Copy_any c a b p q w h1 z1 h2 z2 m1 m2
theorem wTold_any (c:Ch) (v x:Int) (a b:Option Addr) (p q:Nat) (w:World) (h1:Seg w w.heap.size a c.cells.length 3 (cellF c.cells)) (z1:a=none→p=0) (h2:Seg w w.heap.size b c.words.length 1 (intF c.words)) (z2:b=none→q=0) (m1:c.cells.length≤1099511627776) (m2:c.words.length≤1099511627776) :
    Calls Try.prog 42 #[.agg (cvals c (.slice a c.cells.length p) (.slice b c.words.length q)),.int .i64 v,.int .i64 x] w fun r w' =>
      (∃ v1 v2,r=.returned (.tuple #[.agg (cvals c v1 v2),.bool (tellB c v x)])∧OCells w' w.heap.size v1 c.cells∧OInts w' w.heap.size v2 (tellC c v x).words)∧Below w.heap.size w w':=l3Told_any c v x a b p q w h1 z1 h2 z2 m1 m2
set_option maxRecDepth 100000 in
set_option maxHeartbeats 1000000 in
theorem l6Ok_any (c:Ch) (h:Ha) (f t k:Int) (a b:Option Addr) (p q:Nat) (w:World) (h1:Seg w w.heap.size a c.cells.length 3 (cellF c.cells)) (h2:Seg w w.heap.size b c.words.length 1 (intF c.words)) :
    Calls Try.prog 18 #[.agg (cvals c (.slice a c.cells.length p) (.slice b c.words.length q)),.agg (hvals h),.int .i64 f,.int .i64 t,.int .i64 k] w fun r w'=>r=.returned (.bool (stepOk c h f t k))∧Below w.heap.size w w':=by
  have H1:=Lib.hid h1
  have H2:=Lib.hid h2
  clear h1 h2
  go_enter Try.func18,Try.ntmps18
  go_wp2_with (first|(go_at_call 46;refine bHit w (by exact zB) fun bb=>?_;refine (wChanOk_any c a b p q _ ((H1.out.below bb).more bb.size) ((H2.out.below bb).more bb.size)).mono ?_;rintro _ w1 ⟨rfl,hbw1⟩;have hCw1:Below w.heap.size w w1:=bT bb hbw1;have hsw1:=hbw1.size;(try simp at hsw1);have zz:=And.intro (hQ hbw1 (b:=w.heap.size+1)) <| hQ hbw1 (b:=w.heap.size);(try simp [go_sem] at zz);(try clear z_wp x_wp f_wp l_wp);(try clear z_w x_w f_w l_w);obtain ⟨z_wp,z_w⟩:=zz;obtain ⟨x_wp,f_wp,l_wp⟩:=bO z_wp;obtain ⟨x_w,f_w,l_w⟩:=bO z_w;clear hbw1 bb)|(go_at_call 47;refine bHit w (by exact zB) fun bb=>?_;refine (sHandOk_any _ _).mono ?_;rintro _ w2 ⟨rfl,hbw2⟩;have hCw2:Below w.heap.size w w2:=bT bb hbw2;have hsw2:=hbw2.size;(try simp at hsw2);have zz:=And.intro (hQ hbw2 (b:=w.heap.size+1)) <| hQ hbw2 (b:=w.heap.size);(first|simp [go_sem,z_wp,z_w,l_w,l_wp] at zz|simp [go_sem] at zz|skip);(try clear z_wp x_wp f_wp l_wp);(try clear z_w x_w f_w l_w);obtain ⟨z_wp,z_w⟩:=zz;obtain ⟨x_wp,f_wp,l_wp⟩:=bO z_wp;obtain ⟨x_w,f_w,l_w⟩:=bO z_w;clear hbw2 bb)|(go_at_call 48;refine (l1In_any _ _ _ _).mono ?_;rintro _ _ ⟨rfl,rfl⟩))
  all_goals go_ret
  all_goals exact ⟨ret_bool (by simp_all [stepOk]),by exact zB⟩
theorem done_yes {c:Ch} {h:Ha} (h1:chanOk c=true) (h2:handOk h=true):done c h=(c,h,true):=by simp [done,h1,h2]
theorem done_no1 {c:Ch} {h:Ha} (h1:chanOk c=false):done c h=nothing:=by simp [done,h1]
theorem done_no2 {c:Ch} {h:Ha} (h1:handOk h=false):done c h=nothing:=by simp [done,h1]
/-- The list is the old one, or has been made since. -/
def Fresh (w:World) (v v':Value):Prop:=∀ j,v'.ownBlock=some j→v.ownBlock=some j∨w.heap.size≤j
theorem fresh_refl (w:World) (v:Value):Fresh w v v:=fun _ h=>.inl h
theorem fresh_nil (w:World) (v:Value) (n c:Nat):Fresh w v (.slice none n c):=fun _ h=>by cases h
/-- It lies apart from what the caller has made. -/
theorem Fresh.off {w w0:World} {v v':Value} (h:Fresh w v v') (hv:∀ j,v.ownBlock=some j→j<w0.heap.size) {b:Nat} (h1:w0.heap.size≤b) (h2:b<w.heap.size):v'.ownBlock≠some b:=fun e=>by
  rcases h b e with h|h
  · have:=hv b h;omega
  · omega
/-- What a step answers: a channel of the call's own, a hand, and whether it was made. -/
def StepR (w w':World) (lo:Nat) (v1 v2:Value) (x:St) (r:Ending):Prop:=∃ y1 y2,r=.returned (.tuple #[.agg (cvals x.1 y1 y2),.agg (hvals x.2.1),.bool x.2.2])∧OCells w' lo y1 x.1.cells∧OInts w' lo y2 x.1.words∧Fresh w v1 y1∧Fresh w v2 y2
theorem stepR_none (w w':World) (lo:Nat) (v1 v2:Value):StepR w w' lo v1 v2 nothing (.returned (.tuple #[.agg (cvals Ch.zero (.slice none 0 0) (.slice none 0 0)),.agg (hvals Ha.zero),.bool false])):=⟨_,_,rfl,World.ownsRow_nil _ _ _ _,World.ownsRow_nil _ _ _ _,fresh_nil _ _ _ _,fresh_nil _ _ _ _⟩
set_option maxRecDepth 100000 in
theorem l6None_any (w:World) (lo:Nat) (v1 v2:Value):Calls Try.prog 19 #[] w fun r w'=>StepR w w' lo v1 v2 nothing r∧Below w.heap.size w w':=by
  go_enter Try.func19,Try.ntmps19
  go_wp2
  refine bodyPost_ret (res_cct Try.results19 rfl (ldChan Ch.zero (.slice none 0 0) (.slice none 0 0) (by simp [go_sem])) rfl (ldHand Ha.zero (by simp [go_sem]))) rfl ⟨stepR_none _ _ _ _ _,by exact zB⟩
end Go.Proofs.Ytajopaegmocnlaa
