/-
  Lists of hands and of deals in memory; no condition.
  The contracts of the reference model's functions of chapter 1; no condition.
  The reference model's functions of chapter 4; no condition.
  The reference model's functions of chapter 2; lists lie in memory and hold at most what memory can hold.
  The reference model's functions of chapter 5, on hands that are kept whole; no condition.
-/
import Derived.Test.YtlfcgeoifmnjnaaP02
import Derived.Test.YtlfcgeoifmnjnaaP01
set_option linter.unusedSimpArgs false
set_option linter.unusedVariables false
namespace Go.Proofs.Ytlfcgeoifmnjnaa
open Go.RowKit
def dvals (d:De):Array Value:=#[.int .i64 d.task,.int .i64 d.code,.int .i64 d.elem,.int .i64 d.beg,.int .i64 d.fin,.int .i64 d.reply,.int .i64 d.out]
def flatH (hs:List Ha):List Value:=hs.flatMap fun h=>(hvals h).toList
def flatD (ds:List De):List Value:=ds.flatMap fun d=>(dvals d).toList
def handF (hs:List Ha) (i j:Nat):Value:=(hvals (hs.getD i Ha.zero)).getD j (.int .i64 0)
def dealF (ds:List De) (i j:Nat):Value:=(dvals (ds.getD i De.zero)).getD j (.int .i64 0)
theorem flatH_len (hs:List Ha):(flatH hs).length=hs.length*14:=by
  induction hs with
  | nil=>rfl
  | cons c cs ih=>simp [flatH,hvals] at *;omega
theorem flatD_len (ds:List De):(flatD ds).length=ds.length*7:=by
  induction ds with
  | nil=>rfl
  | cons c cs ih=>simp [flatD,dvals] at *;omega
theorem flatH_get:∀ (hs:List Ha) (i j:Nat),i<hs.length→j<14→(flatH hs)[i*14+j]?=some (handF hs i j)
  | [],i,j,hi,_=>by simp at hi
  | c :: cs,0,j,_,hj=>by
    have e:flatH (c :: cs)=(hvals c).toList ++ flatH cs:=by simp [flatH]
    rw [e,List.getElem?_append_left (by simp [hv_size];omega)]
    simp [handF,Array.getD,hv_size,hj]
  | c :: cs,i+1,j,hi,hj=>by
    have h:=flatH_get cs i j (by simpa using hi) hj
    have e:flatH (c :: cs)=(hvals c).toList ++ flatH cs:=by simp [flatH]
    rw [e,List.getElem?_append_right (by simp [hv_size];omega)]
    have e2:(i+1)*14+j - (hvals c).toList.length=i*14+j:=by simp [hv_size];omega
    rw [e2,h]
    simp [handF]
theorem flatD_get:∀ (hs:List De) (i j:Nat),i<hs.length→j<7→(flatD hs)[i*7+j]?=some (dealF hs i j)
  | [],i,j,hi,_=>by simp at hi
  | c :: cs,0,j,_,hj=>by
    have e:flatD (c :: cs)=(dvals c).toList ++ flatD cs:=by simp [flatD]
    rw [e,List.getElem?_append_left (by simp [dvals];omega)]
    simp [dealF,Array.getD,dvals,hj]
  | c :: cs,i+1,j,hi,hj=>by
    have h:=flatD_get cs i j (by simpa using hi) hj
    have e:flatD (c :: cs)=(dvals c).toList ++ flatD cs:=by simp [flatD]
    rw [e,List.getElem?_append_right (by simp [dvals];omega)]
    have e2:(i+1)*7+j - (dvals c).toList.length=i*7+j:=by simp [dvals];omega
    rw [e2,h]
    simp [dealF]
theorem flatH_one (hs:List Ha):∀ u ∈ flatH hs,u.oneCell'=true:=by
  intro u hu
  simp only [flatH,List.mem_flatMap] at hu
  obtain ⟨c,_,hc⟩:=hu
  simp [hvals] at hc
  rcases hc with rfl|rfl|rfl|rfl|rfl|rfl|rfl|rfl|rfl|rfl|rfl|rfl|rfl|rfl <;> rfl
theorem flatD_one (hs:List De):∀ u ∈ flatD hs,u.oneCell'=true:=by
  intro u hu
  simp only [flatD,List.mem_flatMap] at hu
  obtain ⟨c,_,hc⟩:=hu
  simp [dvals] at hc
  rcases hc with rfl|rfl|rfl|rfl|rfl|rfl|rfl <;> rfl
/-- A list of hands, of deals, of the call's own. -/
abbrev OHands (w:World) (lo:Nat) (v:Value) (hs:List Ha):Prop:=w.ownsRow lo 27 14 v hs.length (flatH hs)
abbrev ODeals (w:World) (lo:Nat) (v:Value) (ds:List De):Prop:=w.ownsRow lo 85 7 v ds.length (flatD ds)
theorem own_seg {w:World} {lo:Nat} {t:TypeId} {n k:Nat} {v:Value} {xs:List Value} {f:Nat→Nat→Value} (h:w.ownsRow lo t k v n xs) (hf:∀ i j,i<n→j<k→xs[i*k+j]?=some (f i j)):∃ (a:Option Addr) (cap:Nat),v=.slice a n cap∧Seg w w.heap.size a n k f:=by
  rcases h.2 with ⟨rfl,h0⟩|⟨g,cap,cur,rfl,_,hg,_⟩
  · exact ⟨none,0,by rw [h0],.inl h0⟩
  · refine ⟨_,cap,rfl,.inr ⟨g,0,rfl,(Array.getElem?_eq_some_iff.1 hg).1,fun i j hi hj=>?_⟩⟩
    have:=h.cells (g:=g) rfl (i*k+j) _ (hf i j hi hj)
    rw [← this]
    congr 1
    by_cases e:i*k+j=0 <;> simp [Addr.add,e] <;> omega
theorem OHands.seg {w:World} {lo:Nat} {v:Value} {hs:List Ha} (h:OHands w lo v hs):∃ (a:Option Addr) (cap:Nat),v=.slice a hs.length cap∧Seg w w.heap.size a hs.length 14 (handF hs):=own_seg h fun i j hi hj=>flatH_get hs i j hi hj
theorem ODeals.seg {w:World} {lo:Nat} {v:Value} {ds:List De} (h:ODeals w lo v ds):∃ (a:Option Addr) (cap:Nat),v=.slice a ds.length cap∧Seg w w.heap.size a ds.length 7 (dealF ds):=own_seg h fun i j hi hj=>flatD_get ds i j hi hj
variable {w:World} {b o:Nat}
/-- A hand that lies in a list is loaded whole. -/
theorem ldHandE (x:Ha) (h:∀ j,j<14→w.cell? ⟨b,o+j,none⟩=some ((hvals x).getD j (.int .i64 0))):(LHand (.pointer (some ⟨b,o,none⟩))).run Try.prog w=.ok (.agg (hvals x)) w:=by
  have h0:=h 0 (by omega)
  have h1:=h 1 (by omega)
  have h2:=h 2 (by omega)
  have h3:=h 3 (by omega)
  have h4:=h 4 (by omega)
  have h5:=h 5 (by omega)
  have h6:=h 6 (by omega)
  have h7:=h 7 (by omega)
  have h8:=h 8 (by omega)
  have h9:=h 9 (by omega)
  have h10:=h 10 (by omega)
  have h11:=h 11 (by omega)
  have h12:=h 12 (by omega)
  have h13:=h 13 (by omega)
  simp [hvals,Array.getD] at h0 h1 h2 h3 h4 h5 h6 h7 h8 h9 h10 h11 h12 h13
  simp [LHand,hvals,go_sem, *]
end Go.Proofs.Ytlfcgeoifmnjnaa
set_option linter.unusedSimpArgs false
set_option linter.unusedVariables false
namespace Go.Proofs.Ytlfcgeoifmnjnaa
open Go.RowKit
set_option maxHeartbeats 400000 in
theorem l1In_any (n m k:Int) (w:World):Calls Try.prog 24 #[.int .i64 n,.int .i64 m,.int .i64 k] w fun e w'=>e=.returned (.bool (inB n m k))∧w=w':=by
  go_enter Try.func24,Try.ntmps24
  go_wp2
  all_goals go_ret
  · exact ⟨ret_bool (inB_lo ‹_›),rfl⟩
  · exact ⟨ret_bool (inB_no (.inl ‹_›)).symm,rfl⟩
set_option maxHeartbeats 400000 in
theorem l1State_any (n:Int) (w:World):Calls Try.prog 26 #[.int .i64 n] w fun r w'=>r=.returned (.bool (inB n 0 10))∧w=w':=by
  go_enter Try.func26,Try.ntmps26
  go_wp2_with (go_at_call 24;refine (l1In_any _ _ _ _).mono ?_;rintro _ _ ⟨rfl,rfl⟩)
  go_ret
  exact ⟨rfl,rfl⟩
set_option maxHeartbeats 400000 in
theorem l1Elem_any (n:Int) (w:World):Calls Try.prog 28 #[.int .i64 n] w fun r w'=>r=.returned (.bool (inB n 0 999))∧w=w':=by
  go_enter Try.func28,Try.ntmps28
  go_wp2_with (go_at_call 24;refine (l1In_any _ _ _ _).mono ?_;rintro _ _ ⟨rfl,rfl⟩)
  go_ret
  exact ⟨rfl,rfl⟩
set_option maxHeartbeats 400000 in
theorem sCellOk_any (s e t:Int) (w:World):Calls Try.prog 57 #[.agg #[.int .i64 s,.int .i64 e,.int .i64 t]] w fun r w'=>r=.returned (.bool (cellB s e t))∧Below w.heap.size w w':=by
  go_enter Try.func57,Try.ntmps57
  go_wp2_with (first|(go_at_call 26;refine (l1State_any _ _).mono ?_;rintro _ _ ⟨rfl,rfl⟩)|(go_at_call 28;refine (l1Elem_any _ _).mono ?_;rintro _ _ ⟨rfl,rfl⟩)|(go_at_call 24;refine (l1In_any _ _ _ _).mono ?_;rintro _ _ ⟨rfl,rfl⟩))
  all_goals go_ret
  all_goals refine ⟨ret_bool ?_,by (repeat (with_reducible first|assumption|exact bR|refine bA ?_|refine bD ?_|((first|refine bS ?_ ?_|refine bBx ?_ ?_);rotate_left;focus (try simp) <;> (try omega))))⟩
  · exact cellB_3 ‹_› ‹_›
  · exact cellB_2 ‹_›
  · exact cellB_1 ‹_›
end Go.Proofs.Ytlfcgeoifmnjnaa
set_option linter.unusedSimpArgs false
set_option linter.unusedVariables false
namespace Go.Proofs.Ytlfcgeoifmnjnaa
open Go.RowKit
set_option maxRecDepth 100000 in
set_option maxHeartbeats 400000 in
theorem sCallOk_any (k e:Int) (w:World):Calls Try.prog 21 #[.agg #[.int .i64 k,.int .i64 e]] w fun r w'=>r=.returned (.bool (callOk k e))∧Below w.heap.size w w':=by
  go_enter Try.func21,Try.ntmps21
  go_wp2_with (go_at_call 28;refine (l1Elem_any _ _).mono ?_;rintro _ _ ⟨rfl,rfl⟩)
  all_goals go_ret
  all_goals exact ⟨ret_bool (by simp_all [callOk]),by (repeat (with_reducible first|assumption|exact bR|refine bA ?_|refine bD ?_|((first|refine bS ?_ ?_|refine bBx ?_ ?_);rotate_left;focus (try simp) <;> (try omega))))⟩
set_option maxRecDepth 100000 in
set_option maxHeartbeats 400000 in
theorem sReplyOk_any (k e x:Int) (w:World):Calls Try.prog 53 #[.agg #[.int .i64 k,.int .i64 e],.int .i64 x] w fun r w'=>r=.returned (.bool (replyOk k e x))∧Below w.heap.size w w':=by
  go_enter Try.func53,Try.ntmps53
  go_wp2_with (first|(go_at_call 21;refine (sCallOk_any _ _ _).mono ?_;rintro _ w1 ⟨rfl,hbw1⟩;have hBw1:Below w.heap.size w w1:=bT (by (repeat (with_reducible first|assumption|exact bR|refine bA ?_|refine bD ?_|((first|refine bS ?_ ?_|refine bBx ?_ ?_);rotate_left;focus (try simp) <;> (try omega))))) hbw1;have hsw1:=hbw1.size;(try (simp at hsw1));have:=fun o=>hbw1.cell (p:=⟨w.heap.size,o,none⟩) (by ((try simp);(try omega)));have:=fun o=>hbw1.frozen (p:=⟨w.heap.size,o,none⟩) (by ((try simp);(try omega)));have:w.heap.size<w1.heap.size:=(by omega);have:w.heap.size≤w1.heap.size:=(by omega);have:w.heap.size≤w1.heap.size+1:=(by omega))|(go_at_call 24;refine (l1In_any _ _ _ _).mono ?_;rintro _ _ ⟨rfl,rfl⟩))
  all_goals go_ret
  all_goals exact ⟨ret_bool (by simp_all [replyOk]),by (repeat (with_reducible first|assumption|exact bR|refine bA ?_|refine bD ?_|((first|refine bS ?_ ?_|refine bBx ?_ ?_);rotate_left;focus (try simp) <;> (try omega))))⟩
set_option maxRecDepth 100000 in
theorem l4None_any (k e:Int) (w:World):Calls Try.prog 25 #[.agg #[.int .i64 k,.int .i64 e]] w fun r w'=>r=.returned (.bool (noCall k e))∧Below w.heap.size w w':=by
  go_enter Try.func25,Try.ntmps25
  go_wp2
  all_goals go_ret
  all_goals exact ⟨ret_bool (by simp_all [noCall]),by (repeat (with_reducible first|assumption|exact bR|refine bA ?_|refine bD ?_|((first|refine bS ?_ ?_|refine bBx ?_ ?_);rotate_left;focus (try simp) <;> (try omega))))⟩
end Go.Proofs.Ytlfcgeoifmnjnaa
set_option linter.unusedSimpArgs false
set_option linter.unusedVariables false
namespace Go.Proofs.Ytlfcgeoifmnjnaa
open Go.RowKit
set_option maxHeartbeats 400000 in
theorem l2Count_any (n:Int) (w:World):Calls Try.prog 27 #[.int .i64 n] w fun r w'=>r=.returned (.bool (inB n 0 40))∧w=w':=by
  go_enter Try.func27,Try.ntmps27
  go_wp2_with (go_at_call 24;refine (l1In_any _ _ _ _).mono ?_;rintro _ _ ⟨rfl,rfl⟩)
  go_ret
  exact ⟨rfl,rfl⟩
/-- Where the head of a channel is not right. -/
theorem head_no (cap sent got fin:Int) (cells:List C3) (words:List Int) (h:chanHead ⟨cap,sent,got,fin,cells,words⟩=false):false=chanOk ⟨cap,sent,got,fin,cells,words⟩:=by simp [chanOk,h]
theorem head_yes {cap sent got fin:Int} {cells:List C3} {words:List Int} (h:chanHead ⟨cap,sent,got,fin,cells,words⟩=true) :
    inB cap 0 4=true∧inB sent 0 40=true∧inB got 0 40=true∧inB fin 0 40=true∧cells.length=40∧words.length≤80:=by
  simpa [chanHead] using h
theorem sChanOk_no (cap sent got fin:Int) (cells:List C3) (words:List Int) (a b:Option Addr) (p q:Nat) (w:World) (h:chanHead ⟨cap,sent,got,fin,cells,words⟩=false) :
    Calls Try.prog 52 #[.agg #[.int .i64 cap,.int .i64 sent,.int .i64 got,.int .i64 fin,.slice a cells.length p,.slice b words.length q]] w fun r w'=>r=.returned (.bool (chanOk ⟨cap,sent,got,fin,cells,words⟩))∧Below w.heap.size w w':=by
  rw [← head_no _ _ _ _ _ _ h]
  have H:=Lib.hid h
  clear h
  go_enter Try.func52,Try.ntmps52
  go_wp2_with (first|(go_at_call 24;refine (l1In_any _ _ _ _).mono ?_;rintro _ _ ⟨rfl,rfl⟩)|(go_at_call 27;refine (l2Count_any _ _).mono ?_;rintro _ _ ⟨rfl,rfl⟩))
  all_goals first|(go_ret;exact ⟨rfl,by (repeat (with_reducible first|assumption|exact bR|refine bA ?_|refine bD ?_|((first|refine bS ?_ ?_|refine bBx ?_ ?_);rotate_left;focus (try simp) <;> (try omega))))⟩)|skip
  exfalso
  have h:=H.out
  simp [chanHead, *] at h
  omega
theorem chan_bad1 {cap sent got fin:Int} {cells:List C3} {words:List Int} {k:Nat} {c:C3} (hk:k<cells.length) (hc:cells.getD k ⟨0,0,0⟩=c) (h:cellFits words.length c=false):false=chanOk ⟨cap,sent,got,fin,cells,words⟩:=by
  have:cells.all (cellFits words.length)=false:=by
    rw [List.all_eq_false]
    refine ⟨cells[k],List.getElem_mem hk,?_⟩
    rw [← hc] at h
    simpa [List.getD,List.getElem?_eq_getElem hk] using h
  simp [chanOk,this]
theorem sCellOk_no {s e t:Int} (h:cellB s e t=false) (w:World):Calls Try.prog 57 #[.agg #[.int .i64 s,.int .i64 e,.int .i64 t]] w fun r w'=>r=.returned (.bool false)∧Below w.heap.size w w':=by
  have:=sCellOk_any s e t w
  rw [h] at this
  exact this
theorem chan_bad2 {cap sent got fin:Int} {cells:List C3} {words:List Int} {k:Nat} {x:Int} (hk:k<words.length) (hc:words.getD k 0=x) (h:inB x 0 2=false):false=chanOk ⟨cap,sent,got,fin,cells,words⟩:=by
  have:words.all (fun x=>inB x 0 2)=false:=by
    rw [List.all_eq_false]
    refine ⟨words[k],List.getElem_mem hk,?_⟩
    rw [← hc] at h
    simpa [List.getD,List.getElem?_eq_getElem hk] using h
  simp [chanOk,this]
theorem words_snoc {words:List Int} {k:Nat} {x:Int} (hk:k<words.length) (hc:words.getD k 0=x) (h:(words.take k).all (fun x=>inB x 0 2)=true) (h1:inB x 0 2=true):(words.take (k+1)).all (fun x=>inB x 0 2)=true:=by
  have e:words.take (k+1)=words.take k ++ [x]:=by
    rw [List.take_succ_eq_append_getElem hk,← hc];simp [List.getD,List.getElem?_eq_getElem hk]
  rw [e,List.all_append,h];simp [h1]
def fitsAt (words:List Int) (cells:List C3) (k:Nat):Prop:=(cells.take k).all (cellFits words.length)=true
theorem chan_all {cap sent got fin:Int} {cells:List C3} {words:List Int} (h:chanHead ⟨cap,sent,got,fin,cells,words⟩=true) (h1:fitsAt words cells cells.length) (h2:(words.take words.length).all (fun x=>inB x 0 2)=true):true=chanOk ⟨cap,sent,got,fin,cells,words⟩:=by
  unfold fitsAt at h1
  rw [List.take_length] at h1 h2
  unfold chanOk
  rw [h,h1,h2];rfl
theorem fits_snoc {words:List Int} {cells:List C3} {k:Nat} {c:C3} (hk:k<cells.length) (hc:cells.getD k ⟨0,0,0⟩=c) (h:fitsAt words cells k) (h1:cellFits words.length c=true):fitsAt words cells (k+1):=by
  unfold fitsAt at *
  rw [take_snocC cells k hk,hc,List.all_append,h];simp [h1]
set_option maxRecDepth 100000 in
set_option linter.unusedSimpArgs false in
set_option maxHeartbeats 2000000 in
theorem sChanOk_yes (cap sent got fin:Int) (cells:List C3) (words:List Int) (a b:Option Addr) (p q:Nat) (w:World) (h1:Seg w w.heap.size a cells.length 3 (cellF cells)) (h2:Seg w w.heap.size b words.length 1 (intF words)) (h:chanHead ⟨cap,sent,got,fin,cells,words⟩=true) :
    Calls Try.prog 52 #[.agg #[.int .i64 cap,.int .i64 sent,.int .i64 got,.int .i64 fin,.slice a cells.length p,.slice b words.length q]] w fun r w'=>r=.returned (.bool (chanOk ⟨cap,sent,got,fin,cells,words⟩))∧Below w.heap.size w w':=by
  obtain ⟨i1,i2,i3,i4,i5,i6⟩:=head_yes h
  have hl:((cells.length:Int) != 40)=false:=by simp;omega
  have hl0:cells.length≤40:=by omega
  have hw:decide (80<(words.length:Int))=false:=by simp;omega
  have H1:=Lib.hid h1
  have H2:=Lib.hid h2
  have HH:=Lib.hid h
  have I5:=Lib.hid i5
  clear h1 h2 h i5
  obtain ⟨b1,o1,rfl,hb1,hc1⟩:∃ b o,a=some ⟨b,o,none⟩∧b<w.heap.size∧Hid (∀ i j,i<cells.length→j<3→w.cell? ⟨b,o+i*3+j,none⟩=some (cellF cells i j)):=by
    rcases H1.out with h0|h0
    · exact absurd h0 (by have:=I5.out;omega)
    · exact h0
  go_enter Try.func52,Try.ntmps52
  go_wp2_with (first|(go_at_call 24;refine (l1In_any _ _ _ _).mono ?_;rintro _ _ ⟨rfl,rfl⟩)|(go_at_call 27;refine (l2Count_any _ _).mono ?_;rintro _ _ ⟨rfl,rfl⟩))
  go_loopw [3] (fun i wr=>∃ k:Nat,k≤cells.length∧i=.int .i64 k∧fitsAt words cells k∧(∀ o,wr.cell? ⟨w.heap.size,o,none⟩=#[Value.int .i64 cap,.int .i64 sent,.int .i64 got,.int .i64 fin,.slice (some ⟨b1,o1,none⟩) cells.length p,.slice b words.length q][o]?)∧w.heap.size<wr.heap.size∧Below w.heap.size w wr) (fun i _=>cells.length - (intOf i).toNat)
  case atStart=>exact ⟨0,Nat.zero_le _,rfl,rfl,fun o=>by simp,by simp,by (repeat (with_reducible first|assumption|exact bR|refine bA ?_|refine bD ?_|((first|refine bS ?_ ?_|refine bBx ?_ ?_);rotate_left;focus (try simp) <;> (try omega))))⟩
  case round =>
    obtain ⟨k,hk,rfl,hfit,hbx,hlt1,hB⟩:=hrel
    by_cases hlt:k<cells.length
    · have c0:=(hB.cell (p:=⟨b1,o1+k*3+0,none⟩) hb1).trans (hc1.out k 0 hlt (by omega))
      have c1:=(hB.cell (p:=⟨b1,o1+k*3+1,none⟩) hb1).trans (hc1.out k 1 hlt (by omega))
      have c2:=(hB.cell (p:=⟨b1,o1+k*3+2,none⟩) hb1).trans (hc1.out k 2 hlt (by omega))
      simp only [cellF,C3.val,Nat.add_zero] at c0 c1 c2
      generalize hcg:cells.getD k ⟨0,0,0⟩=c at c0 c1 c2
      have HC:=Lib.hid hcg
      clear hcg
      have x4:=hbx 4
      have x5:=hbx 5
      simp at x4 x5
      have hk0:(0:Int)≤(k:Int):=by omega
      have hk1:(k:Int)<(cells.length:Int):=by omega
      by_cases hok:cellB c.s c.e c.t=true
      · go_wp2_with fail
        go_region_held3 (fun w'=>w'.cell? ⟨w.heap.size,4,none⟩=some (.slice (some ⟨b1,o1,none⟩) cells.length p)∧w'.cell? ⟨w.heap.size,5,none⟩=some (.slice b words.length q)∧w'.cell? ⟨b1,o1+k*3,none⟩=some (.int .i64 c.s)∧w'.cell? ⟨b1,o1+k*3+1,none⟩=some (.int .i64 c.e)∧w'.cell? ⟨b1,o1+k*3+2,none⟩=some (.int .i64 c.t))
          (first|(simp [*,go_sem]))
          (first|(go_at_call 57;refine (sCellOk_any _ _ _ _).mono ?_;rintro _ w7 ⟨rfl,hb7⟩;have hB7:Below w.heap.size w w7:=bT (by (repeat (with_reducible first|assumption|exact bR|refine bA ?_|refine bD ?_|((first|refine bS ?_ ?_|refine bBx ?_ ?_);rotate_left;focus (try simp) <;> (try omega))))) hb7;have:=hb7.cell (p:=⟨w.heap.size,4,none⟩) (by simp;omega);have:=hb7.cell (p:=⟨w.heap.size,5,none⟩) (by simp;omega);have:=hb7.cell (p:=⟨b1,o1+k*3,none⟩) (by simp;omega);have:=hb7.cell (p:=⟨b1,o1+k*3+1,none⟩) (by simp;omega);have:=hb7.cell (p:=⟨b1,o1+k*3+2,none⟩) (by simp;omega);have hx7:=fun o=>(hb7.cell (p:=⟨w.heap.size,o,none⟩) (by simp;omega)).trans (hbx o);have hs7:=hb7.size;simp at hs7))
        by_cases hct:(words.length:Int)<c.t
        · go_wp2
          go_ret
          exact ⟨ret_bool (chan_bad1 hlt HC.out (by simp [cellFits,okC,hok];omega)),hB7⟩
        · go_wp2
          go_roundw
          case rel=>exact ⟨k+1,by omega,by go_num,fits_snoc hlt HC.out hfit (by simp [cellFits,okC,hok];omega),hx7,by omega,hB7⟩
          case measure=>simp [intOf];omega
      · have hok2:cellB c.s c.e c.t=false:=by simpa using hok
        clear hok x5
        go_wp2_with fail
        refine wp_region_held_drew (S:=fun w'=>w'.cell? ⟨w.heap.size,4,none⟩=some (.slice (some ⟨b1,o1,none⟩) cells.length p)∧w'.cell? ⟨b1,o1+k*3,none⟩=some (.int .i64 c.s)∧w'.cell? ⟨b1,o1+k*3+1,none⟩=some (.int .i64 c.e)∧w'.cell? ⟨b1,o1+k*3+2,none⟩=some (.int .i64 c.t)) (by kernel_rfl) (by simp [*,go_sem]) (fun hS0=>?_)
        refine wpAnyH_take (i:=0) (oi:=⟨some 46,_,_,_,_,_⟩) (v:=?_) rfl (by kernel_rfl) (by kernel_rfl) (by kernel_rfl) (fun _ _ _ h=>h) (Or.inl ⟨by rfl,?_⟩) (by assumption) ?_;rotate_left;(focus (intro w' hSw;(try dsimp only at hSw);go_simp;(try with_reducible rfl)));(try rotate_left);(try simp only [Act.put,List.setIfInBounds_toArray,List.set_cons_zero,List.set_cons_succ])
        refine wpAnyH_take (i:=1) (oi:=⟨some 47,_,_,_,_,_⟩) (v:=?_) rfl (by kernel_rfl) (by kernel_rfl) (by kernel_rfl) (fun _ _ _ h=>h) (Or.inl ⟨by rfl,?_⟩) (by assumption) ?_;rotate_left;(focus (intro w' hSw;(try dsimp only at hSw);go_simp;(try with_reducible rfl)));(try rotate_left);(try simp only [Act.put,List.setIfInBounds_toArray,List.set_cons_zero,List.set_cons_succ])
        refine wpAnyH_take (i:=2) (oi:=⟨some 48,_,_,_,_,_⟩) (v:=?_) rfl (by kernel_rfl) (by kernel_rfl) (by kernel_rfl) (fun _ _ _ h=>h) (Or.inl ⟨by rfl,?_⟩) (by assumption) ?_;rotate_left;(focus (intro w' hSw;(try dsimp only at hSw);go_simp;(try with_reducible rfl)));(try rotate_left);(try simp only [Act.put,List.setIfInBounds_toArray,List.set_cons_zero,List.set_cons_succ])
        refine wpAnyH_take (i:=3) (oi:=⟨some 49,_,_,_,_,_⟩) (v:=?_) rfl (by kernel_rfl) (by kernel_rfl) (by kernel_rfl) (fun _ _ _ h=>h) (Or.inl ⟨by rfl,?_⟩) (by assumption) ?_;rotate_left;(focus (intro w' hSw;(try dsimp only at hSw);go_simp;(try with_reducible rfl)));(try rotate_left);(try simp only [Act.put,List.setIfInBounds_toArray,List.set_cons_zero,List.set_cons_succ])
        refine wpAnyH_take (i:=4) (oi:=⟨some 50,_,_,_,_,_⟩) (v:=?_) rfl (by kernel_rfl) (by kernel_rfl) (by kernel_rfl) (fun _ _ _ h=>h) (Or.inl ⟨by rfl,?_⟩) (by assumption) ?_;rotate_left;(focus (intro w' hSw;(try dsimp only at hSw);go_simp;(try with_reducible rfl)));(try rotate_left);(try simp only [Act.put,List.setIfInBounds_toArray,List.set_cons_zero,List.set_cons_succ])
        refine wpAnyH_ready (rs:=[5]) (by kernel_rfl) (by simp) ?_
        refine AllReadyH.cons (o:=⟨some 51,_,_,_,_,_⟩) rfl (fun K hK=>?_) AllReadyH.nil
        go_simp
        go_at_call 57
        refine (sCellOk_any _ _ _ _).mono ?_
        rintro _ w7 ⟨rfl,hb7⟩
        have hB7:Below w.heap.size w w7:=bT (by (repeat (with_reducible first|assumption|exact bR|refine bA ?_|refine bD ?_|((first|refine bS ?_ ?_|refine bBx ?_ ?_);rotate_left;focus (try simp) <;> (try omega))))) hb7
        rw [hok2]
        refine hK.out _ _ ?_ (fun hS7=>?_)
        · refine ⟨(hb7.cell (by simp;omega)).trans x4,(hb7.cell (by simp;omega)).trans c0,(hb7.cell (by simp;omega)).trans c1,(hb7.cell (by simp;omega)).trans c2⟩
        clear hK
        (try simp only [Act.put,List.setIfInBounds_toArray,List.set_cons_zero,List.set_cons_succ])
        refine wpAnyH_take (i:=6) (oi:=⟨some 52,_,_,_,_,_⟩) (v:=?_) rfl (by kernel_rfl) (by kernel_rfl) (by kernel_rfl) (fun _ _ _ h=>h) (Or.inl ⟨by rfl,?_⟩) (by assumption) ?_;rotate_left;(focus (intro w' hSw;(try dsimp only at hSw);go_simp;(try with_reducible rfl)));(try rotate_left);(try simp only [Act.put,List.setIfInBounds_toArray,List.set_cons_zero,List.set_cons_succ])
        refine wpAnyH_take (i:=7) (oi:=⟨some 53,_,_,_,_,_⟩) (v:=?_) rfl (by kernel_rfl) (by kernel_rfl) (by kernel_rfl) (fun _ _ _ h=>h) (Or.inl ⟨by rfl,?_⟩) (by assumption) ?_;rotate_left;(focus (intro w' hSw;(try dsimp only at hSw);go_simp;(try with_reducible rfl)));(try rotate_left);(try simp only [Act.put,List.setIfInBounds_toArray,List.set_cons_zero,List.set_cons_succ])
        refine wpAnyH_take (i:=8) (oi:=⟨some 54,_,_,_,_,_⟩) (v:=undef) rfl (by kernel_rfl) (by kernel_rfl) (by kernel_rfl) (fun _ _ _ h=>h) (Or.inr ⟨by rfl,rfl⟩) (by assumption) ?_;(try simp only [Act.put,List.setIfInBounds_toArray,List.set_cons_zero,List.set_cons_succ])
        refine wpAnyH_take (i:=9) (oi:=⟨some 55,_,_,_,_,_⟩) (v:=undef) rfl (by kernel_rfl) (by kernel_rfl) (by kernel_rfl) (fun _ _ _ h=>h) (Or.inr ⟨by rfl,rfl⟩) (by assumption) ?_;(try simp only [Act.put,List.setIfInBounds_toArray,List.set_cons_zero,List.set_cons_succ])
        refine wpAnyH_take (i:=10) (oi:=⟨some 56,_,_,_,_,_⟩) (v:=undef) rfl (by kernel_rfl) (by kernel_rfl) (by kernel_rfl) (fun _ _ _ h=>h) (Or.inr ⟨by rfl,rfl⟩) (by assumption) ?_;(try simp only [Act.put,List.setIfInBounds_toArray,List.set_cons_zero,List.set_cons_succ])
        refine wpAnyH_take (i:=11) (oi:=⟨some 57,_,_,_,_,_⟩) (v:=undef) rfl (by kernel_rfl) (by kernel_rfl) (by kernel_rfl) (fun _ _ _ h=>h) (Or.inr ⟨by rfl,rfl⟩) (by assumption) ?_;(try simp only [Act.put,List.setIfInBounds_toArray,List.set_cons_zero,List.set_cons_succ])
        refine wpAnyH_take (i:=12) (oi:=⟨some 58,_,_,_,_,_⟩) (v:=undef) rfl (by kernel_rfl) (by kernel_rfl) (by kernel_rfl) (fun _ _ _ h=>h) (Or.inr ⟨by rfl,rfl⟩) (by assumption) ?_;(try simp only [Act.put,List.setIfInBounds_toArray,List.set_cons_zero,List.set_cons_succ])
        refine wpAnyH_take (i:=13) (oi:=⟨some 59,_,_,_,_,_⟩) (v:=undef) rfl (by kernel_rfl) (by kernel_rfl) (by kernel_rfl) (fun _ _ _ h=>h) (Or.inr ⟨by rfl,rfl⟩) (by assumption) ?_;(try simp only [Act.put,List.setIfInBounds_toArray,List.set_cons_zero,List.set_cons_succ])
        refine wpAnyH_take (i:=14) (oi:=⟨some 60,_,_,_,_,_⟩) (v:=undef) rfl (by kernel_rfl) (by kernel_rfl) (by kernel_rfl) (fun _ _ _ h=>h) (Or.inr ⟨by rfl,rfl⟩) (by assumption) ?_;(try simp only [Act.put,List.setIfInBounds_toArray,List.set_cons_zero,List.set_cons_succ])
        refine wpAnyH_take (i:=15) (oi:=⟨some 61,_,_,_,_,_⟩) (v:=undef) rfl (by kernel_rfl) (by kernel_rfl) (by kernel_rfl) (fun _ _ _ h=>h) (Or.inr ⟨by rfl,rfl⟩) (by assumption) ?_;(try simp only [Act.put,List.setIfInBounds_toArray,List.set_cons_zero,List.set_cons_succ])
        refine wpAnyH_take (i:=16) (oi:=⟨some 62,_,_,_,_,_⟩) (v:=undef) rfl (by kernel_rfl) (by kernel_rfl) (by kernel_rfl) (fun _ _ _ h=>h) (Or.inr ⟨by rfl,rfl⟩) (by assumption) ?_;(try simp only [Act.put,List.setIfInBounds_toArray,List.set_cons_zero,List.set_cons_succ])
        refine wpAnyH_take (i:=17) (oi:=⟨some 63,_,_,_,_,_⟩) (v:=undef) rfl (by kernel_rfl) (by kernel_rfl) (by kernel_rfl) (fun _ _ _ h=>h) (Or.inr ⟨by rfl,rfl⟩) (by assumption) ?_;(try simp only [Act.put,List.setIfInBounds_toArray,List.set_cons_zero,List.set_cons_succ])
        refine wpAnyH_take (i:=18) (oi:=⟨some 64,_,_,_,_,_⟩) (v:=?_) rfl (by kernel_rfl) (by kernel_rfl) (by kernel_rfl) (fun _ _ _ h=>h) (Or.inl ⟨by rfl,?_⟩) (by assumption) ?_;rotate_left;(focus (intro w' hSw;(try dsimp only at hSw);go_simp;(try with_reducible rfl)));(try rotate_left);(try simp only [Act.put,List.setIfInBounds_toArray,List.set_cons_zero,List.set_cons_succ])
        refine wpAnyH_done (by kernel_rfl) ?_ _
        go_wp2
        go_ret
        exact ⟨ret_bool (chan_bad1 hlt HC.out (by simp [cellFits,okC,hok2])),hB7⟩
    · have:k=cells.length:=by omega
      subst this
      go_wp2
      go_loopw [4] (fun i wr=>∃ k:Nat,k≤words.length∧i=.int .i64 k∧Hid ((words.take k).all (fun x=>inB x 0 2)=true)∧(∀ o,wr.cell? ⟨w.heap.size,o,none⟩=#[Value.int .i64 cap,.int .i64 sent,.int .i64 got,.int .i64 fin,.slice (some ⟨b1,o1,none⟩) cells.length p,.slice b words.length q][o]?)∧w.heap.size<wr.heap.size∧Below w.heap.size w wr) (fun i _=>words.length - (intOf i).toNat)
      case atStart=>exact ⟨0,Nat.zero_le _,rfl,rfl,hbx,hlt1,hB⟩
      case round =>
        clear hbx hlt1 hB hk
        obtain ⟨k,hk,rfl,hall,hbx,hlt1,hB⟩:=hrel
        have x5:=hbx 5
        simp at x5
        by_cases hlt:k<words.length
        · obtain h0|⟨b2,o2,rfl,hb2,hc2⟩:=H2.out
          · omega
          have c0:=(hB.cell (p:=⟨b2,o2+k*1+0,none⟩) hb2).trans (hc2 k 0 hlt (by omega))
          simp only [intF,Nat.add_zero,Nat.mul_one] at c0
          clear hc2
          generalize hcg:words.getD k 0=x at c0
          have HC:=Lib.hid hcg
          clear hcg
          go_wp2_with (go_at_call 24;refine (l1In_any _ _ _ _).mono ?_;rintro _ _ ⟨rfl,rfl⟩)
          · go_ret
            exact ⟨ret_bool (chan_bad2 hlt HC.out (not_true ‹_›)),hB⟩
          · go_roundw
            case rel=>exact ⟨k+1,by omega,by go_num,words_snoc hlt HC.out hall.out (not_false ‹_›),hbx,hlt1,hB⟩
            case measure=>simp [intOf];omega
        · have:k=words.length:=by omega
          subst this
          go_wp2
          go_ret
          exact ⟨ret_bool (chan_all HH.out hfit hall.out),hB⟩
theorem sChanOk_any (c:Ch) (a b:Option Addr) (p q:Nat) (w:World) (h1:Seg w w.heap.size a c.cells.length 3 (cellF c.cells)) (h2:Seg w w.heap.size b c.words.length 1 (intF c.words)) :
    Calls Try.prog 52 #[.agg #[.int .i64 c.cap,.int .i64 c.sent,.int .i64 c.got,.int .i64 c.fin,.slice a c.cells.length p,.slice b c.words.length q]] w fun r w'=>r=.returned (.bool (chanOk c))∧Below w.heap.size w w':=by
  obtain ⟨cap,sent,got,fin,cells,words⟩:=c
  by_cases h:chanHead ⟨cap,sent,got,fin,cells,words⟩=true
  · exact sChanOk_yes cap sent got fin cells words a b p q w h1 h2 h
  · exact sChanOk_no cap sent got fin cells words a b p q w (by simpa using h)
end Go.Proofs.Ytlfcgeoifmnjnaa
set_option linter.unusedSimpArgs false
set_option linter.unusedVariables false
namespace Go.Proofs.Ytlfcgeoifmnjnaa
open Go.RowKit
attribute [local go_sem ↓] zeroHand toLHand toVHand storeHand storeHandC
set_option maxRecDepth 100000 in
set_option maxHeartbeats 1000000 in
theorem sHandOk_any (h:Ha) (w:World):Calls Try.prog 11 #[.agg (hvals h)] w fun r w'=>r=.returned (.bool (handOk h))∧Below w.heap.size w w':=by
  go_enter Try.func11,Try.ntmps11
  go_wp2_with (first|(go_at_call 24;refine (l1In_any _ _ _ _).mono ?_;rintro _ _ ⟨rfl,rfl⟩)|(go_at_call 26;refine (l1State_any _ _).mono ?_;rintro _ _ ⟨rfl,rfl⟩)|(go_at_call 28;refine (l1Elem_any _ _).mono ?_;rintro _ _ ⟨rfl,rfl⟩)|(go_at_call 27;refine (l2Count_any _ _).mono ?_;rintro _ _ ⟨rfl,rfl⟩)|(go_at_call 21;refine bHit w (by (repeat (with_reducible first|assumption|exact bR|refine bA ?_|refine bD ?_|((first|refine bS ?_ ?_|refine bBx ?_ ?_);rotate_left;focus (try simp) <;> (try omega))))) fun bb=>?_;refine (sCallOk_any _ _ _).mono ?_;rintro _ w1 ⟨rfl,hbw1⟩;have hCw1:Below w.heap.size w w1:=bT bb hbw1;have hsw1:=hbw1.size;(try simp at hsw1);have zz:=hpB hbw1 (b:=w.heap.size) (by (try simp) <;> omega);(try simp [go_sem] at zz);(try clear z_w x_w f_w l_w);have z_w:=zz;clear zz;obtain ⟨x_w,f_w,l_w⟩:=bO z_w;clear hbw1 bb)|(go_at_call 25;refine bHit w (by (repeat (with_reducible first|assumption|exact bR|refine bA ?_|refine bD ?_|((first|refine bS ?_ ?_|refine bBx ?_ ?_);rotate_left;focus (try simp) <;> (try omega))))) fun bb=>?_;refine (l4None_any _ _ _).mono ?_;rintro _ w1 ⟨rfl,hbw1⟩;have hCw1:Below w.heap.size w w1:=bT bb hbw1;have hsw1:=hbw1.size;(try simp at hsw1);have zz:=hpB hbw1 (b:=w.heap.size) (by (try simp) <;> omega);(first|simp [go_sem,z_w,l_w] at zz|simp [go_sem] at zz|skip);(try clear z_w x_w f_w l_w);have z_w:=zz;clear zz;obtain ⟨x_w,f_w,l_w⟩:=bO z_w;clear hbw1 bb))
  all_goals go_ret
  all_goals exact ⟨ret_bool (by simp_all [handOk,handA,handB,handC]),by (repeat (with_reducible first|assumption|exact bR|refine bA ?_|refine bD ?_|((first|refine bS ?_ ?_|refine bBx ?_ ?_);rotate_left;focus (try simp) <;> (try omega))))⟩
set_option maxRecDepth 100000 in
theorem sResting_any (x o:Int) (w:World):Calls Try.prog 13 #[.int .i64 x,.int .i64 o] w fun r w'=>r=.returned (.agg (hvals (resting x o)))∧Below w.heap.size w w':=by
  go_enter Try.func13,Try.ntmps13
  go_wp2
  refine bodyPost_ret (res_c Try.results13 rfl (ldHand (resting x o) (by simp [go_sem] <;> rfl))) rfl ⟨rfl,by (repeat (with_reducible first|assumption|exact bR|refine bA ?_|refine bD ?_|((first|refine bS ?_ ?_|refine bBx ?_ ?_);rotate_left;focus (try simp) <;> (try omega))))⟩
set_option maxRecDepth 100000 in
theorem l5Begin_any (k e b:Int) (w:World):Calls Try.prog 22 #[.agg #[.int .i64 k,.int .i64 e],.int .i64 b] w fun r w'=>r=.returned (.agg (hvals (begun k e b)))∧Below w.heap.size w w':=by
  by_cases h:k=2
  · subst h
    go_enter Try.func22,Try.ntmps22
    go_wp2
    refine bodyPost_ret (res_c Try.results22 rfl (ldHand (begun 2 e b) (by simp [go_sem] <;> rfl))) rfl ⟨rfl,by (repeat (with_reducible first|assumption|exact bR|refine bA ?_|refine bD ?_|((first|refine bS ?_ ?_|refine bBx ?_ ?_);rotate_left;focus (try simp) <;> (try omega))))⟩
  · have e1:begun k e b=⟨1,k,e,0,0,0,0,0,0,0,0,b,0,0⟩:=by simp [begun,h]
    rw [e1]
    have h2:(k == 2)=false:=by simpa using h
    clear h
    go_enter Try.func22,Try.ntmps22
    go_wp2
    refine bodyPost_ret (res_c Try.results22 rfl (ldHand ⟨1,k,e,0,0,0,0,0,0,0,0,b,0,0⟩ (by simp [go_sem] <;> rfl))) rfl ⟨rfl,by (repeat (with_reducible first|assumption|exact bR|refine bA ?_|refine bD ?_|((first|refine bS ?_ ?_|refine bBx ?_ ?_);rotate_left;focus (try simp) <;> (try omega))))⟩
set_option maxRecDepth 100000 in
theorem l6Anew_any (h:Ha) (w:World):Calls Try.prog 74 #[.agg (hvals h)] w fun r w'=>r=.returned (.agg (hvals (begun h.code h.elem h.beg)))∧Below w.heap.size w w':=by
  go_enter Try.func74,Try.ntmps74
  go_wp2_with fail;refine bHit w (by (repeat (with_reducible first|assumption|exact bR|refine bA ?_|refine bD ?_|((first|refine bS ?_ ?_|refine bBx ?_ ?_);rotate_left;focus (try simp) <;> (try omega))))) fun bb=>?_;refine (l5Begin_any h.code h.elem h.beg _).mono ?_;rintro _ w1 ⟨rfl,hbw1⟩;have hCw1:Below w.heap.size w w1:=bT bb hbw1;have hsw1:=hbw1.size;(try simp at hsw1);have zz:=And.intro (hpB hbw1 (b:=w.heap.size+1) (by (try simp) <;> omega)) <| hpB hbw1 (b:=w.heap.size) (by (try simp) <;> omega);(try simp [go_sem] at zz);(try clear z_wp x_wp f_wp l_wp);(try clear z_w x_w f_w l_w);obtain ⟨z_wp,z_w⟩:=zz;obtain ⟨x_wp,f_wp,l_wp⟩:=bO z_wp;obtain ⟨x_w,f_w,l_w⟩:=bO z_w;clear hbw1 bb
  go_wp2
  refine bodyPost_ret (res_c Try.results74 rfl (ldHand (begun h.code h.elem h.beg) (by simp [go_sem, *] <;> rfl))) rfl ⟨rfl,by (repeat (with_reducible first|assumption|exact bR|refine bA ?_|refine bD ?_|((first|refine bS ?_ ?_|refine bBx ?_ ?_);rotate_left;focus (try simp) <;> (try omega))))⟩
end Go.Proofs.Ytlfcgeoifmnjnaa
