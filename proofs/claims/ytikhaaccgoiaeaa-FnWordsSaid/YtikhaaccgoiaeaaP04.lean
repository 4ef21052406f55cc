/-
  The reference model's copies of lists and of a channel: the same in new memory; lists lie in memory and hold at most 2 ^ 40 elements.
  The reference model's functions of chapter 3; lists lie in memory and hold at most 2 ^ 40 elements.
  The reference model's telling of a word; lists lie in memory and hold at most 2 ^ 40 elements.
-/
import Derived.Test.YtikhaaccgoiaeaaP01
import Derived.Test.YtikhaaccgoiaeaaP02
set_option linter.unusedSimpArgs false
set_option linter.unusedVariables false
namespace Go.Proofs.Ytikhaaccgoiaeaa
open Go.RowKit
set_option maxHeartbeats 400000 in
theorem l1Copy_any (l:List Int) (b:Option Addr) (q:Nat) (w:World) (h:Seg w w.heap.size b l.length 1 (intF l)) (hz:b=none→q=0) (hm:l.length≤1099511627776) :
    Calls Try.prog 78 #[.slice b l.length q] w fun r w'=>(∃ v,r=.returned v∧OInts w' w.heap.size v l)∧Below w.heap.size w w':=by
  obtain ⟨i0,hi0,hz0,hz1,hz2⟩:=info_parts infoInt
  rcases b with _|⟨bb,bo,sp⟩
  · obtain rfl:=hz rfl
    have hn:l.length=0:=by rcases h with h|⟨_,_,h,_⟩;exact h;cases h
    obtain rfl:l=[]:=List.eq_nil_of_length_eq_zero hn
    go_enter Try.func78,Try.ntmps78
    go_wp2_with (at_builtin;refine wpList_append_own_none rfl _ _ 25 rfl w.heap.size 2 i0 1 Try.underlying25 hi0 _ 0 [] rfl (own_made _ _ _ _ (Nat.le_refl _)) rfl ?_)
    go_ret
    exact ⟨⟨_,rfl,own_made _ _ _ _ (Nat.le_refl _)⟩,by (repeat (with_reducible first|assumption|exact bR|refine bA ?_|refine bD ?_|((first|refine bS ?_ ?_|refine bBx ?_ ?_);rotate_left;focus (try simp) <;> (try omega))))⟩
  · have HN:Hid (∀ j u,(ints l)[j]?=some u→w.cell? ((⟨bb,bo,sp⟩:Addr).add j)=some u):=by
      rcases h with h0|⟨b',o',e,h1,h2⟩
      · obtain rfl:l=[]:=List.eq_nil_of_length_eq_zero h0
        intro j u hu;simp [ints] at hu
      · simp at e
        obtain ⟨rfl,rfl,rfl⟩:=e
        exact Seg.newsI (.inr ⟨bb,bo,rfl,h1,h2⟩)
    clear h hz
    go_enter Try.func78,Try.ntmps78
    go_wp2_with (at_builtin;refine wpList_append_own _ rfl _ _ 25 rfl w.heap.size 2 i0 _ 1 8 Try.underlying25 hi0 hz0 hz1 hz2 rfl (by decide) _ 0 [] rfl (own_made _ _ _ _ (Nat.le_refl _)) ⟨bb,bo,sp⟩ l.length q (ints l) rfl (by simp [ints]) ?c0 (ints_one l) ?c3 ?c4 ?c5 ?_)
    case c0=>exact fun j u hu=>cell_alloc_of (HN.out j u hu)
    case c3=>unfold maxLen;omega
    case c4=>omega
    case c5=>simp
    intro v w1 hown hg _
    go_wp2
    go_ret
    exact ⟨⟨_,rfl,by simpa using hown⟩,bOwn (by (repeat (with_reducible first|assumption|exact bR|refine bA ?_|refine bD ?_|((first|refine bS ?_ ?_|refine bBx ?_ ?_);rotate_left;focus (try simp) <;> (try omega))))) hg (by simp) (by simp [Value.ownBlock])⟩
theorem infoCell':(Try.prog.info? 62).map (fun i=>(i.zero,i.size,i.bytes))=some (some (.agg #[.int .i64 0,.int .i64 0,.int .i64 0]),3,24):=by kernel_rfl
set_option maxRecDepth 100000 in
set_option maxHeartbeats 1000000 in
theorem l2Copy_any (c:Ch) (a b:Option Addr) (p q:Nat) (w:World) (h1:Seg w w.heap.size a c.cells.length 3 (cellF c.cells)) (z1:a=none→p=0) (h2:Seg w w.heap.size b c.words.length 1 (intF c.words)) (z2:b=none→q=0) (m1:c.cells.length≤1099511627776) (m2:c.words.length≤1099511627776) :
    Calls Try.prog 60 #[.agg #[.int .i64 c.cap,.int .i64 c.sent,.int .i64 c.got,.int .i64 c.fin,.slice a c.cells.length p,.slice b c.words.length q]] w fun r w' =>
      (∃ v1 v2,r=.returned (.agg #[.int .i64 c.cap,.int .i64 c.sent,.int .i64 c.got,.int .i64 c.fin,v1,v2])∧OCells w' w.heap.size v1 c.cells∧OInts w' w.heap.size v2 c.words)∧Below w.heap.size w w':=by
  obtain ⟨i0,hi0,hz0,hz1,hz2⟩:=info_parts infoCell'
  obtain ⟨cap,sent,got,fin,cells,words⟩:=c
  simp only at *
  have H2:=Lib.hid h2
  have Z2:=Lib.hid z2
  clear h2 z2
  rcases a with _|⟨bb,bo,sp⟩
  · obtain rfl:=z1 rfl
    have hn:cells.length=0:=by rcases h1 with h|⟨_,_,h,_⟩;exact h;cases h
    obtain rfl:cells=[]:=List.eq_nil_of_length_eq_zero hn
    clear h1 z1 hn m1
    go_enter Try.func60,Try.ntmps60
    go_wp2_with (at_builtin;refine wpList_append_own_none rfl _ _ 24 rfl (w.heap.size+1+1) 62 i0 3 Try.underlying24 hi0 _ 0 [] rfl (own_made_at _ _ _ _ _ (by simp) (by simp)) rfl ?_)
    refine (l1Copy_any words b q _ ((H2.out.below (by (repeat (with_reducible first|assumption|exact bR|refine bA ?_|refine bD ?_|((first|refine bS ?_ ?_|refine bBx ?_ ?_);rotate_left;focus (try simp) <;> (try omega)))))).more (by simp;try omega)) Z2.out m2).mono ?_
    rintro _ w2 ⟨⟨v2,rfl,hown2⟩,hb2⟩
    have hown3:OCells w2 (w.heap.size+1+1) (.slice (some ⟨w.heap.size+1+1,0,none⟩) 0 0) []:=own_below (own_made_at _ _ _ _ _ (by simp) (by simp)) hb2
    have hown4:=own_lo hown2 (lo':=w.heap.size+1+1) (by simp;try omega)
    obtain ⟨vb,vd,rfl,_⟩:=OInts.seg hown2
    clear hown2
    have hs2:=hb2.size
    simp at hs2
    have hB2:Below w.heap.size w w2:=bT (by (repeat (with_reducible first|assumption|exact bR|refine bA ?_|refine bD ?_|((first|refine bS ?_ ?_|refine bBx ?_ ?_);rotate_left;focus (try simp) <;> (try omega))))) hb2
    have:=fun o=>hb2.cell (p:=⟨w.heap.size,o,none⟩) (by simp;try omega)
    have:=fun o=>hb2.cell (p:=⟨w.heap.size+1,o,none⟩) (by simp;try omega)
    have:=fun o=>hb2.frozen (p:=⟨w.heap.size,o,none⟩) (by simp;try omega)
    have:=fun o=>hb2.frozen (p:=⟨w.heap.size+1,o,none⟩) (by simp;try omega)
    clear hb2
    have:w.heap.size<w.heap.size+1+1:=by omega
    have:w.heap.size≤w.heap.size+1:=by omega
    go_wp2_with fail
    refine bodyPost_ret (v:=.agg #[.int .i64 cap,.int .i64 sent,.int .i64 got,.int .i64 fin,.slice (some ⟨w.heap.size+1+1,0,none⟩) 0 0,.slice vb words.length vd]) (by simp [results,Try.results60,go_sem, *]) rfl ⟨⟨_,_,rfl,?_,?_⟩,?_⟩
    · refine own_lo (lo:=w.heap.size+1+1) ?_ (by omega)
      repeat (first|with_reducible exact hown3|((with_reducible refine own_store ?_ ?_ _);rotate_left;(focus exact own_ne hown3 (by (try simp);try omega))))
    · refine own_lo (lo:=w.heap.size+1+1) ?_ (by omega)
      repeat (first|with_reducible exact hown4|((with_reducible refine own_store ?_ ?_ _);rotate_left;(focus exact own_ne hown4 (by (try simp);try omega))))
    · (repeat (with_reducible first|assumption|exact bR|refine bA ?_|refine bD ?_|((first|refine bS ?_ ?_|refine bBx ?_ ?_);rotate_left;focus (try simp) <;> (try omega))))
  · have HN:Hid (∀ j u,(flatC cells)[j]?=some u→w.cell? ((⟨bb,bo,sp⟩:Addr).add j)=some u):=by
      rcases h1 with h0|⟨b',o',e,h1,h2⟩
      · obtain rfl:cells=[]:=List.eq_nil_of_length_eq_zero h0
        intro j u hu;simp [flatC] at hu
      · simp at e
        obtain ⟨rfl,rfl,rfl⟩:=e
        exact Seg.newsC (.inr ⟨bb,bo,rfl,h1,h2⟩)
    clear h1 z1
    go_enter Try.func60,Try.ntmps60
    go_wp2_with (at_builtin;refine wpList_append_own _ rfl _ _ 24 rfl (w.heap.size+1+1) 62 i0 _ 3 24 Try.underlying24 hi0 hz0 hz1 hz2 rfl (by decide) _ 0 [] rfl (own_made_at _ _ _ _ _ (by simp) (by simp;try omega)) ⟨bb,bo,sp⟩ cells.length p (flatC cells) rfl (flatC_len cells) ?c0 (flatC_one cells) ?c3 ?c4 ?c5 ?_)
    case c0=>exact fun j u hu=>cell_alloc_of (cell_alloc_of (cell_alloc_of (HN.out j u hu)))
    case c3=>unfold maxLen;omega
    case c4=>omega
    case c5=>(simp;try omega)
    intro v w1 hown hg _
    simp [Value.ownBlock] at hg
    have hs1:=hg.size
    simp at hs1
    have:=rCell (b:=w.heap.size) hg (by simp;omega) (by omega)
    have:=rCell (b:=w.heap.size+1) hg (by simp) (by omega)
    have:=rFroz (b:=w.heap.size) hg (by simp;omega) (by omega)
    have:=rFroz (b:=w.heap.size+1) hg (by simp) (by omega)
    have:w.heap.size<w1.heap.size:=by omega
    have:w.heap.size≤w1.heap.size:=by omega
    have hB1:Below w.heap.size w w1:=bOwn (by (repeat (with_reducible first|assumption|exact bR|refine bA ?_|refine bD ?_|((first|refine bS ?_ ?_|refine bBx ?_ ?_);rotate_left;focus (try simp) <;> (try omega))))) hg (by simp;omega) (by simp;omega)
    have hown1:OCells w1 (w.heap.size+1+1) v cells:=by simpa using hown
    clear hown
    obtain ⟨va,vc,rfl,_⟩:=OCells.seg hown1
    go_wp2_with fail
    refine (l1Copy_any words b q _ ((H2.out.below hB1).setOther (by simp [World.setCell];omega) (by simp)) Z2.out m2).mono ?_
    rintro _ w2 ⟨⟨v2,rfl,hown2⟩,hb2⟩
    have hown3:=own_below (own_store hown1 (p:=⟨w.heap.size,4,none⟩) (own_ne hown1 (by (try simp);try omega)) (.slice va cells.length vc)) hb2
    have hown4:=own_lo hown2 (lo':=w.heap.size+1+1) (by simp [World.setCell];omega)
    obtain ⟨vb,vd,rfl,_⟩:=OInts.seg hown2
    clear hown2
    have hs2:=hb2.size
    simp [World.setCell] at hs2
    have hB2:Below w.heap.size w w2:=bT (by (repeat (with_reducible first|assumption|exact bR|refine bA ?_|refine bD ?_|((first|refine bS ?_ ?_|refine bBx ?_ ?_);rotate_left;focus (try simp) <;> (try omega))))) hb2
    have:=fun o=>hb2.cell (p:=⟨w.heap.size,o,none⟩) (by simp [World.setCell];omega)
    have:=fun o=>hb2.cell (p:=⟨w.heap.size+1,o,none⟩) (by simp [World.setCell];omega)
    have:=fun o=>hb2.frozen (p:=⟨w.heap.size,o,none⟩) (by simp [World.setCell];omega)
    have:=fun o=>hb2.frozen (p:=⟨w.heap.size+1,o,none⟩) (by simp [World.setCell];omega)
    clear hb2
    have:w.heap.size<w.heap.size+1+1:=by omega
    have:w.heap.size≤w.heap.size+1:=by omega
    go_wp2_with fail
    refine bodyPost_ret (v:=.agg #[.int .i64 cap,.int .i64 sent,.int .i64 got,.int .i64 fin,.slice va cells.length vc,.slice vb words.length vd]) (by simp [results,Try.results60,go_sem, *]) rfl ⟨⟨_,_,rfl,?_,?_⟩,?_⟩
    · refine own_lo (lo:=w.heap.size+1+1) ?_ (by omega)
      repeat (first|with_reducible exact hown3|((with_reducible refine own_store ?_ ?_ _);rotate_left;(focus exact own_ne hown3 (by (try simp);try omega))))
    · refine own_lo (lo:=w.heap.size+1+1) ?_ (by omega)
      repeat (first|with_reducible exact hown4|((with_reducible refine own_store ?_ ?_ _);rotate_left;(focus exact own_ne hown4 (by (try simp);try omega))))
    · (repeat (with_reducible first|assumption|exact bR|refine bA ?_|refine bD ?_|((first|refine bS ?_ ?_|refine bBx ?_ ?_);rotate_left;focus (try simp) <;> (try omega))))
end Go.Proofs.Ytikhaaccgoiaeaa
set_option linter.unusedSimpArgs false
set_option linter.unusedVariables false
namespace Go.Proofs.Ytikhaaccgoiaeaa
open Go.RowKit
set_option maxHeartbeats 400000 in
theorem l3Has_any (c:Ch) (v:Int) (a b:Option Addr) (p q:Nat) (w:World) :
    Calls Try.prog 62 #[.agg #[.int .i64 c.cap,.int .i64 c.sent,.int .i64 c.got,.int .i64 c.fin,.slice a c.cells.length p,.slice b c.words.length q],.int .i64 v] w fun r w'=>r=.returned (.bool (hasW c v))∧Below w.heap.size w w':=by
  go_enter Try.func62,Try.ntmps62
  go_wp2_with (go_at_call 47;refine (l1In_any _ _ _ _).mono ?_;rintro _ _ ⟨rfl,rfl⟩)
  go_ret
  exact ⟨rfl,by (repeat (with_reducible first|assumption|exact bR|refine bA ?_|refine bD ?_|((first|refine bS ?_ ?_|refine bBx ?_ ?_);rotate_left;focus (try simp) <;> (try omega))))⟩
theorem hasW_iff {c:Ch} {v:Int}:hasW c v=true↔1≤v∧v≤c.words.length:=by simp [hasW,inB]
theorem wordOf_no {c:Ch} {v:Int} (h:(chanOk c && hasW c v)=false):-1=wordOf c v:=by simp [wordOf,h]
theorem wordOf_yes {c:Ch} {v:Int} (h1:chanOk c=true) (h2:hasW c v=true):wordAt c v=wordOf c v:=by simp [wordOf,h1,h2]
set_option maxRecDepth 100000 in
set_option maxHeartbeats 1000000 in
theorem sWordOf_any (c:Ch) (v:Int) (a b:Option Addr) (p q:Nat) (w:World) (h1:Seg w w.heap.size a c.cells.length 3 (cellF c.cells)) (h2:Seg w w.heap.size b c.words.length 1 (intF c.words)) (hm:c.words.length≤1099511627776) :
    Calls Try.prog 30 #[.agg #[.int .i64 c.cap,.int .i64 c.sent,.int .i64 c.got,.int .i64 c.fin,.slice a c.cells.length p,.slice b c.words.length q],.int .i64 v] w fun r w'=>r=.returned (.int .i64 (wordOf c v))∧Below w.heap.size w w':=by
  have H1:=Lib.hid h1
  have H2:=Lib.hid h2
  clear h1 h2
  by_cases hc:chanOk c=true
  · by_cases hh:hasW c v=true
    · obtain ⟨v1,v2⟩:=hasW_iff.1 hh
      obtain ⟨i,rfl⟩:∃ i:Nat,v=(i:Int)+1:=⟨(v - 1).toNat,by omega⟩
      have hi:i<c.words.length:=by omega
      obtain ⟨bb,bo,rfl,hb,hcell⟩:∃ b' o,b=some ⟨b',o,none⟩∧b'<w.heap.size∧w.cell? ⟨b',o+i,none⟩=some (.int .i64 (c.words.getD i 0)):=by
        rcases H2.out with h0|⟨b',o',e,h1,h2⟩
        · omega
        · exact ⟨b',o',e,h1,by simpa [intF] using h2 i 0 hi (by omega)⟩
      have HV:=Lib.hid (wordOf_yes hc hh)
      have e:wordAt c ((i:Int)+1)=c.words.getD i 0:=by simp [wordAt]
      have HE:=Lib.hid e
      clear e
      generalize c.words.getD i 0=x at hcell HE
      have hi0:(0:Int)≤(i:Int):=by omega
      have hi1:(i:Int)<(c.words.length:Int):=by omega
      go_enter Try.func30,Try.ntmps30
      go_wp2_with fail
      refine (sChanOk_any c a _ p q _ (((H1.out).below (by (repeat (with_reducible first|assumption|exact bR|refine bA ?_|refine bD ?_|((first|refine bS ?_ ?_|refine bBx ?_ ?_);rotate_left;focus (try simp) <;> (try omega)))))).more (by simp)) (((H2.out).below (by (repeat (with_reducible first|assumption|exact bR|refine bA ?_|refine bD ?_|((first|refine bS ?_ ?_|refine bBx ?_ ?_);rotate_left;focus (try simp) <;> (try omega)))))).more (by simp))).mono ?_
      rintro _ w1 ⟨rfl,hb1⟩
      have hB1:Below w.heap.size w w1:=bT (by (repeat (with_reducible first|assumption|exact bR|refine bA ?_|refine bD ?_|((first|refine bS ?_ ?_|refine bBx ?_ ?_);rotate_left;focus (try simp) <;> (try omega))))) hb1
      have hs1:=hb1.size
      simp at hs1
      have:=fun o=>hb1.cell (p:=⟨w.heap.size,o,none⟩) (by simp)
      have hcell1:=(hB1.cell (p:=⟨bb,bo+i,none⟩) hb).trans hcell
      go_wp2_with fail
      refine (l3Has_any c _ a _ p q _).mono ?_
      rintro _ w2 ⟨rfl,hb2⟩
      have hB2:Below w.heap.size w w2:=bT (by (repeat (with_reducible first|assumption|exact bR|refine bA ?_|refine bD ?_|((first|refine bS ?_ ?_|refine bBx ?_ ?_);rotate_left;focus (try simp) <;> (try omega))))) hb2
      have:=fun o=>hb2.cell (p:=⟨w.heap.size,o,none⟩) (by simp;omega)
      have hcell2:=(hB2.cell (p:=⟨bb,bo+i,none⟩) hb).trans hcell
      go_wp2
      go_ret
      exact ⟨ret_i64 (by rw [← HV.out,HE.out]),by (repeat (with_reducible first|assumption|exact bR|refine bA ?_|refine bD ?_|((first|refine bS ?_ ?_|refine bBx ?_ ?_);rotate_left;focus (try simp) <;> (try omega))))⟩
    · have HV:=Lib.hid (wordOf_no (c:=c) (v:=v) (by simp [hh]))
      go_enter Try.func30,Try.ntmps30
      go_wp2_with fail
      refine (sChanOk_any c a b p q _ (((H1.out).below (by (repeat (with_reducible first|assumption|exact bR|refine bA ?_|refine bD ?_|((first|refine bS ?_ ?_|refine bBx ?_ ?_);rotate_left;focus (try simp) <;> (try omega)))))).more (by simp)) (((H2.out).below (by (repeat (with_reducible first|assumption|exact bR|refine bA ?_|refine bD ?_|((first|refine bS ?_ ?_|refine bBx ?_ ?_);rotate_left;focus (try simp) <;> (try omega)))))).more (by simp))).mono ?_
      rintro _ w1 ⟨rfl,hb1⟩
      have hB1:Below w.heap.size w w1:=bT (by (repeat (with_reducible first|assumption|exact bR|refine bA ?_|refine bD ?_|((first|refine bS ?_ ?_|refine bBx ?_ ?_);rotate_left;focus (try simp) <;> (try omega))))) hb1
      have hs1:=hb1.size
      simp at hs1
      have:=fun o=>hb1.cell (p:=⟨w.heap.size,o,none⟩) (by simp)
      go_wp2_with fail
      refine (l3Has_any c _ a b p q _).mono ?_
      rintro _ w2 ⟨rfl,hb2⟩
      have hB2:Below w.heap.size w w2:=bT (by (repeat (with_reducible first|assumption|exact bR|refine bA ?_|refine bD ?_|((first|refine bS ?_ ?_|refine bBx ?_ ?_);rotate_left;focus (try simp) <;> (try omega))))) hb2
      go_wp2
      go_ret
      exact ⟨ret_i64 HV.out,by (repeat (with_reducible first|assumption|exact bR|refine bA ?_|refine bD ?_|((first|refine bS ?_ ?_|refine bBx ?_ ?_);rotate_left;focus (try simp) <;> (try omega))))⟩
  · have HV:=Lib.hid (wordOf_no (c:=c) (v:=v) (by simp [hc]))
    go_enter Try.func30,Try.ntmps30
    go_wp2_with fail
    refine (sChanOk_any c a b p q _ (((H1.out).below (by (repeat (with_reducible first|assumption|exact bR|refine bA ?_|refine bD ?_|((first|refine bS ?_ ?_|refine bBx ?_ ?_);rotate_left;focus (try simp) <;> (try omega)))))).more (by simp)) (((H2.out).below (by (repeat (with_reducible first|assumption|exact bR|refine bA ?_|refine bD ?_|((first|refine bS ?_ ?_|refine bBx ?_ ?_);rotate_left;focus (try simp) <;> (try omega)))))).more (by simp))).mono ?_
    rintro _ w1 ⟨rfl,hb1⟩
    have hB1:Below w.heap.size w w1:=bT (by (repeat (with_reducible first|assumption|exact bR|refine bA ?_|refine bD ?_|((first|refine bS ?_ ?_|refine bBx ?_ ?_);rotate_left;focus (try simp) <;> (try omega))))) hb1
    go_wp2
    go_ret
    exact ⟨ret_i64 HV.out,by (repeat (with_reducible first|assumption|exact bR|refine bA ?_|refine bD ?_|((first|refine bS ?_ ?_|refine bBx ?_ ?_);rotate_left;focus (try simp) <;> (try omega))))⟩
end Go.Proofs.Ytikhaaccgoiaeaa
set_option linter.unusedSimpArgs false
set_option linter.unusedVariables false
namespace Go.Proofs.Ytikhaaccgoiaeaa
open Go.RowKit
theorem tellB_no1 {c:Ch} {v x:Int} (h:hasW c v=false):tellB c v x=false:=by simp [tellB,h]
theorem tellC_no {c:Ch} {v x:Int} (h:tellB c v x=false):tellC c v x=c:=by simp [tellC,h]
/-- A list of numbers that is not empty lies in a block of its own. -/
theorem OInts.open1 {w:World} {lo:Nat} {v:Value} {l:List Int} (h:OInts w lo v l) {i:Nat} (hi:i<l.length) :
    ∃ g cap,v=.slice (some ⟨g,0,none⟩) l.length cap∧lo≤g∧g<w.heap.size∧w.cell? ⟨g,i,none⟩=some (.int .i64 (l.getD i 0))∧∀ o,w.frozen? ⟨g,o,none⟩=false:=by
  have h2:=h
  rcases h.2 with ⟨_,h0⟩|⟨g,cap,cur,rfl,hl,hg,_⟩
  · omega
  · refine ⟨g,cap,rfl,hl,(Array.getElem?_eq_some_iff.1 hg).1,?_,fun o=>by simp [World.frozen?,hg]⟩
    have:=h2.cells (g:=g) rfl i (.int .i64 (l.getD i 0)) (by simp [ints,List.getD,hi])
    rw [← this];congr 1;by_cases e:i=0 <;> simp [Addr.add,e]
theorem OInts.set {w:World} {lo g cap:Nat} {l:List Int} (h:OInts w lo (.slice (some ⟨g,0,none⟩) l.length cap) l) {i:Nat} (hi:i<l.length) (x:Int) :
    OInts (w.setCell ⟨g,i,none⟩ (.int .i64 x)) lo (.slice (some ⟨g,0,none⟩) l.length cap) (l.set i x):=by
  have:=own_set_cell h i (by rw [ints_len];exact hi) (.int .i64 x)
  unfold OInts
  rw [ints_set,List.length_set]
  exact this
theorem own_ne' {w:World} {lo:Nat} {e:TypeId} {k n:Nat} {v:Value} {xs:List Value} (h:w.ownsRow lo e k v n xs) {b:Nat} (hb:w.heap.size≤b):v.ownBlock≠some b:=fun he=>by have:=(h.lt b he).2;omega
theorem OCells.ne {w:World} {lo lo':Nat} {v v':Value} {cs:List C3} {l:List Int} (h:OCells w lo v cs) (h':OInts w lo' v' l) (i:Nat) (hi:v.ownBlock=some i):v'.ownBlock≠some i:=by
  intro hi'
  rcases h.2 with ⟨rfl,_⟩|⟨g,cap,cur,rfl,_,hg,_⟩
  · cases hi
  rcases h'.2 with ⟨rfl,_⟩|⟨g',cap',cur',rfl,_,hg',_⟩
  · cases hi'
  simp [Value.ownBlock] at hi hi'
  subst hi hi'
  rw [hg] at hg'
  simp at hg'
theorem own_off {w:World} {lo lo':Nat} {v v':Value} {cs:List C3} {l:List Int} (h:OCells w lo v cs) (h':OInts w lo' v' l):v.ownBlock=none∨v.ownBlock≠v'.ownBlock:=by
  cases e:v.ownBlock with
  | none=>exact .inl rfl
  | some j=>exact .inr fun e2=>OCells.ne h h' j e e2.symm
set_option maxRecDepth 100000 in
set_option maxHeartbeats 1000000 in
theorem l3Told_any (c:Ch) (v x:Int) (a b:Option Addr) (p q:Nat) (w:World) (h1:Seg w w.heap.size a c.cells.length 3 (cellF c.cells)) (z1:a=none→p=0) (h2:Seg w w.heap.size b c.words.length 1 (intF c.words)) (z2:b=none→q=0) (m1:c.cells.length≤1099511627776) (m2:c.words.length≤1099511627776) :
    Calls Try.prog 57 #[.agg #[.int .i64 c.cap,.int .i64 c.sent,.int .i64 c.got,.int .i64 c.fin,.slice a c.cells.length p,.slice b c.words.length q],.int .i64 v,.int .i64 x] w fun r w' =>
      (∃ v1 v2,r=.returned (.tuple #[.agg #[.int .i64 c.cap,.int .i64 c.sent,.int .i64 c.got,.int .i64 c.fin,v1,v2],.bool (tellB c v x)])∧OCells w' w.heap.size v1 c.cells∧OInts w' w.heap.size v2 (tellC c v x).words)∧Below w.heap.size w w':=by
  have H1:=Lib.hid h1
  have H2:=Lib.hid h2
  have Z1:=Lib.hid z1
  have Z2:=Lib.hid z2
  clear h1 h2 z1 z2
  go_enter Try.func57,Try.ntmps57
  go_wp2_with fail;refine bHit w (by (repeat (with_reducible first|assumption|exact bR|refine bA ?_|refine bD ?_|((first|refine bS ?_ ?_|refine bBx ?_ ?_);rotate_left;focus (try simp) <;> (try omega))))) fun bb=>?_;refine (l2Copy_any c a b p q _ ((H1.out.below bb).more bb.size) Z1.out ((H2.out.below bb).more bb.size) Z2.out m1 m2).mono ?_;rintro _ w1 ⟨⟨v1,v2,rfl,o1,o2⟩,hbw1⟩;have hCw1:Below w.heap.size w w1:=bT bb hbw1;have hsw1:=hbw1.size;(try simp at hsw1);have zz:=And.intro (fun o=>hbw1.cell (p:=⟨w.heap.size+1,o,none⟩) (by (try simp) <;> omega)) <| And.intro (fun o=>hbw1.frozen (p:=⟨w.heap.size+1,o,none⟩) (by (try simp) <;> omega)) <| And.intro (fun o=>hbw1.cell (p:=⟨w.heap.size,o,none⟩) (by (try simp) <;> omega)) <| fun o=>hbw1.frozen (p:=⟨w.heap.size,o,none⟩) (by (try simp) <;> omega);(try simp [go_sem] at zz);(try clear x_wp f_wp);(try clear x_w f_w);obtain ⟨x_wp,f_wp,x_w,f_w⟩:=zz;(try clear l_wp);have l_wp:w.heap.size+1<w1.heap.size:=(by omega);(try clear l_w);have l_w:w.heap.size<w1.heap.size:=(by omega);clear hbw1 bb
  try simp at o1 o2
  obtain ⟨a1,q1,rfl,_⟩:=o1.seg
  by_cases hh:hasW c v=true
  · obtain ⟨g1,g2⟩:=hasW_iff.1 hh
    obtain ⟨i,rfl⟩:∃ i:Nat,v=(i:Int)+1:=⟨(v - 1).toNat,by omega⟩
    have hi:i<c.words.length:=by omega
    obtain ⟨g,cap,rfl,hlo,hlt,hcell,hfr⟩:=o2.open1 hi
    obtain ⟨bb,bo,rfl,hb,hcell0⟩:∃ b' o,b=some ⟨b',o,none⟩∧b'<w.heap.size∧w.cell? ⟨b',o+i,none⟩=some (.int .i64 (c.words.getD i 0)):=by
      rcases H2.out with h0|⟨b',o',e,h1,h2⟩
      · omega
      · exact ⟨b',o',e,h1,by simpa [intF] using h2 i 0 hi (by omega)⟩
    have e:wordAt c ((i:Int)+1)=c.words.getD i 0:=by simp [wordAt]
    have HE:=Lib.hid e
    clear e
    generalize c.words.getD i 0=y at hcell hcell0 HE
    have hi0:(0:Int)≤(i:Int):=by omega
    have hi1:(i:Int)<(c.words.length:Int):=by omega
    have hcell1:=(hCw1.cell (p:=⟨bb,bo+i,none⟩) hb).trans hcell0
    go_wp2_with fail;refine bHit w (by (repeat (with_reducible first|assumption|exact bR|refine bA ?_|refine bD ?_|((first|refine bS ?_ ?_|refine bBx ?_ ?_);rotate_left;focus (try simp) <;> (try omega))))) fun bb=>?_;refine bHit w1 (by (repeat (with_reducible first|assumption|exact bR|refine bA ?_|refine bD ?_|((first|refine bS ?_ ?_|refine bBx ?_ ?_);rotate_left;focus (try simp) <;> (try omega))))) fun bk=>?_;refine (l3Has_any c _ a _ p q _).mono ?_;rintro _ w2 ⟨rfl,hbw2⟩;have hCw2:Below w.heap.size w w2:=bT bb hbw2;have hsw2:=hbw2.size;(try simp at hsw2);have zz:=And.intro (fun o=>hbw2.cell (p:=⟨w1.heap.size,o,none⟩) (by (try simp) <;> omega)) <| And.intro (fun o=>hbw2.frozen (p:=⟨w1.heap.size,o,none⟩) (by (try simp) <;> omega)) <| And.intro (fun o=>hbw2.cell (p:=⟨w.heap.size+1,o,none⟩) (by (try simp) <;> omega)) <| And.intro (fun o=>hbw2.frozen (p:=⟨w.heap.size+1,o,none⟩) (by (try simp) <;> omega)) <| And.intro (fun o=>hbw2.cell (p:=⟨w.heap.size,o,none⟩) (by (try simp) <;> omega)) <| fun o=>hbw2.frozen (p:=⟨w.heap.size,o,none⟩) (by (try simp) <;> omega);(first|simp [go_sem,x_wp,f_wp,x_w,f_w,l_w,l_wp] at zz|simp [go_sem,x_wp,x_w,l_w,l_wp] at zz|simp [go_sem] at zz|skip);(try clear x_w1 f_w1);(try clear x_wp f_wp);(try clear x_w f_w);obtain ⟨x_w1,f_w1,x_wp,f_wp,x_w,f_w⟩:=zz;(try clear l_w1);have l_w1:w1.heap.size<w2.heap.size:=(by omega);(try clear l_wp);have l_wp:w.heap.size+1<w2.heap.size:=(by omega);(try clear l_w);have l_w:w.heap.size<w2.heap.size:=(by omega);have hKw2:Below w1.heap.size w1 w2:=bT bk hbw2;clear hbw2 bb bk
    have p1:=own_below o1 hKw2
    have p2:=own_below o2 hKw2
    have hcell2:=(hKw2.cell (p:=⟨g,i,none⟩) hlt).trans hcell
    have hfr2:=fun o=>(hKw2.frozen (p:=⟨g,o,none⟩) hlt).trans (hfr o)
    have hcell3:=(hCw2.cell (p:=⟨bb,bo+i,none⟩) hb).trans hcell0
    have hny:w1.heap.size≠g:=by omega
    by_cases ht:tellB c ((i:Int)+1) x=true
    · have ht2:=ht
      unfold tellB at ht2
      rw [HE.out] at ht2
      simp [hh] at ht2
      obtain ⟨rfl,hin⟩:=ht2
      have HW:Hid ((tellC c ((i:Int)+1) x).words=c.words.set i x):=by unfold tellC;rw [if_pos ht];simp [Hid]
      have HT:=Lib.hid ht
      clear ht HE
      go_wp2_with (go_at_call 47;refine (l1In_any _ _ _ _).mono ?_;rintro _ _ ⟨rfl,rfl⟩)
      rw [HT.out,HW.out]
      refine bodyPost_ret (v:=.tuple #[.agg #[.int .i64 c.cap,.int .i64 c.sent,.int .i64 c.got,.int .i64 c.fin,.slice a1 c.cells.length q1,.slice (some ⟨g,0,none⟩) c.words.length cap],.bool true]) (by simp [results,Try.results57,go_sem, *]) rfl ⟨⟨_,_,rfl,own_lo (lo:=w.heap.size+1+1) ?_ (by omega),own_lo (lo:=w.heap.size+1+1) ?_ (by omega)⟩,by (repeat (with_reducible first|assumption|exact bR|refine bA ?_|refine bD ?_|((first|refine bS ?_ ?_|refine bBx ?_ ?_);rotate_left;focus (try simp) <;> (try omega))))⟩
      · (repeat first|with_reducible exact p1|with_reducible refine oAl ?_ _|with_reducible refine oDr ?_|((with_reducible first|refine own_store ?_ ?_ _|refine own_box ?_ ?_);rotate_left;focus first|(refine own_ne o1 ?_;(try dsimp only);omega)|(refine own_ne' o1 ?_;(try dsimp only);omega)|exact fun h=>OCells.ne o1 o2 _ h rfl))
      · have P2:=OInts.set p2 hi x
        (repeat first|with_reducible exact P2|with_reducible refine oAl ?_ _|with_reducible refine oDr ?_|((with_reducible first|refine own_store ?_ ?_ _|refine own_box ?_ ?_);rotate_left;focus first|(refine own_ne o2 ?_;(try dsimp only);omega)|(refine own_ne' o2 ?_;(try dsimp only);omega)))
    · have e1:tellB c ((i:Int)+1) x=false:=by simpa using ht
      have HT:=Lib.hid e1
      have HW:=Lib.hid (tellC_no e1)
      unfold tellB at e1
      rw [HE.out] at e1
      simp [hh] at e1
      clear HE ht
      by_cases hy:y=0
      · subst hy
        have hin:=e1 rfl
        clear e1
        go_wp2_with (go_at_call 47;refine (l1In_any _ _ _ _).mono ?_;rintro _ _ ⟨rfl,rfl⟩)
        rw [HT.out,HW.out]
        refine bodyPost_ret (v:=.tuple #[.agg #[.int .i64 c.cap,.int .i64 c.sent,.int .i64 c.got,.int .i64 c.fin,.slice a1 c.cells.length q1,.slice (some ⟨g,0,none⟩) c.words.length cap],.bool false]) (by simp [results,Try.results57,go_sem, *]) rfl ⟨⟨_,_,rfl,own_lo (lo:=w.heap.size+1+1) ?_ (by omega),own_lo (lo:=w.heap.size+1+1) ?_ (by omega)⟩,by (repeat (with_reducible first|assumption|exact bR|refine bA ?_|refine bD ?_|((first|refine bS ?_ ?_|refine bBx ?_ ?_);rotate_left;focus (try simp) <;> (try omega))))⟩
        · (repeat first|with_reducible exact p1|with_reducible refine oAl ?_ _|with_reducible refine oDr ?_|((with_reducible first|refine own_store ?_ ?_ _|refine own_box ?_ ?_);rotate_left;focus first|(refine own_ne o1 ?_;(try dsimp only);omega)|(refine own_ne' o1 ?_;(try dsimp only);omega)))
        · (repeat first|with_reducible exact p2|with_reducible refine oAl ?_ _|with_reducible refine oDr ?_|((with_reducible first|refine own_store ?_ ?_ _|refine own_box ?_ ?_);rotate_left;focus first|(refine own_ne o2 ?_;(try dsimp only);omega)|(refine own_ne' o2 ?_;(try dsimp only);omega)))
      · have hy2:(y != 0)=true:=by simpa using hy
        clear e1 hy
        go_wp2_with (go_at_call 47;refine (l1In_any _ _ _ _).mono ?_;rintro _ _ ⟨rfl,rfl⟩)
        rw [HT.out,HW.out]
        refine bodyPost_ret (v:=.tuple #[.agg #[.int .i64 c.cap,.int .i64 c.sent,.int .i64 c.got,.int .i64 c.fin,.slice a1 c.cells.length q1,.slice (some ⟨g,0,none⟩) c.words.length cap],.bool false]) (by simp [results,Try.results57,go_sem, *]) rfl ⟨⟨_,_,rfl,own_lo (lo:=w.heap.size+1+1) ?_ (by omega),own_lo (lo:=w.heap.size+1+1) ?_ (by omega)⟩,by (repeat (with_reducible first|assumption|exact bR|refine bA ?_|refine bD ?_|((first|refine bS ?_ ?_|refine bBx ?_ ?_);rotate_left;focus (try simp) <;> (try omega))))⟩
        · (repeat first|with_reducible exact p1|with_reducible refine oAl ?_ _|with_reducible refine oDr ?_|((with_reducible first|refine own_store ?_ ?_ _|refine own_box ?_ ?_);rotate_left;focus first|(refine own_ne o1 ?_;(try dsimp only);omega)|(refine own_ne' o1 ?_;(try dsimp only);omega)))
        · (repeat first|with_reducible exact p2|with_reducible refine oAl ?_ _|with_reducible refine oDr ?_|((with_reducible first|refine own_store ?_ ?_ _|refine own_box ?_ ?_);rotate_left;focus first|(refine own_ne o2 ?_;(try dsimp only);omega)|(refine own_ne' o2 ?_;(try dsimp only);omega)))
  · have e1:=tellB_no1 (x:=x) (by simpa using hh)
    have HT:=Lib.hid e1
    have HW:=Lib.hid (tellC_no e1)
    clear e1
    obtain ⟨a2,q2,rfl,_⟩:=o2.seg
    go_wp2_with fail;refine bHit w (by (repeat (with_reducible first|assumption|exact bR|refine bA ?_|refine bD ?_|((first|refine bS ?_ ?_|refine bBx ?_ ?_);rotate_left;focus (try simp) <;> (try omega))))) fun bb=>?_;refine bHit w1 (by (repeat (with_reducible first|assumption|exact bR|refine bA ?_|refine bD ?_|((first|refine bS ?_ ?_|refine bBx ?_ ?_);rotate_left;focus (try simp) <;> (try omega))))) fun bk=>?_;refine (l3Has_any c _ a b p q _).mono ?_;rintro _ w2 ⟨rfl,hbw2⟩;have hCw2:Below w.heap.size w w2:=bT bb hbw2;have hsw2:=hbw2.size;(try simp at hsw2);have zz:=And.intro (fun o=>hbw2.cell (p:=⟨w1.heap.size,o,none⟩) (by (try simp) <;> omega)) <| And.intro (fun o=>hbw2.frozen (p:=⟨w1.heap.size,o,none⟩) (by (try simp) <;> omega)) <| And.intro (fun o=>hbw2.cell (p:=⟨w.heap.size+1,o,none⟩) (by (try simp) <;> omega)) <| And.intro (fun o=>hbw2.frozen (p:=⟨w.heap.size+1,o,none⟩) (by (try simp) <;> omega)) <| And.intro (fun o=>hbw2.cell (p:=⟨w.heap.size,o,none⟩) (by (try simp) <;> omega)) <| fun o=>hbw2.frozen (p:=⟨w.heap.size,o,none⟩) (by (try simp) <;> omega);(first|simp [go_sem,x_wp,f_wp,x_w,f_w,l_w,l_wp] at zz|simp [go_sem,x_wp,x_w,l_w,l_wp] at zz|simp [go_sem] at zz|skip);(try clear x_w1 f_w1);(try clear x_wp f_wp);(try clear x_w f_w);obtain ⟨x_w1,f_w1,x_wp,f_wp,x_w,f_w⟩:=zz;(try clear l_w1);have l_w1:w1.heap.size<w2.heap.size:=(by omega);(try clear l_wp);have l_wp:w.heap.size+1<w2.heap.size:=(by omega);(try clear l_w);have l_w:w.heap.size<w2.heap.size:=(by omega);have hKw2:Below w1.heap.size w1 w2:=bT bk hbw2;clear hbw2 bb bk
    have p1:=own_below o1 hKw2
    have p2:=own_below o2 hKw2
    go_wp2
    rw [HT.out,HW.out]
    refine bodyPost_ret (v:=.tuple #[.agg #[.int .i64 c.cap,.int .i64 c.sent,.int .i64 c.got,.int .i64 c.fin,.slice a1 c.cells.length q1,.slice a2 c.words.length q2],.bool false]) (by simp [results,Try.results57,go_sem, *]) rfl ⟨⟨_,_,rfl,own_lo (lo:=w.heap.size+1+1) ?_ (by omega),own_lo (lo:=w.heap.size+1+1) ?_ (by omega)⟩,by (repeat (with_reducible first|assumption|exact bR|refine bA ?_|refine bD ?_|((first|refine bS ?_ ?_|refine bBx ?_ ?_);rotate_left;focus (try simp) <;> (try omega))))⟩
    · (repeat first|with_reducible exact p1|with_reducible refine oAl ?_ _|with_reducible refine oDr ?_|((with_reducible first|refine own_store ?_ ?_ _|refine own_box ?_ ?_);rotate_left;focus first|(refine own_ne o1 ?_;(try dsimp only);omega)|(refine own_ne' o1 ?_;(try dsimp only);omega)))
    · (repeat first|with_reducible exact p2|with_reducible refine oAl ?_ _|with_reducible refine oDr ?_|((with_reducible first|refine own_store ?_ ?_ _|refine own_box ?_ ?_);rotate_left;focus first|(refine own_ne o2 ?_;(try dsimp only);omega)|(refine own_ne' o2 ?_;(try dsimp only);omega)))
end Go.Proofs.Ytikhaaccgoiaeaa
