/-
  The reference model's copies of lists and of a channel: the same in new memory; lists lie in memory and hold at most 2 ^ 40 elements.
  The reference model's functions of chapter 3; lists lie in memory and hold at most 2 ^ 40 elements.
  The reference model's telling of a word; lists lie in memory and hold at most 2 ^ 40 elements.
  The reference model's small functions of chapter 6, on hands and channels that are kept whole; lists lie in memory.
  What comes of a step of the reference model, on hands and channels that are kept whole; the lists are the call's own.
  The contracts of the reference model's Laid and Turned; no condition.
-/
import Derived.Test.YtmnpgkcdfielbaaGreatP01
import Derived.Test.YtmnpgkcdfielbaaGreatP02
import Derived.BigRegion
set_option linter.unusedSimpArgs false
set_option linter.unusedVariables false
namespace Go.Proofs.YtmnpgkcdfielbaaGreat
open Go.RowKit
set_option maxHeartbeats 400000 in
theorem l1Copy_any (l:List Int) (b:Option Addr) (q:Nat) (w:World) (h:Seg w w.heap.size b l.length 1 (intF l)) (hz:b=none→q=0) (hm:l.length≤1099511627776) :
    Calls Tryz.prog 104 #[.slice b l.length q] w fun r w'=>(∃ v,r=.returned v∧OInts w' w.heap.size v l)∧Below w.heap.size w w':=by
  obtain ⟨i0,hi0,hz0,hz1,hz2⟩:=info_parts infoInt
  rcases b with _|⟨bb,bo,sp⟩
  · obtain rfl:=hz rfl
    have hn:l.length=0:=by rcases h with h|⟨_,_,h,_⟩;exact h;cases h
    obtain rfl:l=[]:=List.eq_nil_of_length_eq_zero hn
    go_enter Tryz.func104,Tryz.ntmps104
    go_wp2_with (at_builtin;refine wpList_append_own_none rfl _ _ 23 rfl w.heap.size 2 i0 1 Tryz.underlying23 hi0 _ 0 [] rfl (own_made _ _ _ _ (Nat.le_refl _)) rfl ?_)
    go_ret
    exact ⟨⟨_,rfl,own_made _ _ _ _ (Nat.le_refl _)⟩,by exact zB⟩
  · have HN:Hid (∀ j u,(ints l)[j]?=some u→w.cell? ((⟨bb,bo,sp⟩:Addr).add j)=some u):=by
      rcases h with h0|⟨b',o',e,h1,h2⟩
      · obtain rfl:l=[]:=List.eq_nil_of_length_eq_zero h0
        intro j u hu;simp [ints] at hu
      · simp at e
        obtain ⟨rfl,rfl,rfl⟩:=e
        exact Seg.newsI (.inr ⟨bb,bo,rfl,h1,h2⟩)
    clear h hz
    go_enter Tryz.func104,Tryz.ntmps104
    go_wp2_with (at_builtin;refine wpList_append_own _ rfl _ _ 23 rfl w.heap.size 2 i0 _ 1 8 Tryz.underlying23 hi0 hz0 hz1 hz2 rfl (by decide) _ 0 [] rfl (own_made _ _ _ _ (Nat.le_refl _)) ⟨bb,bo,sp⟩ l.length q (ints l) rfl (by simp [ints]) ?c0 (ints_one l) ?c3 ?c4 ?c5 ?_)
    case c0=>exact fun j u hu=>cell_alloc_of (HN.out j u hu)
    case c3=>unfold maxLen;omega
    case c4=>omega
    case c5=>simp
    intro v w1 hown hg _
    go_wp2
    go_ret
    exact ⟨⟨_,rfl,by simpa using hown⟩,bOwn (by exact zB) hg (by simp) (by simp [Value.ownBlock])⟩
theorem infoCell':(Tryz.prog.info? 93).map (fun i=>(i.zero,i.size,i.bytes))=some (some (.agg #[.int .i64 0,.int .i64 0,.int .i64 0]),3,24):=by kernel_rfl
set_option maxRecDepth 100000 in
set_option maxHeartbeats 1000000 in
theorem l2Copy_any (c:Ch) (a b:Option Addr) (p q:Nat) (w:World) (h1:Seg w w.heap.size a c.cells.length 3 (cellF c.cells)) (z1:a=none→p=0) (h2:Seg w w.heap.size b c.words.length 1 (intF c.words)) (z2:b=none→q=0) (m1:c.cells.length≤1099511627776) (m2:c.words.length≤1099511627776) :
    Calls Tryz.prog 82 #[.agg #[.int .i64 c.cap,.int .i64 c.sent,.int .i64 c.got,.int .i64 c.fin,.slice a c.cells.length p,.slice b c.words.length q]] w fun r w' =>
      (∃ v1 v2,r=.returned (.agg #[.int .i64 c.cap,.int .i64 c.sent,.int .i64 c.got,.int .i64 c.fin,v1,v2])∧OCells w' w.heap.size v1 c.cells∧OInts w' w.heap.size v2 c.words)∧Below w.heap.size w w':=by
  obtain ⟨i0,hi0,hz0,hz1,hz2⟩:=info_parts infoCell'
  obtain ⟨cap,sent,got,fin,cells,words⟩:=c
  simp only at *
  have H2:=Lib.hid h2
  have Z2:=Lib.hid z2
  clear h2 z2
  rcases a with _|⟨bb,bo,sp⟩
  · obtain rfl:=z1 rfl
    have hn:cells.length=0:=by rcases h1 with h|⟨_,_,h,_⟩;exact h;cases h
    obtain rfl:cells=[]:=List.eq_nil_of_length_eq_zero hn
    clear h1 z1 hn m1
    go_enter Tryz.func82,Tryz.ntmps82
    go_wp2_with (at_builtin;refine wpList_append_own_none rfl _ _ 32 rfl (w.heap.size+1+1) 93 i0 3 Tryz.underlying32 hi0 _ 0 [] rfl (own_made_at _ _ _ _ _ (by simp) (by simp)) rfl ?_)
    refine (l1Copy_any words b q _ ((H2.out.below (by exact zB)).more (by simp;try omega)) Z2.out m2).mono ?_
    rintro _ w2 ⟨⟨v2,rfl,hown2⟩,hb2⟩
    have hown3:OCells w2 (w.heap.size+1+1) (.slice (some ⟨w.heap.size+1+1,0,none⟩) 0 0) []:=own_below (own_made_at _ _ _ _ _ (by simp) (by simp)) hb2
    have hown4:=own_lo hown2 (lo':=w.heap.size+1+1) (by simp;try omega)
    obtain ⟨vb,vd,rfl,_⟩:=OInts.seg hown2
    clear hown2
    have hs2:=hb2.size
    simp at hs2
    have hB2:Below w.heap.size w w2:=bT (by exact zB) hb2
    have:=fun o=>hb2.cell (p:=⟨w.heap.size,o,none⟩) (by simp;try omega)
    have:=fun o=>hb2.cell (p:=⟨w.heap.size+1,o,none⟩) (by simp;try omega)
    have:=fun o=>hb2.frozen (p:=⟨w.heap.size,o,none⟩) (by simp;try omega)
    have:=fun o=>hb2.frozen (p:=⟨w.heap.size+1,o,none⟩) (by simp;try omega)
    clear hb2
    have:w.heap.size<w.heap.size+1+1:=by omega
    have:w.heap.size≤w.heap.size+1:=by omega
    go_wp2_with fail
    refine bodyPost_ret (v:=.agg #[.int .i64 cap,.int .i64 sent,.int .i64 got,.int .i64 fin,.slice (some ⟨w.heap.size+1+1,0,none⟩) 0 0,.slice vb words.length vd]) (by simp [results,Tryz.results82,go_sem, *]) rfl ⟨⟨_,_,rfl,?_,?_⟩,?_⟩
    · refine own_lo (lo:=w.heap.size+1+1) ?_ (by omega)
      repeat (first|with_reducible exact hown3|((with_reducible refine own_store ?_ ?_ _);rotate_left;(focus exact own_ne hown3 (by (try simp);try omega))))
    · refine own_lo (lo:=w.heap.size+1+1) ?_ (by omega)
      repeat (first|with_reducible exact hown4|((with_reducible refine own_store ?_ ?_ _);rotate_left;(focus exact own_ne hown4 (by (try simp);try omega))))
    · exact zB
  · have HN:Hid (∀ j u,(flatC cells)[j]?=some u→w.cell? ((⟨bb,bo,sp⟩:Addr).add j)=some u):=by
      rcases h1 with h0|⟨b',o',e,h1,h2⟩
      · obtain rfl:cells=[]:=List.eq_nil_of_length_eq_zero h0
        intro j u hu;simp [flatC] at hu
      · simp at e
        obtain ⟨rfl,rfl,rfl⟩:=e
        exact Seg.newsC (.inr ⟨bb,bo,rfl,h1,h2⟩)
    clear h1 z1
    go_enter Tryz.func82,Tryz.ntmps82
    go_wp2_with (at_builtin;refine wpList_append_own _ rfl _ _ 32 rfl (w.heap.size+1+1) 93 i0 _ 3 24 Tryz.underlying32 hi0 hz0 hz1 hz2 rfl (by decide) _ 0 [] rfl (own_made_at _ _ _ _ _ (by simp) (by simp;try omega)) ⟨bb,bo,sp⟩ cells.length p (flatC cells) rfl (flatC_len cells) ?c0 (flatC_one cells) ?c3 ?c4 ?c5 ?_)
    case c0=>exact fun j u hu=>cell_alloc_of (cell_alloc_of (cell_alloc_of (HN.out j u hu)))
    case c3=>unfold maxLen;omega
    case c4=>omega
    case c5=>(simp;try omega)
    intro v w1 hown hg _
    simp [Value.ownBlock] at hg
    have hs1:=hg.size
    simp at hs1
    have:=rCell (b:=w.heap.size) hg (by simp;omega) (by omega)
    have:=rCell (b:=w.heap.size+1) hg (by simp) (by omega)
    have:=rFroz (b:=w.heap.size) hg (by simp;omega) (by omega)
    have:=rFroz (b:=w.heap.size+1) hg (by simp) (by omega)
    have:w.heap.size<w1.heap.size:=by omega
    have:w.heap.size≤w1.heap.size:=by omega
    have hB1:Below w.heap.size w w1:=bOwn (by exact zB) hg (by simp;omega) (by simp;omega)
    have hown1:OCells w1 (w.heap.size+1+1) v cells:=by simpa using hown
    clear hown
    obtain ⟨va,vc,rfl,_⟩:=OCells.seg hown1
    go_wp2_with fail
    refine (l1Copy_any words b q _ ((H2.out.below hB1).setOther (by simp [World.setCell];omega) (by simp)) Z2.out m2).mono ?_
    rintro _ w2 ⟨⟨v2,rfl,hown2⟩,hb2⟩
    have hown3:=own_below (own_store hown1 (p:=⟨w.heap.size,4,none⟩) (own_ne hown1 (by (try simp);try omega)) (.slice va cells.length vc)) hb2
    have hown4:=own_lo hown2 (lo':=w.heap.size+1+1) (by simp [World.setCell];omega)
    obtain ⟨vb,vd,rfl,_⟩:=OInts.seg hown2
    clear hown2
    have hs2:=hb2.size
    simp [World.setCell] at hs2
    have hB2:Below w.heap.size w w2:=bT (by exact zB) hb2
    have:=fun o=>hb2.cell (p:=⟨w.heap.size,o,none⟩) (by simp [World.setCell];omega)
    have:=fun o=>hb2.cell (p:=⟨w.heap.size+1,o,none⟩) (by simp [World.setCell];omega)
    have:=fun o=>hb2.frozen (p:=⟨w.heap.size,o,none⟩) (by simp [World.setCell];omega)
    have:=fun o=>hb2.frozen (p:=⟨w.heap.size+1,o,none⟩) (by simp [World.setCell];omega)
    clear hb2
    have:w.heap.size<w.heap.size+1+1:=by omega
    have:w.heap.size≤w.heap.size+1:=by omega
    go_wp2_with fail
    refine bodyPost_ret (v:=.agg #[.int .i64 cap,.int .i64 sent,.int .i64 got,.int .i64 fin,.slice va cells.length vc,.slice vb words.length vd]) (by simp [results,Tryz.results82,go_sem, *]) rfl ⟨⟨_,_,rfl,?_,?_⟩,?_⟩
    · refine own_lo (lo:=w.heap.size+1+1) ?_ (by omega)
      repeat (first|with_reducible exact hown3|((with_reducible refine own_store ?_ ?_ _);rotate_left;(focus exact own_ne hown3 (by (try simp);try omega))))
    · refine own_lo (lo:=w.heap.size+1+1) ?_ (by omega)
      repeat (first|with_reducible exact hown4|((with_reducible refine own_store ?_ ?_ _);rotate_left;(focus exact own_ne hown4 (by (try simp);try omega))))
    · exact zB
end Go.Proofs.YtmnpgkcdfielbaaGreat
set_option linter.unusedSimpArgs false
set_option linter.unusedVariables false
namespace Go.Proofs.YtmnpgkcdfielbaaGreat
open Go.RowKit
set_option maxHeartbeats 400000 in
theorem l3Has_any (c:Ch) (v:Int) (a b:Option Addr) (p q:Nat) (w:World) :
    Calls Tryz.prog 99 #[.agg #[.int .i64 c.cap,.int .i64 c.sent,.int .i64 c.got,.int .i64 c.fin,.slice a c.cells.length p,.slice b c.words.length q],.int .i64 v] w fun r w'=>r=.returned (.bool (hasW c v))∧Below w.heap.size w w':=by
  go_enter Tryz.func99,Tryz.ntmps99
  go_wp2_with (go_at_call 36;refine (l1In_any _ _ _ _).mono ?_;rintro _ _ ⟨rfl,rfl⟩)
  go_ret
  exact ⟨rfl,by exact zB⟩
theorem hasW_iff {c:Ch} {v:Int}:hasW c v=true↔1≤v∧v≤c.words.length:=by simp [hasW,inB]
theorem wordOf_no {c:Ch} {v:Int} (h:(chanOk c && hasW c v)=false):-1=wordOf c v:=by simp [wordOf,h]
theorem wordOf_yes {c:Ch} {v:Int} (h1:chanOk c=true) (h2:hasW c v=true):wordAt c v=wordOf c v:=by simp [wordOf,h1,h2]
end Go.Proofs.YtmnpgkcdfielbaaGreat
set_option linter.unusedSimpArgs false
set_option linter.unusedVariables false
namespace Go.Proofs.YtmnpgkcdfielbaaGreat
open Go.RowKit
theorem tellB_no1 {c:Ch} {v x:Int} (h:hasW c v=false):tellB c v x=false:=by simp [tellB,h]
theorem tellC_no {c:Ch} {v x:Int} (h:tellB c v x=false):tellC c v x=c:=by simp [tellC,h]
/-- A list of numbers that is not empty lies in a block of its own. -/
theorem OInts.open1 {w:World} {lo:Nat} {v:Value} {l:List Int} (h:OInts w lo v l) {i:Nat} (hi:i<l.length) :
    ∃ g cap,v=.slice (some ⟨g,0,none⟩) l.length cap∧lo≤g∧g<w.heap.size∧w.cell? ⟨g,i,none⟩=some (.int .i64 (l.getD i 0))∧∀ o,w.frozen? ⟨g,o,none⟩=false:=by
  have h2:=h
  rcases h.2 with ⟨_,h0⟩|⟨g,cap,cur,rfl,hl,hg,_⟩
  · omega
  · refine ⟨g,cap,rfl,hl,(Array.getElem?_eq_some_iff.1 hg).1,?_,fun o=>by simp [World.frozen?,hg]⟩
    have:=h2.cells (g:=g) rfl i (.int .i64 (l.getD i 0)) (by simp [ints,List.getD,hi])
    rw [← this];congr 1;by_cases e:i=0 <;> simp [Addr.add,e]
theorem OInts.set {w:World} {lo g cap:Nat} {l:List Int} (h:OInts w lo (.slice (some ⟨g,0,none⟩) l.length cap) l) {i:Nat} (hi:i<l.length) (x:Int) :
    OInts (w.setCell ⟨g,i,none⟩ (.int .i64 x)) lo (.slice (some ⟨g,0,none⟩) l.length cap) (l.set i x):=by
  have:=own_set_cell h i (by rw [ints_len];exact hi) (.int .i64 x)
  unfold OInts
  rw [ints_set,List.length_set]
  exact this
theorem own_ne' {w:World} {lo:Nat} {e:TypeId} {k n:Nat} {v:Value} {xs:List Value} (h:w.ownsRow lo e k v n xs) {b:Nat} (hb:w.heap.size≤b):v.ownBlock≠some b:=fun he=>by have:=(h.lt b he).2;omega
theorem OCells.ne {w:World} {lo lo':Nat} {v v':Value} {cs:List C3} {l:List Int} (h:OCells w lo v cs) (h':OInts w lo' v' l) (i:Nat) (hi:v.ownBlock=some i):v'.ownBlock≠some i:=by
  intro hi'
  rcases h.2 with ⟨rfl,_⟩|⟨g,cap,cur,rfl,_,hg,_⟩
  · cases hi
  rcases h'.2 with ⟨rfl,_⟩|⟨g',cap',cur',rfl,_,hg',_⟩
  · cases hi'
  simp [Value.ownBlock] at hi hi'
  subst hi hi'
  rw [hg] at hg'
  simp at hg'
theorem own_off {w:World} {lo lo':Nat} {v v':Value} {cs:List C3} {l:List Int} (h:OCells w lo v cs) (h':OInts w lo' v' l):v.ownBlock=none∨v.ownBlock≠v'.ownBlock:=by
  cases e:v.ownBlock with
  | none=>exact .inl rfl
  | some j=>exact .inr fun e2=>OCells.ne h h' j e e2.symm
set_option maxRecDepth 100000 in
set_option maxHeartbeats 1000000 in
theorem l3Told_any (c:Ch) (v x:Int) (a b:Option Addr) (p q:Nat) (w:World) (h1:Seg w w.heap.size a c.cells.length 3 (cellF c.cells)) (z1:a=none→p=0) (h2:Seg w w.heap.size b c.words.length 1 (intF c.words)) (z2:b=none→q=0) (m1:c.cells.length≤1099511627776) (m2:c.words.length≤1099511627776) :
    Calls Tryz.prog 92 #[.agg #[.int .i64 c.cap,.int .i64 c.sent,.int .i64 c.got,.int .i64 c.fin,.slice a c.cells.length p,.slice b c.words.length q],.int .i64 v,.int .i64 x] w fun r w' =>
      (∃ v1 v2,r=.returned (.tuple #[.agg #[.int .i64 c.cap,.int .i64 c.sent,.int .i64 c.got,.int .i64 c.fin,v1,v2],.bool (tellB c v x)])∧OCells w' w.heap.size v1 c.cells∧OInts w' w.heap.size v2 (tellC c v x).words)∧Below w.heap.size w w':=by
  have H1:=Lib.hid h1
  have H2:=Lib.hid h2
  have Z1:=Lib.hid z1
  have Z2:=Lib.hid z2
  clear h1 h2 z1 z2
  go_enter Tryz.func92,Tryz.ntmps92
  go_wp2_with fail;refine bHit w (by exact zB) fun bb=>?_;refine (l2Copy_any c a b p q _ ((H1.out.below bb).more bb.size) Z1.out ((H2.out.below bb).more bb.size) Z2.out m1 m2).mono ?_;rintro _ w1 ⟨⟨v1,v2,rfl,o1,o2⟩,hbw1⟩;have hCw1:Below w.heap.size w w1:=bT bb hbw1;have hsw1:=hbw1.size;(try simp at hsw1);have zz:=And.intro (fun o=>hbw1.cell (p:=⟨w.heap.size+1,o,none⟩) (by (try simp) <;> omega)) <| And.intro (fun o=>hbw1.frozen (p:=⟨w.heap.size+1,o,none⟩) (by (try simp) <;> omega)) <| And.intro (fun o=>hbw1.cell (p:=⟨w.heap.size,o,none⟩) (by (try simp) <;> omega)) <| fun o=>hbw1.frozen (p:=⟨w.heap.size,o,none⟩) (by (try simp) <;> omega);(try simp [go_sem] at zz);(try clear x_wp f_wp);(try clear x_w f_w);obtain ⟨x_wp,f_wp,x_w,f_w⟩:=zz;(try clear l_wp);have l_wp:w.heap.size+1<w1.heap.size:=(by omega);(try clear l_w);have l_w:w.heap.size<w1.heap.size:=(by omega);clear hbw1 bb
  try simp at o1 o2
  obtain ⟨a1,q1,rfl,_⟩:=o1.seg
  by_cases hh:hasW c v=true
  · obtain ⟨g1,g2⟩:=hasW_iff.1 hh
    obtain ⟨i,rfl⟩:∃ i:Nat,v=(i:Int)+1:=⟨(v - 1).toNat,by omega⟩
    have hi:i<c.words.length:=by omega
    obtain ⟨g,cap,rfl,hlo,hlt,hcell,hfr⟩:=o2.open1 hi
    obtain ⟨bb,bo,rfl,hb,hcell0⟩:∃ b' o,b=some ⟨b',o,none⟩∧b'<w.heap.size∧w.cell? ⟨b',o+i,none⟩=some (.int .i64 (c.words.getD i 0)):=by
      rcases H2.out with h0|⟨b',o',e,h1,h2⟩
      · omega
      · exact ⟨b',o',e,h1,by simpa [intF] using h2 i 0 hi (by omega)⟩
    have e:wordAt c ((i:Int)+1)=c.words.getD i 0:=by simp [wordAt]
    have HE:=Lib.hid e
    clear e
    generalize c.words.getD i 0=y at hcell hcell0 HE
    have hi0:(0:Int)≤(i:Int):=by omega
    have hi1:(i:Int)<(c.words.length:Int):=by omega
    have hcell1:=(hCw1.cell (p:=⟨bb,bo+i,none⟩) hb).trans hcell0
    go_wp2_with fail;refine bHit w (by exact zB) fun bb=>?_;refine bHit w1 (by exact zB) fun bk=>?_;refine (l3Has_any c _ a _ p q _).mono ?_;rintro _ w2 ⟨rfl,hbw2⟩;have hCw2:Below w.heap.size w w2:=bT bb hbw2;have hsw2:=hbw2.size;(try simp at hsw2);have zz:=And.intro (fun o=>hbw2.cell (p:=⟨w1.heap.size,o,none⟩) (by (try simp) <;> omega)) <| And.intro (fun o=>hbw2.frozen (p:=⟨w1.heap.size,o,none⟩) (by (try simp) <;> omega)) <| And.intro (fun o=>hbw2.cell (p:=⟨w.heap.size+1,o,none⟩) (by (try simp) <;> omega)) <| And.intro (fun o=>hbw2.frozen (p:=⟨w.heap.size+1,o,none⟩) (by (try simp) <;> omega)) <| And.intro (fun o=>hbw2.cell (p:=⟨w.heap.size,o,none⟩) (by (try simp) <;> omega)) <| fun o=>hbw2.frozen (p:=⟨w.heap.size,o,none⟩) (by (try simp) <;> omega);(first|simp [go_sem,x_wp,f_wp,x_w,f_w,l_w,l_wp] at zz|simp [go_sem,x_wp,x_w,l_w,l_wp] at zz|simp [go_sem] at zz|skip);(try clear x_w1 f_w1);(try clear x_wp f_wp);(try clear x_w f_w);obtain ⟨x_w1,f_w1,x_wp,f_wp,x_w,f_w⟩:=zz;(try clear l_w1);have l_w1:w1.heap.size<w2.heap.size:=(by omega);(try clear l_wp);have l_wp:w.heap.size+1<w2.heap.size:=(by omega);(try clear l_w);have l_w:w.heap.size<w2.heap.size:=(by omega);have hKw2:Below w1.heap.size w1 w2:=bT bk hbw2;clear hbw2 bb bk
    have p1:=own_below o1 hKw2
    have p2:=own_below o2 hKw2
    have hcell2:=(hKw2.cell (p:=⟨g,i,none⟩) hlt).trans hcell
    have hfr2:=fun o=>(hKw2.frozen (p:=⟨g,o,none⟩) hlt).trans (hfr o)
    have hcell3:=(hCw2.cell (p:=⟨bb,bo+i,none⟩) hb).trans hcell0
    have hny:w1.heap.size≠g:=by omega
    by_cases ht:tellB c ((i:Int)+1) x=true
    · have ht2:=ht
      unfold tellB at ht2
      rw [HE.out] at ht2
      simp [hh] at ht2
      obtain ⟨rfl,hin⟩:=ht2
      have HW:Hid ((tellC c ((i:Int)+1) x).words=c.words.set i x):=by unfold tellC;rw [if_pos ht];simp [Hid]
      have HT:=Lib.hid ht
      clear ht HE
      go_wp2_with (go_at_call 36;refine (l1In_any _ _ _ _).mono ?_;rintro _ _ ⟨rfl,rfl⟩)
      rw [HT.out,HW.out]
      refine bodyPost_ret (v:=.tuple #[.agg #[.int .i64 c.cap,.int .i64 c.sent,.int .i64 c.got,.int .i64 c.fin,.slice a1 c.cells.length q1,.slice (some ⟨g,0,none⟩) c.words.length cap],.bool true]) (by simp [results,Tryz.results92,go_sem, *]) rfl ⟨⟨_,_,rfl,own_lo (lo:=w.heap.size+1+1) ?_ (by omega),own_lo (lo:=w.heap.size+1+1) ?_ (by omega)⟩,by exact zB⟩
      · (repeat first|with_reducible exact p1|with_reducible refine oAl ?_ _|with_reducible refine oDr ?_|((with_reducible first|refine own_store ?_ ?_ _|refine own_box ?_ ?_);rotate_left;focus first|(refine own_ne o1 ?_;(try dsimp only);omega)|(refine own_ne' o1 ?_;(try dsimp only);omega)|exact fun h=>OCells.ne o1 o2 _ h rfl))
      · have P2:=OInts.set p2 hi x
        exact zO P2 o2
    · have e1:tellB c ((i:Int)+1) x=false:=by simpa using ht
      have HT:=Lib.hid e1
      have HW:=Lib.hid (tellC_no e1)
      unfold tellB at e1
      rw [HE.out] at e1
      simp [hh] at e1
      clear HE ht
      by_cases hy:y=0
      · subst hy
        have hin:=e1 rfl
        clear e1
        go_wp2_with (go_at_call 36;refine (l1In_any _ _ _ _).mono ?_;rintro _ _ ⟨rfl,rfl⟩)
        rw [HT.out,HW.out]
        refine bodyPost_ret (v:=.tuple #[.agg #[.int .i64 c.cap,.int .i64 c.sent,.int .i64 c.got,.int .i64 c.fin,.slice a1 c.cells.length q1,.slice (some ⟨g,0,none⟩) c.words.length cap],.bool false]) (by simp [results,Tryz.results92,go_sem, *]) rfl ⟨⟨_,_,rfl,own_lo (lo:=w.heap.size+1+1) ?_ (by omega),own_lo (lo:=w.heap.size+1+1) ?_ (by omega)⟩,by exact zB⟩
        · exact zO p1 o1
        · exact zO p2 o2
      · have hy2:(y != 0)=true:=by simpa using hy
        clear e1 hy
        go_wp2_with (go_at_call 36;refine (l1In_any _ _ _ _).mono ?_;rintro _ _ ⟨rfl,rfl⟩)
        rw [HT.out,HW.out]
        refine bodyPost_ret (v:=.tuple #[.agg #[.int .i64 c.cap,.int .i64 c.sent,.int .i64 c.got,.int .i64 c.fin,.slice a1 c.cells.length q1,.slice (some ⟨g,0,none⟩) c.words.length cap],.bool false]) (by simp [results,Tryz.results92,go_sem, *]) rfl ⟨⟨_,_,rfl,own_lo (lo:=w.heap.size+1+1) ?_ (by omega),own_lo (lo:=w.heap.size+1+1) ?_ (by omega)⟩,by exact zB⟩
        · exact zO p1 o1
        · exact zO p2 o2
  · have e1:=tellB_no1 (x:=x) (by simpa using hh)
    have HT:=Lib.hid e1
    have HW:=Lib.hid (tellC_no e1)
    clear e1
    obtain ⟨a2,q2,rfl,_⟩:=o2.seg
    go_wp2_with fail;refine bHit w (by exact zB) fun bb=>?_;refine bHit w1 (by exact zB) fun bk=>?_;refine (l3Has_any c _ a b p q _).mono ?_;rintro _ w2 ⟨rfl,hbw2⟩;have hCw2:Below w.heap.size w w2:=bT bb hbw2;have hsw2:=hbw2.size;(try simp at hsw2);have zz:=And.intro (fun o=>hbw2.cell (p:=⟨w1.heap.size,o,none⟩) (by (try simp) <;> omega)) <| And.intro (fun o=>hbw2.frozen (p:=⟨w1.heap.size,o,none⟩) (by (try simp) <;> omega)) <| And.intro (fun o=>hbw2.cell (p:=⟨w.heap.size+1,o,none⟩) (by (try simp) <;> omega)) <| And.intro (fun o=>hbw2.frozen (p:=⟨w.heap.size+1,o,none⟩) (by (try simp) <;> omega)) <| And.intro (fun o=>hbw2.cell (p:=⟨w.heap.size,o,none⟩) (by (try simp) <;> omega)) <| fun o=>hbw2.frozen (p:=⟨w.heap.size,o,none⟩) (by (try simp) <;> omega);(first|simp [go_sem,x_wp,f_wp,x_w,f_w,l_w,l_wp] at zz|simp [go_sem,x_wp,x_w,l_w,l_wp] at zz|simp [go_sem] at zz|skip);(try clear x_w1 f_w1);(try clear x_wp f_wp);(try clear x_w f_w);obtain ⟨x_w1,f_w1,x_wp,f_wp,x_w,f_w⟩:=zz;(try clear l_w1);have l_w1:w1.heap.size<w2.heap.size:=(by omega);(try clear l_wp);have l_wp:w.heap.size+1<w2.heap.size:=(by omega);(try clear l_w);have l_w:w.heap.size<w2.heap.size:=(by omega);have hKw2:Below w1.heap.size w1 w2:=bT bk hbw2;clear hbw2 bb bk
    have p1:=own_below o1 hKw2
    have p2:=own_below o2 hKw2
    go_wp2
    rw [HT.out,HW.out]
    refine bodyPost_ret (v:=.tuple #[.agg #[.int .i64 c.cap,.int .i64 c.sent,.int .i64 c.got,.int .i64 c.fin,.slice a1 c.cells.length q1,.slice a2 c.words.length q2],.bool false]) (by simp [results,Tryz.results92,go_sem, *]) rfl ⟨⟨_,_,rfl,own_lo (lo:=w.heap.size+1+1) ?_ (by omega),own_lo (lo:=w.heap.size+1+1) ?_ (by omega)⟩,by exact zB⟩
    · exact zO p1 o1
    · exact zO p2 o2
end Go.Proofs.YtmnpgkcdfielbaaGreat
set_option linter.unusedSimpArgs false
set_option linter.unusedVariables false
namespace Go.Proofs.YtmnpgkcdfielbaaGreat
open Go.RowKit
set_option linter.unusedSimpArgs false
attribute [local simp] bx_size
attribute [local go_sem ↓] zeroHand zeroChan toLHand toLChan toVHand toVChan storeHand storeChan storeHandC storeChanC /- Elder contracts, said of channels kept whole. -/
theorem wChanOk_any (c:Ch) (a b:Option Addr) (p q:Nat) (w:World) (h1:Seg w w.heap.size a c.cells.length 3 (cellF c.cells)) (h2:Seg w w.heap.size b c.words.length 1 (intF c.words)) :
    Calls Tryz.prog 31 #[.agg (cvals c (.slice a c.cells.length p) (.slice b c.words.length q))] w fun r w'=>r=.returned (.bool (chanOk c))∧Below w.heap.size w w':=sChanOk_any c a b p q w h1 h2
theorem wCopy_any (c:Ch) (a b:Option Addr) (p q:Nat) (w:World) (h1:Seg w w.heap.size a c.cells.length 3 (cellF c.cells)) (z1:a=none→p=0) (h2:Seg w w.heap.size b c.words.length 1 (intF c.words)) (z2:b=none→q=0) (m1:c.cells.length≤1099511627776) (m2:c.words.length≤1099511627776) :
    Calls Tryz.prog 82 #[.agg (cvals c (.slice a c.cells.length p) (.slice b c.words.length q))] w fun r w'=>(∃ v1 v2,r=.returned (.agg (cvals c v1 v2))∧OCells w' w.heap.size v1 c.cells∧OInts w' w.heap.size v2 c.words)∧Below w.heap.size w w':=l2Copy_any c a b p q w h1 z1 h2 z2 m1 m2
theorem wTold_any (c:Ch) (v x:Int) (a b:Option Addr) (p q:Nat) (w:World) (h1:Seg w w.heap.size a c.cells.length 3 (cellF c.cells)) (z1:a=none→p=0) (h2:Seg w w.heap.size b c.words.length 1 (intF c.words)) (z2:b=none→q=0) (m1:c.cells.length≤1099511627776) (m2:c.words.length≤1099511627776) :
    Calls Tryz.prog 92 #[.agg (cvals c (.slice a c.cells.length p) (.slice b c.words.length q)),.int .i64 v,.int .i64 x] w fun r w' =>
      (∃ v1 v2,r=.returned (.tuple #[.agg (cvals c v1 v2),.bool (tellB c v x)])∧OCells w' w.heap.size v1 c.cells∧OInts w' w.heap.size v2 (tellC c v x).words)∧Below w.heap.size w w':=l3Told_any c v x a b p q w h1 z1 h2 z2 m1 m2
set_option maxRecDepth 100000 in
set_option maxHeartbeats 1000000 in
theorem l6Ok_any (c:Ch) (h:Ha) (f t k:Int) (a b:Option Addr) (p q:Nat) (w:World) (h1:Seg w w.heap.size a c.cells.length 3 (cellF c.cells)) (h2:Seg w w.heap.size b c.words.length 1 (intF c.words)) :
    Calls Tryz.prog 80 #[.agg (cvals c (.slice a c.cells.length p) (.slice b c.words.length q)),.agg (hvals h),.int .i64 f,.int .i64 t,.int .i64 k] w fun r w'=>r=.returned (.bool (stepOk c h f t k))∧Below w.heap.size w w':=by
  have H1:=Lib.hid h1
  have H2:=Lib.hid h2
  clear h1 h2
  go_enter Tryz.func80,Tryz.ntmps80
  go_wp2_with (first|(go_at_call 31;refine bHit w (by exact zB) fun bb=>?_;refine (wChanOk_any c a b p q _ ((H1.out.below bb).more bb.size) ((H2.out.below bb).more bb.size)).mono ?_;rintro _ w1 ⟨rfl,hbw1⟩;have hCw1:Below w.heap.size w w1:=bT bb hbw1;have hsw1:=hbw1.size;(try simp at hsw1);have zz:=And.intro (hQ hbw1 (b:=w.heap.size+1)) <| hQ hbw1 (b:=w.heap.size);(try simp [go_sem] at zz);(try clear z_wp x_wp f_wp l_wp);(try clear z_w x_w f_w l_w);obtain ⟨z_wp,z_w⟩:=zz;obtain ⟨x_wp,f_wp,l_wp⟩:=bO z_wp;obtain ⟨x_w,f_w,l_w⟩:=bO z_w;clear hbw1 bb)|(go_at_call 33;refine bHit w (by exact zB) fun bb=>?_;refine (sHandOk_any _ _).mono ?_;rintro _ w2 ⟨rfl,hbw2⟩;have hCw2:Below w.heap.size w w2:=bT bb hbw2;have hsw2:=hbw2.size;(try simp at hsw2);have zz:=And.intro (hQ hbw2 (b:=w.heap.size+1)) <| hQ hbw2 (b:=w.heap.size);(first|simp [go_sem,z_wp,z_w,l_w,l_wp] at zz|simp [go_sem] at zz|skip);(try clear z_wp x_wp f_wp l_wp);(try clear z_w x_w f_w l_w);obtain ⟨z_wp,z_w⟩:=zz;obtain ⟨x_wp,f_wp,l_wp⟩:=bO z_wp;obtain ⟨x_w,f_w,l_w⟩:=bO z_w;clear hbw2 bb)|(go_at_call 36;refine (l1In_any _ _ _ _).mono ?_;rintro _ _ ⟨rfl,rfl⟩))
  all_goals go_ret
  all_goals exact ⟨ret_bool (by simp_all [stepOk]),by exact zB⟩
theorem done_yes {c:Ch} {h:Ha} (h1:chanOk c=true) (h2:handOk h=true):done c h=(c,h,true):=by simp [done,h1,h2]
theorem done_no1 {c:Ch} {h:Ha} (h1:chanOk c=false):done c h=nothing:=by simp [done,h1]
theorem done_no2 {c:Ch} {h:Ha} (h1:handOk h=false):done c h=nothing:=by simp [done,h1]
/-- The list is the old one, or has been made since. -/
def Fresh (w:World) (v v':Value):Prop:=∀ j,v'.ownBlock=some j→v.ownBlock=some j∨w.heap.size≤j
theorem fresh_refl (w:World) (v:Value):Fresh w v v:=fun _ h=>.inl h
theorem fresh_nil (w:World) (v:Value) (n c:Nat):Fresh w v (.slice none n c):=fun _ h=>by cases h
/-- It lies apart from what the caller has made. -/
theorem Fresh.off {w w0:World} {v v':Value} (h:Fresh w v v') (hv:∀ j,v.ownBlock=some j→j<w0.heap.size) {b:Nat} (h1:w0.heap.size≤b) (h2:b<w.heap.size):v'.ownBlock≠some b:=fun e=>by
  rcases h b e with h|h
  · have:=hv b h;omega
  · omega
/-- What a step answers: a channel of the call's own, a hand, and whether it was made. -/
def StepR (w w':World) (lo:Nat) (v1 v2:Value) (x:St) (r:Ending):Prop:=∃ y1 y2,r=.returned (.tuple #[.agg (cvals x.1 y1 y2),.agg (hvals x.2.1),.bool x.2.2])∧OCells w' lo y1 x.1.cells∧OInts w' lo y2 x.1.words∧Fresh w v1 y1∧Fresh w v2 y2
theorem stepR_none (w w':World) (lo:Nat) (v1 v2:Value):StepR w w' lo v1 v2 nothing (.returned (.tuple #[.agg (cvals Ch.zero (.slice none 0 0) (.slice none 0 0)),.agg (hvals Ha.zero),.bool false])):=⟨_,_,rfl,World.ownsRow_nil _ _ _ _,World.ownsRow_nil _ _ _ _,fresh_nil _ _ _ _,fresh_nil _ _ _ _⟩
set_option maxRecDepth 100000 in
theorem l6None_any (w:World) (lo:Nat) (v1 v2:Value):Calls Tryz.prog 81 #[] w fun r w'=>StepR w w' lo v1 v2 nothing r∧Below w.heap.size w w':=by
  go_enter Tryz.func81,Tryz.ntmps81
  go_wp2
  refine bodyPost_ret (res_cct Tryz.results81 rfl (ldChan Ch.zero (.slice none 0 0) (.slice none 0 0) (by simp [go_sem])) rfl (ldHand Ha.zero (by simp [go_sem]))) rfl ⟨stepR_none _ _ _ _ _,by exact zB⟩
end Go.Proofs.YtmnpgkcdfielbaaGreat
set_option linter.unusedSimpArgs false
set_option linter.unusedVariables false
namespace Go.Proofs.YtmnpgkcdfielbaaGreat
open Go.RowKit
set_option linter.unusedSimpArgs false
attribute [local simp] bx_size
attribute [local go_sem ↓] zeroHand zeroChan toLHand toLChan toVHand toVChan storeHand storeChan storeHandC storeChanC
set_option maxRecDepth 100000 in
set_option maxHeartbeats 1000000 in
theorem l6Done_any (c:Ch) (h:Ha) (v1 v2:Value) (lo:Nat) (w:World) (h1:OCells w lo v1 c.cells) (h2:OInts w lo v2 c.words) :
    Calls Tryz.prog 83 #[.agg (cvals c v1 v2),.agg (hvals h)] w fun r w'=>StepR w w' lo v1 v2 (done c h) r∧Below w.heap.size w w':=by
  have O1:=Lib.hid h1
  have O2:=Lib.hid h2
  obtain ⟨a,p,rfl,g1⟩:=h1.seg
  obtain ⟨b,q,rfl,g2⟩:=h2.seg
  have H1:=Lib.hid g1
  have H2:=Lib.hid g2
  clear h1 h2 g1 g2
  by_cases hc:chanOk c=true
  · by_cases hh:handOk h=true
    · rw [done_yes hc hh]
      go_enter Tryz.func83,Tryz.ntmps83
      go_wp2_with (first|(go_at_call 31;refine bHit w (by exact zB) fun bb=>?_;refine (wChanOk_any c a b p q _ ((H1.out.below bb).more bb.size) ((H2.out.below bb).more bb.size)).mono ?_;rintro _ w1 ⟨rfl,hbw1⟩;have hCw1:Below w.heap.size w w1:=bT bb hbw1;have hsw1:=hbw1.size;(try simp at hsw1);have zz:=q4 hbw1 (b:=w.heap.size);(try simp [go_sem] at zz);(try clear z_wppp x_wppp f_wppp l_wppp);(try clear z_wpp x_wpp f_wpp l_wpp);(try clear z_wp x_wp f_wp l_wp);(try clear z_w x_w f_w l_w);obtain ⟨z_wppp,z_wpp,z_wp,z_w⟩:=zz;obtain ⟨x_wppp,f_wppp,l_wppp⟩:=bO z_wppp;obtain ⟨x_wpp,f_wpp,l_wpp⟩:=bO z_wpp;obtain ⟨x_wp,f_wp,l_wp⟩:=bO z_wp;obtain ⟨x_w,f_w,l_w⟩:=bO z_w;have hKw1:Below w.heap.size w w1:=hCw1;clear hbw1 bb)|(go_at_call 33;refine bHit w (by exact zB) fun bb=>?_;refine (sHandOk_any _ _).mono ?_;rintro _ w2 ⟨rfl,hbw2⟩;have hCw2:Below w.heap.size w w2:=bT bb hbw2;have hsw2:=hbw2.size;(try simp at hsw2);have zz:=q4 hbw2 (b:=w.heap.size);(first|simp [go_sem,z_wppp,z_wpp,z_wp,z_w,l_w,l_wp,l_wpp,l_wppp] at zz|simp [go_sem] at zz|skip);(try clear z_wppp x_wppp f_wppp l_wppp);(try clear z_wpp x_wpp f_wpp l_wpp);(try clear z_wp x_wp f_wp l_wp);(try clear z_w x_w f_w l_w);obtain ⟨z_wppp,z_wpp,z_wp,z_w⟩:=zz;obtain ⟨x_wppp,f_wppp,l_wppp⟩:=bO z_wppp;obtain ⟨x_wpp,f_wpp,l_wpp⟩:=bO z_wpp;obtain ⟨x_wp,f_wp,l_wp⟩:=bO z_wp;obtain ⟨x_w,f_w,l_w⟩:=bO z_w;have hKw2:Below w.heap.size w w2:=hCw2;clear hbw2 bb))
      have p1:=own_below O1.out hCw2
      have p2:=own_below O2.out hCw2
      have o1:=O1.out
      have o2:=O2.out
      go_region
      go_wp2
      refine bodyPost_ret (res_cct Tryz.results83 rfl (ldChan c (.slice a c.cells.length p) (.slice b c.words.length q) (by simp [go_sem, *])) rfl (ldHand h (by simp [go_sem, *]))) rfl ⟨⟨_,_,rfl,?_,?_,fresh_refl _ _,fresh_refl _ _⟩,by exact zB⟩
      · exact zO p1 o1
      · exact zO p2 o2
    · have hh2:handOk h=false:=by simpa using hh
      rw [done_no2 hh2]
      clear hh
      go_enter Tryz.func83,Tryz.ntmps83
      go_wp2_with (first|(go_at_call 31;refine bHit w (by exact zB) fun bb=>?_;refine (wChanOk_any c a b p q _ ((H1.out.below bb).more bb.size) ((H2.out.below bb).more bb.size)).mono ?_;rintro _ w1 ⟨rfl,hbw1⟩;have hCw1:Below w.heap.size w w1:=bT bb hbw1;have hsw1:=hbw1.size;(try simp at hsw1);have zz:=q4 hbw1 (b:=w.heap.size);(try simp [go_sem] at zz);(try clear z_wppp x_wppp f_wppp l_wppp);(try clear z_wpp x_wpp f_wpp l_wpp);(try clear z_wp x_wp f_wp l_wp);(try clear z_w x_w f_w l_w);obtain ⟨z_wppp,z_wpp,z_wp,z_w⟩:=zz;obtain ⟨x_wppp,f_wppp,l_wppp⟩:=bO z_wppp;obtain ⟨x_wpp,f_wpp,l_wpp⟩:=bO z_wpp;obtain ⟨x_wp,f_wp,l_wp⟩:=bO z_wp;obtain ⟨x_w,f_w,l_w⟩:=bO z_w;have hKw1:Below w.heap.size w w1:=hCw1;clear hbw1 bb)|(go_at_call 33;refine bHit w (by exact zB) fun bb=>?_;refine (sHandOk_any _ _).mono ?_;rintro _ w2 ⟨rfl,hbw2⟩;have hCw2:Below w.heap.size w w2:=bT bb hbw2;have hsw2:=hbw2.size;(try simp at hsw2);have zz:=q4 hbw2 (b:=w.heap.size);(first|simp [go_sem,z_wppp,z_wpp,z_wp,z_w,l_w,l_wp,l_wpp,l_wppp] at zz|simp [go_sem] at zz|skip);(try clear z_wppp x_wppp f_wppp l_wppp);(try clear z_wpp x_wpp f_wpp l_wpp);(try clear z_wp x_wp f_wp l_wp);(try clear z_w x_w f_w l_w);obtain ⟨z_wppp,z_wpp,z_wp,z_w⟩:=zz;obtain ⟨x_wppp,f_wppp,l_wppp⟩:=bO z_wppp;obtain ⟨x_wpp,f_wpp,l_wpp⟩:=bO z_wpp;obtain ⟨x_wp,f_wp,l_wp⟩:=bO z_wp;obtain ⟨x_w,f_w,l_w⟩:=bO z_w;have hKw2:Below w.heap.size w w2:=hCw2;clear hbw2 bb))
      refine bodyPost_ret (res_cct Tryz.results83 rfl (ldChan Ch.zero (.slice none 0 0) (.slice none 0 0) (by simp [go_sem, *])) rfl (ldHand Ha.zero (by simp [go_sem, *]))) rfl ⟨stepR_none _ _ _ _ _,by exact zB⟩
  · have hc2:chanOk c=false:=by simpa using hc
    rw [done_no1 hc2]
    clear hc
    go_enter Tryz.func83,Tryz.ntmps83
    go_wp2_with (first|(go_at_call 31;refine bHit w (by exact zB) fun bb=>?_;refine (wChanOk_any c a b p q _ ((H1.out.below bb).more bb.size) ((H2.out.below bb).more bb.size)).mono ?_;rintro _ w1 ⟨rfl,hbw1⟩;have hCw1:Below w.heap.size w w1:=bT bb hbw1;have hsw1:=hbw1.size;(try simp at hsw1);have zz:=q4 hbw1 (b:=w.heap.size);(try simp [go_sem] at zz);(try clear z_wppp x_wppp f_wppp l_wppp);(try clear z_wpp x_wpp f_wpp l_wpp);(try clear z_wp x_wp f_wp l_wp);(try clear z_w x_w f_w l_w);obtain ⟨z_wppp,z_wpp,z_wp,z_w⟩:=zz;obtain ⟨x_wppp,f_wppp,l_wppp⟩:=bO z_wppp;obtain ⟨x_wpp,f_wpp,l_wpp⟩:=bO z_wpp;obtain ⟨x_wp,f_wp,l_wp⟩:=bO z_wp;obtain ⟨x_w,f_w,l_w⟩:=bO z_w;have hKw1:Below w.heap.size w w1:=hCw1;clear hbw1 bb)|(go_at_call 33;refine bHit w (by exact zB) fun bb=>?_;refine (sHandOk_any _ _).mono ?_;rintro _ w2 ⟨rfl,hbw2⟩;have hCw2:Below w.heap.size w w2:=bT bb hbw2;have hsw2:=hbw2.size;(try simp at hsw2);have zz:=q4 hbw2 (b:=w.heap.size);(first|simp [go_sem,z_wppp,z_wpp,z_wp,z_w,l_w,l_wp,l_wpp,l_wppp] at zz|simp [go_sem] at zz|skip);(try clear z_wppp x_wppp f_wppp l_wppp);(try clear z_wpp x_wpp f_wpp l_wpp);(try clear z_wp x_wp f_wp l_wp);(try clear z_w x_w f_w l_w);obtain ⟨z_wppp,z_wpp,z_wp,z_w⟩:=zz;obtain ⟨x_wppp,f_wppp,l_wppp⟩:=bO z_wppp;obtain ⟨x_wpp,f_wpp,l_wpp⟩:=bO z_wpp;obtain ⟨x_wp,f_wp,l_wp⟩:=bO z_wp;obtain ⟨x_w,f_w,l_w⟩:=bO z_w;have hKw2:Below w.heap.size w w2:=hCw2;clear hbw2 bb))
    refine bodyPost_ret (res_cct Tryz.results83 rfl (ldChan Ch.zero (.slice none 0 0) (.slice none 0 0) (by simp [go_sem, *])) rfl (ldHand Ha.zero (by simp [go_sem, *]))) rfl ⟨stepR_none _ _ _ _ _,by exact zB⟩
end Go.Proofs.YtmnpgkcdfielbaaGreat
set_option linter.unusedSimpArgs false
set_option linter.unusedVariables false
namespace Go.Proofs.YtmnpgkcdfielbaaGreat
open Go.RowKit
set_option maxHeartbeats 400000 in
theorem sLaid_any (s e t m:Int) (w:World):Calls Tryz.prog 85 #[.agg #[.int .i64 s,.int .i64 e,.int .i64 t],.int .i64 m] w fun r w'=>r=.returned (.agg #[.int .i64 s,.int .i64 (laidF s e t m),.int .i64 t])∧Below w.heap.size w w':=by
  go_enter Tryz.func85,Tryz.ntmps85
  go_wp2_with (first|(go_at_call 54;refine (sCellOk_any _ _ _ _).mono ?_;rintro _ w1 ⟨rfl,hbw1⟩;have hBw1:Below w.heap.size w w1:=bT (by exact zB) hbw1;have hsw1:=hbw1.size;(try (simp at hsw1));have:=fun o=>hbw1.cell (p:=⟨w.heap.size,o,none⟩) (by ((try simp);(try omega)));have:=fun o=>hbw1.frozen (p:=⟨w.heap.size,o,none⟩) (by ((try simp);(try omega)));have:=fun o=>hbw1.cell (p:=⟨w.heap.size+1,o,none⟩) (by ((try simp);(try omega)));have:=fun o=>hbw1.frozen (p:=⟨w.heap.size+1,o,none⟩) (by ((try simp);(try omega)));have:w.heap.size<w1.heap.size:=(by omega);have:w.heap.size≤w1.heap.size:=(by omega);have:w.heap.size≤w1.heap.size+1:=(by omega);have:w.heap.size+1<w1.heap.size:=(by omega);have:w.heap.size+1≤w1.heap.size:=(by omega);have:w.heap.size+1≤w1.heap.size+1:=(by omega))|(go_at_call 37;refine (l1Elem_any _ _).mono ?_;rintro _ _ ⟨rfl,rfl⟩))
  · rw [laidF_2 ‹_›];exact bodyPost_ret (v:=.agg #[.int .i64 s,.int .i64 e,.int .i64 t]) (by simp [results,Tryz.results85,go_sem, *]) rfl ⟨rfl,by exact zB⟩
  · rw [laidF_3 ‹_› ‹_›];exact bodyPost_ret (v:=.agg #[.int .i64 s,.int .i64 m,.int .i64 t]) (by simp [results,Tryz.results85,go_sem, *]) rfl ⟨rfl,by exact zB⟩
  · rw [laidF_1 ‹_›];exact bodyPost_ret (v:=.agg #[.int .i64 s,.int .i64 e,.int .i64 t]) (by simp [results,Tryz.results85,go_sem, *]) rfl ⟨rfl,by exact zB⟩
set_option maxHeartbeats 400000 in
theorem sTurned_any (s e t f n v:Int) (w:World):Calls Tryz.prog 109 #[.agg #[.int .i64 s,.int .i64 e,.int .i64 t],.int .i64 f,.int .i64 n,.int .i64 v] w fun r w'=>TurnR s e t f n v r∧Below w.heap.size w w':=by
  by_cases hsf:s=f
  · subst hsf
    go_enter Tryz.func109,Tryz.ntmps109
    go_wp2_with (go_at_call 54;refine (sCellOk_any _ _ _ _).mono ?_;rintro _ w1 ⟨rfl,hbw1⟩;have hBw1:Below w.heap.size w w1:=bT (by exact zB) hbw1;have hsw1:=hbw1.size;(try (simp at hsw1));have:=fun o=>hbw1.cell (p:=⟨w.heap.size,o,none⟩) (by ((try simp);(try omega)));have:=fun o=>hbw1.frozen (p:=⟨w.heap.size,o,none⟩) (by ((try simp);(try omega)));have:=fun o=>hbw1.cell (p:=⟨w.heap.size+1,o,none⟩) (by ((try simp);(try omega)));have:=fun o=>hbw1.frozen (p:=⟨w.heap.size+1,o,none⟩) (by ((try simp);(try omega)));have:=fun o=>hbw1.cell (p:=⟨w.heap.size+1+1,o,none⟩) (by ((try simp);(try omega)));have:=fun o=>hbw1.frozen (p:=⟨w.heap.size+1+1,o,none⟩) (by ((try simp);(try omega)));have:w.heap.size<w1.heap.size:=(by omega);have:w.heap.size≤w1.heap.size:=(by omega);have:w.heap.size≤w1.heap.size+1:=(by omega);have:w.heap.size+1<w1.heap.size:=(by omega);have:w.heap.size+1≤w1.heap.size:=(by omega);have:w.heap.size+1≤w1.heap.size+1:=(by omega);have:w.heap.size+1+1<w1.heap.size:=(by omega);have:w.heap.size+1+1≤w1.heap.size:=(by omega);have:w.heap.size+1+1≤w1.heap.size+1:=(by omega))
    all_goals first
      | (refine bodyPost_ret (v:=.tuple #[.agg #[.int .i64 n,.int .i64 e,.int .i64 v],.bool true]) (by simp [results,Tryz.results109,go_sem, *]) rfl ⟨turnR_yes (turn_4 ‹_› ‹_›),by exact zB⟩)
      | (refine bodyPost_ret (v:=.tuple #[.agg #[.int .i64 s,.int .i64 e,.int .i64 t],.bool false]) (by simp [results,Tryz.results109,go_sem, *]) rfl ⟨turnR_no (by first|exact turn_2 ‹_›|exact turn_3 ‹_›),by exact zB⟩)
  · go_enter Tryz.func109,Tryz.ntmps109
    go_wp2_with (go_at_call 54;refine (sCellOk_any _ _ _ _).mono ?_;rintro _ w1 ⟨rfl,hbw1⟩;have hBw1:Below w.heap.size w w1:=bT (by exact zB) hbw1;have hsw1:=hbw1.size;(try (simp at hsw1));have:=fun o=>hbw1.cell (p:=⟨w.heap.size,o,none⟩) (by ((try simp);(try omega)));have:=fun o=>hbw1.frozen (p:=⟨w.heap.size,o,none⟩) (by ((try simp);(try omega)));have:=fun o=>hbw1.cell (p:=⟨w.heap.size+1,o,none⟩) (by ((try simp);(try omega)));have:=fun o=>hbw1.frozen (p:=⟨w.heap.size+1,o,none⟩) (by ((try simp);(try omega)));have:=fun o=>hbw1.cell (p:=⟨w.heap.size+1+1,o,none⟩) (by ((try simp);(try omega)));have:=fun o=>hbw1.frozen (p:=⟨w.heap.size+1+1,o,none⟩) (by ((try simp);(try omega)));have:w.heap.size<w1.heap.size:=(by omega);have:w.heap.size≤w1.heap.size:=(by omega);have:w.heap.size≤w1.heap.size+1:=(by omega);have:w.heap.size+1<w1.heap.size:=(by omega);have:w.heap.size+1≤w1.heap.size:=(by omega);have:w.heap.size+1≤w1.heap.size+1:=(by omega);have:w.heap.size+1+1<w1.heap.size:=(by omega);have:w.heap.size+1+1≤w1.heap.size:=(by omega);have:w.heap.size+1+1≤w1.heap.size+1:=(by omega))
    all_goals (refine bodyPost_ret (v:=.tuple #[.agg #[.int .i64 s,.int .i64 e,.int .i64 t],.bool false]) (by simp [results,Tryz.results109,go_sem, *]) rfl ⟨turnR_no (by first|exact turn_1 ‹_›|exact turn_2 ‹_›),by exact zB⟩)
end Go.Proofs.YtmnpgkcdfielbaaGreat
